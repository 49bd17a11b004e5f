import PyProof.Rows.All
import Wide.All
import OpenK.AllK
import Wide.FinOn
import Lean
import PyProof.EqAt
import PyProof.EqKinds
import PyProof.TupleCall
import PySem.Challenge.RW_balancehall_k83_whole_rows_of_changes
set_option Elab.async false
set_option linter.all false
set_option maxRecDepth 100000
namespace Tq
open PySem PySem.W
def pkO : Obj → Option Obj
  | ⟨_, _, .freed, _⟩ => none
  | o => some o
def pk : List Obj → Nat → List Nat → List (Option Obj)
  | [], _, _ => []
  | o :: os, i, as => match as with
    | [] => []
    | a :: r => match Nat.beq a i with
      | true => pkO o :: pk os (i + 1) r
      | false => pk os (i + 1) as
theorem pk_ok : ∀ (l : List Obj) (i : Nat) (as : List Nat), (pk l i as).length = as.length → ∀ p ∈ as.zip (pk l i as), i ≤ p.1 ∧ (l[p.1 - i]?).bind pkO = p.2
  | [], _, as, h, p, m => by
    cases as with
    | nil => cases m
    | cons a r => cases h
  | o :: os, i, [], _, p, m => by cases m
  | o :: os, i, a :: r, h, p, m => by
    have step : ∀ {q : Nat × Option Obj}, i + 1 ≤ q.1 ∧ (os[q.1 - (i + 1)]?).bind pkO = q.2 → i ≤ q.1 ∧ ((o :: os)[q.1 - i]?).bind pkO = q.2 := by
      intro q z
      have e : q.1 - i = q.1 - (i + 1) + 1 := by omega
      rw [e, List.getElem?_cons_succ]
      exact ⟨by omega, z.2⟩
    unfold pk at h m
    cases c : Nat.beq a i with
    | true =>
      have e := Nat.eq_of_beq_eq_true c
      subst e
      simp only [c] at h m
      rw [List.zip_cons_cons] at m
      cases m with
      | head => exact ⟨Nat.le_refl _, by simp⟩
      | tail _ m => exact step (pk_ok os (a + 1) r (by simpa using h) p m)
    | false =>
      simp only [c] at h m
      exact step (pk_ok os (i + 1) (a :: r) h p m)
theorem get_pk (h : Heap) (a : Addr) : h.get? a = (h.objs.toList[a]?).bind pkO := by
  unfold Heap.get?
  rw [Array.getElem?_toList]
  rcases h.objs[a]? with _ | ⟨_, _, d, _⟩
  · rfl
  · cases d <;> rfl
theorem map_pk {h : Heap} : ∀ {as : List Nat} {vs : List (Option Obj)}, vs.length = as.length → (∀ p ∈ as.zip vs, h.get? p.1 = p.2) → as.map h.get? = vs
  | [], [], _, _ => rfl
  | [], _ :: _, e, _ => by cases e
  | _ :: _, [], e, _ => by cases e
  | a :: as, v :: vs, e, z => by
    rw [List.map_cons, z (a, v) (.head _), map_pk (by simpa using e) fun p m => z p (.tail _ m)]
def hkP (K : Params → Frag) (as : List Addr) (e : ∀ P, as = (K P).map (·.1)) : Hook :=
  ⟨List (Option Obj), fun s => pk s.heap.objs.toList 0 as, fun w => (K w.params).map fun p => some p.2, InK K, fun w s x => InK.of e w s (by
    have n : (pk s.heap.objs.toList 0 as).length = as.length := by rw [x, e w.params, List.length_map, List.length_map]
    rw [← x]
    exact map_pk n fun p m => by rw [get_pk]; have z := pk_ok _ 0 as n p m; simpa using z.2), InK.keeps⟩
end Tq
open PySem PySem.W in
local macro_rules | `(tactic| o_head ($_ $K $a $e)) => `(tactic| o_head (Tq.hkP $K $a $e : PySem.W.Hook))
open Lean in
local macro_rules
|`(command|#check [$xs,*])=>do return mkNullNode (← xs.getElems.flatMapM fun x=>x.raw[1].getArgs.mapM fun y=>`(command|def $(mkIdent ((`PySem.W.Fast).str ("tw"++toString ((`PySem.Challenge.hd).str (x.raw[0].getId.toString++toString (y.isNatLit?.getD 0))).hash))):ident:True:=⟨⟩))
#check [env_ 41,heap_ 39 46 993,o_ 45 46 49 53 55 56 57 59 60 63 64 66 67 68 71 73 75 76 79 80 83 85 86 87 88 89 90 93 95 97 98 101 102 105 107 108 109 110 111 112 115 117 119 120 123 124 127 129 130 131 132 133 134 137 139 141 142 145 146 149 151 152 153 154 155 156 159 161 163 164 167 168 171 173 174 175 176 177 178 181 183 185 186 189 190 193 195 196 197 198 199 200 205 207 208 209 212 214 215 216 217 221 223 224 225 228 230 231 232 235 236 237 240 242 243 244 247 249 250 251 253 254 257 258 261 263 264 265 267 268 269 270 273 275 277 278 281 282 286 288 289 290 293 295 296 297 300 302 303 304 305 306 307 310 312 314 315 318 319 323 325 326 327 330 332 333 334 337 339 340 341 342 343 344 347 349 351 352 355 356 360 362 363 364 367 369 370 371 374 376 377 378 379 380 381 386 388 389 390 391 395 397 398 399 401 402 405 406 410 412 413 414 417 418 419 422 424 425 426 429 431 432 433 434 435 436 437 438 441 444 445 448 449 452 454 455 456 459 461 462 463 466 468 469 470 473 475 476 477 480 482 483 484 487 489 490 491 494 496 497 498 501 503 504 505 508 510 511 512 515 517 518 519 522 524 525 526 529 531 532 533 536 538 539 540 543 545 546 547 548 549 550 551 552 557 558 561 562 565 567 568 569 572 574 575 576 579 581 582 583 586 588 589 590 593 595 596 597 600 602 603 604 607 609 610 611 614 616 617 618 621 623 624 625 628 630 631 632 635 637 638 639 643 647 649 650 651 654 656 657 658 661 662 663 666 668 669 670 673 675 676 677 680 682 683 684 685 688 689 692 693 696 698 699 700 703 705 706 707 710 712 713 714 717 719 720 721 724 725 726 727 728 729 730 731 734 736 738 739 742 743 746 748 749 750 753 755 756 757 760 762 763 764 767 769 770 771 773 774 779 781 782 783 784 788 789 790 793 795 796 797 800 802 803 804 807 808 809 812 814 815 816 819 821 822 823 824 827 828 831 832 836 838 839 840 843 845 846 847 850 852 853 854 858 860 861 862 865 866 867 870 872 873 874 877 878 879 882 883 884 887 888 889 890 891 892 893 894 897 901 903 904 905 908 910 911 912 915 917 918 919 922 924 925 926 929 931 932 933 936 938 939 940 943 944 945 948 950 951 952 955 957 958 959 962 964 965 966 969 971 972 973 974 978 979 980 983 984 985 988 990 991 992,sts_ 49 71 93 115 137 159 181 217 273 310 347 391 441 643 685 734 784 824 897 974,tree_ 47 70 92 114 136 158 180 216 272 309 346 390 440 554 639 684 733 783 823 896 973 992,view_ 39]
def PySem.W.Fast.tw677787498864318562:True:=⟨⟩
def PySem.W.Fast.tw15593587791551821922:True:=⟨⟩
open PySem PySem.W PyProof.Rows in
set_option maxHeartbeats 0 in
open_top PySem.Challenge.hd for PySem.Challenge.rw_balancehall_k83_whole_rows_of_changes
local macro_rules|`(tactic|omega)=>`(tactic|lia)
set_option maxHeartbeats 4000000
set_option Elab.async false
set_option compiler.extract_closed false in
set_option hygiene false in
local macro_rules|`(0e0)=>`(λf bg A outer s H vs Q E hr h=>?_)|`(0e1)=>`(by omega)|`(0e2)=>`(by decide)|`(0e3)=>`(Or.inl rfl)|`(0e4)=>`(by decide+kernel)|`(0e5)=>`(Inv X pins σ H s)|`(0e6)=>`(λvs H Q E h=>?_)|`(0e7)=>`(by intro z;cases z)|`(0e8)=>`(model X.prog X.w)|`(0e9)=>`(by simp only [az,aL,pH,pJ,pI,pK];omega)|`(1e0)=>`(mem_cons_self ..)|`(1e1)=>`(["self"])|`(1e2)=>`(by show 2<=sizeLine;decide)|`(1e3)=>`(λ_ _=>rfl)|`(1e4)=>`((·.1))|`(1e5)=>`(jW K mg C R G Pc Fo uK uN uB uE uM uC uP uI uD uL uT)|`(1e6)=>`(pv 0)|`(1e7)=>`(oO K mg C R G Pc Fo Ch uK uN uB uE uM uC uP uI uD uL uT fG fH fI uG uS)|`(1e8)=>`(PySem.W.Frag)|`(1e9)=>`(model prog w)|`(2e0)=>`(by simp)|`(2e1)=>`(Str->Option Value)|`(2e2)=>`(.dK kvs)|`(2e3)=>`(s.heap.objs.size+1)|`(2e4)=>`(aU 1e6 rfl)
abbrev Qp:=PySem.Result->PySem.Shared->Prop
abbrev XV:=PySem.Value->PySem.Shared->Prop
abbrev ZB:=Unit->PySem.Shared->Prop
abbrev Wp:=PySem.Str->Option PySem.Value
abbrev WF:=List (Option Nat)
abbrev WP:=List (PySem.Addr×PySem.Obj)
abbrev Uf:=List (PySem.Str×Int)
abbrev Uu:=PySem.W.Frag
abbrev UF:=Option PySem.Addr
abbrev UV:=List PySem.Value
abbrev Ix:=List PySem.Addr
abbrev IN:=List PySem.Expr
abbrev IR:=List Nat
abbrev On:=List PySem.Str
abbrev Op:=PySem.Program
abbrev Os:=PySem.Shared
abbrev Pn:=PySem.Around
abbrev Ps:=PySem.Value
abbrev Py:=PySem.Addr
set_option linter.all false
set_option maxRecDepth 100000
theorem U.{u}{α:Sort u}{a:α}:a=a:=rfl
open PySem.W (keepIn kitOne fnOf nsIn)
open List (mem_filter filterMap_cons mem_cons_self mem_cons_of_mem mem_cons mem_append mem_append_left getElem?_set_ne mem_filterMap mem_append_right size_toArray length_cons map_cons length_map append_nil nodup_cons of_mem_zip length_take getElem?_map mem_of_getElem? length_append find?_cons any_cons cons_append length_nil map_nil length_drop mem_map any_eq_true mem_singleton map_append all_cons mem_map_of_mem all_eq_true lookup_cons drop_eq_getElem_cons getElem_mem map_map getElem?_eq_getElem take_of_length_le not_mem_nil mem_of_mem_drop mem_of_mem_take drop_zero take_length drop_length take_add_one not_lt cons_lt_cons_iff map_eq_nil_iff sum_cons append_assoc map_congr_left foldl_append nodup_nil take_append_drop flatMap_cons flatMap_append flatMap_nil length_pos_iff append_of_mem length_take_le' nil_append filter_append filter_sublist sum_append mem_flatMap map_take cons_ne_nil)
open Nat (lt_of_lt_of_le lt_irrefl ne_of_lt le_trans ne_of_gt le_refl zero_le le_of_eq le_succ lt_trans lt_of_le_of_lt log2_lt min_eq_left)
open Int (mul_one add_mul one_mul add_zero zero_add zero_mul mul_assoc eq_ofNat_of_zero_le mul_zero mul_nonneg mul_add emod_nonneg emod_lt_of_pos mul_le_mul)
open Option (isSome_iff_exists map_some getD_none bind_some)
open Bool (and_eq_true)
namespace L2
open PySem PySem.Spec PyProof.Rows
abbrev Key:=Sum Int Str
abbrev _root_.No:=List Key
def qG:Key->Value->Bool
 | .inl k,v=>Value.isInt k v
 | .inr x,v=>Value.isStrOf x v
def keyH(w:World):Key->Int
 | .inl k=>hashInt k
 | .inr x=>hashStr w x
def cq:∀{k:Key} {v:Ps},qG k v=true->(∃i t,k=Sum.inl i/\v=Value.int i t)\/(∃x t,k=Sum.inr x/\v=Value.str x t)
 | .inl i,v,h=>by
   obtain⟨t,e⟩:=Value.isInt_shape (k:=i) (v:=v) h;exact .inl ⟨i,t,rfl,e⟩
 | .inr x,v,h=>by
   obtain⟨t,e⟩:=Value.isStrOf_shape (x:=x) (v:=v) h;exact .inr ⟨x,t,rfl,e⟩
def ES(i:Int)(t:Tok):qG (.inl i) (.int i t)=true:=by simp [qG,Value.isInt]
def ET(x:Str)(t:Tok):qG (.inr x) (.str x t)=true:=by simp [qG,Value.isStrOf]
def QU(a b:Int):decide ((Sum.inl a:Key)=Sum.inl b)=(a==b):=by
 by_cases e:a=b
 ·subst e;simp
 ·have h:¬(Sum.inl a:Key)=Sum.inl b:=λq=>e (Sum.inl.inj q);rw[decide_eq_false h];exact(beq_eq_false_iff_ne.mpr e).symm
def QV(a b:Str):decide ((Sum.inr a:Key)=Sum.inr b)=decide (a=b):=by
 by_cases e:a=b
 ·subst e;simp
 ·have h:¬(Sum.inr a:Key)=Sum.inr b:=λq=>e (Sum.inr.inj q);rw[decide_eq_false h,decide_eq_false e]
def QW(a:Int)(b:Str):decide ((Sum.inl a:Key)=Sum.inr b)=false:=decide_eq_false (λq=>nomatch q)
def QX(a:Str)(b:Int):decide ((Sum.inr a:Key)=Sum.inl b)=false:=decide_eq_false (λq=>nomatch q)
def bE(prog:Op)(w:World):PySem.KeyKind prog w Key where
 is:=qG
 hash:=keyH w
 inj:=λv a b ha hb=>by
  rcases cq ha with ⟨i,t,rfl,rfl⟩ | ⟨x,t,rfl,rfl⟩
  ·rcases cq hb with ⟨j,u,rfl,e⟩ | ⟨y,u,rfl,e⟩
   ·injection e with e1 _;rw[e1]
   ·exact nomatch e
  ·rcases cq hb with ⟨j,u,rfl,e⟩ | ⟨y,u,rfl,e⟩
   ·exact nomatch e
   ·injection e with e1 _;rw[e1]
 byValue:=λk v h=>by
  rcases cq h with ⟨i,t,rfl,rfl⟩ | ⟨x,t,rfl,rfl⟩<;>rfl
 pyHash:=λhv h=>by
  rcases cq hv with ⟨i,t,rfl,rfl⟩ | ⟨x,t,rfl,rfl⟩
  ·exact wpAny_pyHash_int h
  ·exact wpAny_pyHash_str h
 eqBool:=λhu hv h=>by
  rcases cq hu with ⟨i,t,rfl,rfl⟩ | ⟨x,t,rfl,rfl⟩
  ·rcases cq hv with ⟨j,u,rfl,rfl⟩ | ⟨y,u,rfl,rfl⟩
   ·rw[QU] at h;exact wpAny_eqBool_int h
   ·rw[QW] at h;exact SeqAt.EqAt.int_str i t y u _ _ _ _ h
  ·rcases cq hv with ⟨j,u,rfl,rfl⟩ | ⟨y,u,rfl,rfl⟩
   ·rw[QX] at h;exact SeqAt.EqAt.str_int x t j u _ _ _ _ h
   ·rw[QV] at h;exact wpAny_eqBool_str h
 «strs» :=λk x t v h=>by
  rcases cq h with ⟨i,u,rfl,e⟩ | ⟨y,u,rfl,e⟩
  ·exact nomatch e
  ·injection e with e1 _;subst e1;cases v<;>rfl
def qH(prog:Op)(w:World)(k:Key)(v:Ps):(bE prog w).is k v=qG k v:=rfl
def yM(prog:Op)(w:World)(i:Int)(t:Tok):(bE prog w).is (.inl i) (.int i t)=true:=ES i t
def yN(prog:Op)(w:World)(x:Str)(t:Tok):(bE prog w).is (.inr x) (.str x t)=true:=ET x t
inductive V where
 |cF|bl (b:Bool) |int (i:Int) |str (x:Str) |A8 (b:Array UInt8) |Pj (b:UInt64) |ref (a:Addr) |ty (n:String)
 deriving DecidableEq
abbrev _root_.KB:=List V
abbrev _root_.PP:=List (Key×V)
def RelV:V->Value->Prop
 | .cF,u=>u=Value.none
 | .bl b,u=>u=Value.bool b
 | .int i,u=>∃t,u=Value.int i t
 | .str x,u=>∃t,u=Value.str x t
 | .A8 b,u=>∃t,u=Value.bytes b t
 | .Pj b,u=>∃t,u=Value.float b t
 | .ref a,u=>u=Value.ref a
 | .ty n,u=>u=Value.type n
abbrev Vals:List V->List Value->Prop:=Paired RelV
theorem Vals.length{xs:KB}{us:UV}(r:Vals xs us):xs.length=us.length:=Paired.length r
theorem Vals.get:∀{xs:KB} {us:UV} {i:Nat} {x:V},Vals xs us->xs[i]? =some x->∃u,us[i]? =some u/\RelV x u
 |_,_,_,_, .nil,e=>by simp at e
 |_,_,0,_, .cons r _,e=>by simp at e;subst e;exact⟨_,U,r⟩
 |_,_,i+1,x, .cons _ t,e=>by
  obtain⟨u,h1,h2⟩:=Vals.get (i:=i) (x:=x) t (by simpa using e);exact⟨u,by simpa using h1,h2⟩
theorem Vals.set{x:V}{u:Ps}(r:RelV x u):∀{xs:KB} {us:UV} (i:Nat),Vals xs us->Vals (xs.set i x) (us.set i u)
 |_,_,_, .nil=> .nil
 |_,_,0, .cons _ t=> .cons r t
 |_,_,i+1, .cons q t=> .cons q (Vals.set r i t)
theorem Vals.append:∀{xs ys:KB} {us ws:UV},Vals xs us->Vals ys ws->Vals (xs++ys) (us++ws)
 |_,_,_,_, .nil,s=>s
 |_,_,_,_, .cons r t,s=> .cons r (Vals.append t s)
theorem Vals.take:∀{xs:KB} {us:UV} (n:Nat),Vals xs us->Vals (xs.take n) (us.take n)
 |_,_,0,_=> .nil
 |_,_,_+1, .nil=> .nil
 |_,_,n+1, .cons r t=> .cons r (Vals.take n t)
theorem Vals.drop:∀{xs:KB} {us:UV} (n:Nat),Vals xs us->Vals (xs.drop n) (us.drop n)
 |_,_,0,r=>r
 |_,_,_+1, .nil=> .nil
 |_,_,n+1, .cons _ t=>Vals.drop n t
def gH:Option V->Option Value->Prop
 |some v,some u=>RelV v u
 |none,none=>True
 |_,_=>False
def KV{κ:Type}:List (κ×V)->List (κ×Value)->Prop:=Paired λ(p:κ×V) (q:κ×Value)=>p.1=q.1/\RelV p.2 q.2
def kV:Key->V
 | .inl i=> .int i
 | .inr x=> .str x
inductive HO where
 |lst (xs:List V)
 |tup (xs:List V)
 |dK (kvs:List (Key×V)) |dT (kvs:List (List Key×V))
 |set (S:Int->Bool) (n:Nat)
 |ins (C dx:Addr) (fs:List (Str×V))
 |own (x:Addr)
 |xd (fs:List (Str×V))
 |met (f x:Addr)
 |rng (lo hi:Int)
 |eI (o:Obj) (u:HO)
 |Pl (ps:Array Value)
 |ext (φ:Heap->Prop)
abbrev Hp:=Addr->Option HO
def upd(H:Hp)(a:Py)(o:HO):Hp:=λb=>if b=a then some o else H b
def ag{H:Hp}{a:Py}{o:HO}:upd H a o a=some o:=by unfold upd;rw[if_pos rfl]
def ah{H:Hp}{a b:Py}{o:HO}(h:b≠a):upd H a o b=H b:=by unfold upd;rw[if_neg h]
def gI{H:Hp}{a:Py}{o u:HO}:upd (upd H a o) a u=upd H a u:=by
 funext b;unfold upd;split<;>rfl
def bj{H:Hp}{a b:Py}{o u:HO}(h:H a=some o)(h':H b=some u)(d:o≠u):a≠b:=by
 intro e;subst e;rw[h] at h';exact d (Option.some.inj h')
def af{H:Hp}{a b:Py}{o:HO}(h:H a=some o)(h':H b=none):a≠b:=by
 intro e;subst e;rw[h] at h';cases h'
section
variable (P:Op)(w:World)
def cu(H:Hp)(h:Heap)(a:Py):HO->Prop
 | .lst xs=>xs.length<=sizeLine/\∃(its:UV) (n:Nat),Vals xs its/\h.get? a=some { cls:= .type "list",data:= .seq its.toArray n }
 | .tup xs=>xs.length<=sizeLine/\∃its:List Value,Vals xs its/\IsTup h a its.toArray
 | .dK kvs=>kvs.length<=sizeLine/\(a==sysModules)=false/\∃vs,KV kvs vs/\h.DictOf (bE P w) a vs
 | .dT kvs=>kvs.length<=sizeLine/\(a==sysModules)=false/\∃xs:List (List Key×Addr×Value),
   Paired (λ(p:List Key×V) (q:List Key×Addr×Value)=>p.1=q.1/\H q.2.1=some (.tup (p.1.map kV))/\RelV p.2 q.2.2) kvs xs/\
   ∃o es ep,h.get? a=some o/\o.ExactDict/\o.data= .dict es ep/\es.toList=xs.map (entryOfKey (tupleKind (bE P w)))/\(xs.map 1e4).Nodup
 | .set S n=>h.SetOf (intKind P w) a S n
 | .ins C dx fs=>H dx=some (.own a)/\fs.length<=1000/\dx≠a/\h.get? a=some (PySem.W.instObj C dx)/\
   ∃mA,h.Ns1 dx mA/\(∀f,gH (fs.lookup f) (mA f))/\PySem.Within mA (fs.map 1e4)
 | .own _=>∃o,h.get? a=some o
 | .xd fs=>∃mA,h.Ns1 a mA/\∀f,gH (fs.lookup f) (mA f)
 | .rng lo hi=>∃t u v,h.get? a=some { cls:= .type "range",data:= .fields #[.int lo t, .int hi u, .int 1 v] }
 | .eI o u=>h.get? a=some o/\cu H h a u
 | .Pl ps=>h.get? a=some { cls:= .none,data:= .fields ps }
 | .met f x=>h.get? a=some (PySem.W.methodObj (.ref f) (.ref x))
 | .ext φ=>φ h/\(∃o,h.get? a=some o)/\∀h1 h2:Heap,φ h1->(∀o,h1.get? a=some o->h2.get? a=some o)->φ h2
def jV(H:Hp)(h:Heap):Prop:=∀a o,H a=some o->cu P w H h a o
end
section
variable {P:Op}{w:World}{H H':Hp}{h h':Heap}{a:Py}{o:HO}
theorem cu.lt(x:cu P w H h a o):a<h.objs.size:=by
 cases o with
 |lst xs=>obtain⟨_,_,_,_,e⟩:=x;exact Heap.lt_size e
 |tup xs=>obtain⟨_,_,_,p⟩:=x;exact p.lt
 |dK kvs=>obtain⟨_,_,_,_,o,_,_,e,_⟩:=x;exact Heap.lt_size e
 |dT kvs=>obtain⟨_,_,_,_,o,_,_,e,_⟩:=x;exact Heap.lt_size e
 |set S n=>obtain⟨o,_,_,_,e,_⟩:=x;exact Heap.lt_size e
 |ins C dx fs=>obtain⟨_,_,_,e,_⟩:=x;exact Heap.lt_size e
 |own y=>obtain⟨_,e⟩:=x;exact Heap.lt_size e
 |xd fs=>obtain⟨_,⟨_,_,_,e,_⟩,_⟩:=x;exact Heap.lt_size e
 |rng lo hi=>obtain⟨_,_,_,e⟩:=x;exact Heap.lt_size e
 |eI ob u=>obtain⟨e,_⟩:=x;exact Heap.lt_size e
 |Pl ps=>exact Heap.lt_size (show h.get? a=some _ from x)
 |met f y=>exact Heap.lt_size (show h.get? a=some _ from x)
 |ext φ=>obtain⟨_,⟨_,e⟩,_⟩:=x;exact Heap.lt_size e
theorem Paired.QY{α β:Type}{F G:α->β->Prop}:∀{l₁:List α} {l₂:List β},Paired F l₁ l₂->(∀a b,F a b->G a b)->Paired G l₁ l₂
 |_,_, .nil,_=> .nil
 |_,_, .cons r t,f=> .cons (f _ _ r) (Paired.QY t f)
def cu.qI(x:cu P w H h a o)(k:∀b u,(b=a\/H b=some (.own a))->h.get? b=some u->h'.get? b=some u)
  (ho:∀b,H b=some (.own a)->H' b=some (.own a)) (ht:∀b xs,H b=some (.tup xs)->H' b=some (.tup xs)):cu P w H' h' a o:=by
 induction o with
 |lst xs=>obtain⟨z,its,n,r,e⟩:=x;exact⟨z,its,n,r,k _ _ (.inl rfl) e⟩
 |tup xs=>obtain⟨z,its,r,ob,e,c⟩:=x;exact⟨z,its,r,ob,k _ _ (.inl rfl) e,c⟩
 |dK kvs=>obtain⟨z,y,vs,r,ob,es,ep,e,c⟩:=x;exact⟨z,y,vs,r,ob,es,ep,k _ _ (.inl rfl) e,c⟩
 |dT kvs=>
  obtain⟨z,y,xs,r,ob,es,ep,e,c⟩:=x;exact⟨z,y,xs,Paired.QY r λp q z=>⟨z.1,ht _ _ z.2.1,z.2.2⟩,ob,es,ep,k _ _ (.inl rfl) e,c⟩
 |set S n=>obtain⟨ob,es,ep,t,e,c⟩:=x;exact⟨ob,es,ep,t,k _ _ (.inl rfl) e,c⟩
 |ins C dx fs=>
  obtain⟨d,z,ne,e,mA,⟨od,es,ep,e2,c⟩,r⟩:=x;exact⟨ho _ d,z,ne,k _ _ (.inl rfl) e,mA,⟨od,es,ep,k _ _ (.inr d) e2,c⟩,r⟩
 |own y=>obtain⟨ob,e⟩:=x;exact⟨ob,k _ _ (.inl rfl) e⟩
 |xd fs=>obtain⟨mA,⟨od,es,ep,e,c⟩,r⟩:=x;exact⟨mA,⟨od,es,ep,k _ _ (.inl rfl) e,c⟩,r⟩
 |rng lo hi=>obtain⟨t,u,v,e⟩:=x;exact⟨t,u,v,k _ _ (.inl rfl) e⟩
 |eI ob u ih=>obtain⟨e,q⟩:=x;exact⟨k _ _ (.inl rfl) e,ih q⟩
 |Pl ps=>
  have e:h.get? a=some { cls:= .none,data:= .fields ps }:=x;show h'.get? a=some { cls:= .none,data:= .fields ps };exact k a _ (.inl rfl) e
 |met f y=>
  have e:h.get? a=some (PySem.W.methodObj (.ref f) (.ref y)):=x;show h'.get? a=some (PySem.W.methodObj (.ref f) (.ref y));exact k a _ (.inl rfl) e
 |ext φ=>obtain⟨p,⟨o,e⟩,st⟩:=x;exact⟨st _ _ p λo q=>k _ _ (.inl rfl) q,⟨o,k _ _ (.inl rfl) e⟩,st⟩
theorem jV.lt(x:jV P w H h)(e:H a=some o):a<h.objs.size:=(x a o e).lt
def jV.fresh(x:jV P w H h)(e:h.objs.size<=a):H a=none:=by
 cases q:H a with
 |none=>rfl
 |some u=>exact absurd (lt_of_lt_of_le (x.lt q) e) (lt_irrefl _)
def jV.kept(x:jV P w H h)(k:∀b u,h.get? b=some u->h'.get? b=some u):jV P w H h':=λa o e=>
 (x a o e).qI (λb u _ q=>k b u q) (λ_ q=>q) λ_ _ q=>q
def jV.laid(x:jV P w H h)(k:∀b u,h.get? b=some u->h'.get? b=some u)(hp:h.objs.size<=a)(new:cu P w (upd H a o) h' a o):jV P w (upd H a o) h':=λb u e=>by
 have hn:=x.fresh hp;by_cases hb:b=a
 ·subst hb;rw[ag] at e;cases e;exact new
 ·rw[ah hb] at e;exact(x b u e).qI (λc v _ q=>k c v q) (λc q=>by rw[ah (af q hn)];exact q) λc xs q=>by rw[ah (af q hn)];exact q
end
def Rd(H:Hp)(a:Py)(u:HO):Prop:=H a=some u\/∃o,H a=some (.eI o u)
def Rd.ok{P:Op}{w:World}{H:Hp}{h:Heap}{a:Py}{u:HO}(r:Rd H a u)(x:jV P w H h):cu P w H h a u:=by
 rcases r with r| ⟨o,r⟩
 ·exact x a u r
 ·obtain⟨_,q⟩:=x a _ r;exact q
def VI:Option HO->Prop
 |some (.lst _)=>True
 |some (.dK _)=>True
 |some (.dT _)=>True
 |some (.set _ _)=>True
 |some (.ins _ _ _)=>True
 |some (.ext _)=>True
 |_=>False
section
variable {P:Op}{w:World}{H:Hp}{h h':Heap}{x e:Py}{o':HO}
def jV.write(ok:jV P w H h)(mu:VI (H x))(he:e=x\/H e=some (.own x))(k:∀b u,b≠e->h.get? b=some u->h'.get? b=some u)(U1:∃u,h'.get? e=some u)
  (new:cu P w (upd H x o') h' x o'):jV P w (upd H x o') h':=λb u q=>by
 have VJ:∀c y,H c=some (.own y)->c≠x:=λc y r z=>by subst z;rw[r] at mu;exact mu
 have ntup:∀c xs,H c=some (.tup xs)->c≠x:=λc xs r z=>by subst z;rw[r] at mu;exact mu
 by_cases hb:b=x
 ·subst hb;rw[ag] at q;cases q;exact new
 ·rw[ah hb] at q;by_cases QZ:b=e
  ·have q':H b=some (.own x):=by
    rcases he with z|z
    ·exact absurd (QZ.trans z) hb
    ·rw[QZ];exact z
   rw[q] at q';cases q';obtain⟨v,hv⟩:=U1;exact⟨v,by rw[QZ];exact hv⟩
  ·refine(ok b u q).qI (λc v hc r=>k c v ?_ r) (λc r=>by rw[ah (VJ c b r)];exact r) λc xs r=>by rw[ah (ntup c xs r)];exact r
   rcases hc with rfl|hc
   ·exact QZ
   ·rintro rfl;rcases he with z|z
    ·exact VJ c b hc z
    ·rw[hc] at z;cases z;exact hb rfl
end
structure Un(fs ex:List Addr)(H H':Hp)(h h':Heap):Prop where
 keep:∀b o,h.get? b=some o->H b=none->b∉fs->b∉ex->h'.get? b=some o
 slot:∀b o,h.get? b=some o->H b=none->b∈fs->b∉ex->∃sl,h'.get? b=some { o with slots:=sl }
 free:∀b o,h.get? b=some o->H b=none->b∉ex->H' b=none
 there:∀b o,h.get? b=some o->b∉ex->∃o',h'.get? b=some o'
 nY:∀b xs,H b=some (.tup xs)->H' b=some (.tup xs)
 nZ:∀b o u,H b=some (.eI o u)->H' b=some (.eI o u)
 n4:∀b ps,H b=some (.Pl ps)->∃more,H' b=some (.Pl (ps++more))
section
variable {fs LO ex VL:Ix}{H H1 H2:Hp}{h h1 h2 h':Heap}{a x e:Py}{o:HO}
def Un.any(u:Un fs ex H H1 h h1){b:Py}{ob:Obj}(q:h.get? b=some ob)(n:H b=none)(hx:b∉ex):∃sl,h1.get? b=some { ob with slots:=sl }:=by
 by_cases hb:b∈fs
 ·exact u.slot b ob q n hb hx
 ·exact⟨ob.slots,u.keep b ob q n hb hx⟩
def Un.kept(k:∀b u,h.get? b=some u->h'.get? b=some u):Un fs ex H H h h':=
 ⟨λb ob q _ _ _=>k b ob q,λb ob q _ _ _=>⟨ob.slots,k b ob q⟩,λ_ _ _ n _=>n,λb ob q _=>⟨ob,k b ob q⟩,λ_ _ q=>q,λ_ _ _ q=>q,λ_ ps q=>⟨#[],by rw[q];simp⟩⟩
def Un.refl:Un fs ex H H h h:=Un.kept λ_ _ q=>q
def Un.laid(k:∀b u,h.get? b=some u->h'.get? b=some u)(hp:h.objs.size<=a)(hn:H a=none):Un fs ex H (upd H a o) h h' where
 keep:=λb u q _ _ _=>k b u q
 slot:=λb u q _ _ _=>⟨u.slots,k b u q⟩
 free:=λb u q n _=>by rw[ah (ne_of_lt (lt_of_lt_of_le (Heap.lt_size q) hp))];exact n
 there:=λb u q _=>⟨u,k b u q⟩
 nY:=λb xs q=>by rw[ah (af q hn)];exact q
 nZ:=λb u xs q=>by rw[ah (af q hn)];exact q
 n4:=λb ps q=>⟨#[],by rw[ah (af q hn),q];simp⟩
def Un.write(mu:VI (H x))(he:e=x\/H e=some (.own x))(k:∀b u,b≠e->h.get? b=some u->h'.get? b=some u)(U1:∃u,h'.get? e=some u):Un fs ex H (upd H x o) h h':=by
 have hx:∀b,H b=none->b≠x:=λb n z=>by subst z;rw[n] at mu;exact mu
 have hb:∀b,H b=none->b≠e:=λb n z=>by
  subst z;rcases he with r|r
  ·exact hx b n r
  ·rw[n] at r;cases r
 have hm:∀b u,H b=some u->¬VI (some u)->b≠x:=λb u q nm z=>by subst z;rw[q] at mu;exact nm mu
 refine⟨λb u q n _ _=>k b u (hb b n) q,λb u q n _ _=>⟨u.slots,k b u (hb b n) q⟩,λb u q n _=>by rw[ah (hx b n)];exact n,λb u q _=>?_,
  λb xs q=>by rw[ah (hm b _ q λz=>z)];exact q,λb u xs q=>by rw[ah (hm b _ q λz=>z)];exact q,λb ps q=>⟨#[],by rw[ah (hm b _ q λz=>z),q];simp⟩⟩
 by_cases QZ:b=e
 ·subst QZ;exact U1
 ·exact⟨u,k b u QZ q⟩
end
def trk(h:Heap)(H:Hp):List Addr:=(List.range h.objs.size).filter λa=>(H a).isSome
def wq(h:Heap)(H:Hp):Heap:=PySem.W.hideAll h (trk h H)
def EU(h:Heap)(H:Hp):(wq h H).objs.size=h.objs.size:=PySem.W.hideAll_size _ _
def Hd{h:Heap}{H:Hp}{b:Py}{o:Obj}(e:h.get? b=some o)(n:H b=none):(wq h H).get? b=some o:=
 PySem.W.hideAll_get _ e λhm=>by
  have q:(H b).isSome=true:=(mem_filter.mp hm).2;rw[n] at q;simp at q
def LP{h:Heap}{H:Hp}{b:Py}{o:Obj}(e:(wq h H).get? b=some o):h.get? b=some o/\H b=none:=by
 have e':h.get? b=some o:=PySem.W.of_hideAll (trk h H) e;refine⟨e',?_⟩
 cases q:H b with
 |none=>rfl
 |some x=>
  have hm:b∈trk h H:=mem_filter.mpr ⟨List.mem_range.mpr (Heap.lt_size e'),by simp [q]⟩;have z:(wq h H).get? b=none:=PySem.W.hideAll_none (trk h H) hm;rw[z] at e;cases e
def LQ(g h:Heap)(L:Py):List (Addr×Obj):=(List.range h.objs.size).filterMap λa=>if a=L\/(g.get? a).isSome=true then none else (h.get? a).map λo=>(a,o)
def rest(g h:Heap)(L d:Py):List (Addr×Obj):=(LQ g h L).filter λp=>decide (p.1≠d)
structure Mod(K:1e8)(mg:2e1)(base:Heap):Prop where
 gv:K.In base
 glob:base.Ns mainGlobals mg
 blt:∃mb,base.Ns builtinsNs mb/\∀x:Str,x≠"__name__" ->mb x=bootBuiltins x
 nolimit:base.NoLimit
structure Cx where
 prog:Program
 w:World
 K:PySem.W.Frag
 mg:Str->Option Value
 base:Heap
 A:Around
 N:List Str
 s₀:Shared
 H₀:Hp
 env:Env
 outer:List Env
 stack:List Env
 ex:List Addr
 fn:Str->Bool
 calm:Bool
 pn:List (Addr×Obj)
 xe:Value->Shared->Prop
def yE(l:List Env):List Addr:=l.filterMap (·.frame)
abbrev Cx.fs(X:Cx):List Addr:=yE X.outer
def Vis(sc:Scope)(x:Str):Prop:=sc.names.lookup x=some .local\/sc.names.lookup x=some .cell\/sc.names.lookup x=some .free
def Loc(sc:Scope)(x:Str):Prop:=sc.names.lookup x=some .local\/sc.names.lookup x=some .cell
def Look(env:Env)(h:Heap)(m:Wp)(x:Str)(u:Ps):Prop:=
 (env.kindOf x=some .local/\m x=some u)\/((env.kindOf x=some .cell\/env.kindOf x=some .free)/\∃c,env.cells.lookup x=some c/\h.IsCell c (some u))
structure Cx.Ok(X:Cx):Prop where
 mod:Mod X.K X.mg X.base
 kind:X.env.scope.kind= .function
 glob:X.env.globals=mainGlobals
 blt:X.env.builtins=builtinsNs
 above:X.s₀.heap.objs.size<=X.env.locals
 inj:∀x y c,X.env.cells.lookup x=some c->X.env.cells.lookup y=some c->x=y
 has:∀x,(X.env.kindOf x=some .cell\/X.env.kindOf x=some .free)->∃c,X.env.cells.lookup x=some c
 LR:∀x c,X.fn x=true->X.env.cells.lookup x=some c->X.s₀.heap.objs.size<=c
 hd:X.calm=true->X.A.handled=none
 frames:X.A.frames=some X.stack
 Po:X.stack=X.outer\/(X.stack=X.env::X.outer/\X.env.frame=some X.env.locals)
 U2:∀b∈X.ex,b≠X.env.locals/\∀x c,X.env.cells.lookup x=some c->c≠b
 bs:∀b o,X.base.get? b=some o->X.s₀.heap.get? b=some o/\X.H₀ b=none
 EV:X.base.objs.size<=X.s₀.heap.objs.size
 wt:∀b o,X.base.get? b=some o->b∉X.ex
 wu:∀b∈X.ex,b∉X.fs
 lO:X.s₀.heap.FunFrames X.base X.outer
 He:∀b∈X.fs,X.H₀ b=none
structure Inv(X:Cx)(pins:List (Addr×Obj))(σ:List (Option V))(H:Hp)(s:Shared):Prop where
 ok:X.Ok
 os:s.os=X.s₀.os
 bare:AllBare s.gens
 base:Un X.fs X.ex X.H₀ H X.s₀.heap s.heap
 loc:∃m,s.heap.Ns X.env.locals m/\∀(i:Nat) (x:Str) (v:V),X.N[i]? =some x->σ[i]? =some (some v)->Vis X.env.scope x->∃u,RelV v u/\Look X.env s.heap m x u
 cell:∀x c,X.env.cells.lookup x=some c->∃v,s.heap.IsCell c v
 free:H X.env.locals=none
 gC:∀x c,X.env.cells.lookup x=some c->H c=none
 pin:∀p∈X.pn++pins,s.heap.get? p.1=some p.2/\H p.1=none/\p.1≠X.env.locals/\p.1∉X.fs/\∀v,p.2.data≠ .cell v
 aX:jV X.prog X.w H s.heap
 len:σ.length=X.N.length
section
variable {X:Cx}{pins:WP}{σ:List (Option V)}{H H':Hp}{s:Os}{h':Heap}
def Cx.Ok.nofr(ok:X.Ok){b:Py}{o:Obj}(e:X.base.get? b=some o):b∉X.fs:=λhb=>by
 have:=(ok.lO.mem hb).1;rw[e] at this;cases this
theorem Inv.bs(I:0e5):∀b o,X.base.get? b=some o->s.heap.get? b=some o/\H b=none:=λb o e=>
 ⟨I.base.keep b o (I.ok.bs b o e).1 (I.ok.bs b o e).2 (I.ok.nofr e) (I.ok.wt b o e),I.base.free b o (I.ok.bs b o e).1 (I.ok.bs b o e).2 (I.ok.wt b o e)⟩
def Inv.bk(I:0e5):∀b o,X.base.get? b=some o->s.heap.get? b=some o:=λb o e=>(I.bs b o e).1
theorem Inv.mod(I:0e5):Mod X.K X.mg X.base:=I.ok.mod
def Inv.i6(I:0e5):X.K.In s.heap:=I.ok.mod.gv.keeps I.bk
theorem Inv.lt(I:0e5):X.env.locals<s.heap.objs.size:=let ⟨_,hn,_⟩:=I.loc;hn.lt
def Inv.sz(I:0e5):X.s₀.heap.objs.size<=s.heap.objs.size:=le_trans I.ok.above (Nat.le_of_lt I.lt)
def Inv.nofs(I:0e5){a:Py}(h:s.heap.objs.size<=a):a∉X.fs:=λhb=>by
 obtain⟨_,o,ho,_⟩:=I.ok.lO.mem hb;exact absurd (lt_of_lt_of_le (Heap.lt_size ho) (le_trans I.sz h)) (lt_irrefl _)
def Inv.LS(I:0e5):∀x c,X.env.cells.lookup x=some c->c≠X.env.locals:=λx c e z=>by
 obtain⟨v,o,ho,hd⟩:=I.cell x c e;obtain⟨m,⟨o',es,ep,yF,gD,_⟩,_⟩:=I.loc;rw[z,yF] at ho;cases ho;rw[gD] at hd;cases hd
theorem Inv.lO(I:0e5):s.heap.FunFrames X.base X.outer:=by
 have all:∀(l:List Env),(∀b∈yE l,b∈X.fs)->X.s₀.heap.FunFrames X.base l->s.heap.FunFrames X.base l:=by
  intro l
  induction l with
  |nil=>intro _ _;trivial
  |cons env r ih=>
   intro hs hl;obtain⟨hk,⟨L,o,hf,hn,ho,hd⟩,hr⟩:=hl;have hL:L∈X.fs:=hs L (by unfold yE;rw[filterMap_cons,hf];exact mem_cons_self);obtain⟨sl,e⟩:=I.base.slot L o ho (I.ok.He L hL) hL λz=>I.ok.wu L z hL;exact⟨hk,⟨L,_,hf,hn,e,hd⟩,ih (λb hb=>hs b (by unfold yE;rw[filterMap_cons,hf];exact mem_cons_of_mem _ hb)) hr⟩
 exact all X.outer (λ_ hb=>hb) I.ok.lO
theorem Inv.stack(I:0e5):s.heap.FunFrames X.base X.stack:=by
 rcases I.ok.Po with e| ⟨e,hf⟩
 ·rw[e];exact I.lO
 ·rw[e];obtain⟨m,hn,_⟩:=I.loc;refine .cons (by rw[I.ok.kind];decide) hf hn ?_ I.lO;exact Heap.get?_none_of_le (le_trans I.ok.EV I.ok.above)
def Inv.wx(I:0e5):∀b∈yE X.stack,b∈X.env.locals::X.fs:=λb hb=>by
 rcases I.ok.Po with e| ⟨e,hf⟩
 ·rw[e] at hb;exact mem_cons_of_mem _ hb
 ·rw[e] at hb;unfold yE at hb;rw[filterMap_cons,hf] at hb;exact hb
def Inv.wy(I:0e5):∀b∈yE X.stack,H b=none:=λb hb=>by
 rcases mem_cons.mp (I.wx b hb) with e|hb
 ·rw[e];exact I.free
 ·obtain⟨_,o,ho,_⟩:=I.ok.lO.mem hb;exact I.base.free b o ho (I.ok.He b hb) λz=>I.ok.wu b z hb
def Inv.step{g':Array GenState}{t':Nat}{d':Drawn}{ch:Ix}(I:0e5)
  (lP:∀b∈ch,(b∈X.ex\/X.s₀.heap.objs.size<=b)/\b≠X.env.locals/\(∀x c,X.env.cells.lookup x=some c->c≠b)/\∀p∈X.pn++pins,p.1≠b)
  (keep:∀b o,b≠X.env.locals->b∉X.fs->b∉ch->s.heap.get? b=some o->H b=none->h'.get? b=some o)
  (slot:∀b o,b≠X.env.locals->b∈X.fs->b∉ch->s.heap.get? b=some o->H b=none->∃sl,h'.get? b=some { o with slots:=sl }) (free:∀b o,b∉ch->s.heap.get? b=some o->H b=none->H' b=none)
  (there:∀b o,b∉ch->s.heap.get? b=some o->∃o',h'.get? b=some o')
  (nY:∀b xs,H b=some (.tup xs)->H' b=some (.tup xs)) (nZ:∀b o u,H b=some (.eI o u)->H' b=some (.eI o u)) (n4:∀b ps,H b=some (.Pl ps)->∃more,H' b=some (.Pl (ps++more)))
  (ns:∀m,s.heap.Ns X.env.locals m->h'.Ns X.env.locals m) (aX:jV X.prog X.w H' h') (hg:AllBare g'):
  Inv X pins σ H' { s with heap:=h',gens:=g',drawn:=d',toks:=t' }:=by
 have VM:∀b o,X.s₀.heap.get? b=some o->b≠X.env.locals:=λb o e=>ne_of_lt (lt_of_lt_of_le (Heap.lt_size e) I.ok.above)
 have neC:∀b o,X.s₀.heap.get? b=some o->b∉X.ex->b∉ch:=λb o e hx hb=>by
  rcases (lP b hb).1 with z|z
  ·exact hx z
  ·exact absurd (lt_of_lt_of_le (Heap.lt_size e) z) (lt_irrefl _)
 have cellK:∀x c,X.env.cells.lookup x=some c->∀v,s.heap.IsCell c v->h'.IsCell c v:=λx c e v ⟨o,ho,hd⟩=>by
  have CY:c∉ch:=λz=>(lP c z).2.2.1 x c e rfl;by_cases hc:c∈X.fs
  ·obtain⟨sl,q⟩:=slot c o (I.LS x c e) hc CY ho (I.gC x c e);exact⟨_,q,hd⟩
  ·exact⟨o,keep c o (I.LS x c e) hc CY ho (I.gC x c e),hd⟩
 refine⟨I.ok,I.os,hg,⟨λb o e n hb hx=>?_,λb o e n hb hx=>?_,λb o e n hx=>?_,λb o e hx=>?_,λb xs e=>nY b xs (I.base.nY b xs e),λb o xs e=>nZ b o xs (I.base.nZ b o xs e),λb ps e=>?_⟩,?_,λx c e=>?_,?_,λx c e=>?_,λp hp=>?_,aX,I.len⟩
 ·exact keep b o (VM b o e) hb (neC b o e hx) (I.base.keep b o e n hb hx) (I.base.free b o e n hx)
 ·obtain⟨sl,e1⟩:=I.base.slot b o e n hb hx;obtain⟨Q0,e2⟩:=slot b _ (VM b o e) hb (neC b o e hx) e1 (I.base.free b o e n hx);exact⟨Q0,e2⟩
 ·obtain⟨o',e1⟩:=I.base.there b o e hx;exact free b o' (neC b o e hx) e1 (I.base.free b o e n hx)
 ·obtain⟨o',e1⟩:=I.base.there b o e hx;exact there b o' (neC b o e hx) e1
 ·obtain⟨m1,e1⟩:=I.base.n4 b ps e;obtain⟨m2,e2⟩:=n4 b _ e1;exact⟨m1++m2,by rw[e2,Array.append_assoc]⟩
 ·obtain⟨m,hn,hl⟩:=I.loc;refine⟨m,ns m hn,λi x v e1 e2 e3=>?_⟩;obtain⟨u,r,l⟩:=hl i x v e1 e2 e3;refine⟨u,r,?_⟩;rcases l with l| ⟨k,c,e,z⟩
  ·exact .inl l
  ·exact .inr ⟨k,c,e,cellK x c e _ z⟩
 ·obtain⟨v,z⟩:=I.cell x c e;exact⟨v,cellK x c e v z⟩
 ·obtain⟨m,⟨o,_,_,ho,_⟩,_⟩:=I.loc;exact free _ o (λz=>(lP _ z).2.1 rfl) ho I.free
 ·obtain⟨v,o,ho,hd⟩:=I.cell x c e;exact free c o (λz=>(lP c z).2.2.1 x c e rfl) ho (I.gC x c e)
 ·obtain⟨e,n,ne,nf,d⟩:=I.pin p hp;have CY:p.1∉ch:=λz=>(lP p.1 z).2.2.2 p hp rfl;exact⟨keep p.1 p.2 ne nf CY e n,free p.1 p.2 CY e n,ne,nf,d⟩
def Inv.un{t':Nat}(I:0e5)(u:Un X.fs [] H H' s.heap h')(aX:jV X.prog X.w H' h'):Inv X pins σ H' { s with heap:=h',toks:=t' }:=by
 obtain⟨m,⟨o,es,ep,ho,r⟩,_⟩:=id I.loc;obtain⟨sl,hL⟩:=u.any ho I.free 2e0
 exact I.step (g':=s.gens) (d':=s.drawn) (ch:=[]) (λ_ z=>nomatch z) (λb o _ hb _ e n=>u.keep b o e n hb 2e0) (λb o _ hb _ e n=>u.slot b o e n hb 2e0) (λb o _ e n=>u.free b o e n 2e0) (λb o _ e=>u.there b o e 2e0) u.nY u.nZ u.n4 (λm' hm=>by
  obtain⟨o',es',ep',yF,r'⟩:=hm;rw[ho] at yF;cases yF
  exact⟨_,es',ep',hL,r'⟩) aX I.bare
def Inv.call{g':Array GenState}{t':Nat}{d':Drawn}{ch:Ix}(I:0e5)(u:Un (yE X.stack) ch H H' s.heap h')(aX:jV X.prog X.w H' h')(hg:AllBare g')
  (lP:∀b∈ch,(b∈X.ex\/X.s₀.heap.objs.size<=b)/\b≠X.env.locals/\(∀x c,X.env.cells.lookup x=some c->c≠b)/\∀p∈X.pn++pins,p.1≠b):
  Inv X pins σ H' { s with heap:=h',gens:=g',drawn:=d',toks:=t' }:=by
 obtain⟨m,⟨o,es,ep,ho,r⟩,_⟩:=id I.loc;obtain⟨sl,hL⟩:=u.any ho I.free λz=>(lP _ z).2.1 rfl
 exact I.step (ch:=ch) lP (λb o hL hb hc e n=>u.keep b o e n (λz=>(mem_cons.mp (I.wx b z)).elim hL hb) hc) (λb o _ _ hc e n=>u.any e n hc) (λb o hc e n=>u.free b o e n hc) (λb o hc e=>u.there b o e hc) u.nY u.nZ u.n4 (λm' hm=>by
  obtain⟨o',es',ep',yF,r'⟩:=hm;rw[ho] at yF;cases yF
  exact⟨_,es',ep',hL,r'⟩) aX hg
def Inv.turned{t':Nat}{it:Py}(I:0e5)(k:∀b o,b≠it->s.heap.get? b=some o->h'.get? b=some o)(hn:H it=none)(hL:it≠X.env.locals)
  (h1:it∈X.ex\/X.s₀.heap.objs.size<=it) (h2:∀x c,X.env.cells.lookup x=some c->c≠it) (h3:∀p∈X.pn++pins,p.1≠it):Inv X pins σ H { s with heap:=h',toks:=t' }:=by
 have nit:∀b u,H b=some u->b≠it:=λb u e z=>by rw[z,hn] at e;cases e
 refine I.step (g':=s.gens) (d':=s.drawn) (ch:=[it]) (λb hb=>?_) (λb o _ _ hc e _=>k b o (λz=>hc (by simp [z])) e) (λb o _ _ hc e _=>⟨o.slots,k b o (λz=>hc (by simp [z])) e⟩) (λ_ _ _ _ n=>n)
  (λb o hc e=>⟨o,k b o (λz=>hc (by simp [z])) e⟩) (λ_ _ e=>e) (λ_ _ _ e=>e) (λb ps e=>⟨#[],by rw[e];simp⟩) (λm hm=>?_) (λb u e=>?_) I.bare
 ·have e:b=it:=by simpa using hb
  subst e;exact⟨h1,hL,h2,h3⟩
 ·obtain⟨o,es,ep,ho,r⟩:=hm;exact⟨o,es,ep,k _ o (Ne.symm hL) ho,r⟩
 ·refine(I.aX b u e).qI (λc v hc q=>k c v ?_ q) (λ_ q=>q) λ_ _ q=>q;rcases hc with z|z
  ·rw[z];exact nit b u e
  ·exact nit c _ z
def Inv.tok(I:0e5)(t:Nat):Inv X pins σ H { s with toks:=t }:=I.un (h':=s.heap) (t':=t) Un.refl I.aX
theorem Inv.kept{t':Nat}(I:0e5)(k:∀b u,s.heap.get? b=some u->h'.get? b=some u):Inv X pins σ H { s with heap:=h',toks:=t' }:=I.un (Un.kept k) (I.aX.kept k)
theorem Inv.laid{a:Py}{o:HO}{t':Nat}(I:0e5)(k:∀b u,s.heap.get? b=some u->h'.get? b=some u)(hp:s.heap.objs.size<=a)(new:cu X.prog X.w (upd H a o) h' a o):
  Inv X pins σ (upd H a o) { s with heap:=h',toks:=t' }:=I.un (Un.laid k hp (I.aX.fresh hp)) (I.aX.laid k hp new)
theorem Inv.write{x e:Py}{o:HO}{t':Nat}(I:0e5)(mu:VI (H x))(he:e=x\/H e=some (.own x))(k:∀b u,b≠e->s.heap.get? b=some u->h'.get? b=some u)(U1:∃u,h'.get? e=some u)
  (new:cu X.prog X.w (upd H x o) h' x o):Inv X pins σ (upd H x o) { s with heap:=h',toks:=t' }:=I.un (Un.write mu he k U1) (I.aX.write mu he k U1 new)
def Inv.wz{Pp:WP}(I:0e5)(h:∀p∈Pp,s.heap.get? p.1=some p.2/\H p.1=none/\p.1≠X.env.locals/\p.1∉X.fs/\∀v,p.2.data≠ .cell v):Inv X Pp σ H s:=
 ⟨I.ok,I.os,I.bare,I.base,I.loc,I.cell,I.free,I.gC,λp hp=>(mem_append.mp hp).elim (λz=>I.pin p (mem_append_left _ z)) (h p),I.aX,I.len⟩
def qJ{N:On}(hN:N.Nodup){i j:Nat}{x:Str}(a:N[i]? =some x)(b:N[j]? =some x):i=j:=by
 obtain⟨h1,e1⟩:=List.getElem?_eq_some_iff.mp a;obtain⟨h2,e2⟩:=List.getElem?_eq_some_iff.mp b;exact(List.getElem_inj hN).mp (e1.trans e2.symm)
def uJ{M:Model}{A:Pn}{E:XV}{i:Nat}{x:Str}{v:V}{u:Ps}{Q:ZB}(I:0e5)(hN:X.N.Nodup)(hi:X.N[i]? =some x)(hx:Loc X.env.scope x)(r:RelV v u)
  (h:∀s',Inv X pins (σ.set i (some v)) H s'->(∃a,Heap.SameBut a s.heap s'.heap/\(a=X.env.locals\/X.env.cells.lookup x=some a))->Q () s') (hf:X.fn x=true\/X.env.scope.names.lookup x=some .local:=by first|exact .inl rfl|exact .inr rfl|assumption):wpAny M A (storeName X.env x u) Q E s:=by
 obtain⟨m,hn,hl⟩:=id I.loc;have Q1:(X.env.scope.kind== .class||(X.env.scope.kind== .module&&X.env.locals != X.env.globals))=false:=by rw[I.ok.kind];rfl
 have hiσ:i<σ.length:=by rw[I.len];exact(List.getElem?_eq_some_iff.mp hi).1
 have LS:=I.LS
 have tracked:∀{a:Py} {h':Heap},(∃o,s.heap.get? a=some o/\H a=none)->Heap.SameBut a s.heap h'->jV X.prog X.w H h':=fun {a h'} ha hs b ob e=>by
  obtain⟨_,_,Pq⟩:=ha;refine(I.aX b ob e).qI (λc w' hc q=>(hs.2 c ?_).trans q) (λ_ q=>q) λ_ _ q=>q;rintro rfl;rcases hc with rfl|hc
  ·rw[Pq] at e;cases e
  ·rw[Pq] at hc;cases hc
 rcases hx with hk|hk
 ·refine wpAny_storeName_local hk hn (λh' hn' hs=>?_) Q1;obtain⟨oL,_,_,U3,_⟩:=id hn;refine h _ ⟨I.ok,I.os,I.bare,⟨λb o e n hb hx=>?_,λb o e n hb hx=>?_,I.base.free,λb o e hx=>?_,I.base.nY,I.base.nZ,I.base.n4⟩,⟨_,hn',λj y v' e1 e2 e3=>?_⟩,λy c e=>?_,I.free,I.gC,λp hp=>?_,tracked ⟨oL,U3,I.free⟩ hs,by simpa using I.len⟩ ⟨_,hs, .inl rfl⟩
  ·exact(hs.2 b (ne_of_lt (lt_of_lt_of_le (Heap.lt_size e) I.ok.above))).trans (I.base.keep b o e n hb hx)
  ·obtain⟨sl,e1⟩:=I.base.slot b o e n hb hx;exact⟨sl,(hs.2 b (ne_of_lt (lt_of_lt_of_le (Heap.lt_size e) I.ok.above))).trans e1⟩
  ·obtain⟨o',e1⟩:=I.base.there b o e hx;exact⟨o',(hs.2 b (ne_of_lt (lt_of_lt_of_le (Heap.lt_size e) I.ok.above))).trans e1⟩
  ·by_cases hj:j=i
   ·subst hj;rw[hi] at e1;cases e1;rw[List.getElem?_set_self hiσ] at e2;cases e2;exact⟨u,r, .inl ⟨hk,by simp⟩⟩
   ·rw[getElem?_set_ne (Ne.symm hj)] at e2;obtain⟨u',r',q⟩:=hl j y v' e1 e2 e3;refine⟨u',r',?_⟩;rcases q with ⟨k,e⟩ | ⟨k,c,e,z⟩
    ·refine .inl ⟨k,?_⟩;have:y≠x:=λe=>hj (qJ hN e1 (e▸hi));simp [this,e]
    ·exact .inr ⟨k,c,e,z.sameBut hs (LS y c e)⟩
  ·obtain⟨w',z⟩:=I.cell y c e;exact⟨w',z.sameBut hs (LS y c e)⟩
  ·obtain⟨e,n,ne,nf,d⟩:=I.pin p hp;exact⟨(hs.2 p.1 ne).trans e,n,ne,nf,d⟩
 ·have hfn:X.fn x=true:=by
   rcases hf with z|z
   ·exact z
   ·rw[z] at hk;cases hk
  obtain⟨c,hc⟩:=I.ok.has x (.inl hk);obtain⟨w',z⟩:=I.cell x c hc;refine wpAny_storeName_cell I.ok.kind hk hc z (λh' CZ hs=>?_);obtain⟨oc,hoc,hocd⟩:=id z;refine h { s with heap:=h' } ⟨I.ok,I.os,I.bare,⟨λb o e n hb hx=>?_,λb o e n hb hx=>?_,I.base.free,λb o e hx=>?_,I.base.nY,I.base.nZ,I.base.n4⟩,⟨m,hn.sameBut hs (Ne.symm (LS x c hc)),λj y v' e1 e2 e3=>?_⟩,λy c' e=>?_,I.free,I.gC,λp hp=>?_,tracked ⟨oc,hoc,I.gC x c hc⟩ hs,by simpa using I.len⟩ ⟨c,hs, .inr hc⟩
  ·exact(hs.2 b (ne_of_lt (lt_of_lt_of_le (Heap.lt_size e) (I.ok.LR x c hfn hc)))).trans (I.base.keep b o e n hb hx)
  ·obtain⟨sl,e1⟩:=I.base.slot b o e n hb hx;exact⟨sl,(hs.2 b (ne_of_lt (lt_of_lt_of_le (Heap.lt_size e) (I.ok.LR x c hfn hc)))).trans e1⟩
  ·obtain⟨o',e1⟩:=I.base.there b o e hx;exact⟨o',(hs.2 b (ne_of_lt (lt_of_lt_of_le (Heap.lt_size e) (I.ok.LR x c hfn hc)))).trans e1⟩
  ·by_cases hj:j=i
   ·subst hj;rw[hi] at e1;cases e1;rw[List.getElem?_set_self hiσ] at e2;cases e2;exact⟨u,r, .inr ⟨.inl hk,c,hc,CZ⟩⟩
   ·rw[getElem?_set_ne (Ne.symm hj)] at e2;obtain⟨u',r',q⟩:=hl j y v' e1 e2 e3;refine⟨u',r',?_⟩;rcases q with q| ⟨k,c',e,z'⟩
    ·exact .inl q
    ·refine .inr ⟨k,c',e,z'.sameBut hs ?_⟩;rintro rfl;exact hj (qJ hN e1 (I.ok.inj _ _ _ e hc▸hi))
  ·by_cases hcc:c'=c
   ·subst hcc;exact⟨_,CZ⟩
   ·obtain⟨w2,z2⟩:=I.cell y c' e;exact⟨w2,z2.sameBut hs hcc⟩
  ·obtain⟨e,n,ne,nf,d⟩:=I.pin p hp;refine⟨(hs.2 p.1 ?_).trans e,n,ne,nf,d⟩;intro q;rw[q,hoc] at e;have q':oc=p.2:=Option.some.inj e;exact d w' (by rw[<-q'];exact hocd)
def store_ok{M:Model}{A:Pn}{E:XV}{i:Nat}{x:Str}{v:V}{u:Ps}{Q:ZB}(I:0e5)(hN:X.N.Nodup)(hi:X.N[i]? =some x)(hx:Loc X.env.scope x)(r:RelV v u)
  (h:∀s',Inv X pins (σ.set i (some v)) H s'->Q () s') (hf:X.fn x=true\/X.env.scope.names.lookup x=some .local:=by first|exact .inl rfl|exact .inr rfl|assumption):wpAny M A (storeName X.env x u) Q E s:=
 uJ I hN hi hx r (λs' I' _=>h s' I') hf
def Inv.Hf{s':Os}{ch:Ix}(I:0e5)(ho:s'.os=s.os)(u:Un (yE X.stack) ch H H' s.heap s'.heap)(aX:jV X.prog X.w H' s'.heap)(hg:AllBare s'.gens)
  (lP:∀b∈ch,(b∈X.ex\/X.s₀.heap.objs.size<=b)/\b≠X.env.locals/\(∀x c,X.env.cells.lookup x=some c->c≠b)/\∀p∈X.pn++pins,p.1≠b):Inv X pins σ H' s':=by
 obtain⟨h',g',d',t',o'⟩:=s';have e:o'=s.os:=ho;subst e;exact I.call (g':=g') (t':=t') (d':=d') u aX hg lP
end
abbrev XK:=Value->Option Addr->Hp->Prop
abbrev St:=List (Option V)
abbrev VK:=V->Hp->Prop
abbrev TE:=St->Hp->VK->Prop
abbrev TT:=St->Hp->(Bool->Hp->Prop)->Prop
abbrev TA:=St->Hp->(List V->Hp->Prop)->Prop
structure Ends where
 nx:St->Hp->Prop
 rt:VK
 bk:St->Hp->Prop:=λ_ _=>False
 ct:St->Hp->Prop:=λ_ _=>False
abbrev TS:=Ends->St->Hp->Prop
inductive EP(X:Cx)(pins:List (Addr×Obj))(σ:St)(Q:VK)(u:Value)(s':Shared):Prop
 |mk (v H':_) (bM:Inv X pins σ H' s') (bV:RelV v u) (b8:Q v H')
def TP(X:Cx)(pins:WP)(σ:St)(Q:Bool->Hp->Prop)(b:Bool)(s':Os):Prop:=∃H',Inv X pins σ H' s'/\Q b H'
inductive AP(X:Cx)(pins:List (Addr×Obj))(σ:St)(Q:List V->Hp->Prop)(us:List Value)(s':Shared):Prop
 |mk (vs H':_) (bM:Inv X pins σ H' s') (bV:Vals vs us) (b8:Q vs H')
def SP(X:Cx)(pins:WP)(D:Ends)(f:Flow)(s':Os):Prop:=
 match f with
 | .next=>∃σ' H',Inv X pins σ' H' s'/\D.nx σ' H'
 | .brk=>∃σ' H',Inv X pins σ' H' s'/\D.bk σ' H'
 | .cont=>∃σ' H',Inv X pins σ' H' s'/\D.ct σ' H'
 | .ret u=>∃v σ' H',Inv X pins σ' H' s'/\RelV v u/\D.rt v H'
def PE(X:Cx)(e:Expr)(t:TE):Prop:=
 ∀(pins:WP) (s:Os) (σ:St) (H:Hp) (Q:VK),Inv X pins σ H s->t σ H Q->wpAny 0e8 X.A (eval e X.env) (EP X pins σ Q) X.xe s
def PT(X:Cx)(e:Expr)(t:TT):Prop:=
 ∀(pins:WP) (s:Os) (σ:St) (H:Hp) (Q:Bool->Hp->Prop),Inv X pins σ H s->t σ H Q->wpAny 0e8 X.A (isTrue e X.env (eval e X.env)) (TP X pins σ Q) X.xe s
def PW(X:Cx)(e:Expr)(t:TT):Prop:=
 ∀(whole:Sem Value) (pins:WP) (s:Os) (σ:St) (H:Hp) (Q:Bool->Hp->Prop),Inv X pins σ H s->t σ H Q->wpAny 0e8 X.A (isTrue e X.env whole) (TP X pins σ Q) X.xe s
def PW.pt{X:Cx}{e:Expr}{t:TT}(h:PW X e t):PT X e t:=h _
def PA(X:Cx)(es:IN)(t:TA):Prop:=
 ∀(pos:Pos) (pins:WP) (s:Os) (σ:St) (H:Hp) (Q:List V->Hp->Prop),Inv X pins σ H s->t σ H Q->wpAny 0e8 X.A (spliced (backTo pos (starEach es X.env))) (AP X pins σ Q) X.xe s
def PS(X:Cx)(st:Stmt)(t:TS):Prop:=
 ∀(pins:WP) (s:Os) (σ:St) (H:Hp) (D:Ends),Inv X pins σ H s->t D σ H->wpAny 0e8 X.A (exec st X.env) (SP X pins D) X.xe s
def mz(X:Cx)(st:List Stmt)(t:TS):Prop:=
 ∀(pins:WP) (s:Os) (σ:St) (H:Hp) (D:Ends),Inv X pins σ H s->t D σ H->wpAny 0e8 X.A (execs st X.env) (SP X pins D) X.xe s
def b9{α:Type}{t:Sem α}{Q Q':α->Shared->Prop}{M:Model}{A:Pn}{E:XV}{s:Os}(h:wpAny M A t Q E s)(hQ:∀a s,Q a s->Q' a s):wpAny M A t Q' E s:=wpAny_mono h hQ λ_ _ x=>x
section
variable {X:Cx}
inductive RV(i:Nat)(σ:St)(H:Hp)(Q:VK):Prop
 |mk (v:V) (e:σ[i]? =some (some v)) (q:Q v H)
def jZ(i:Nat):TE:=fun σ H Q=>RV i σ H Q
def tC(v:V):TE:=λ_ H Q=>Q v H
def Q2{i:Nat}{x:Str}{pos:Pos}(hN:X.N[i]? =some x)(hv:Vis X.env.scope x)(hd:(x==("__debug__" :Str))=false:=by decide)(mx:(x==("__classdict__" :Str))=false:=by decide):PE X (.Name x pos) (jZ i):=by
 intro pins s σ H Q I h;obtain⟨v,e,h⟩:=h;obtain⟨m,hn,hl⟩:=I.loc;obtain⟨u,r,l⟩:=hl i x v hN e hv;have fin:EP X pins σ Q u s:=⟨v,H,I,r,h⟩;rcases l with ⟨hk,hm⟩ | ⟨hk,c,hc,C0⟩
 ·exact wpAny_Name (wpAny_loadName_local I.ok.kind hk hn hm fin) hd
 ·rcases hk with hk|hk
  ·exact wpAny_Name (wpAny_loadName_cell I.ok.kind hk hc C0 fin) hd
  ·exact wpAny_Name (wpAny_loadName_free I.ok.kind hk hc C0 fin mx) hd
def aq{i j pos}:PE X (.Constant (.int i) j pos) (tC (.int i)):=λ_ _ _ H _ I h=>wpAny_Constant_int ⟨.int i,H,I.tok _,⟨_,rfl⟩,h⟩
def o8{b j pos}:PE X (.Constant (.bool b) j pos) (tC (.bl b)):=λ_ _ _ H _ I h=>Constant_bool ⟨.bl b,H,I,rfl,h⟩
def qK{j pos}:PE X (.Constant .none j pos) (tC .cF):=λ_ _ _ H _ I h=>Constant_none ⟨.cF,H,I,rfl,h⟩
def aZ{x j pos}:PE X (.Constant (.str x) j pos) (tC (.str x)):=λ_ _ _ H _ I h=>Calls.Constant_str ⟨.str x,H,I.tok _,⟨_,rfl⟩,h⟩
def Gl(X:Cx)(x:Str):Prop:=X.env.kindOf x=some .globalImplicit
def i7{E:XV}{pins:WP}{s:Os}{σ:St}{H:Hp}{x:Str}{u:Ps}{pos:Pos}{Q:XV}(I:0e5)(hg:Gl X x)(hm:X.mg x=some u)(h:Q u s)
  (hd:(x==("__debug__" :Str))=false:=by decide):wpAny 0e8 X.A (eval (.Name x pos) X.env) Q E s:=
 Calls.Name_function_global I.ok.kind hg (Calls.loadGlobal_global (by rw[I.ok.glob];exact I.mod.glob.keeps I.bk) hm h) hd
def lW{E:XV}{pins:WP}{s:Os}{σ:St}{H:Hp}{x:Str}{u:Ps}{pos:Pos}{Q:XV}(I:0e5)(hg:Gl X x)(hm:X.mg x=none)(hv:bootBuiltins x=some u)(h:Q u s)
  (hn:x≠"__name__" :=by decide) (hd:(x==("__debug__" :Str))=false:=by decide):wpAny 0e8 X.A (eval (.Name x pos) X.env) Q E s:=by
 obtain⟨mb,h1,h2⟩:=I.mod.blt;exact Calls.Name_function_global I.ok.kind hg (Calls.loadGlobal_builtin (by rw[I.ok.glob];exact I.mod.glob.keeps I.bk) hm (by rw[I.ok.blt];exact h1.keeps I.bk) ((h2 x hn).trans hv) h) hd
def bo{x:Str}{v:V}{u:Ps}{pos:Pos}(hg:Gl X x)(hm:X.mg x=some u)(r:RelV v u)(hd:(x==("__debug__" :Str))=false:=by decide):PE X (.Name x pos) (tC v):=
 λ_ _ _ H _ I h=>i7 I hg hm ⟨v,H,I,r,h⟩ hd
def C1{x:Str}{v:V}{u:Ps}{pos:Pos}(hg:Gl X x)(hm:X.mg x=none)(hv:bootBuiltins x=some u)(r:RelV v u)(hn:x≠"__name__" :=by decide)(hd:(x==("__debug__" :Str))=false:=by decide):PE X (.Name x pos) (tC v):=
 λ_ _ _ H _ I h=>lW I hg hm hv ⟨v,H,I,r,h⟩ hn hd
variable {a b:Expr}{ta tb:TE}{pos:Pos}
def PC(X:Cx)(op:CmpOp)(a b:Expr)(t:TE):Prop:=
 ∀(pins:WP) (s:Os) (σ:St) (H:Hp) (Q:VK),Inv X pins σ H s->t σ H Q->
  wpAny 0e8 X.A (eval a X.env) (λv s₁=>wpAny 0e8 X.A (eval b X.env) (λu s₂=>wpAny 0e8 X.A (compareOp op v u) (EP X pins σ Q) X.xe s₂) X.xe s₁) X.xe s
def yO(b:Expr){op:CmpOp}(h:op≠ .In)(h2:op≠ .NotIn):behindInMarks op b=false:=by
 have e1:(op==CmpOp.In)=false:=by cases op<;>first|rfl|exact absurd rfl h
 have e2:(op==CmpOp.NotIn)=false:=by cases op<;>first|rfl|exact absurd rfl h2
 cases b<;>simp [behindInMarks,e1,e2]
def tIsN(ta:TE):TE:=fun σ H Q=>ta σ H λx H1=>Q (.bl (decide (x= .cF))) H1
def VN(ta:TE):TE:=fun σ H Q=>ta σ H λx H1=>Q (.bl (!decide (x= .cF))) H1
def RelV.yP{x:V}{v:Ps}(r:RelV x v):(v==Value.none)=decide (x= .cF):=by
 cases x with
 |cF=>cases r;rfl
 |bl _=>cases r;rfl
 |int _=>obtain⟨t,rfl⟩:=r;rfl
 |str _=>obtain⟨t,rfl⟩:=r;rfl
 |A8 _=>obtain⟨t,rfl⟩:=r;rfl
 |Pj _=>obtain⟨t,rfl⟩:=r;rfl
 |ref _=>cases r;rfl
 |ty _=>cases r;rfl
def A9{j pos'}(ha:PE X a ta):PC X .Is a (.Constant .none j pos') (tIsN ta):=by
 intro pins s σ H Q I h;refine b9 (ha pins s σ H _ I h) λv s1 ⟨x,H1,I1,r1,q1⟩=>?_;exact Constant_none (is_none_gen ⟨.bl _,H1,I1,by rw[r1.yP];rfl,q1⟩)
def wA{j pos'}(ha:PE X a ta):PC X .IsNot a (.Constant .none j pos') (VN ta):=by
 intro pins s σ H Q I h;refine b9 (ha pins s σ H _ I h) λv s1 ⟨x,H1,I1,r1,q1⟩=>?_;exact Constant_none (isnot_none_gen ⟨.bl _,H1,I1,by rw[r1.yP];rfl,q1⟩)
def tB(t:TE):TT:=fun σ H Q=>t σ H λx H1=>∃c,x= .bl c/\Q c H1
def Q3{op:CmpOp}{t:TE}(h:PC X op a b t)(h1:behindInMarks op b=false:=by first|exact yO _ (by decide) (by decide) |rfl):PE X (.Compare a [op] [b] pos) t:=λpins s σ H Q I hw=>wpAny_Compare1 (h pins s σ H Q I hw) h1
def qL{op:CmpOp}{t:TE}(h:PC X op a b t)(h1:behindInMarks op b=false:=by first|exact yO _ (by decide) (by decide) |rfl):PT X (.Compare a [op] [b] pos) (tB t):=by
 intro pins s σ H Q I hw;refine wpAny_isTrue_Compare1 (b9 (h pins s σ H _ I hw) λv s1 h1=>b9 h1 λu s2 h2=>b9 h2 λc s3 ⟨x,H1,I1,r1,q1⟩=>?_) h1;obtain⟨d,rfl,q⟩:=q1;cases r1;exact wpAny_truthy_bool ⟨H1,I1,q⟩
def i9{e:Expr}{t:TE}(h:PE X e t)(he:∀whole,isTrue e X.env whole=(do let v<-whole;standAt e.pos;holding [v] (truthy v)):=by intro _;rfl):PT X e (tB t):=by
 intro pins s σ H Q I hw;refine isTrue_plain (b9 (h pins s σ H _ I hw) λv s1 ⟨x,H1,I1,r1,q1⟩=>?_) (he _);obtain⟨d,rfl,q⟩:=q1;cases r1;exact wpAny_truthy_bool ⟨H1,I1,q⟩
variable {tA tB':TT}{rest:IN}
def tAnd(t u:TT):TT:=fun σ H Q=>t σ H λc H1=>if c=true then u σ H1 Q else Q false H1
def tOr(t u:TT):TT:=fun σ H Q=>t σ H λc H1=>if c=true then Q true H1 else u σ H1 Q
def tNot(t:TT):TT:=fun σ H Q=>t σ H λc H1=>Q (!c) H1
def pX(ha:PT X a tA):PW X (.BoolOp .And [a] pos) tA:=by
 intro wh pins s σ H Q I h;refine isTrue_and (b9 (ha pins s σ H Q I h) λc s1 e=>?_)
 cases c with
 |true=>exact isTrue_and_nil e
 |false=>exact e
def qM(ha:PT X a tA):PW X (.BoolOp .Or [a] pos) tA:=by
 intro wh pins s σ H Q I h;refine isTrue_or (b9 (ha pins s σ H Q I h) λc s1 e=>?_)
 cases c with
 |false=>exact isTrue_or_nil e
 |true=>exact e
def wB(ha:PT X a tA)(hb:PW X (.BoolOp .And (b::rest) pos) tB'):PW X (.BoolOp .And (a::b::rest) pos) (tAnd tA tB'):=by
 intro wh pins s σ H Q I h;refine isTrue_and (b9 (ha pins s σ H _ I h) λc s1 ⟨H1,I1,q1⟩=>?_)
 cases c with
 |true=>exact hb wh pins s1 σ H1 Q I1 q1
 |false=>exact⟨H1,I1,q1⟩
def uO(ha:PT X a tA)(hb:PW X (.BoolOp .Or (b::rest) pos) tB'):PW X (.BoolOp .Or (a::b::rest) pos) (tOr tA tB'):=by
 intro wh pins s σ H Q I h;refine isTrue_or (b9 (ha pins s σ H _ I h) λc s1 ⟨H1,I1,q1⟩=>?_)
 cases c with
 |true=>exact⟨H1,I1,q1⟩
 |false=>exact hb wh pins s1 σ H1 Q I1 q1
def n5(ha:PT X a tA):PT X (.UnaryOp .Not a pos) (tNot tA):=by
 intro pins s σ H Q I h;exact isTrue_not (ha pins s σ H (λc H1=>Q (!c) H1) I h)
def VO(ta tb:TE):TE:=fun σ H Q=>ta σ H λx H1=>∃c,x= .bl c/\if c=true then tb σ H1 Q else Q (.bl false) H1
def Hg{op}{t:TE}(h:PE X a t):PE X (.BoolOp op [a] pos) t:=λpins s σ H Q I hw=>BoolOp_one (h pins s σ H Q I hw)
def Hh(ha:PE X a ta)(hb:PE X (.BoolOp .And (b::rest) pos) tb):PE X (.BoolOp .And (a::b::rest) pos) (VO ta tb):=by
 intro pins s σ H Q I h;refine BoolOp_and (b9 (ha pins s σ H _ I h) λv s1 ⟨x,H1,I1,r1,q1⟩=>?_);obtain⟨c,rfl,q1⟩:=q1;cases r1;refine wpAny_truthy_bool ?_
 cases c with
 |true=>exact hb pins s1 σ H1 Q I1 q1
 |false=>exact⟨.bl false,H1,I1,U,q1⟩
def tIf(t:TT)(ta tb:TE):TE:=fun σ H Q=>t σ H λc H1=>if c=true then ta σ H1 Q else tb σ H1 Q
def yQ{c:Expr}(hc:PT X c tA)(ha:PE X a ta)(hb:PE X b tb):PE X (.IfExp c a b pos) (tIf tA ta tb):=by
 intro pins s σ H Q I h;refine wpAny_IfExp (b9 (hc pins s σ H _ I h) λd s1 ⟨H1,I1,q1⟩=>?_)
 cases d with
 |true=>exact ha pins s1 σ H1 Q I1 q1
 |false=>exact hb pins s1 σ H1 Q I1 q1
end
def bh(K:Uu)(H:Hp)(a:Py)(xs:KB):Prop:=
 Rd H a (.lst xs)\/
  ∃(o:Obj) (its:Array Value) (n:Nat),K.lookup a=some o/\o.cls= .type "list" /\o.dict=none/\o.data= .seq its n/\its.size<=sizeLine/\Vals xs its.toList
def gE(K:Uu)(H:Hp)(a:Py)(xs:KB):Prop:=
 Rd H a (.tup xs)\/
  ∃(o:Obj) (its:Array Value) (n:Nat),K.lookup a=some o/\o.cls= .type "tuple" /\o.data= .seq its n/\its.size<=sizeLine/\Vals xs its.toList
def absV:Value->Option V
 | .none=>some .cF
 | .bool b=>some (.bl b)
 | .int i _=>some (.int i)
 | .str x _=>some (.str x)
 | .bytes b _=>some (.A8 b)
 | .float b _=>some (.Pj b)
 | .ref a=>some (.ref a)
 | .type n=>some (.ty n)
 |_=>none
def RelV.abs{x:V}{u:Ps}(r:RelV x u):absV u=some x:=by
 cases x with
 |cF=>cases r;rfl
 |bl _=>cases r;rfl
 |int _=>obtain⟨t,rfl⟩:=r;rfl
 |str _=>obtain⟨t,rfl⟩:=r;rfl
 |A8 _=>obtain⟨t,rfl⟩:=r;rfl
 |Pj _=>obtain⟨t,rfl⟩:=r;rfl
 |ref _=>cases r;rfl
 |ty _=>cases r;rfl
theorem RelV.inj{x y:V}{u:Ps}(r:RelV x u)(q:RelV y u):x=y:=Option.some.inj (r.abs.symm.trans q.abs)
theorem Vals.inj:∀{xs ys:KB} {us:UV},Vals xs us->Vals ys us->xs=ys
 |_,_,_, .nil, .nil=>rfl
 |_,_,_, .cons r t, .cons r' t'=>by rw[r.inj r',Vals.inj t t']
section
variable {X:Cx}{pins:WP}{σ:St}{H:Hp}{s:Os}{a:Py}{xs ys:KB}
def bh.of{K:Uu}(h:H a=some (.lst xs)):bh K H a xs:= .inl (.inl h)
def gE.of{K:Uu}(h:H a=some (.tup xs)):gE K H a xs:= .inl (.inl h)
def Inv.list(I:0e5)(h:bh X.K H a xs):∃its:List Value,Vals xs its/\PlainL s.heap a its.toArray/\xs.length<=sizeLine:=by
 rcases h with h| ⟨o,its,n,hk,hc,hd,hs,hz,r⟩
 ·obtain⟨z,its,n,r,e⟩:=h.ok I.aX;exact⟨its,r,⟨_,n,e,U,U,U⟩,z⟩
 ·refine⟨its.toList,r,⟨o,n,I.i6 a o hk,hc,hd,by simpa using hs⟩,?_⟩;have e:=r.length;simp only [Array.length_toList] at e;omega
def Inv.tuple(I:0e5)(h:gE X.K H a xs):∃its:List Value,Vals xs its/\IsTup s.heap a its.toArray/\xs.length<=sizeLine:=by
 rcases h with h| ⟨o,its,n,hk,hc,hs,hz,r⟩
 ·obtain⟨z,its,r,p⟩:=h.ok I.aX;exact⟨its,r,p,z⟩
 ·refine⟨its.toList,r,⟨o,I.i6 a o hk,hc,n,by simpa using hs⟩,?_⟩;have e:=r.length;simp only [Array.length_toList] at e;omega
def Inv.mB(I:0e5)(h:bh X.K H a xs)(h':bh X.K H a ys):xs=ys:=by
 obtain⟨its,r,⟨o,n,e,_,_,d⟩,_⟩:=I.list h;obtain⟨its',r',⟨o',n',e',_,_,d'⟩,_⟩:=I.list h';rw[e] at e';cases e';rw[d] at d';injection d' with d1 _;have:its=its':=by simpa using congrArg Array.toList d1
 subst this;exact r.inj r'
def Inv.EW(I:0e5)(h:gE X.K H a xs)(h':gE X.K H a ys):xs=ys:=by
 obtain⟨its,r,⟨o,e,_,n,d⟩,_⟩:=I.tuple h;obtain⟨its',r',⟨o',e',_,n',d'⟩,_⟩:=I.tuple h';rw[e] at e';cases e';rw[d] at d';injection d' with d1 _;have:its=its':=by simpa using congrArg Array.toList d1
 subst this;exact r.inj r'
end
abbrev Cx.j2(X:Cx)(E:Value->Shared->Prop):Cx:={ X with xe:=E }
abbrev Cx.Hi(X:Cx):Cx:=X.j2 λ_ _=>False
theorem Cx.Ok.j2{X:Cx}(ok:X.Ok)(E:XV):(X.j2 E).Ok:=
 ⟨ok.mod,ok.kind,ok.glob,ok.blt,ok.above,ok.inj,ok.has,ok.LR,ok.hd,ok.frames,ok.Po,ok.U2,ok.bs,ok.EV,ok.wt,ok.wu,ok.lO,ok.He⟩
def Cx.Ok.d6{X:Cx}{E:XV}(ok:(X.j2 E).Ok):X.Ok:=
 ⟨ok.mod,ok.kind,ok.glob,ok.blt,ok.above,ok.inj,ok.has,ok.LR,ok.hd,ok.frames,ok.Po,ok.U2,ok.bs,ok.EV,ok.wt,ok.wu,ok.lO,ok.He⟩
section
variable {X:Cx}{pins:WP}{σ:St}{H:Hp}{s:Os}{E:XV}
theorem Inv.j2(I:0e5)(E:XV):Inv (X.j2 E) pins σ H s:=⟨I.ok.j2 E,I.os,I.bare,I.base,I.loc,I.cell,I.free,I.gC,I.pin,I.aX,I.len⟩
theorem Inv.d6(I:Inv (X.j2 E) pins σ H s):Inv X pins σ H s:=⟨I.ok.d6,I.os,I.bare,I.base,I.loc,I.cell,I.free,I.gC,I.pin,I.aX,I.len⟩
theorem SP.d6{D:Ends}{f:Flow}{s':Os}(h:SP (X.j2 E) pins D f s'):SP X pins D f s':=by
 cases f with
 |next=>obtain⟨σ',H',I,q⟩:=h;exact⟨σ',H',I.d6,q⟩
 |brk=>obtain⟨σ',H',I,q⟩:=h;exact⟨σ',H',I.d6,q⟩
 |cont=>obtain⟨σ',H',I,q⟩:=h;exact⟨σ',H',I.d6,q⟩
 |ret u=>obtain⟨v,σ',H',I,r,q⟩:=h;exact⟨v,σ',H',I.d6,r,q⟩
theorem mz.Hi{st:List Stmt}{t:TS}(h:mz X.Hi st t):mz X st t:=λpins s σ H D I hw=>
 wpAny_mono (h pins s σ H D (I.j2 _) hw) (λ_ _ q=>q.d6) λ_ _ z=>False.elim z
end
section
variable {X:Cx}{st:Stmt}{rest:List Stmt}{t u:TS}{e:Expr}{te:TE}{pos:Pos}
def Hj:TS:=λD σ H=>D.nx σ H
def Hk(t u:TS):TS:=λD σ H=>t { D with nx:=u D } σ H
def aS:mz X [] Hj:=λ_ _ σ H _ I h=>wpAny_execs_nil ⟨σ,H,I,h⟩
def ai(h1:PS X st t)(h2:mz X rest u):mz X (st::rest) (Hk t u):=by
 intro pins s σ H D I h;refine wpAny_execs_cons (b9 (h1 pins s σ H { D with nx:=u D } I h) λf s1 q=>?_)
 cases f with
 |next=>
  obtain⟨σ',H',I',q⟩:=q;exact h2 pins s1 σ' H' D I' q
 |ret v=>exact q
 |brk=>exact q
 |cont=>exact q
def ak(h1:PS X st t):mz X [st] t:=by
 intro pins s σ H D I h;refine wpAny_execs_cons (b9 (h1 pins s σ H D I h) λf s1 q=>?_)
 cases f with
 |next=>exact wpAny_execs_nil q
 |ret v=>exact q
 |brk=>exact q
 |cont=>exact q
def Inv.quiet{pins:WP}{σ:St}{H:Hp}{s:Os}(I:0e5):interactive X.env=false:=by simp [interactive,I.ok.kind]
def VP(te:TE):TS:=λD σ H=>te σ H λ_ H1=>D.nx σ H1
def a7(he:PE X e te)(hs:swapsWith e none pos.line X.env=pure false:=by rfl):PS X (.Expr e pos) (VP te):=by
 intro pins s σ H D I h;exact wpAny_Expr_any (b9 (he pins s σ H _ I h) λv s1 ⟨x,H1,I1,r1,q1⟩=>⟨σ,H1,I1,q1⟩) I.quiet hs
def tRet(te:TE):TS:=λD σ H=>te σ H D.rt
def aH(he:PE X e te):PS X (.Return (some e) pos) (tRet te):=by
 intro pins s σ H D I h;exact wpAny_Return_some (b9 (he pins s σ H _ I h) λv s1 ⟨x,H1,I1,r1,q1⟩=>⟨x,σ,H1,I1,r1,q1⟩)
def VQ:TS:=λD _ H=>D.rt .cF H
def LU:PS X (.Return none pos) VQ:=λ_ _ σ H _ I h=>wpAny_Return_none ⟨.cF,σ,H,I,rfl,h⟩
def Q4(c:TT)(t u:TS):TS:=λD σ H=>c σ H λb H1=>if b=true then t D σ H1 else u D σ H1
def bR{c:Expr}{a b:List Stmt}{tc:TT}(hc:PT X c tc)(ha:mz X a t)(hb:mz X b u):PS X (.If c a b pos) (Q4 tc t u):=by
 intro pins s σ H D I h;refine wpAny_If (b9 (hc pins s σ H _ I h) λd s1 ⟨H1,I1,q1⟩=>?_)
 cases d with
 |true=>exact ha pins s1 σ H1 D I1 q1
 |false=>exact hb pins s1 σ H1 D I1 q1
def Q5:TS:=λ_ _ _=>False
def fZ:PS X st Q5:=λ_ _ _ _ _ _ h=>h.elim
end
abbrev TG:=V->St->Hp->(St->Hp->Prop)->Prop
abbrev Ly:=List V->St->Hp->(St->Hp->Prop)->Prop
def PG(X:Cx)(target:Expr)(t:TG):Prop:=
 ∀(pins:WP) (s:Os) (σ:St) (H:Hp) (v:V) (u:Ps) (Q:St->Hp->Prop),Inv X pins σ H s->RelV v u->t v σ H Q->
  wpAny 0e8 X.A (assign target X.env u) (λ_ s'=>∃σ' H',Inv X pins σ' H' s'/\Q σ' H') X.xe s
def U4(X:Cx)(ts:IN)(t:Ly):Prop:=
 ∀(pins:WP) (s:Os) (σ:St) (H:Hp) (vs:KB) (us:UV) (Q:St->Hp->Prop),Inv X pins σ H s->Vals vs us->t vs σ H Q->
  wpAny 0e8 X.A (assignInOrder ((assignEach ts X.env).map (·.2)) us) (λ_ s'=>∃σ' H',Inv X pins σ' H' s'/\Q σ' H') X.xe s
abbrev Q6:=V->V->V->Hp->(Hp->Prop)->Prop
def VR(X:Cx)(t:Q6):Prop:=
 ∀(pins:WP) (s:Os) (σ:St) (H:Hp) (o i v:V) (ov iv u:Ps) (Q:Hp->Prop),Inv X pins σ H s->RelV o ov->RelV i iv->RelV v u->t o i v H Q->
  wpAny 0e8 X.A (setItem ov iv u) (λ_ s'=>∃H',Inv X pins σ H' s'/\Q H') X.xe s
abbrev TIp:=V->V->Hp->VK->Prop
def PIp(X:Cx)(op:Operator)(t:TIp):Prop:=
 ∀(pins:WP) (s:Os) (σ:St) (H:Hp) (x y:V) (v u:Ps) (Q:VK),Inv X pins σ H s->RelV x v->RelV y u->t x y H Q->
  wpAny 0e8 X.A (inplaceOp op v u) (EP X pins σ Q) X.xe s
section
variable {X:Cx}{pos:Pos}
def bL(i:Nat):TG:=λv σ H Q=>Q (σ.set i (some v)) H
def aF{i:Nat}{x:Str}(hN:X.N.Nodup)(hi:X.N[i]? =some x)(hx:Loc X.env.scope x)(hf:X.fn x=true\/X.env.scope.names.lookup x=some .local:=by first|exact .inl rfl|exact .inr rfl|assumption):PG X (.Name x pos) (bL i):=by
 intro pins s σ H v u Q I r h;exact wpAny_assign_Name (store_ok I hN hi hx r (λs' I'=>⟨_,H,I',h⟩) hf)
def gNil:Ly:=λvs σ H Q=>vs=[]/\Q σ H
inductive Q7(t:TG)(u:Ly)(vs:List V)(σ:St)(H:Hp)(Q:St->Hp->Prop):Prop
 |mk (v r:_) (bM:vs=v::r) (bV:t v σ H fun σ' H'=>u r σ' H' Q)
def VS(t:TG)(u:Ly):Ly:=Q7 t u
def cL:U4 X [] gNil:=by
 intro pins s σ H vs us Q I r h;obtain⟨e,h⟩:=h;subst e;cases r;exact assignInOrder_nil ⟨σ,H,I,h⟩
def aP{e:Expr}{es:IN}{t:TG}{u:Ly}(h1:PG X e t)(h2:U4 X es u)
  (hs:(assignEach (e::es) X.env).map (·.2)=assign e X.env::(assignEach es X.env).map (·.2):=by rfl):U4 X (e::es) (VS t u):=by
 intro pins s σ H vs us Q I r h;obtain⟨v,vr,e1,h⟩:=h;subst e1
 cases r with
 |cons r rr=>
  rw[hs];refine assignInOrder_cons (b9 (h1 pins s σ H _ _ _ I r h) λ_ s1 ⟨σ1,H1,I1,q1⟩=>?_);exact h2 pins s1 σ1 H1 _ _ Q I1 rr q1
inductive VT(K:1e8)(n:Nat)(t:Ly)(v:V)(σ:St)(H:Hp)(Q:St->Hp->Prop):Prop
 |mk (a xs:_) (bM:v= .ref a) (bV:gE K H a xs) (b8:xs.length=n) (cS:t xs σ H Q)
def VU(K:Uu)(n:Nat)(t:Ly):TG:=VT K n t
def eX{es:IN}{k:Nat}{t:Ly}{n:Nat}(hc:X.calm=true)(h:U4 X es t)
  (hn:(assignEach es X.env).length=n:=by rfl) (iu:(assignEach es X.env).findIdx? 1e4=none:=by rfl):PG X (.Tuple es k pos) (VU X.K n t):=by
 intro pins s σ H v u Q I r hw;obtain⟨a,xs,e1,hq,hl,hw⟩:=hw;subst e1;cases r;obtain⟨its,rv,ht,hz⟩:=I.tuple hq;refine assign_Tuple_tuple (I.ok.hd hc) ht (by simp [hn,<-hl,rv.length]) iu λh' hx=>?_;have I1:Inv X pins σ H { s with heap:=h' }:=I.kept (t':=s.toks) λb o e=>hx b o (ne_of_lt (Heap.lt_size e)) e;exact h pins _ σ H xs _ Q I1 (by simpa using rv) hw
def gSub(to ti:TE)(t:Q6):TG:=λv σ H Q=>to σ H λo H1=>ti σ H1 λi H2=>t o i v H2 λH3=>Q σ H3
def Q8{o i:Expr}{to ti:TE}{t:Q6}(ho:PE X o to)(hi:PE X i ti)(hs:VR X t)
  (ha:∀v,assign (.Subscript o i pos) X.env v=(do
   let ov<-holding [v] (eval o X.env)
   let iv<-holding [v,ov] (eval i X.env)
   standAt pos
   holding [v,ov,iv] (setItem ov iv v)
   release [v,ov,iv] []):=by intro _;rfl):PG X (.Subscript o i pos) (gSub to ti t):=by
 intro pins s σ H v u Q I r h;rw[ha];refine wpAny_bind (wpAny_holding (b9 (ho pins s σ H _ I h) λov s1 ⟨x,H1,I1,r1,q1⟩=>?_));refine wpAny_bind (wpAny_holding (b9 (hi pins s1 σ H1 _ I1 q1) λiv s2 ⟨y,H2,I2,r2,q2⟩=>?_));refine wpAny_bind (wpAny_standAt (wpAny_bind (wpAny_holding (b9 (hs pins s2 σ H2 x y v ov iv u _ I2 r1 r2 r q2) λ_ s3 ⟨H3,I3,q3⟩=>?_))));exact wpAny_release ⟨σ,H3,I3,q3⟩
def LV(te:TE)(g:TG):TS:=λD σ H=>te σ H λx H1=>g x σ H1 D.nx
def wC{tg e:Expr}{te:TE}{g:TG}(he:PE X e te)(hg:PG X tg g)(hs:swapsWithSole [tg] e pos.line X.env=pure false:=by rfl)(hw:swappedStores [tg] e X.env=pure none:=by rfl)
  (h1:(assignEach [tg] X.env).map (·.2)=[assign tg X.env]:=by rfl):PS X (.Assign [tg] e pos) (LV te g):=by
 intro pins s σ H D I h;refine wpAny_Assign_stores (b9 (he pins s σ H _ I h) λv s1 ⟨x,H1,I1,r1,q1⟩=>?_) hs hw;rw[h1];exact b9 (hg pins s1 σ H1 x v _ I1 r1 q1) λ_ s2 q=>q
def aA{i:Nat}{x:Str}{e:Expr}{te:TE}{pos':Pos}(hN:X.N.Nodup)(hi:X.N[i]? =some x)(hx:Loc X.env.scope x)(he:PE X e te)(hs:swapsWith e (some (.Name x pos')) pos.line X.env=pure false:=by rfl)(hf:X.fn x=true\/X.env.scope.names.lookup x=some .local:=by first|exact .inl rfl|exact .inr rfl|assumption):
  PS X (.Assign [.Name x pos'] e pos) (LV te (bL i)):=by
 intro pins s σ H D I h;refine wpAny_Assign_Name (b9 (he pins s σ H _ I h) λv s1 ⟨y,H1,I1,r1,q1⟩=>?_) hs;exact store_ok I1 hN hi hx r1 (λs2 I2=>⟨_,H1,I2,q1⟩) hf
def tAug(i:Nat)(te:TE)(ti:TIp):TS:=λD σ H=>∃x,σ[i]? =some (some x)/\te σ H λy H1=>ti x y H1 λz H2=>D.nx (σ.set i (some z)) H2
def Q9{i:Nat}{x:Str}{e:Expr}{te:TE}{op:Operator}{ti:TIp}{pos':Pos}(hN:X.N.Nodup)(hi:X.N[i]? =some x)(hx:Loc X.env.scope x)(he:PE X e te)(ho:PIp X op ti)(hf:X.fn x=true\/X.env.scope.names.lookup x=some .local:=by first|exact .inl rfl|exact .inr rfl|assumption):
  PS X (.AugAssign (.Name x pos') op e pos) (tAug i te ti):=by
 intro pins s σ H D I h;obtain⟨v,e1,h⟩:=h;obtain⟨m,hn,hl⟩:=I.loc;have vis:Vis X.env.scope x:=by rcases hx with k|k;exact .inl k;exact .inr (.inl k)
 obtain⟨u,r,l⟩:=hl i x v hi e1 vis;refine wpAny_AugAssign_Name ?_
 have go:wpAny 0e8 X.A (eval e X.env) (λw s₂=>wpAny 0e8 X.A (inplaceOp op u w) (λr s₃=>wpAny 0e8 X.A (storeName X.env x r) (λ_=>SP X pins D .next) X.xe s₃) X.xe s₂) X.xe s:=by
  refine b9 (he pins s σ H _ I h) λw s1 ⟨y,H1,I1,r1,q1⟩=>?_;refine b9 (ho pins s1 σ H1 v y u w _ I1 r r1 q1) λz s2 ⟨zv,H2,I2,r2,q2⟩=>?_;exact store_ok I2 hN hi hx r2 (λs3 I3=>⟨_,H2,I3,q2⟩) hf
 rcases l with ⟨hk,hm⟩ | ⟨hk,c,hc,C0⟩
 ·exact wpAny_loadName_local I.ok.kind hk hn hm go
 ·rcases hk with hk|hk
  ·exact wpAny_loadName_cell I.ok.kind hk hc C0 go
  ·rcases hx with k|k
   ·have:X.env.scope.names.lookup x=some .free:=hk;rw[k] at this;cases this
   ·have:X.env.scope.names.lookup x=some .free:=hk;rw[k] at this;cases this
inductive ZipI(f:Int->Int->Int)(x:V)(y:V)(H:Hp)(Q:VK):Prop
 |mk (i j:_) (bM:x= .int i) (bV:y= .int j) (b8:Q (.int (f i j)) H)
def ipI(f:Int->Int->Int):TIp:=ZipI f
def Ra:PIp X .Add (ipI λi j=>i+j):=by
 intro pins s σ H x y v u Q I r1 r2 h;obtain⟨i,j,e1,e2,q⟩:=h;subst e1;subst e2;obtain⟨t,rfl⟩:=r1;obtain⟨t',rfl⟩:=r2;exact iadd_int ⟨.int _,H,I.tok _,⟨_,rfl⟩,q⟩
end
section
variable {X:Cx}{pos:Pos}
def Rb(c:TT)(tb:TS):TS:=λD σ H=>∃W:Nat->St->Hp->Prop,(∃m,W m σ H)/\∀m σ H,W m σ H->
 c σ H λb H1=>if b=true then∃N:St->Hp->Prop,(∀σ' H',N σ' H'->∃m',m'<m/\W m' σ' H')/\tb { D with nx:=N,ct:=N,bk:=D.nx } σ H1 else D.nx σ H1
def iR{c:Expr}{body:List Stmt}{tc:TT}{tb:TS}(hp:PassesOwn 0e8 X.A X.env X.xe)(hc:PT X c tc)(hb:mz X body tb):PS X (.While c body [] pos) (Rb tc tb):=by
 intro pins s σ H D I h;obtain⟨W,⟨m0,w0⟩,turn⟩:=h;refine wpAny_While (codeAny_whileLoop (λn s'=>∃σ' H',Inv X pins σ' H' s'/\W n σ' H') ?_ m0 ⟨σ,H,I,w0⟩);rintro n s1 ⟨σ1,H1,I1,w1⟩;refine wpAny_passesOwn hp (b9 (hc pins s1 σ1 H1 _ I1 (turn n σ1 H1 w1)) λb s2 ⟨H2,I2,q2⟩=>?_)
 cases b with
 |true=>
  obtain⟨N,hN,q2⟩:=q2;rw[if_pos rfl];refine wpAny_passesOwn hp (b9 (hb pins s2 σ1 H2 _ I2 q2) λf s3 q3=>?_)
  cases f with
  |next=>
   obtain⟨σ3,H3,I3,n3⟩:=q3;obtain⟨m',hm,w3⟩:=hN σ3 H3 n3;exact⟨m',hm,σ3,H3,I3,w3⟩
  |cont=>
   obtain⟨σ3,H3,I3,n3⟩:=q3;obtain⟨m',hm,w3⟩:=hN σ3 H3 n3;exact⟨m',hm,σ3,H3,I3,w3⟩
  |brk=>exact q3
  |ret v=>exact q3
 |false=>
  rw[if_neg Bool.false_ne_true];exact wpAny_execs_nil ⟨σ1,H2,I2,q2⟩
end
structure It where
 go:Nat->Hp->Prop
 pY:Nat->Hp->V->Hp->Prop
 stop:Nat->Hp->Prop
def lQ(X:Cx)(pins:WP)(H:Hp)(b:Py):Prop:=
 H b=none/\b≠X.env.locals/\b∉X.fs/\(b∈X.ex\/X.s₀.heap.objs.size<=b)/\(∀x c,X.env.cells.lookup x=some c->c≠b)/\∀p∈X.pn++pins,p.1≠b
def Inv.wD{X:Cx}{pins:WP}{σ:St}{H H':Hp}{s:Os}{b:Py}(I:0e5)(hb:s.heap.objs.size<=b)(hn:H' b=none):lQ X pins H' b:=by
 refine⟨hn,ne_of_gt (lt_of_lt_of_le I.lt hb),I.nofs hb, .inr (le_trans I.sz hb),λx c e z=>?_,λp hp z=>?_⟩
 ·obtain⟨v,q⟩:=I.cell x c e;exact absurd (lt_of_lt_of_le q.lt (by rw[z];exact hb)) (lt_irrefl _)
 ·exact absurd (lt_of_lt_of_le (Heap.lt_size (I.pin p hp).1) (by rw[z];exact hb)) (lt_irrefl _)
structure Turn(P:Program)(w:World)(K:1e8)(tg:Expr)(J:It)(fp:List Addr)(it:Addr)(tn:Nat->Heap->Prop):Prop where
 mem:it∈fp
 obj:∀i h,tn i h->∀b∈fp,∃o,h.get? b=some o/\∀v,o.data≠ .cell v
 keep:∀i h h',tn i h->(∀b∈fp,∀o,h.get? b=some o->h'.get? b=some o)->tn i h'
 item:∀(X:Cx),X.prog=P->X.w=w->X.K=K->X.calm=true->∀(i:Nat) (pins:List (Addr×Obj)) (s:Shared) (σ:St) (H:Hp) (E:Value->Shared->Prop),Inv X pins σ H s->(∀b∈fp,lQ X pins H b)->tn i s.heap->J.go i H->
  wpAny (model P w) X.A (pyNext (.ref it)) (λr s1=>∃u,r=some u/\
   wpAny (model P w) X.A (letOwnedTupleGo tg (.ref it) u) (λ_ s2=>∃x H',Inv X pins σ H' s2/\RelV x u/\J.pY i H x H'/\tn (i+1) s2.heap/\∀b∈fp,H' b=none) E s1) E s
 done:∀(X:Cx),X.prog=P->X.w=w->X.K=K->X.calm=true->∀(i:Nat) (pins:List (Addr×Obj)) (s:Shared) (σ:St) (H:Hp) (E:Value->Shared->Prop),Inv X pins σ H s->(∀b∈fp,lQ X pins H b)->tn i s.heap->J.stop i H->
  wpAny (model P w) X.A (pyNext (.ref it)) (λr s1=>r=none/\Inv X pins σ H s1) E s
 self:∀(A:Around) (i:Nat) (s:Shared) (Q:Value->Shared->Prop) (E:Value->Shared->Prop),tn i s.heap->Q (.ref it) s->wpAny (model P w) A (pyIter (.ref it)) Q E s
abbrev TI:=St->Hp->(It->Hp->Prop)->Prop
def PIE(X:Cx)(pins:WP)(σ:St)(tg:Expr)(R:It->Hp->Prop)(itv:Ps)(s2:Os):Prop:=
 ∃(it:Py) (fp:Ix) (tn:Nat->Heap->Prop) (J:It) (H':Hp),itv= .ref it/\Inv X pins σ H' s2/\Turn X.prog X.w X.K tg J fp it tn/\tn 0 s2.heap/\(∀b∈fp,lQ X pins H' b)/\R J H'
def PI(X:Cx)(tg iter:Expr)(wi:TI):Prop:=
 ∀(pins:WP) (s:Os) (σ:St) (H:Hp) (R:It->Hp->Prop),Inv X pins σ H s->wi σ H R->
  wpAny 0e8 X.A (eval iter X.env) (λv s1=>wpAny 0e8 X.A (pyIter v) (PIE X pins σ tg R) X.xe s1) X.xe s
def yR{M:Model}{A:Pn}{E:XV}{s:Os}{tg:Expr}{it:Py}{u:Ps}{o:Obj}{n:String}{vs:Array Value}{Q:ZB}(ho:s.heap.get? it=some o)(hc:o.cls= .type n)(hd:o.data= .fields vs)
  (hn:["enumerate","zip","dict_itemiterator","dict_reverseitemiterator","odict_iterator","itertools.zip_longest","itertools.pairwise"].contains n=false) (hQ:Q () s):wpAny M A (letOwnedTupleGo tg (.ref it) u) Q E s:=by
 unfold letOwnedTupleGo;cases tg<;>first
  |exact wpAny_pure hQ
  | (cases u<;>first
    |exact wpAny_pure hQ
    | (refine wpAny_bind (wpAny_load ho ?_)
       rw[hc,hd];show wpAny M A (if (["enumerate","zip","dict_itemiterator","dict_reverseitemiterator","odict_iterator","itertools.zip_longest","itertools.pairwise"].contains n&&vs[0]? ==some (rawInt _))=true then _ else _) Q E s;rw[if_neg (by intro h;rw[hn,Bool.false_and] at h;cases h)]
       exact wpAny_pure hQ))
def C2(K:Uu)(a:Py):It:=
 ⟨λi H=>∃xs x,bh K H a xs/\xs[i]? =some x,λi H x H'=>H'=H/\∀xs,bh K H a xs->xs[i]? =some x,λi H=>∃xs,bh K H a xs/\xs.length<=i⟩
def VW(K:Uu)(a:Py):It:=
 ⟨λi H=>∃xs x,gE K H a xs/\xs[i]? =some x,λi H x H'=>H'=H/\∀xs,gE K H a xs->xs[i]? =some x,λi H=>∃xs,gE K H a xs/\xs.length<=i⟩
def U5(lo:Int)(n:Nat):It:=⟨λi _=>i<n,λi H x H'=>H'=H/\x= .int (lo+i),λi _=>n<=i⟩
def EX{P:Op}{w:World}{K:Uu}{tg:Expr}(a it:Py):Turn P w K tg (C2 K a) [it] it (λi h=>h.IsListIter it a i) where
 mem:=by simp
 obj:=λi h st b hb=>by
  have e:b=it:=by simpa using hb
  subst e;obtain⟨o,e,c,d⟩:=st;exact⟨o,e,λv z=>by rw[d] at z;cases z⟩
 keep:=λi h h' st k=>st.at λo e=>k it 2e0 o e
 item:=by
  intro X hP hw hK hc i pins s σ H E I hf st hg;subst hP hw hK;obtain⟨xs,x,hq,hx⟩:=hg;obtain⟨its,rv,p,hz⟩:=I.list hq;obtain⟨u,hu,ru⟩:=rv.get hx;obtain⟨f0,f1,f2,f3,f4,f5⟩:=hf it 2e0;refine wpAny_pyNext_list_item st p.isList (x:=u) (by simpa using hu) λh' yS sb=>?_;have I1:Inv X pins σ H { s with heap:=h' }:=I.turned (t':=s.toks) (λb o hb e=>(sb.2 b hb).trans e) f0 f1 f3 f4 f5;obtain⟨o,e,c,d⟩:=id yS;exact⟨u,U,yR (s:={ s with heap:=h' }) e c d 0e2 ⟨x,H,I1,ru,⟨U,λys hy=>by rw[I.mB hy hq];exact hx⟩,yS,λb hb=>(hf b hb).1⟩⟩
 done:=by
  intro X hP hw hK hc i pins s σ H E I hf st hg;subst hP hw hK;obtain⟨xs,hq,hx⟩:=hg;obtain⟨its,rv,p,hz⟩:=I.list hq;obtain⟨f0,f1,f2,f3,f4,f5⟩:=hf it 2e0;have hl:=rv.length;exact wpAny_pyNext_list_end (I.ok.hd hc) st p.isList (by simp;omega) λh' eb=>⟨rfl,I.turned (t':=s.toks) (λb o hb e=>eb b o hb e) f0 f1 f3 f4 f5⟩
 self:=λ_ _ _ _ _ st h=>wpAny_pyIter_listiter st h
def Ba{P:Op}{w:World}{K:Uu}{tg:Expr}(a it:Py):Turn P w K tg (VW K a) [it] it (λi h=>h.IsTupleIter it a i) where
 mem:=by simp
 obj:=λi h st b hb=>by
  have e:b=it:=by simpa using hb
  subst e;obtain⟨o,e,c,d⟩:=st;exact⟨o,e,λv z=>by rw[d] at z;cases z⟩
 keep:=λi h h' st k=>st.at λo e=>k it 2e0 o e
 item:=by
  intro X hP hw hK hc i pins s σ H E I hf st hg;subst hP hw hK;obtain⟨xs,x,hq,hx⟩:=hg;obtain⟨its,rv,p,hz⟩:=I.tuple hq;obtain⟨u,hu,ru⟩:=rv.get hx;obtain⟨f0,f1,f2,f3,f4,f5⟩:=hf it 2e0;refine wpAny_pyNext_tuple_item st (show s.heap.IsTuple a its.toArray from p) (x:=u) (by simpa using hu) λh' yS sb=>?_;have I1:Inv X pins σ H { s with heap:=h' }:=I.turned (t':=s.toks) (λb o hb e=>(sb.2 b hb).trans e) f0 f1 f3 f4 f5;obtain⟨o,e,c,d⟩:=id yS;exact⟨u,U,yR (s:={ s with heap:=h' }) e c d 0e2 ⟨x,H,I1,ru,⟨U,λys hy=>by rw[I.EW hy hq];exact hx⟩,yS,λb hb=>(hf b hb).1⟩⟩
 done:=by
  intro X hP hw hK hc i pins s σ H E I hf st hg;subst hP hw hK;obtain⟨xs,hq,hx⟩:=hg;obtain⟨its,rv,p,hz⟩:=I.tuple hq;obtain⟨f0,f1,f2,f3,f4,f5⟩:=hf it 2e0;have hl:=rv.length;exact wpAny_pyNext_tuple_end (I.ok.hd hc) st (show s.heap.IsTuple a its.toArray from p) (by simp;omega) λh' eb=>⟨rfl,I.turned (t':=s.toks) (λb o hb e=>eb b o hb e) f0 f1 f3 f4 f5⟩
 self:=λ_ _ _ _ _ st h=>wpAny_pyIter_tupleiter st h
def Bb{P:Op}{w:World}{K:Uu}{tg:Expr}(it:Py)(lo:Int)(n:Nat):Turn P w K tg (U5 lo n) [it] it (λi h=>IsRangeIter h it (lo+(i:Nat)*1) ((n:Int) - (i:Nat)) 1) where
 mem:=by simp
 obj:=λi h st b hb=>by
  have e:b=it:=by simpa using hb
  subst e
  exact⟨_,st,λv z=>by
   have z':Data.fields _=Data.cell v:=z
   cases z'⟩
 keep:=λi h h' st k=>k it 2e0 _ st
 item:=by
  intro X hP hw hK hc i pins s σ H E I hf st hg;subst hP hw hK;obtain⟨f0,f1,f2,f3,f4,f5⟩:=hf it 2e0;have W:=Walks.range (prog:=X.prog) (w:=X.w) (I.ok.hd hc) it lo 1 n;refine W.item i s _ _ hg st λv h' tk hv yS kk=>?_;obtain⟨t,rfl⟩:=hv;have I1:Inv X pins σ H { s with heap:=h',toks:=tk }:=I.turned (λb o hb e=>kk b o (by simpa using hb) e) f0 f1 f3 f4 f5;refine⟨_,U,yR (s:={ s with heap:=h',toks:=tk }) (n:="range_iterator") yS rfl rfl 0e2 ⟨.int (lo+i),H,I1,⟨t,?_⟩,⟨U,U⟩,yS,λb hb=>(hf b hb).1⟩⟩;rw[mul_one]
 done:=by
  intro X hP hw hK hc i pins s σ H E I hf st hg;subst hP hw hK;obtain⟨f0,f1,f2,f3,f4,f5⟩:=hf it 2e0;exact wpAny_pyNext_range_end (I.ok.hd hc) st (by have:n<=i:=hg;omega) λh' eb=>⟨rfl,I.turned (t':=s.toks) (λb o hb e=>eb b o hb e) f0 f1 f3 f4 f5⟩
 self:=λ_ _ _ _ _ st h=>wpAny_pyIter_rangeiter st h
section
variable {X:Cx}{tg:Expr}
def VX(K:Uu)(tl:TE):TI:=fun σ H R=>tl σ H λx H1=>∃a,x= .ref a/\(∃xs,bh K H1 a xs)/\R (C2 K a) H1
def iTup(K:Uu)(tl:TE):TI:=fun σ H R=>tl σ H λx H1=>∃a,x= .ref a/\(∃xs,gE K H1 a xs)/\R (VW K a) H1
def cA{l:Expr}{tl:TE}(hl:PE X l tl):PI X tg l (VX X.K tl):=by
 intro pins s σ H R I h;refine b9 (hl pins s σ H _ I h) λv s1 ⟨x,H1,I1,r1,q1⟩=>?_;obtain⟨a,e,⟨xs,hq⟩,q⟩:=q1;subst e;cases r1;obtain⟨its,rv,p,hz⟩:=I1.list hq;refine wpAny_pyIter_list p.isList ?_;refine⟨s1.heap.objs.size,[s1.heap.objs.size],_,_,H1,U,I1.kept (t':=s1.toks) λb o e=>Heap.get?_push_of_some _ e,EX a _,⟨_,Heap.get?_push_size _ rfl,U,U⟩,λb hb=>?_,q⟩;have e:b=s1.heap.objs.size:=by simpa using hb
 subst e;exact I1.wD (le_refl _) (I1.aX.fresh (le_refl _))
def Rf{l:Expr}{tl:TE}(hl:PE X l tl):PI X tg l (iTup X.K tl):=by
 intro pins s σ H R I h;refine b9 (hl pins s σ H _ I h) λv s1 ⟨x,H1,I1,r1,q1⟩=>?_;obtain⟨a,e,⟨xs,hq⟩,q⟩:=q1;subst e;cases r1;obtain⟨its,rv,p,hz⟩:=I1.tuple hq;refine wpAny_pyIter_tuple (show s1.heap.IsTuple a its.toArray from p) ?_;refine⟨s1.heap.objs.size,[s1.heap.objs.size],_,_,H1,U,I1.kept (t':=s1.toks) λb o e=>Heap.get?_push_of_some _ e,Ba a _,⟨_,Heap.get?_push_size _ rfl,U,U⟩,λb hb=>?_,q⟩;have e:b=s1.heap.objs.size:=by simpa using hb
 subst e;exact I1.wD (le_refl _) (I1.aX.fresh (le_refl _))
def Hl{pins:WP}{σ:St}{H:Hp}{s:Os}{R:It->Hp->Prop}{E:XV}{lo hi:Int}{t u v:Tok}{tk:Nat}(I:0e5)(h1: -(2^62)<=lo)(h2:lo<2^62)(h3: -(2^62)<=hi)(h4:hi<2^62)
  (q:R (U5 lo (hi - lo).toNat) H):wpAny 0e8 X.A (pyIter (.ref s.heap.objs.size)) (PIE X pins σ tg R) E { s with heap:=s.heap.push { cls:= .type "range",data:= .fields #[.int lo t, .int hi u, .int 1 v] },toks:=tk }:=by
 refine wpAny_pyIter_range (IsRange.new ..) (small_one h1 h2 h3 h4) ?_;have I1:Inv X pins σ H { s with heap:=s.heap.push { cls:= .type "range",data:= .fields #[.int lo t, .int hi u, .int 1 v] },toks:=tk }:=I.kept λb o e=>Heap.get?_push_of_some _ e
 refine⟨(s.heap.push { cls:= .type "range",data:= .fields #[.int lo t, .int hi u, .int 1 v] }).objs.size,[(s.heap.push { cls:= .type "range",data:= .fields #[.int lo t, .int hi u, .int 1 v] }).objs.size],_,_,H,U,
  I1.kept (t':=tk) λb o e=>Heap.get?_push_of_some _ e,Bb _ lo (hi - lo).toNat,?_,λb hb=>?_,q⟩
 ·have e1:lo+((0 :Nat):Int)*1=lo:=by simp
  have e2:(((hi - lo).toNat:Nat):Int) - ((0 :Nat):Int)=Builtin.Range.rangeSize lo hi 1:=by rw[rangeSize_one];split<;>omega
  show IsRangeIter _ _ (lo+((0 :Nat):Int)*1) ((((hi - lo).toNat:Nat):Int) - ((0 :Nat):Int)) 1;rw[e1,e2];exact Heap.get?_push_size _ rfl
 ·have e:b=(s.heap.push { cls:= .type "range",data:= .fields #[.int lo t, .int hi u, .int 1 v] }).objs.size:=by simpa using hb
  subst e;exact I1.wD (le_refl _) (I1.aX.fresh (le_refl _))
def VY(ta:TA):TI:=fun σ H R=>ta σ H λvs H1=>∃j:Int,vs=[.int j]/\ -(2^62)<=j/\j<2^62/\R (U5 0 j.toNat) H1
def gQ{a:Expr}{ta:TA}{p pos:Pos}(hg:Gl X "range")(hm:X.mg "range" =none)(ha:PA X [a] ta)(hs:starEach [a] X.env=[(false,eval a X.env)]:=by rfl):PI X tg (.Call (.Name "range" p) [a] [] pos) (VY ta):=by
 intro pins s σ H R I h;refine Call_ (lW I hg hm boot_range (PyProof.Rows.callWith_type1 (b9 (ha pos pins s σ H _ I h) λus s1 ⟨vs,H1,I1,r1,q1⟩=>?_) hs rfl));obtain⟨j,e,q1,q2,q⟩:=q1;subst e
 cases r1 with
 |cons r rr=>
  cases rr;obtain⟨t,rfl⟩:=r;exact call_range_1 (Hl I1 0e1 0e1 q1 q2 (by simpa using q))
def Rg(wi:TI)(g:TG)(tb:TS):TS:=λD σ H=>wi σ H λJ H1=>∃W:Nat->Nat->St->Hp->Prop,(∃m,W 0 m σ H1)/\∀i m σ H,W i m σ H->
 (J.stop i H/\D.nx σ H)\/(J.go i H/\∃N:St->Hp->Prop,(∀σ' H',N σ' H'->∃m',m'<m/\W (i+1) m' σ' H')/\∀x H',J.pY i H x H'->g x σ H' fun σ2 H2=>tb { D with nx:=N,ct:=N,bk:=D.nx } σ2 H2)
def qO(fp:Ix)(h:Heap):List (Addr×Obj):=fp.filterMap λb=>(h.get? b).map λo=>(b,o)
def ja{fp:Ix}{h:Heap}{b:Py}{o:Obj}(hb:b∈fp)(e:h.get? b=some o):(b,o)∈qO fp h:=mem_filterMap.mpr ⟨b,hb,by rw[e];rfl⟩
def EY{fp:Ix}{h:Heap}{p:Addr×Obj}(hp:p∈qO fp h):p.1∈fp/\h.get? p.1=some p.2:=by
 obtain⟨b,hb,e⟩:=mem_filterMap.mp hp
 cases q:h.get? b with
 |none=>rw[q] at e;cases e
 |some o=>
  rw[q] at e;have e':(b,o)=p:=Option.some.inj e;subst e';exact⟨hb,q⟩
def Inv.pinned{pins:WP}{σ:St}{H:Hp}{s:Os}{fp:Ix}(I:0e5)(hf:∀b∈fp,lQ X pins H b)(ho:∀b∈fp,∃o,s.heap.get? b=some o/\∀v,o.data≠ .cell v):Inv X (pins++qO fp s.heap) σ H s:=
 I.wz λp hp=>(mem_append.mp hp).elim (λz=>I.pin p (mem_append_right _ z)) λz=>by
   obtain⟨hb,e⟩:=EY z;obtain⟨f0,f1,f2,_⟩:=hf p.1 hb;obtain⟨o,e',d⟩:=ho p.1 hb;rw[e] at e';cases e';exact⟨e,f0,f1,f2,d⟩
def Inv.gb{pins pl:WP}{σ:St}{H:Hp}{s:Os}(I:Inv X (pins++pl) σ H s):Inv X pins σ H s:=I.wz λp hp=>I.pin p (mem_append_right _ (mem_append_left _ hp))
def bF{iter:Expr}{body:List Stmt}{wi:TI}{g:TG}{tb:TS}{pos:Pos}(hp:PassesOwn 0e8 X.A X.env X.xe)(hc:X.calm=true)(hi:PI X tg iter wi)(hg:PG X tg g)(hb:mz X body tb)
  (hs:∀x,foldedSetIterable iter X.env x=pure x:=by intro _;rfl):PS X (.For tg iter body [] pos) (Rg wi g tb):=by
 intro pins s σ H D I h;refine wpAny_For (b9 (hi pins s σ H _ I h) λv s1 h1=>b9 h1 λitv s2 h2=>?_) hs;obtain⟨it,fp,tn,J,H2,e,I2,T,nV,f2,W,⟨m0,w0⟩,turn⟩:=h2;subst e;have Bc:∀{H':Hp},(∀b∈fp,H' b=none)->∀b∈fp,lQ X pins H' b:=λhn b hb=>⟨hn b hb,(f2 b hb).2⟩;refine codeAny_forLoop_any (λn s'=>∃i σ' H',Inv X pins σ' H' s'/\tn i s'.heap/\(∀b∈fp,H' b=none)/\W i n σ' H') ?_ m0 ⟨0,σ,H2,I2,nV,λb hb=>(f2 b hb).1,w0⟩;rintro n s3 ⟨i,σ3,H3,I3,st3,fr3,w3⟩;rcases turn i n σ3 H3 w3 with ⟨stop,qn⟩ | ⟨go,N,hN,step⟩
 ·refine wpAny_passesOwn hp (b9 (T.done X rfl rfl rfl hc i pins s3 σ3 H3 X.xe I3 (Bc fr3) st3 stop) λr s4 ⟨hr,I4⟩=>?_);subst hr;exact wpAny_execs_nil ⟨σ3,H3,I4,qn⟩
 ·refine wpAny_passesOwn hp (b9 (T.item X rfl rfl rfl hc i pins s3 σ3 H3 X.xe I3 (Bc fr3) st3 go) λr s4 ⟨u,hr,h4⟩=>?_);subst hr;refine wpAny_passesOwn hp (b9 h4 λ_ s5 ⟨x,H5,I5,r5,y5,st5,fr5⟩=>?_);have I5':=I5.pinned (Bc fr5) (T.obj _ _ st5);refine wpAny_passesOwn hp (b9 (hg _ s5 σ3 H5 x u _ I5' r5 (step x H5 y5)) λ_ s6 ⟨σ6,H6,I6,q6⟩=>?_);refine wpAny_passesOwn hp (b9 (hb _ s6 σ6 H6 _ I6 q6) λf s7 q7=>?_)
  have again:∀{σ7:St} {H7:Hp},Inv X (pins++qO fp s5.heap) σ7 H7 s7->N σ7 H7->∃m,m<n/\∃i σ' H',Inv X pins σ' H' s7/\tn i s7.heap/\(∀b∈fp,H' b=none)/\W i m σ' H':=fun {σ7 H7} I7 n7=>by
   obtain⟨m',hm,w7⟩:=hN σ7 H7 n7;refine⟨m',hm,i+1,σ7,H7,I7.gb,T.keep _ _ _ st5 λb hb o e=>(I7.pin (b,o) (mem_append_right _ (mem_append_right _ (ja hb e)))).1,λb hb=>?_,w7⟩;obtain⟨o,e,d⟩:=T.obj _ _ st5 b hb;exact(I7.pin (b,o) (mem_append_right _ (mem_append_right _ (ja hb e)))).2.1
  cases f with
  |next=>obtain⟨σ7,H7,I7,n7⟩:=q7;exact again I7 n7
  |cont=>obtain⟨σ7,H7,I7,n7⟩:=q7;exact again I7 n7
  |brk=>obtain⟨σ7,H7,I7,q7⟩:=q7;exact⟨σ7,H7,I7.gb,q7⟩
  |ret v=>obtain⟨x7,σ7,H7,I7,r7,q7⟩:=q7;exact⟨x7,σ7,H7,I7.gb,r7,q7⟩
end
def du{K:Uu}{a:Py}{xs:KB}{g:TG}{tb:TS}{D:Ends}{σ:St}{H:Hp}(Pv:Nat->St->Hp->Prop)(h0:Pv 0 σ H)(hl:∀i σ H,i<=xs.length->Pv i σ H->bh K H a xs)
  (hs:∀i x σ H,xs[i]? =some x->Pv i σ H->g x σ H fun σ2 H2=>tb { D with nx:=Pv (i+1),ct:=Pv (i+1),bk:=D.nx } σ2 H2) (hd:∀σ H,Pv xs.length σ H->D.nx σ H):
  ∃W:Nat->Nat->St->Hp->Prop,(∃m,W 0 m σ H)/\∀i m σ H,W i m σ H->
   ((C2 K a).stop i H/\D.nx σ H)\/((C2 K a).go i H/\∃N:St->Hp->Prop,(∀σ' H',N σ' H'->∃m',m'<m/\W (i+1) m' σ' H')/\∀x H',(C2 K a).pY i H x H'->g x σ H' fun σ2 H2=>tb { D with nx:=N,ct:=N,bk:=D.nx } σ2 H2):=by
 refine⟨λi m σ H=>m=xs.length - i/\i<=xs.length/\Pv i σ H,⟨xs.length,by simp,zero_le _,h0⟩,?_⟩;rintro i m σ H ⟨rfl,hi,p⟩;have q:=hl i σ H hi p;by_cases lT:i<xs.length
 ·refine .inr ⟨⟨xs,xs[i],q,by simp [lT]⟩,Pv (i+1),fun σ' H' p'=>⟨xs.length - (i+1),by omega,rfl,lT,p'⟩,λx H' y=>?_⟩;obtain⟨e,y⟩:=y;subst e;exact hs i x σ _ (y xs q) p
 ·have e:i=xs.length:=by omega
  subst e;exact .inl ⟨⟨xs,q,le_refl _⟩,hd σ H p⟩
def LW{K:Uu}{a:Py}{xs:KB}{g:TG}{tb:TS}{D:Ends}{σ:St}{H:Hp}(Pv:Nat->St->Hp->Prop)(h0:Pv 0 σ H)(hl:∀i σ H,i<=xs.length->Pv i σ H->gE K H a xs)
  (hs:∀i x σ H,xs[i]? =some x->Pv i σ H->g x σ H fun σ2 H2=>tb { D with nx:=Pv (i+1),ct:=Pv (i+1),bk:=D.nx } σ2 H2) (hd:∀σ H,Pv xs.length σ H->D.nx σ H):
  ∃W:Nat->Nat->St->Hp->Prop,(∃m,W 0 m σ H)/\∀i m σ H,W i m σ H->
   ((VW K a).stop i H/\D.nx σ H)\/((VW K a).go i H/\∃N:St->Hp->Prop,(∀σ' H',N σ' H'->∃m',m'<m/\W (i+1) m' σ' H')/\∀x H',(VW K a).pY i H x H'->g x σ H' fun σ2 H2=>tb { D with nx:=N,ct:=N,bk:=D.nx } σ2 H2):=by
 refine⟨λi m σ H=>m=xs.length - i/\i<=xs.length/\Pv i σ H,⟨xs.length,by simp,zero_le _,h0⟩,?_⟩;rintro i m σ H ⟨rfl,hi,p⟩;have q:=hl i σ H hi p;by_cases lT:i<xs.length
 ·refine .inr ⟨⟨xs,xs[i],q,by simp [lT]⟩,Pv (i+1),fun σ' H' p'=>⟨xs.length - (i+1),by omega,rfl,lT,p'⟩,λx H' y=>?_⟩;obtain⟨e,y⟩:=y;subst e;exact hs i x σ _ (y xs q) p
 ·have e:i=xs.length:=by omega
  subst e;exact .inl ⟨⟨xs,q,le_refl _⟩,hd σ H p⟩
def gR{lo:Int}{n:Nat}{g:TG}{tb:TS}{D:Ends}{σ:St}{H:Hp}(Pv:Nat->St->Hp->Prop)(h0:Pv 0 σ H)
  (hs:∀i σ H,i<n->Pv i σ H->g (.int (lo+i)) σ H fun σ2 H2=>tb { D with nx:=Pv (i+1),ct:=Pv (i+1),bk:=D.nx } σ2 H2) (hd:∀σ H,Pv n σ H->D.nx σ H):
  ∃W:Nat->Nat->St->Hp->Prop,(∃m,W 0 m σ H)/\∀i m σ H,W i m σ H->
   ((U5 lo n).stop i H/\D.nx σ H)\/((U5 lo n).go i H/\∃N:St->Hp->Prop,(∀σ' H',N σ' H'->∃m',m'<m/\W (i+1) m' σ' H')/\∀x H',(U5 lo n).pY i H x H'->g x σ H' fun σ2 H2=>tb { D with nx:=N,ct:=N,bk:=D.nx } σ2 H2):=by
 refine⟨λi m σ H=>m=n - i/\i<=n/\Pv i σ H,⟨n,by simp,zero_le _,h0⟩,?_⟩;rintro i m σ H ⟨rfl,hi,p⟩;by_cases lT:i<n
 ·refine .inr ⟨lT,Pv (i+1),fun σ' H' p'=>⟨n - (i+1),by omega,rfl,lT,p'⟩,λx H' y=>?_⟩;obtain⟨e,y⟩:=y;subst e y;exact hs i σ _ lT p
 ·have e:i=n:=by omega
  subst e;exact .inl ⟨le_refl _,hd σ H p⟩
abbrev R2:=V->V->Hp->VK->Prop
def mC(X:Cx)(f:Value->Value->Sem Value)(r:R2):Prop:=
 ∀(pins:WP) (s:Os) (σ:St) (H:Hp) (x y:V) (v u:Ps) (Q:VK),Inv X pins σ H s->RelV x v->RelV y u->r x y H Q->
  wpAny 0e8 X.A (f v u) (EP X pins σ Q) X.xe s
def UnR(X:Cx)(f:Value->Sem Value)(r:V->Hp->VK->Prop):Prop:=
 ∀(pins:WP) (s:Os) (σ:St) (H:Hp) (x:V) (v:Ps) (Q:VK),Inv X pins σ H s->RelV x v->r x H Q->
  wpAny 0e8 X.A (f v) (EP X pins σ Q) X.xe s
def gc(X:Cx)(f:Ps)(r:List V->Hp->VK->Prop):Prop:=
 ∀(pins:WP) (s:Os) (σ:St) (H:Hp) (xs:KB) (us:UV) (Q:VK),Inv X pins σ H s->Vals xs us->r xs H Q->
  wpAny 0e8 X.A (call f us) (EP X pins σ Q) X.xe s
def TruR(X:Cx)(r:V->Hp->(Bool->Hp->Prop)->Prop):Prop:=
 ∀(pins:WP) (s:Os) (σ:St) (H:Hp) (x:V) (v:Ps) (Q:Bool->Hp->Prop),Inv X pins σ H s->RelV x v->r x H Q->
  wpAny 0e8 X.A (truthy v) (TP X pins σ Q) X.xe s
def Rh(r:R2)(ta tb:TE):TE:=fun σ H Q=>ta σ H λx H1=>tb σ H1 λy H2=>r x y H2 Q
def tUn(r:V->Hp->VK->Prop)(ta:TE):TE:=fun σ H Q=>ta σ H λx H1=>r x H1 Q
inductive RI(C:Int->Int->Prop)(g:Int->Int->V)(x y:V)(H:Hp)(Q:VK):Prop
 |mk (i j:Int) (e:x= .int i) (f:y= .int j) (c:C i j) (q:Q (g i j) H)
def rI(C:Int->Int->Prop)(g:Int->Int->V):R2:=RI C g
inductive RJ(g:Int->Int->V)(x y:V)(H:Hp)(Q:VK):Prop
 |mk (i j:Int) (e:x= .int i) (f:y= .int j) (q:Q (g i j) H)
def Lz(g:Int->Int->V):R2:=RJ g
def rU(g:Int->V):V->Hp->VK->Prop:=λx H Q=>∃i,x= .int i/\Q (g i) H
section
variable {X:Cx}{a b c:Expr}{ta tb tc:TE}{pos:Pos}
def Ri(ha:PE X a ta)(hb:PE X b tb){pins:WP}{s:Os}{σ:St}{H:Hp}{R:V->V->Hp->Prop}(I:0e5)
  (h:ta σ H λx H1=>tb σ H1 λy H2=>R x y H2) {Q:XV} {f:Value->Value->Sem Value}
  (hf:∀v u s2 x y H2,Inv X pins σ H2 s2->RelV x v->RelV y u->R x y H2->wpAny 0e8 X.A (f v u) Q X.xe s2):
  wpAny 0e8 X.A (eval a X.env) (λv s₁=>wpAny 0e8 X.A (eval b X.env) (λu s₂=>wpAny 0e8 X.A (f v u) Q X.xe s₂) X.xe s₁) X.xe s:=by
 refine b9 (ha pins s σ H _ I h) λv s1 ⟨x,H1,I1,r1,q1⟩=>?_;refine b9 (hb pins s1 σ H1 _ I1 q1) λu s2 ⟨y,H2,I2,r2,q2⟩=>?_;exact hf v u s2 x y H2 I2 r1 r2 q2
def av{op:Operator}{r:R2}(ho:mC X (binaryOp op) r)(ha:PE X a ta)(hb:PE X b tb):PE X (.BinOp a op b pos) (Rh r ta tb):=by
 intro pins s σ H Q I h;exact wpAny_BinOp (Ri ha hb I h λv u s2 x y H2 I2 rx ry q=>ho pins s2 σ H2 x y v u Q I2 rx ry q)
def qP{op:UnaryOp}{r:V->Hp->VK->Prop}(ho:UnR X (unaryOp op) r)(ha:PE X a ta):PE X (.UnaryOp op a pos) (tUn r ta):=by
 intro pins s σ H Q I h;exact UnaryOp_ (b9 (ha pins s σ H _ I h) λv s1 ⟨x,H1,I1,r1,q1⟩=>ho pins s1 σ H1 x v Q I1 r1 q1)
def U6{f:Value->Value->Sem Value}{C:Int->Int->Prop}{g:Int->Int->Int}
  (rule:∀(i j:Int) (t u:Tok) (s:Os) (Q:XV) (E:XV),C i j->Q (.int (g i j) s.toks) { s with toks:=s.toks+1 }->wpAny 0e8 X.A (f (.int i t) (.int j u)) Q E s):
  mC X f (rI C λi j=> .int (g i j)):=by
 intro pins s σ H x y v u Q I rx ry h;obtain⟨i,j,rfl,rfl,hc,q⟩:=h;obtain⟨t,rfl⟩:=rx;obtain⟨t',rfl⟩:=ry;exact rule i j t t' s _ _ hc ⟨.int (g i j),H,I.tok _,⟨_,rfl⟩,q⟩
def VZ{f:Value->Value->Sem Value}{g:Int->Int->Int}
  (rule:∀(i j:Int) (t u:Tok) (s:Os) (Q:XV) (E:XV),Q (.int (g i j) s.toks) { s with toks:=s.toks+1 }->wpAny 0e8 X.A (f (.int i t) (.int j u)) Q E s):
  mC X f (Lz λi j=> .int (g i j)):=by
 intro pins s σ H x y v u Q I rx ry h;obtain⟨i,j,rfl,rfl,q⟩:=h;obtain⟨t,rfl⟩:=rx;obtain⟨t',rfl⟩:=ry;exact rule i j t t' s _ _ ⟨.int (g i j),H,I.tok _,⟨_,rfl⟩,q⟩
def LX{f:Value->Value->Sem Value}{g:Int->Int->Bool}
  (rule:∀(i j:Int) (t u:Tok) (s:Os) (Q:XV) (E:XV),Q (.bool (g i j)) s->wpAny 0e8 X.A (f (.int i t) (.int j u)) Q E s):
  mC X f (Lz λi j=> .bl (g i j)):=by
 intro pins s σ H x y v u Q I rx ry h;obtain⟨i,j,rfl,rfl,q⟩:=h;obtain⟨t,rfl⟩:=rx;obtain⟨t',rfl⟩:=ry;exact rule i j t t' s _ _ ⟨.bl (g i j),H,I,rfl,q⟩
def CDiv(i j:Int):Prop:=0<j/\j<1073741824
def CPow(i j:Int):Prop:=0<=j/\j<=1000000/\i.natAbs<2^64
def Hm(i j:Int):Prop:=(-(2^64) <i/\i<2^64)\/(-(2^64) <j/\j<2^64)
def Hm.ok{i j:Int}(h:Hm i j):IntMulOk i j:=by
 rcases h with ⟨h1,h2⟩ | ⟨h1,h2⟩
 ·exact .of_left (intBits_le_64 h1 h2)
 ·exact .of_right (intBits_le_64 h1 h2)
def bC:mC X (binaryOp .Add) (Lz λi j=> .int (i+j)):=VZ λ_ _ _ _ _ _ _ q=>add_int q
def j3:mC X (binaryOp .Sub) (Lz λi j=> .int (i - j)):=VZ λ_ _ _ _ _ _ _ q=>sub_int q
def dm:mC X (binaryOp .Mult) (rI Hm λi j=> .int (i*j)):=U6 λ_ _ _ _ _ _ _ hc q=>mul_int q hc.ok
def iw:mC X (binaryOp .FloorDiv) (rI CDiv λi j=> .int (i/j)):=U6 λi j _ _ _ _ _ hc q=>by
 have h1:(0 :Int) <j:=hc.1;have h2:j<1073741824:=hc.2;exact floordiv_int 0e1 (by rw[Int.fdiv_eq_ediv_of_nonneg i 0e1];exact q) (.inl (PyProof.noPylong_small 0e1))
def bN:mC X (binaryOp .Mod) (rI (λ_ j=>0<j) λi j=> .int (i%j)):=U6 λi j _ _ _ _ _ hc q=>by
 have h1:(0 :Int) <j:=hc;exact mod_int' 0e1 (by rw[Int.fmod_eq_emod_of_nonneg i 0e1];exact q)
def Hn:mC X (binaryOp .Pow) (rI CPow λi j=> .int (i^j.toNat)):=U6 λ_ _ _ _ _ _ _ hc q=>pow_int_small hc.1 hc.2.1 hc.2.2 q
def unI{f:Value->Sem Value}{g:Int->Int}
  (rule:∀(i:Int) (t:Tok) (s:Os) (Q:XV) (E:XV),Q (.int (g i) s.toks) { s with toks:=s.toks+1 }->wpAny 0e8 X.A (f (.int i t)) Q E s):
  UnR X f (rU λi=> .int (g i)):=by
 intro pins s σ H x v Q I rx h;obtain⟨i,rfl,q⟩:=h;obtain⟨t,rfl⟩:=rx;exact rule i t s _ _ ⟨.int (g i),H,I.tok _,⟨_,rfl⟩,q⟩
def lX:UnR X (unaryOp .USub) (rU λi=> .int (-i)):=unI λ_ _ _ _ _ q=>neg_int q
end
def V0:V->V->Bool
 | .cF, .cF=>true| .cF, .int _=>true| .int _, .cF=>true| .cF, .bl _=>true| .bl _, .cF=>true| .cF, .str _=>true| .str _, .cF=>true
 | .int _, .int _=>true| .bl _, .bl _=>true| .str _, .str _=>true| .A8 _, .A8 _=>true
 | .int _, .str _=>true| .str _, .int _=>true| .bl _, .str _=>true| .str _, .bl _=>true
 |_,_=>false
def rEq:R2:=λx y H Q=>V0 x y=true/\Q (.bl (decide (x=y))) H
def rNe:R2:=λx y H Q=>V0 x y=true/\Q (.bl (!decide (x=y))) H
def C3{i j:Int}:decide (V.int i=V.int j)=(i==j):=by
 rw[Bool.eq_iff_iff];simp
def Ho{i j:Bool}:decide (V.bl i=V.bl j)=(i==j):=by
 rw[Bool.eq_iff_iff];simp
def C4{i j:Str}:decide (V.str i=V.str j)=(i==j):=by
 rw[Bool.eq_iff_iff];simp
def C5{i j:Array UInt8}:decide (V.A8 i=V.A8 j)=(i.toList==j.toList):=by
 rw[Bool.eq_iff_iff];cases i;cases j;simp
section
variable {X:Cx}{a b c:Expr}{ta tb tc:TE}{pos:Pos}
def b6{pins:WP}{σ:St}{H:Hp}{s:Os}{Q:VK}{k k':Bool}(I:0e5)(q:Q (.bl k) H)(e:k=k'):EP X pins σ Q (.bool k') s:=by
 subst e;exact⟨.bl k,H,I,U,q⟩
def gf:mC X (compareOp .Eq) rEq:=by
 intro pins s σ H x y v u Q I rx ry h;obtain⟨hs,q⟩:=h
 cases x with
 |cF=>
  cases rx
  cases y with
  |cF=>cases ry;exact PySem.EqNone.eq_none_none (b6 I q 2e0)
  |bl j=>cases ry;exact PySem.EqNone.eq_none_bool (b6 I q 2e0)
  |int j=>obtain⟨t',rfl⟩:=ry;exact PySem.EqNone.eq_none_int (b6 I q 2e0)
  |str j=>obtain⟨t',rfl⟩:=ry;exact PySem.EqNone.eq_none_str (b6 I q 2e0)
  |_=>exact absurd (show false=true from hs) Bool.false_ne_true
 |bl i=>
  cases rx
  cases y with
  |cF=>cases ry;exact PySem.EqNone.eq_bool_none (b6 I q 2e0)
  |bl j=>cases ry;exact eq_bool (b6 I q Ho)
  |str j=>obtain⟨t',rfl⟩:=ry;exact PySem.EqMixed.eq_bool_str (b6 I q 2e0)
  |_=>exact absurd (show false=true from hs) Bool.false_ne_true
 |int i=>
  obtain⟨t,rfl⟩:=rx
  cases y with
  |cF=>cases ry;exact PySem.EqNone.eq_int_none (b6 I q 2e0)
  |int j=>obtain⟨t',rfl⟩:=ry;exact eq_int (b6 I q C3)
  |str j=>obtain⟨t',rfl⟩:=ry;exact PySem.EqMixed.eq_int_str (b6 I q 2e0)
  |_=>exact absurd (show false=true from hs) Bool.false_ne_true
 |str i=>
  obtain⟨t,rfl⟩:=rx
  cases y with
  |cF=>cases ry;exact PySem.EqNone.eq_str_none (b6 I q 2e0)
  |bl j=>cases ry;exact PySem.EqMixed.eq_str_bool (b6 I q 2e0)
  |int j=>obtain⟨t',rfl⟩:=ry;exact PySem.EqMixed.eq_str_int (b6 I q 2e0)
  |str j=>obtain⟨t',rfl⟩:=ry;exact eq_str (b6 I q C4)
  |_=>exact absurd (show false=true from hs) Bool.false_ne_true
 |A8 i=>
  obtain⟨t,rfl⟩:=rx
  cases y with
  |A8 j=>obtain⟨t',rfl⟩:=ry;exact PySem.W.eq_bytes (b6 I q C5)
  |_=>exact absurd (show false=true from hs) Bool.false_ne_true
 |_=>cases y<;>exact absurd (show false=true from hs) Bool.false_ne_true
def mD:mC X (compareOp .NotEq) rNe:=by
 intro pins s σ H x y v u Q I rx ry h;obtain⟨hs,q⟩:=h
 cases x with
 |cF=>
  cases rx
  cases y with
  |cF=>cases ry;exact PySem.EqNone.ne_none_none (b6 I q 2e0)
  |bl j=>cases ry;exact PySem.EqNone.ne_none_bool (b6 I q 2e0)
  |int j=>obtain⟨t',rfl⟩:=ry;exact PySem.EqNone.ne_none_int (b6 I q 2e0)
  |str j=>obtain⟨t',rfl⟩:=ry;exact PySem.EqNone.ne_none_str (b6 I q 2e0)
  |_=>exact absurd (show false=true from hs) Bool.false_ne_true
 |bl i=>
  cases rx
  cases y with
  |cF=>cases ry;exact PySem.EqNone.ne_bool_none (b6 I q 2e0)
  |bl j=>cases ry;exact ne_bool (b6 I q (congrArg not Ho))
  |str j=>obtain⟨t',rfl⟩:=ry;exact PySem.EqMixed.ne_bool_str (b6 I q 2e0)
  |_=>exact absurd (show false=true from hs) Bool.false_ne_true
 |int i=>
  obtain⟨t,rfl⟩:=rx
  cases y with
  |cF=>cases ry;exact PySem.EqNone.ne_int_none (b6 I q 2e0)
  |int j=>obtain⟨t',rfl⟩:=ry;exact ne_int (b6 I q (congrArg not C3))
  |str j=>obtain⟨t',rfl⟩:=ry;exact PySem.EqMixed.ne_int_str (b6 I q 2e0)
  |_=>exact absurd (show false=true from hs) Bool.false_ne_true
 |str i=>
  obtain⟨t,rfl⟩:=rx
  cases y with
  |cF=>cases ry;exact PySem.EqNone.ne_str_none (b6 I q 2e0)
  |bl j=>cases ry;exact PySem.EqMixed.ne_str_bool (b6 I q 2e0)
  |int j=>obtain⟨t',rfl⟩:=ry;exact PySem.EqMixed.ne_str_int (b6 I q 2e0)
  |str j=>obtain⟨t',rfl⟩:=ry;exact ne_str (b6 I q (congrArg not C4))
  |_=>exact absurd (show false=true from hs) Bool.false_ne_true
 |A8 i=>
  obtain⟨t,rfl⟩:=rx
  cases y with
  |A8 j=>obtain⟨t',rfl⟩:=ry;exact PySem.W.ne_bytes (b6 I q (congrArg not C5))
  |_=>exact absurd (show false=true from hs) Bool.false_ne_true
 |_=>cases y<;>exact absurd (show false=true from hs) Bool.false_ne_true
def qQ:mC X (compareOp .Lt) (Lz λi j=> .bl (decide (i<j))):=LX λ_ _ _ _ _ _ _ q=>lt_int q
def Pr:mC X (compareOp .LtE) (Lz λi j=> .bl (decide (i<=j))):=LX λ_ _ _ _ _ _ _ q=>le_int q
def j4:mC X (compareOp .Gt) (Lz λi j=> .bl (decide (j<i))):=LX λ_ _ _ _ _ _ _ q=>gt_int q
def V1:mC X (compareOp .GtE) (Lz λi j=> .bl (decide (j<=i))):=LX λ_ _ _ _ _ _ _ q=>ge_int q
def aT(b:Expr){op:CmpOp}(h:op≠ .In:=by decide)(h2:op≠ .NotIn:=by decide):behindInMarks op b=false:=by
 have e1:(op==CmpOp.In)=false:=by cases op<;>first|rfl|exact absurd rfl h
 have e2:(op==CmpOp.NotIn)=false:=by cases op<;>first|rfl|exact absurd rfl h2
 cases b<;>simp [behindInMarks,e1,e2]
def pZ{op:CmpOp}{r:R2}(ho:mC X (compareOp op) r)(ha:PE X a ta)(hb:PE X b tb)(hm:behindInMarks op b=false):PE X (.Compare a [op] [b] pos) (Rh r ta tb):=by
 intro pins s σ H Q I h;exact wpAny_Compare1 (Ri ha hb I h λv u s2 x y H2 I2 rx ry q=>ho pins s2 σ H2 x y v u Q I2 rx ry q) hm
def V2(t:TE):TT:=fun σ H Q=>t σ H λx H'=>∃k,x= .bl k/\Q k H'
def aO{op:CmpOp}{r:R2}(ho:mC X (compareOp op) r)(ha:PE X a ta)(hb:PE X b tb)(hm:behindInMarks op b=false):PT X (.Compare a [op] [b] pos) (V2 (Rh r ta tb)):=by
 intro pins s σ H Q I h
 refine wpAny_isTrue_Compare1 (b9 (ha pins s σ H _ I h) λv s1 ⟨x,H1,I1,r1,q1⟩=>b9 (hb pins s1 σ H1 _ I1 q1) λu s2 ⟨y,H2,I2,r2,q2⟩=>
  b9 (ho pins s2 σ H2 x y v u _ I2 r1 r2 q2) λc s3 ⟨z,H3,I3,r3,k,e,q3⟩=>?_) hm
 subst e;cases r3;exact wpAny_truthy_bool ⟨H3,I3,q3⟩
def Rj(r r':R2)(ta tb tc:TE):TE:=fun σ H Q=>ta σ H λx H1=>tb σ H1 λy H2=>r x y H2 λz H3=>∃k,z= .bl k/\
 (if k=true then tc σ H3 λw' H4=>r' y w' H4 Q else Q (.bl false) H3)
def qR{op op':CmpOp}{r r':R2}(ho:mC X (compareOp op) r)(yF:mC X (compareOp op') r')(ha:PE X a ta)(hb:PE X b tb)(hc:PE X c tc)
  (hm:lastMarks [op,op'] [b,c]=false:=by with_unfolding_all rfl):PE X (.Compare a [op,op'] [b,c] pos) (Rj r r' ta tb tc):=by
 intro pins s σ H Q I h
 refine Compare_chain (b9 (ha pins s σ H _ I h) λv s1 ⟨x,H1,I1,r1,q1⟩=>chain_link (b9 (hb pins s1 σ H1 _ I1 q1) λu s2 ⟨y,H2,I2,r2,q2⟩=>
  b9 (ho pins s2 σ H2 x y v u _ I2 r1 r2 q2) λd s3 ⟨z,H3,I3,r3,k,e,q3⟩=>?_)) hm
 subst e;cases r3;refine wpAny_truthy_bool ?_
 cases k with
 |false=>exact ite_ff ⟨.bl false,H3,I3,rfl,q3⟩
 |true=>exact ite_tt (chain_last (b9 (hc pins s3 σ H3 _ I3 q3) λw' s4 ⟨z',H4,I4,r4,q4⟩=>yF pins s4 σ H4 y z' u w' Q I4 r2 r4 q4))
def V3(K:Uu)(x:V)(H:Hp)(k:Bool):Prop:=
 match x with
 | .cF=>k=false
 | .bl b=>k=b
 | .int i=>k=(i != 0)
 | .str y=>y.length<=sizeLine/\k=((y.length:Int) != 0)
 | .A8 y=>y.size<=sizeLine/\k=((y.size:Int) != 0)
 | .ref p=>(∃xs,bh K H p xs/\k=!xs.isEmpty)\/(∃xs,gE K H p xs/\k=!xs.isEmpty)\/∃kvs,H p=some 2e2/\k=!kvs.isEmpty
 |_=>False
def Bd{κ:Type}{kvs:List (κ×V)}{vs:List (κ×Value)}(r:KV kvs vs):(!vs.isEmpty)=!kvs.isEmpty:=by
 cases r<;>rfl
def qT{xs:KB}{its:UV}(r:Vals xs its):(!its.toArray.isEmpty)=!xs.isEmpty:=by
 cases r<;>simp
def lY:(sizeLine:Nat) <2^63:=by rw[sizeLine_eq];decide
def Rk:TruR X (λx H Q=>∃k,V3 X.K x H k/\Q k H):=by
 intro pins s σ H x v Q I rx h;obtain⟨k,e,q⟩:=h;have hl:=lY;have hs:sizeLine=16777216:=sizeLine_eq
 cases x with
 |cF=>
  cases rx;have e':k=false:=e;subst e';exact truthy_none ⟨H,I,q⟩
 |bl b=>
  cases rx;have e':k=b:=e;subst e';exact wpAny_truthy_bool ⟨H,I,q⟩
 |int i=>
  obtain⟨t,rfl⟩:=rx;have e':k=(i != 0):=e;subst e';exact PySem.P.truthy_int ⟨H,I,q⟩
 |str y=>
  obtain⟨t,rfl⟩:=rx;obtain⟨hy,e'⟩:y.length<=sizeLine/\k=((y.length:Int) != 0):=e;subst e';exact PySem.P.truthy_str 0e1 ⟨H,I.tok _,q⟩
 |A8 y=>
  obtain⟨t,rfl⟩:=rx;obtain⟨hy,e'⟩:y.size<=sizeLine/\k=((y.size:Int) != 0):=e;subst e';exact PySem.W.truthy_bytes 0e1 ⟨H,I.tok _,q⟩
 |ref p=>
  cases rx;have e':(∃xs,bh X.K H p xs/\k=!xs.isEmpty)\/(∃xs,gE X.K H p xs/\k=!xs.isEmpty)\/∃kvs,H p=some 2e2/\k=!kvs.isEmpty:=e;rcases e' with ⟨xs,hx,e'⟩ | ⟨xs,hx,e'⟩ | ⟨kvs,hx,e'⟩
  ·subst e';obtain⟨its,r,pl,hz⟩:=I.list hx;have hlen:=r.length;exact wpAny_truthy_list pl.isList (by simp only [size_toArray];omega) ⟨H,I.tok _,by rw[qT r];exact q⟩
  ·subst e';obtain⟨its,r,pl,hz⟩:=I.tuple hx;have hlen:=r.length;exact truthy_tuple pl (by simp only [size_toArray];omega) ⟨H,I.tok _,by rw[qT r];exact q⟩
  ·subst e';obtain⟨hz,hS,vs,r,m⟩:kvs.length<=sizeLine/\(p==sysModules)=false/\∃vs,KV kvs vs/\s.heap.DictOf (bE X.prog X.w) p vs:=I.aX p _ hx;have hlen:kvs.length=vs.length:=Paired.length r;exact wpAny_truthy_dict hS m 0e1 ⟨H,I.tok _,by rw[Bd r];exact q⟩
 |_=>exact(show False from e).elim
def qU(ha:PE X a ta)(he:∀whole,isTrue a X.env whole=(do let v<-whole;standAt a.pos;holding [v] (truthy v))):
  PT X a (fun σ H Q=>ta σ H λx H'=>∃k,V3 X.K x H' k/\Q k H'):=by
 intro pins s σ H Q I h;exact isTrue_plain (b9 (ha pins s σ H _ I h) λv s1 ⟨x,H1,I1,r1,q1⟩=>Rk pins s1 σ H1 x v Q I1 r1 q1) (he _)
inductive yT(x:V)(y:V)(H:Hp)(Q:VK):Prop
 |mk (i j:_) (bM:x= .str i) (bV:y= .str j) (b8:i.length+j.length<=sizeLine) (cS:Q (.str (i++j)) H)
def aE:mC X (binaryOp .Add) (yT):=by
 intro pins s σ H x y v u Q I rx ry h;obtain⟨i,j,rfl,rfl,hz,q⟩:=h;obtain⟨t,rfl⟩:=rx;obtain⟨t',rfl⟩:=ry;exact add_str (λt' tk=>⟨.str (i++j),H,I.tok _,⟨_,rfl⟩,q⟩) hz
def vals1{x:V}{us:UV}(r:Vals [x] us):∃u,us=[u]/\RelV x u:=by
 cases r with
 |cons r1 r2=>cases r2;exact⟨_,U,r1⟩
def vals2{x y:V}{us:UV}(r:Vals [x,y] us):∃u w',us=[u,w']/\RelV x u/\RelV y w':=by
 cases r with
 |cons r1 r2=>
  cases r2 with
  |cons r3 r4=>cases r4;exact⟨_,_,U,r1,r3⟩
def yU:gc X (.builtin "abs") (λxs H Q=>∃i,xs=[.int i]/\Q (.int (if i<0 then -i else i)) H):=by
 intro pins s σ H xs us Q I r h;obtain⟨i,rfl,q⟩:=h;obtain⟨u,rfl,t,rfl⟩:=vals1 r;exact call_abs_int λu tk=>⟨.int (if i<0 then -i else i),H,I.tok _,⟨_,rfl⟩,q⟩
def uQ:gc X (.type "int") (λxs H Q=>(∃i,xs=[.int i]/\Q (.int i) H)\/∃k,xs=[.bl k]/\Q (.int (if k then 1 else 0)) H):=by
 intro pins s σ H xs us Q I r h;rcases h with ⟨i,rfl,q⟩ | ⟨k,rfl,q⟩
 ·obtain⟨u,rfl,t,rfl⟩:=vals1 r;exact call_int_int ⟨.int i,H,I,⟨_,rfl⟩,q⟩
 ·obtain⟨u,rfl,r1⟩:=vals1 r;cases r1;exact call_int_bool ⟨.int (if k then 1 else 0),H,I.tok _,⟨_,rfl⟩,q⟩
def jb:gc X (.type "str") (λxs H Q=>∃i,xs=[.int i]/\i.natAbs.log2<1920/\Q (.str (toString i)) H):=by
 intro pins s σ H xs us Q I r h;obtain⟨i,rfl,hz,q⟩:=h;obtain⟨u,rfl,t,rfl⟩:=vals1 r;exact PySem.P.str_of_int hz ⟨.str _,H,I.tok _,⟨_,rfl⟩,q⟩
end
structure Be(h:Heap)(x dx C:Addr)(mA:2e1):Prop where
 obj:h.get? x=some (PySem.W.instObj C dx)
 ns:h.Ns1 dx mA
 ne:dx≠x
def n9{h:Heap}{dx:Py}{mA:Wp}(n:h.Ns1 dx mA):∃od,h.get? dx=some od/\∀name,PySem.W.lookIn name od=some (mA name):=by
 obtain⟨o,es,ep,ho,hd,hk,_,hm⟩:=n;refine⟨o,ho,λname=>?_⟩;have e:=hm name;unfold nsFind findBy at e;rw[<-Array.find?_toList] at e;unfold PySem.W.lookIn;rw[hd];dsimp only;split
 ·rename_i y q
  rw[q] at e;exact congrArg some e
 ·rename_i q
  rw[q] at e
  have a:es.toList.any (·.refKey)=false:=by
   rw[List.any_eq_false];intro y hy;obtain⟨z,t,hkey⟩:=hk y (Array.mem_toList_iff.mp hy);simp [DictEntry.refKey,hkey]
  have a':¬es.toList.any (·.refKey)=true:=by rw[a];exact Bool.false_ne_true
  rw[if_neg a'];exact congrArg some e
def Be.look{h:Heap}{x dx C:Py}{mA:Wp}(I:Be h x dx C mA):∃od,PySem.W.InstAt h x (PySem.W.instObj C dx) C (some od)/\∀name,PySem.W.lookIn name od=some (mA name):=
 let ⟨od,ho,hl⟩:=n9 I.ns
 ⟨od,⟨I.obj,rfl,rfl,ho⟩,hl⟩
section
variable {prog:Op}{w:World}{A:Pn}{E:XV}{s:Os}{K:Uu}{x dx C f:Py}{mA:Wp}{name:Str}{v:Ps}
def get_map{expr:Bool}{Q:XV}(X:K.In s.heap)(I:Be s.heap x dx C mA)(hg:PySem.W.plainGet K C name=true)(hh:PySem.W.hasDictIn K C=true)
  (ha:PySem.W.findIn K (.ref C) name=some none) (hv:mA name=some v) (hv':PySem.W.handedIn v=true) (h:Q v { s with toks:=s.toks+1 }):
  wpAny 1e9 A (getAttr (.ref x) name expr) Q E s:=by
 obtain⟨od,J,hl⟩:=I.look;exact PySem.W.get_value X J (PySem.W.plainGet_of hg).1 (PySem.W.findObj_own hh ha rfl (by rw[hl,hv])) hv' h
def Hq{pl:Sem Bool}{Q:Value×List Value->Shared->Prop}(X:K.In s.heap)(I:Be s.heap x dx C mA)(hg:PySem.W.plainGet K C name=true)
  (hf:PySem.W.findIn K (.ref C) name=some (some (.ref f))) (ht:PySem.W.isFn K (.ref f)=true) (hv:mA name=none) (h:Q (.ref f,[.ref x]) s):
  wpAny 1e9 A (getMethod (.ref x) name pl) Q E s:=by
 obtain⟨od,J,hl⟩:=I.look;exact PySem.W.method_fn X J (PySem.W.plainGet_of hg).1 (PySem.W.plainGet_of hg).2 hf (beq_iff_eq.mp ht) (by show (PySem.W.lookIn name od).map (·.isSome)=some false;rw[hl,hv];rfl) h
def LY{ns:On}{Q:ZB}(X:K.In s.heap)(I:Be s.heap x dx C mA)
  (hs:PySem.W.findIn K (.ref C) "__setattr__" =some (some (.builtin "object.__setattr__"))) (hp:PySem.W.plainOver K C=true) (ht:PySem.W.takerIn K C name=some none) (hh:PySem.W.hasDictIn K C=true)
  (hw:PySem.Within mA ns) (hsz:ns.length<=sizeLine)
  (h:∀h',Be h' x dx C (λy=>if y=name then some v else mA y)->Heap.SameBut dx s.heap h'->Q () { s with heap:=h',toks:=s.toks+2 }):
  wpAny 1e9 A (setAttr (.ref x) name v) Q E s:=by
 obtain⟨od,J,hl⟩:=I.look;refine PySem.W.set_plain X J hs (PySem.W.osa_open (s:={ s with toks:=s.toks+1 }) (r:=none) X J hp ht λb=>?_);obtain⟨cd,hc,gD⟩:=PySem.W.any_some hh;have hx:s.heap.get? x=some ⟨.ref C,some dx, .plain,#[]⟩:=I.obj;refine wpAny_bind (wpAny_pure (wpAny_bind (wpAny_bind (wpAny_loadPart hx (wpAny_bind (PySem.W.Looks.here (s:={ s with toks:=s.toks+1 }) (PySem.W.looks_clsIn X hc) ?_))))));rw[gD];refine wpAny_pure (a:=some dx) (wpAny_bind (wpAny_pure (wpAny_bind ?_)));refine wpAny_nsSet1 (s:={ s with toks:=s.toks+1 }) I.ns λh' C6 V4=>?_;obtain⟨oD,esD,epD,hoD,hdD,LZ⟩:=C6.count (PySem.Within.cons name v hw);refine wpAny_bind (wpAny_lookBehind hoD (by rw[hdD];exact pastItsLine_dict (le_trans LZ (by rw[length_cons];omega))) ?_);exact wpAny_pure (h _ ⟨(V4.2 _ (Ne.symm I.ne)).trans I.obj,C6,I.ne⟩ V4)
def Hr{R:Qp}{vs:UV}{kw:List (Str×Value)}(X:K.In s.heap)(hm:PySem.W.makesIn K C=true)
  (hi:PySem.W.findIn K (.ref C) "__init__" =some (some (.ref f))) (hf:PySem.W.typeIn K (.ref f)=some (.type "function"))
  (h:codeAny 1e9 (A.under (.builtin "type.__call__" ⟨.ref C::vs,kw⟩)) (.call (.ref f) ⟨.ref 2e3::vs,kw⟩) (PySem.W.InitBack 2e3 R)
   { s with heap:=(s.heap.push PySem.W.emptyDict).push (PySem.W.instObj C s.heap.objs.size) }):
  codeAny 1e9 A (.call (.ref C) ⟨vs,kw⟩) R s:=by
 obtain⟨hh,g,d,t,os⟩:=s;exact PySem.W.make_core (PySem.W.makes_of X hm) (PySem.W.looks_findIn X hi) (λself=>PySem.W.bind_fn X self hf) (.inl rfl) h
end
def cN(f:Str)(v:V):List (Str×V)->List (Str×V)
 | []=>[(f,v)]
 | (g,x)::r=>if g=f then (g,v)::r else (g,x)::cN f v r
theorem aD(f g:Str)(v:V):∀fs:List (Str×V),(cN f v fs).lookup g=if g=f then some v else fs.lookup g
 | []=>by
   show List.lookup g [(f,v)]=_;by_cases h:g=f
   ·have hb:(g==f)=true:=beq_iff_eq.mpr h;simp only [List.lookup,hb,if_pos h]
   ·have hb:(g==f)=false:=beq_eq_false_iff_ne.mpr h;simp only [List.lookup,hb,if_neg h]
 | (k,x)::r=>by
   have ih:=aD f g v r;rw[show cN f v ((k,x)::r)=(if k=f then (k,v)::r else (k,x)::cN f v r) from rfl];by_cases hk:k=f
   ·rw[if_pos hk];by_cases h:g=k
    ·have hb:(g==k)=true:=beq_iff_eq.mpr h;simp only [List.lookup,hb,if_pos (h.trans hk)]
    ·have hb:(g==k)=false:=beq_eq_false_iff_ne.mpr h;simp only [List.lookup,hb,if_neg (λe:g=f=>h (e.trans hk.symm))]
   ·rw[if_neg hk];by_cases h:g=k
    ·have hb:(g==k)=true:=beq_iff_eq.mpr h;simp only [List.lookup,hb,if_neg (λe:g=f=>hk (h.symm.trans e))]
    ·have hb:(g==k)=false:=beq_eq_false_iff_ne.mpr h;simp only [List.lookup,hb];exact ih
theorem iT(f:Str)(v:V):∀fs:List (Str×V),f∈(cN f v fs).map 1e4/\∀g,g∈fs.map 1e4->g∈(cN f v fs).map 1e4
 | []=>⟨by simp [cN],λg h=>by simp at h⟩
 | (k,x)::r=>by
   obtain⟨i1,i2⟩:=iT f v r;rw[show cN f v ((k,x)::r)=(if k=f then (k,v)::r else (k,x)::cN f v r) from rfl];by_cases hk:k=f
   ·rw[if_pos hk];subst hk;exact⟨by simp,λg h=>by simpa using h⟩
   ·rw[if_neg hk];refine⟨?_,λg h=>?_⟩
    ·rw[map_cons];exact mem_cons_of_mem _ i1
    ·rw[map_cons] at h |-;rcases mem_cons.mp h with e|e
     ·exact mem_cons.mpr (.inl e)
     ·exact mem_cons_of_mem _ (i2 g e)
theorem gg(f:Str)(v:V):∀fs:List (Str×V),(cN f v fs).length<=fs.length+1
 | []=>by simp [cN]
 | (k,x)::r=>by
   have ih:=gg f v r;rw[show cN f v ((k,x)::r)=(if k=f then (k,v)::r else (k,x)::cN f v r) from rfl];by_cases hk:k=f
   ·rw[if_pos hk,length_cons,length_cons];omega
   ·rw[if_neg hk,length_cons,length_cons];omega
def gH.some_of{v:V}{o:Option Value}(r:gH (some v) o):∃u,o=some u/\RelV v u:=by
 cases o with
 |none=>exact(show False from r).elim
 |some u=>exact⟨u,U,r⟩
def gH.none_of{o:Option Value}(r:gH none o):o=none:=by
 cases o with
 |none=>rfl
 |some u=>exact(show False from r).elim
def uR{v:V}{u:Ps}(r:RelV v u):PySem.W.handedIn u=true:=by
 cases v with
 |cF=>cases (show u=Value.none from r);rfl
 |bl b=>cases (show u=Value.bool b from r);rfl
 |int i=>obtain⟨t,e⟩:=(show∃t,u=Value.int i t from r);cases e;rfl
 |str x=>obtain⟨t,e⟩:=(show∃t,u=Value.str x t from r);cases e;rfl
 |A8 b=>obtain⟨t,e⟩:=(show∃t,u=Value.bytes b t from r);cases e;rfl
 |Pj b=>obtain⟨t,e⟩:=(show∃t,u=Value.float b t from r);cases e;rfl
 |ref a=>cases (show u=Value.ref a from r);rfl
 |ty n=>cases (show u=Value.type n from r);rfl
section
variable {P:Op}{w:World}{H H':Hp}{h h':Heap}{a C dx:Py}{fs LO:List (Str×V)}
def p6(aX:jV P w H h)(e:H a=some (.ins C dx fs)):∃mA,Be h a dx C mA/\(∀f,gH (fs.lookup f) (mA f))/\PySem.Within mA (fs.map 1e4)/\fs.length<=1000/\H dx=some (.own a):=by
 obtain⟨d,z,ne,ob,mA,n,r,q⟩:=(show cu P w H h a (.ins C dx fs) from aX a _ e);exact⟨mA,⟨ob,n,ne⟩,r,q,z,d⟩
end
structure t5(K:1e8)(C:Addr):Prop where
 pg:PySem.W.plainGet K C Str.empty=true
 hd:PySem.W.hasDictIn K C=true
 po:PySem.W.plainOver K C=true
 sa:PySem.W.findIn K (.ref C) "__setattr__" =some (some (.builtin "object.__setattr__"))
def t5.get{K:Uu}{C:Py}(c:t5 K C)(f:Str):PySem.W.plainGet K C f=true:=c.pg
def cG(K:Uu)(C:Py)(f:Str):Prop:=PySem.W.findIn K (.ref C) f=some none
def cG.V5{K:Uu}{C:Py}{f:Str}(n:cG K C f):PySem.W.takerIn K C f=some none:=by
 unfold PySem.W.takerIn;rw[show PySem.W.findIn K (.ref C) f=some none from n];rfl
structure Meth(K:1e8)(C:Addr)(m:Str)(f:Addr):Prop where
 at_:PySem.W.findIn K (.ref C) m=some (some (.ref f))
 fn:PySem.W.isFn K (.ref f)=true
 kp:keepIn K (.ref f)=true
section
variable {X:Cx}{pins:WP}{σ:St}{H:Hp}{s:Os}{a C dx:Py}{fs:List (Str×V)}{f:Str}{v:V}{A:Pn}{E:XV}
def qV{b:Bool}{Q:XV}(I:0e5)(e:H a=some (.ins C dx fs))(c:t5 X.K C)(n:cG X.K C f)(l:fs.lookup f=some v)
  (h:∀u s',Inv X pins σ H s'->RelV v u->Q u s'):wpAny 0e8 A (getAttr (.ref a) f b) Q E s:=by
 obtain⟨mA,O,r,_,_,_⟩:=p6 I.aX e;obtain⟨u,hu,ru⟩:=gH.some_of (v:=v) (o:=mA f) (by rw[<-l];exact r f);exact get_map I.i6 O (c.get f) c.hd n hu (uR ru) (h u _ (I.tok _) ru)
def lZ{m:Str}{g:Py}{pl:Sem Bool}{Q:Value×List Value->Shared->Prop}(I:0e5)(e:H a=some (.ins C dx fs))(c:t5 X.K C)(k:Meth X.K C m g)(l:fs.lookup m=none)
  (h:Q (.ref g,[.ref a]) s):wpAny 0e8 A (getMethod (.ref a) m pl) Q E s:=by
 obtain⟨mA,O,r,_,_,_⟩:=p6 I.aX e;have hn:mA m=none:=gH.none_of (by rw[<-l];exact r m);exact Hq I.i6 O (c.get m) k.at_ k.fn hn h
def qW{y:V}{u:Ps}{Q:ZB}(I:0e5)(e:H a=some (.ins C dx fs))(c:t5 X.K C)(n:cG X.K C f)(hl:fs.length<1000)(ry:RelV y u)
  (h:∀s',Inv X pins σ (upd H a (.ins C dx (cN f y fs))) s'->Q () s'):wpAny 0e8 A (setAttr (.ref a) f u) Q E s:=by
 obtain⟨mA,O,r,wi,_,ho⟩:=p6 I.aX e;have hz:(fs.map 1e4).length<=sizeLine:=by rw[length_map,sizeLine_eq];omega
 refine LY I.i6 O c.sa c.po n.V5 c.hd wi hz λh' O' sb=>h _ ?_;have hd:∃o,h'.get? dx=some o:=let ⟨o,_,_,e',_⟩:=O'.ns;⟨o,e'⟩;refine I.write (x:=a) (e:=dx) (by rw[e];exact True.intro) (.inr ho) (λb q hb z=>(sb.2 b hb).trans z) hd ?_;refine⟨by rw[ah O.ne];exact ho,?_,O.ne,O'.obj,_,O'.ns,λg=>?_,λg hg=>?_⟩
 ·have:=gg f y fs;omega
 ·show gH ((cN f y fs).lookup g) (if g=f then some u else mA g);rw[aD];by_cases q:g=f
  ·rw[if_pos q,if_pos q];exact ry
  ·rw[if_neg q,if_neg q];exact r g
 ·by_cases q:g=f
  ·rw[q];exact(iT f y fs).1
  ·refine(iT f y fs).2 g (wi g λz=>hg ?_);show (if g=f then some u else mA g)=none;rw[if_neg q];exact z
def Inv.made(I:0e5):Inv X pins σ (upd (upd H s.heap.objs.size (.own 2e3)) 2e3 (.ins C s.heap.objs.size []))
  { s with heap:=(s.heap.push PySem.W.emptyDict).push (PySem.W.instObj C s.heap.objs.size) }:=by
 have e1:(s.heap.push PySem.W.emptyDict).get? s.heap.objs.size=some PySem.W.emptyDict:=Heap.get?_push_size s.heap rfl
 have e2:((s.heap.push PySem.W.emptyDict).push (PySem.W.instObj C s.heap.objs.size)).get? 2e3=some (PySem.W.instObj C s.heap.objs.size):=by
  have:=Heap.get?_push_size (s.heap.push PySem.W.emptyDict) (o:=PySem.W.instObj C s.heap.objs.size) rfl
  rwa [Heap.size_push] at this
 have e3:(s.heap.push PySem.W.emptyDict).Ns s.heap.objs.size (λ_=>none):=⟨PySem.W.emptyDict,#[],_,e1,rfl,(λe he=>absurd he 2e0),λ_=>rfl⟩;have I1:=I.laid (a:=s.heap.objs.size) (o:= .own 2e3) (h':=s.heap.push PySem.W.emptyDict) (t':=s.toks) (λb u q=>Heap.get?_push_of_some _ q) (le_refl _) ⟨_,e1⟩;refine I1.laid (a:=s.heap.objs.size+1) (o:= .ins C s.heap.objs.size []) (t':=s.toks) (λb u q=>Heap.get?_push_of_some _ q) (le_of_eq (Heap.size_push _ _)) ?_;have ne:s.heap.objs.size≠s.heap.objs.size+1:=ne_of_lt (Nat.lt_succ_self _);refine⟨by rw[ah ne,ag],zero_le _,ne,e2,λ_=>none,(Heap.Ns1.of_empty e3).at λo q=>Heap.get?_push_of_some _ q,λ_=>True.intro,λy hy=>absurd rfl hy⟩
def C7{prog:Op}{w:World}{env:Env}{e:Expr}{f:Str}{pos:Pos}{s:Os}{Q:XV}(hb:attributeBase e f env (eval e env)=eval e env)
  (h:wpAny 1e9 A (eval e env) (λo s₁=>wpAny 1e9 A (getAttr o f true) Q E s₁) E s):wpAny 1e9 A (eval (.Attribute e f pos) env) Q E s:=
 Attribute_any_ h (by rw[arm_eval_Attribute,hb])
end
inductive V6(K:1e8)(f:Str)(Q:VK)(x:V)(H1:Hp):Prop
 |mk (a C dx fs v:_) (bM:x= .ref a) (bV:H1 a=some (.ins C dx fs)) (b8:t5 K C) (cS:cG K C f) (eK:fs.lookup f=some v) (gS:Q v H1)
def tFld(K:Uu)(ta:TE)(f:Str):TE:=fun σ H Q=>ta σ H (V6 K f Q)
inductive V7(K:1e8)(f:Str)(D:Ends)(σ:St)(y:V)(x:V)(H2:Hp):Prop
 |mk (a C dx fs:_) (bM:x= .ref a) (bV:H2 a=some (.ins C dx fs)) (b8:t5 K C) (cS:cG K C f) (eK:fs.length<1000) (gS:D.nx σ (upd H2 a (.ins C dx (cN f y fs))))
def sFld(K:Uu)(ta tv:TE)(f:Str):TS:=λD σ H=>tv σ H λy H1=>ta σ H1 (V7 K f D σ y)
def V8(X:Cx)(op:Operator)(rd:V->V->Hp->VK->Prop):Prop:=
 ∀(pins:WP) (s:Os) (σ:St) (H:Hp) (x y:V) (u v:Ps) (Q:VK),Inv X pins σ H s->RelV x u->RelV y v->rd x y H Q->wpAny 0e8 X.A (inplaceOp op u v) (EP X pins σ Q) X.xe s
inductive Hs(K:1e8)(tv:TE)(rd:V->V->Hp->VK->Prop)(f:Str)(D:Ends)(σ:St)(x:V)(H1:Hp):Prop
 |mk (a C dx fs v:_) (bM:x= .ref a) (bV:H1 a=some (.ins C dx fs)) (b8:t5 K C) (cS:cG K C f) (eK:fs.lookup f=some v) (gS:tv σ H1 λy H2=>rd v y H2 λz H3=>∃dC LO,H3 a=some (.ins C dC LO)/\LO.length<1000/\D.nx σ (upd H3 a (.ins C dC (cN f z LO))))
def L0(K:Uu)(ta tv:TE)(rd:V->V->Hp->VK->Prop)(f:Str):TS:=λD σ H=>ta σ H (Hs K tv rd f D σ)
section
variable {X:Cx}{o e value:Expr}{f:Str}{pos pos' mE:Pos}{ta tv:TE}
def aU(he:PE X e ta)(hb:attributeBase e f X.env (eval e X.env)=eval e X.env):PE X (.Attribute e f pos) (tFld X.K ta f):=by
 intro pins s σ H Q I h;refine C7 hb (b9 (he pins s σ H _ I h) λu s1 ⟨x,H1,I1,rx,a,C,dx,fs,v,ex,ea,c,n,l,q⟩=>?_);subst ex;obtain rfl:u=Value.ref a:=rx;exact qV I1 ea c n l λu' s2 I2 ru=>⟨v,H1,I2,ru,q⟩
def eN(ha:PE X o ta)(hv:PE X value tv)(hs:swapsWith value (some (.Attribute o f pos')) pos.line X.env=pure false):PS X (.Assign [.Attribute o f pos'] value pos) (sFld X.K ta tv f):=by
 intro pins s σ H D I h;refine plainObj_wpAny_Assign_Attribute (b9 (hv pins s σ H _ I h) λu s1 ⟨y,H1,I1,ry,q⟩=>b9 (ha pins s1 σ H1 _ I1 q) λov s2 ⟨x,H2,I2,rx,a,C,dx,fs,ex,ea,c,n,l,q2⟩=>?_) hs;subst ex;obtain rfl:ov=Value.ref a:=rx;exact qW I2 ea c n l ry λs3 I3=>⟨σ,_,I3,q2⟩
def kZ{op:Operator}{rd:V->V->Hp->VK->Prop}(ha:PE X o ta)(hv:PE X value tv)(hop:V8 X op rd):PS X (.AugAssign (.Attribute o f mE) op value pos) (L0 X.K ta tv rd f):=by
 intro pins s σ H D I h;refine wpAny_AugAssign_AttributeAny (b9 (ha pins s σ H _ I h) λov s1 ⟨x,H1,I1,rx,a,C,dx,fs,v,ex,ea,c,n,l,q⟩=>?_);subst ex;obtain rfl:ov=Value.ref a:=rx;refine qV I1 ea c n l λu s2 I2 ru=>b9 (hv pins s2 σ H1 _ I2 q) λw3 s3 ⟨y,H2,I3,ry,q3⟩=>b9 (hop pins s3 σ H2 v y u w3 _ I3 ru ry q3) λw4 s4 ⟨z,H3,I4,rz,dC,LO,ea',l',q4⟩=>?_;exact qW I4 ea' c n l' rz λs5 I5=>⟨σ,_,I5,q4⟩
def rAdd:V->V->Hp->VK->Prop:=λx y H Q=>∃i j,x= .int i/\y= .int j/\Q (.int (i+j)) H
def wF:V8 X .Add rAdd:=by
 rintro pins s σ H x y u v Q I rx ry ⟨i,j,rfl,rfl,q⟩;obtain⟨t,rfl⟩:=(show∃t,u=Value.int i t from rx);obtain⟨t',rfl⟩:=(show∃t',v=Value.int j t' from ry);exact PyProof.Rows.iadd_int ⟨.int (i+j),H,I.tok _,⟨_,rfl⟩,q⟩
end
section
variable {X:Cx}{pins:WP}{σ:St}{H:Hp}{s:Os}{A:Pn}{E:XV}{Q:XV}{c:Ps}{b:Bool}
inductive oa(K:1e8)(H:Hp):V->Value->Prop where
 |cF:oa K H .cF (.type "NoneType")
 |bl (x:Bool):oa K H (.bl x) (.type "bool")
 |int (i:Int):oa K H (.int i) (.type "int")
 |str (x:Str):oa K H (.str x) (.type "str")
 |Pj (x:UInt64):oa K H (.Pj x) (.type "float")
 |lst {a:Addr} {xs:List V} (e:H a=some (.lst xs)):oa K H (.ref a) (.type "list")
 |eI {a:Addr} {o:Obj} {xs:List V} (e:H a=some (.eI o (.lst xs))):oa K H (.ref a) (.type "list")
 |tup {a:Addr} {xs:List V} (e:H a=some (.tup xs)):oa K H (.ref a) (.type "tuple")
 |dK {a:Addr} {kvs:List (Key×V)} (e:H a=some (.dK kvs)):oa K H (.ref a) (.type "dict")
 |dT {a:Addr} {kvs:List (List Key×V)} (e:H a=some (.dT kvs)):oa K H (.ref a) (.type "dict")
 |ins {a C dx:Addr} {fs:List (Str×V)} (e:H a=some (.ins C dx fs)) (cl:t5 K C) (ha:PySem.W.findIn K (.ref C) "__class__" =some (some (.builtin "object.__class__")))
   (hn:PySem.W.specialIn K (.builtin "object.__class__") "__get__" =some (some (.builtin "getset_descriptor.__get__"))) (uU:PySem.W.takesIn K (.builtin "object.__class__")=some true)
   (hm:PySem.W.mroIn K C (.type "object")=some true):oa K H (.ref a) (.ref C)
def EZ{x:V}{u t:Ps}(I:0e5)(rx:RelV x u)(ty:oa X.K H x t)(e:kitOne X.K t c=some b)(h:∀tk,Q (.bool b) { s with toks:=tk }):
  wpAny 0e8 A (call (.builtin "isinstance") [u,c]) Q E s:=by
 cases ty with
 |cF=>cases (show u=Value.none from rx);exact PySem.W.kia_one PySem.W.kitx_none I.i6 True.intro e (λz=>nomatch z) h
 |bl y=>cases (show u=Value.bool y from rx);exact PySem.W.kia_one PySem.W.kitx_bool I.i6 True.intro e (λz=>nomatch z) h
 |int i=>obtain⟨t,q⟩:=(show∃t,u=Value.int i t from rx);cases q;exact PySem.W.kia_one PySem.W.kitx_int I.i6 True.intro e (λz=>nomatch z) h
 |str y=>obtain⟨t,q⟩:=(show∃t,u=Value.str y t from rx);cases q;exact PySem.W.kia_one PySem.W.kitx_str I.i6 True.intro e (λz=>nomatch z) h
 |Pj y=>obtain⟨t,q⟩:=(show∃t,u=Value.float y t from rx);cases q;exact PySem.W.kia_one PySem.W.kitx_float I.i6 True.intro e (λz=>nomatch z) h
 | @lst a xs ea=>
   cases (show u=Value.ref a from rx);obtain⟨_,_,n,_,h1⟩:=(show cu X.prog X.w H s.heap a (.lst xs) from I.aX a _ ea);exact PySem.W.kia_one PySem.W.kitx_list I.i6 ⟨_,h1,rfl⟩ e (λz=>nomatch z) h
 | @eI a ob xs ea=>
   cases (show u=Value.ref a from rx);obtain⟨_,_,_,n,_,h1⟩:=(show cu X.prog X.w H s.heap a (.eI ob (.lst xs)) from I.aX a _ ea);exact PySem.W.kia_one PySem.W.kitx_list I.i6 ⟨_,h1,rfl⟩ e (λz=>nomatch z) h
 | @tup a xs ea=>
   cases (show u=Value.ref a from rx);obtain⟨_,_,_,p⟩:=(show cu X.prog X.w H s.heap a (.tup xs) from I.aX a _ ea);obtain⟨o,h1,h2,_⟩:=p;exact PySem.W.kia_one PySem.W.kitx_tuple I.i6 ⟨o,h1,h2⟩ e (λz=>nomatch z) h
 | @dK a kvs ea=>
   cases (show u=Value.ref a from rx);obtain⟨_,_,vs,_,p⟩:=(show cu X.prog X.w H s.heap a 2e2 from I.aX a _ ea);obtain⟨o,es,ep,h1,h2,_⟩:=p;exact PySem.W.kia_one PySem.W.kitx_dict I.i6 ⟨o,h1,h2.1⟩ e (λz=>nomatch z) h
 | @dT a kvs ea=>
   cases (show u=Value.ref a from rx);obtain⟨_,_,xs,_,o,es,ep,h1,h2,_⟩:=(show cu X.prog X.w H s.heap a (.dT kvs) from I.aX a _ ea);exact PySem.W.kia_one PySem.W.kitx_dict I.i6 ⟨o,h1,h2.1⟩ e (λz=>nomatch z) h
 | @ins a C dx fs ea cl ha hn uU hm=>
   cases (show u=Value.ref a from rx);obtain⟨mA,O,_⟩:=p6 I.aX ea;obtain⟨od,J,_⟩:=O.look;exact PySem.W.kia_one (PySem.W.kitx_own (cl.get _) cl.hd ha hn uU hm) I.i6 J e (λz=>nomatch z) h
end
structure cU(k:Nat)(A:Around):Prop where
 hd:A.handled=none
 dp:A.depth+3*k+5<recursionLimit
 un:A.units+16*k+200<cLine
def cU.mono{j k:Nat}{A:Pn}(r:cU k A)(h:j<=k):cU j A:=⟨r.hd,by have:=r.dp;omega,by have:=r.un;omega⟩
theorem cU.deeper{k:Nat}{A:Pn}(r:cU (k+1) A)(env:Env):cU k (A.deeper env):=
 ⟨r.hd,by have:=r.dp;show A.depth+1+3*k+5<_;omega,by have:=r.un;show A.units+3+16*k+200<_;omega⟩
def Bf{A:Pn}{C:Py}{us:UV}{kw:List (Str×Value)}:(A.under (.builtin "type.__call__" ⟨.ref C::us,kw⟩)).depth=A.depth+1:=by
 first|rfl|simp [Around.under,Code.weight,Code.isCreation,Code.isGuard,Code.isCaller,Code.frames,Code.isFrame,guardIds]
def Bg{A:Pn}{C:Py}{us:UV}{kw:List (Str×Value)}:(A.under (.builtin "type.__call__" ⟨.ref C::us,kw⟩)).units=A.units+1:=by
 first|rfl|simp [Around.under,Code.cUnits,Code.frames,Code.isFrame]
def cU.make{k:Nat}{A:Pn}(r:cU (k+1) A)(C:Py)(us:UV)(kw:List (Str×Value)):cU k (A.under (.builtin "type.__call__" ⟨.ref C::us,kw⟩)):=
 ⟨r.hd,by have:=r.dp;rw[Bf];omega,by have:=r.un;rw[Bg];omega⟩
theorem cU.depth{k:Nat}{A:Pn}(r:cU k A):A.depth<recursionLimit:=by have:=r.dp;omega
theorem cU.units{k:Nat}{A:Pn}(r:cU k A):A.units+64<cLine:=by have:=r.un;omega
def cU.Bh{k:Nat}{A:Pn}(r:cU k A):A.units<cLine:=by have:=r.un;omega
def V9:TA:=λ_ H Q=>Q [] H
def V'(ta:TE)(tr:TA):TA:=fun σ H Q=>ta σ H λx H1=>tr σ H1 λxs H2=>Q (x::xs) H2
section
variable {X:Cx}{e:Expr}{es:IN}{te:TE}{t:TA}{pos:Pos}
def aj:PA X [] V9:=λ_ _ _ _ H Q I h=>Calls.spliced_nil ⟨[],H,I, .nil,h⟩
def aa(ha:PE X e te)(hr:PA X es t)(hs:starEach (e::es) X.env=(false,eval e X.env)::starEach es X.env:=by rfl):PA X (e::es) (V' te t):=by
 intro pos pins s σ H Q I h;rw[hs];show wpAny _ _ (spliced ((false,eval e X.env)::backTo pos (starEach es X.env))) _ _ s;refine Calls.spliced_cons (b9 (ha pins s σ H _ I h) λu s1 ⟨x,H1,I1,r1,q1⟩=>?_);exact b9 (hr pos pins s1 σ H1 _ I1 q1) λus s2 ⟨xs,H2,I2,r2,q2⟩=>⟨x::xs,H2,I2, .cons r1 r2,q2⟩
def tTup(t:TA):TE:=fun σ H Q=>t σ H λxs H1=>xs.length<=sizeLine/\∀p,H1 p=none->Q (.ref p) (upd H1 p (.tup xs))
def tLst(t:TA):TE:=fun σ H Q=>t σ H λxs H1=>xs.length<=sizeLine/\∀p,H1 p=none->Q (.ref p) (upd H1 p (.lst xs))
def bW{x1}(h:PA X es t):PE X (.Tuple es x1 pos) (tTup t):=by
 intro pins s σ H Q I hq;refine wpAny_Tuple_spliced (b9 (h pos pins s σ H _ I hq) λus s1 ⟨xs,H1,I1,r,z,q⟩=>⟨by rw[<-r.length];exact z,?_⟩);have hf:H1 s1.heap.objs.size=none:=I1.aX.fresh (le_refl _);refine⟨.ref s1.heap.objs.size,upd H1 s1.heap.objs.size (.tup xs),I1.laid (t':=s1.toks) (λb u e=>Heap.get?_push_of_some _ e) (le_refl _) ?_,U,q _ hf⟩;exact⟨z,us,r,⟨_,Heap.get?_push_size _ rfl,U,_,U⟩⟩
def bO(h:PA X es t):PE X (.List es pos) (tLst t):=by
 intro pins s σ H Q I hq;refine wpAny_List_spliced (b9 (h pos pins s σ H _ I hq) λus s1 ⟨xs,H1,I1,r,z,q⟩=>⟨by rw[<-r.length];exact z,?_⟩);have hf:H1 s1.heap.objs.size=none:=I1.aX.fresh (le_refl _);refine⟨.ref s1.heap.objs.size,upd H1 s1.heap.objs.size (.lst xs),I1.laid (t':=s1.toks) (λb u e=>Heap.get?_push_of_some _ e) (le_refl _) ?_,U,q _ hf⟩;exact⟨z,us,0,r,Heap.get?_push_size _ rfl⟩
end
abbrev Sp:=List V->Hp->VK->XK->Prop
abbrev C8:=List Env->Hp->Shared->XK->Value->Shared->Prop
structure Bi(P:Program)(w:World)(K:1e8)(mg:2e1)(base:Heap)(A:Around)(outer:List Env)(s:Shared)(H:Hp):Prop where
 frames:A.frames=some outer
 mod:Mod K mg base
 bs:∀b o,base.get? b=some o->s.heap.get? b=some o/\H b=none
 EV:base.objs.size<=s.heap.objs.size
 lO:s.heap.FunFrames base outer
 He:∀b∈yE outer,H b=none
 aX:jV P w H s.heap
 bare:AllBare s.gens
def CE(outer:List Env)(P:Op)(w:World)(H:Hp)(s:Os)(Q:VK)(u:Ps)(s':Os):Prop:=
 ∃v H',s'.os=s.os/\AllBare s'.gens/\Un (yE outer) [] H H' s.heap s'.heap/\jV P w H' s'.heap/\RelV v u/\Q v H'
def CR(CX:C8)(outer:List Env)(P:Op)(w:World)(H:Hp)(s:Os)(Q:VK)(E:XK)(r:Result)(s':Os):Prop:=
 match r with
 | .ok (.ret u)=>CE outer P w H s Q u s'
 | .ok _=>False
 | .error e=>CX outer H s E e s'
structure fO(P:Program)(w:World)(K:1e8)(mg:2e1)(base:Heap)(CX:C8)(k:Nat)(f:Addr)(fd:FuncData)(ps:List Str)(sp:Sp):Prop where
 len:∀vs H Q E,sp vs H Q E->vs.length=ps.length
 run:∀(A:Around) (outer:List Env) (s:Shared) (H:Hp) (args:Args) (us:List Value) (vs:List V) (Q:VK) (E:XK),cU k A->Bi P w K mg base A outer s H->BindsTo s fd args (ps.zip us)->Vals vs us->sp vs H Q E->
  codeAny (model P w) A (.call (.ref f) args) (CR CX outer P w H s Q E) s
def Bi.make{P:Op}{w:World}{K:Uu}{mg:Wp}{base:Heap}{A:Pn}{outer:List Env}{s:Os}{H:Hp}(e:Bi P w K mg base A outer s H)(C:Py)(us:UV)(kw:List (Str×Value)):
  Bi P w K mg base (A.under (.builtin "type.__call__" ⟨.ref C::us,kw⟩)) outer s H:=⟨by first|exact e.frames| (simpa [Around.under,Code.envs,Code.isFrame,pushEnvs] using e.frames),e.mod,e.bs,e.EV,e.lO,e.He,e.aX,e.bare⟩
section
variable {X:Cx}{pins:WP}{σ:St}{H:Hp}{s s':Os}
def Inv.L3(I:0e5):Bi X.prog X.w X.K X.mg X.base X.A X.stack s H:=
 ⟨I.ok.frames,I.ok.mod,I.bs,le_trans I.ok.EV I.sz,I.stack,I.wy,I.aX,I.bare⟩
def Inv.after{Q:VK}{u:Ps}(I:0e5)(h:CE X.stack X.prog X.w H s Q u s'):EP X pins σ Q u s':=by
 obtain⟨v,H',os,bare,un,aX,r,q⟩:=h;obtain⟨hh,g,d,t,os'⟩:=s';obtain rfl:os'=s.os:=os;exact⟨v,H',I.call (h':=hh) (g':=g) (d':=d) (t':=t) (ch:=[]) un aX bare (λb z=>absurd z 2e0),r,q⟩
end
def Pt(sp:Sp)(jQ:KB)(E:XK)(t:TA):TE:=fun σ H Q=>t σ H λvs H1=>sp (vs++jQ) H1 Q E
inductive Rl(C:Addr)(m:Str)(sp:Sp)(jQ:List V)(E:XK)(t:TA)(σ:St)(Q:VK)(x:V)(H1:Hp):Prop
 |mk (a dx fs:_) (bM:x= .ref a) (bV:H1 a=some (.ins C dx fs)) (b8:fs.lookup m=none) (cS:t σ H1 λvs H2=>sp (x::(vs++jQ)) H2 Q E)
def Ht(C:Py)(m:Str)(sp:Sp)(jQ:KB)(E:XK)(ta:TE)(t:TA):TE:=fun σ H Q=>ta σ H (Rl C m sp jQ E t σ Q)
def Wa(C:Py)(sp:Sp)(jQ:KB)(E:XK)(t:TA):TE:=fun σ H Q=>t σ H λvs H1=>∀x dx,H1 x=none->H1 dx=none->dx≠x->
 sp (.ref x::(vs++jQ)) (upd (upd H1 dx (.own x)) x (.ins C dx [])) (λv H2=>v= .cF/\Q (.ref x) H2) E
def Binds(K:Uu)(fd:FuncData)(ps:On)(ds:UV):Prop:=
 ∀(s:Os) (us:UV),K.In s.heap->(us++ds).length=ps.length->BindsTo s fd ⟨us,[]⟩ (ps.zip (us++ds))
def Binds.all{K:Uu}{fd:FuncData}{ps:On}(h:∀us:List Value,us.length=ps.length->bindArgs fd ⟨us,[]⟩=pure (ps.zip us)):Binds K fd ps []:=λs us _ hl=>by
 rw[append_nil] at hl |-;exact .of_eq (h us hl)
def Passes(CX:C8)(X:Cx)(E:XK):Prop:=∀(pins:WP) (σ:St) (H:Hp) (s:Os) (e:Ps) (s':Os),Inv X pins σ H s->CX X.stack H s E e s'->X.xe e s'
section
variable {X:Cx}{CX:C8}{k:Nat}{f C:Py}{fd:FuncData}{ps:On}{sp:Sp}{jQ:KB}{ds:UV}{E:XK}{x m:Str}{p pos apos:Pos}{e o:Expr}{es:IN}{ta:TE}{t:TA}
def Bj{pins:WP}{σ:St}{H:Hp}{s:Os}{Q:VK}{us:UV}{vs:KB}(F:fO X.prog X.w X.K X.mg X.base CX k f fd ps sp)(hr:cU k X.A)(hb:Binds X.K fd ps ds)(hd:Vals jQ ds)(hx:Passes CX X E)
  (I:0e5) (r:Vals vs us) (h:sp (vs++jQ) H Q E):wpAny 0e8 X.A (call (.ref f) us) (EP X pins σ Q) X.xe s:=by
 have r2:Vals (vs++jQ) (us++ds):=r.append hd;have hl:(us++ds).length=ps.length:=by rw[<-r2.length];exact F.len _ _ _ _ h
 refine wpAny_call (codeAny_mono (F.run X.A X.stack s H ⟨us,[]⟩ (us++ds) (vs++jQ) Q E hr I.L3 (hb s us I.i6 hl) r2 h) λr s' hq=>?_)
 cases r with
 |error e=>exact hx pins σ H s e s' I hq
 |ok fl=>
  cases fl with
  |ret u=>exact I.after hq
  |next=>exact False.elim hq
  |brk=>exact False.elim hq
  |cont=>exact False.elim hq
def L4(F:fO X.prog X.w X.K X.mg X.base CX k f fd ps sp)(hr:cU k X.A)(hg:Gl X x)(hm:X.mg x=some (.ref f))(hk:keepIn X.K (.ref f)=true)(hb:Binds X.K fd ps ds)(hd:Vals jQ ds)(hx:Passes CX X E)
  (ha:PA X (e::es) t) (E1:(x==("__debug__" :Str))=false:=by decide) (he:starEach (e::es) X.env=(false,eval e X.env)::starEach es X.env:=by rfl) (fP:(backTo pos (starEach es X.env)).any 1e4=false:=by rfl):
  PE X (.Call (.Name x p) (e::es) [] pos) (Pt sp jQ E t):=by
 intro pins s σ H Q I h;refine wpAny_Call_Name_kw (i7 I hg hm ?_ E1);refine PySem.W.callWith_K (h₀:=X.base) I.ok.mod.gv hk (b9 (ha pos pins s σ H _ I h) λus s1 ⟨vs,H1,I1,r,q⟩=>⟨I1.i6,?_⟩) he fP;exact Bj F hr hb hd hx I1 r q
def L5{pl:Sem Bool}(he:PE X o ta)(c:t5 X.K C)(hm:Meth X.K C m f)(F:fO X.prog X.w X.K X.mg X.base CX k f fd ps sp)(hr:cU k X.A)(hb:Binds X.K fd ps ds)(hd:Vals jQ ds)(hx:Passes CX X E)(ha:PA X (e::es) t)
  (iu:starEach (e::es) X.env=(false,eval e X.env)::starEach es X.env:=by rfl) (fP:(backTo pos (starEach es X.env)).any 1e4=false:=by rfl)
  (ht:eval (.Call (.Attribute o m apos) (e::es) [] pos) X.env=(do
   let ov<-eval o X.env
   standAt apos.atName
   let (f,first)<-holding [ov] (getMethod ov m pl)
   callWith pos f first (backTo pos (starEach (e::es) X.env)) (backToKw pos (keywordEach [] X.env))):=by rfl):
  PE X (.Call (.Attribute o m apos) (e::es) [] pos) (Ht C m sp jQ E ta t):=by
 intro pins s σ H Q I h;refine PySem.W.methodCall_KW (pl:=pl) (b9 (he pins s σ H _ I h) λu s1 ⟨x,H1,I1,rx,a,dx,fs,ex,ea,l,q⟩=>?_) ht;subst ex;obtain rfl:u=Value.ref a:=rx;refine lZ I1 ea c hm l ?_;refine PySem.W.callWith_K (first:=[.ref a]) (h₀:=X.base) I.ok.mod.gv hm.kp (b9 (ha pos pins s1 σ H1 _ I1 q) λus s2 ⟨vs,H2,I2,r,q2⟩=>⟨I2.i6,?_⟩) iu fP
 exact Bj (us:= .ref a::us) (vs:= .ref a::vs) F hr hb hd hx I2 (.cons rfl r) q2
def aM{pl:Sem Bool}(he:PE X o ta)(c:t5 X.K C)(hm:Meth X.K C m f)(F:fO X.prog X.w X.K X.mg X.base CX k f fd ps sp)(hr:cU k X.A)(hb:Binds X.K fd ps ds)(hd:Vals jQ ds)(hx:Passes CX X E)
  (ht:eval (.Call (.Attribute o m apos) [] [] pos) X.env=(do
   let ov<-eval o X.env
   standAt apos.atName
   let (f,first)<-holding [ov] (getMethod ov m pl)
   callWith pos f first (backTo pos (starEach [] X.env)) (backToKw pos (keywordEach [] X.env))):=by rfl):
  PE X (.Call (.Attribute o m apos) [] [] pos) (Ht C m sp jQ E ta V9):=by
 intro pins s σ H Q I h;refine PySem.W.methodCall_KW (pl:=pl) (b9 (he pins s σ H _ I h) λu s1 ⟨x,H1,I1,rx,a,dx,fs,ex,ea,l,q⟩=>?_) ht;subst ex;obtain rfl:u=Value.ref a:=rx;refine lZ I1 ea c hm l ?_;exact PySem.W.callWith_K0 (first:=[.ref a]) I1.i6 hm.kp (Bj (us:=[.ref a]) (vs:=[.ref a]) F hr hb hd hx I1 (.cons rfl .nil) q)
structure Mk(K:1e8)(C f:Addr):Prop where
 makes:PySem.W.makesIn K C=true
 init:PySem.W.findIn K (.ref C) "__init__" =some (some (.ref f))
 fn:PySem.W.isFn K (.ref f)=true
 kp:keepIn K (.ref C)=true
def Hu{pins:WP}{σ:St}{H:Hp}{s:Os}{Q:VK}{us:UV}{vs:KB}(M:Mk X.K C f)(F:fO X.prog X.w X.K X.mg X.base CX k f fd ps sp)(hr:cU (k+1) X.A)(hb:Binds X.K fd ps ds)(hd:Vals jQ ds)
  (hx:Passes CX X E) (I:0e5) (r:Vals vs us)
  (h:∀x dx,H x=none->H dx=none->dx≠x->sp (.ref x::(vs++jQ)) (upd (upd H dx (.own x)) x (.ins C dx [])) (λv H2=>v= .cF/\Q (.ref x) H2) E):
  wpAny 0e8 X.A (call (.ref C) us) (EP X pins σ Q) X.xe s:=by
 have hq:=h 2e3 s.heap.objs.size (I.aX.fresh (le_succ _)) (I.aX.fresh (le_refl _)) (ne_of_lt (Nat.lt_succ_self _));have I2:=Inv.made (C:=C) I;have r2:Vals (V.ref 2e3::(vs++jQ)) (Value.ref 2e3::(us++ds)):= .cons rfl (r.append hd)
 have hl:(Value.ref 2e3::us++ds).length=ps.length:=by
  have e:=r2.length;rw[F.len _ _ _ _ hq] at e;exact e.symm
 refine wpAny_call (Hr (f:=f) I.i6 M.makes M.init (beq_iff_eq.mp M.fn) (codeAny_mono (F.run _ X.stack _ _ ⟨Value.ref 2e3::us,[]⟩ (Value.ref 2e3::(us++ds)) _ _ E (hr.make C us []) (I2.L3.make C us []) (hb _ (Value.ref 2e3::us) I2.i6 hl) r2 hq) λr s' yG=>?_))
 cases r with
 |error e=>exact hx pins σ _ _ e s' I2 yG
 |ok fl=>
  cases fl with
  |ret u=>
   obtain⟨v,H',I3,rv,ev,q3⟩:=I2.after yG;subst ev;exact⟨rv,⟨V.ref 2e3,H',I3,U,q3⟩⟩
  |next=>exact False.elim yG
  |brk=>exact False.elim yG
  |cont=>exact False.elim yG
def eY(M:Mk X.K C f)(F:fO X.prog X.w X.K X.mg X.base CX k f fd ps sp)(hr:cU (k+1) X.A)(hg:Gl X x)(hm:X.mg x=some (.ref C))(hb:Binds X.K fd ps ds)(hd:Vals jQ ds)(hx:Passes CX X E)
  (ha:PA X (e::es) t) (E1:(x==("__debug__" :Str))=false:=by decide) (he:starEach (e::es) X.env=(false,eval e X.env)::starEach es X.env:=by rfl) (fP:(backTo pos (starEach es X.env)).any 1e4=false:=by rfl):
  PE X (.Call (.Name x p) (e::es) [] pos) (Wa C sp jQ E t):=by
 intro pins s σ H Q I h;refine wpAny_Call_Name_kw (i7 I hg hm ?_ E1);refine PySem.W.callWith_K (h₀:=X.base) I.ok.mod.gv M.kp (b9 (ha pos pins s σ H _ I h) λus s1 ⟨vs,H1,I1,r,q⟩=>⟨I1.i6,?_⟩) he fP;exact Hu M F hr hb hd hx I1 r q
end
section
variable {X:Cx}{CX:C8}{k:Nat}{f C:Py}{fd:FuncData}{ps ks:On}{sp:Sp}{E:XK}{x m:Str}{p pos apos Wb:Pos}{e o:Expr}{es:IN}{kws:List Keyword}{te ta:TE}{t tk:TA}{nm:Option Str}
variable {g:List Value->List Value->List Value}{gV:List V->List V->List V}
end
structure ay(N P:List Str)(sc:Scope):Prop where
 kind:sc.kind= .function
 co:sc.isCoroutine=false
 gen:sc.isGenerator=false
 nd:N.Nodup
 pre:N.take P.length=P
 par:∀x∈P,sc.names.lookup x=some .local\/sc.names.lookup x=some .cell
 Rm:∀y∈sc.names,y.2≠ .free
theorem uV{kindOf:Str->Option NameKind}{x:Str}:∀{binds:List (Str×Value)} {m:Wp},(∀v,(x,v)∉binds)->bindL kindOf binds m x=m x
 | [],_,_=>rfl
 | (n,v)::r,m,h=>by
   unfold bindL;rw[uV λw hw=>h w (mem_cons_of_mem _ hw)];split
   ·have:x≠n:=by rintro rfl;exact h v mem_cons_self
    simp [this]
   ·rfl
theorem uW{kindOf:Str->Option NameKind}{x:Str}:∀{binds:List (Str×Value)} {m:Wp},(∀v,(x,v)∉binds)->bindC kindOf binds m x=m x
 | [],_,_=>rfl
 | (n,v)::r,m,h=>by
   unfold bindC;rw[uW λw hw=>h w (mem_cons_of_mem _ hw)];split
   ·rfl
   ·have:x≠n:=by rintro rfl;exact h v mem_cons_self
    simp [this]
theorem uX{kindOf:Str->Option NameKind}{x:Str}{v:Ps}:∀{P:On} {vs:UV} {i:Nat} {m:Wp},P.Nodup->P[i]? =some x->vs[i]? =some v->kindOf x=some .local->
  bindL kindOf (P.zip vs) m x=some v
 | [],_,_,_,_,h,_,_=>by simp at h
 |_::_,[],_,_,_,_,h,_=>by simp at h
 |p::P,w::vs,0,m,nd,h1,h2,hk=>by
  simp at h1 h2;subst h1;subst h2;show bindL kindOf ((p,w)::P.zip vs) m p=_;unfold bindL;rw[uV λv hv=>(nodup_cons.mp nd).1 (of_mem_zip hv).1,if_pos hk];simp
 |p::P,w::vs,i+1,m,nd,h1,h2,hk=>by
  show bindL kindOf ((p,w)::P.zip vs) m x=_;unfold bindL;exact uX (i:=i) (nodup_cons.mp nd).2 (by simpa using h1) (by simpa using h2) hk
theorem uY{kindOf:Str->Option NameKind}{x:Str}{v:Ps}:∀{P:On} {vs:UV} {i:Nat} {m:Wp},P.Nodup->P[i]? =some x->vs[i]? =some v->kindOf x≠some .local->
  bindC kindOf (P.zip vs) m x=some v
 | [],_,_,_,_,h,_,_=>by simp at h
 |_::_,[],_,_,_,_,h,_=>by simp at h
 |p::P,w::vs,0,m,nd,h1,h2,hk=>by
  simp at h1 h2;subst h1;subst h2;show bindC kindOf ((p,w)::P.zip vs) m p=_;unfold bindC;rw[uW λv hv=>(nodup_cons.mp nd).1 (of_mem_zip hv).1,if_neg hk];simp
 |p::P,w::vs,i+1,m,nd,h1,h2,hk=>by
  show bindC kindOf ((p,w)::P.zip vs) m x=_;unfold bindC;exact uY (i:=i) (nodup_cons.mp nd).2 (by simpa using h1) (by simpa using h2) hk
def start(N:On)(vs:KB):St:=vs.map some++List.replicate (N.length - vs.length) none
def jc(CX:C8)(P:Op)(w:World)(K:Uu)(mg:Wp)(base:Heap)(N:On)(qual:Str)(scope:Scope)(f:Py)(cd:Ps)(A:Pn)(outer:List Env)(s:Os)(H:Hp)(E:XK):Cx where
 prog:=P
 w:=w
 K:=K
 mg:=mg
 base:=base
 A:=A.deeper (envOfC qual scope s.heap.objs.size f cd)
 N:=N
 s₀:=s
 H₀:=H
 env:=envOfC qual scope s.heap.objs.size f cd
 outer:=outer
 stack:=envOfC qual scope s.heap.objs.size f cd::outer
 ex:=[]
 calm:=true
 fn:=λ_=>true
 pn:=[]
 xe:=λe s'=>wpAny (model P w) (A.deeper (envOfC qual scope s.heap.objs.size f cd)) («leaving» (envOfC qual scope s.heap.objs.size f cd) e) (λ_ Wc=>CX outer H s E e Wc) (λe' Wc=>CX outer H s E e' Wc) s'
def yV{sc:Scope}{n:Nat}{x:Str}(h:sc.names.lookup x=some .cell):∃c,(cellsFrom n sc.names []).lookup x=some c:=by
 have q:=PySem.W.cellsFrom_some sc.names n [] (.inl h);exact isSome_iff_exists.mp q
def E2{CX:C8}{P:Op}{w:World}{K:Uu}{mg:Wp}{base:Heap}{N ps:On}{qual:Str}{scope:Scope}{f:Py}{cd:Ps}{A:Pn}{outer:List Env}{s s1:Os}{H:Hp}{E:XK}{us:UV}{vs:KB}
  (S:ay N ps scope) (hd:A.handled=none) (e0:Bi P w K mg base A outer s H) (hl:vs.length=ps.length) (r:Vals vs us)
  (x:InCallC s s.heap.objs.size (bindL (envOfC qual scope s.heap.objs.size f cd).kindOf (ps.zip us) λ_=>none) (cellsFrom 2e3 scope.names []) (bindC (envOfC qual scope s.heap.objs.size f cd).kindOf (ps.zip us) λ_=>none) s1):
  Inv (jc CX P w K mg base N qual scope f cd A outer s H E) [] (start N vs) H s1:=by
 have fP:ps.length<=N.length:=by have:=congrArg List.length S.pre;rw[length_take] at this;omega
 obtain⟨h1,tk,rfl,hk⟩:=x.done;have We:∀b:Addr,b∉(jc CX P w K mg base N qual scope f cd A outer s H E).ex:=λb z=>absurd (show b∈([]:Ix) from z) 2e0
 refine⟨⟨e0.mod,S.kind,U,U,le_refl _,λy z c h1 h2=>?_,λy hy=>?_,λy c _ h=>?_,λ_=>hd,Around.frames_deeper e0.frames, .inr ⟨U,U⟩,λb z=>absurd z (We b),e0.bs,e0.EV,λb _ _=>We b,λb z=>absurd z (We b),e0.lO,e0.He⟩,
  rfl,e0.bare,Un.kept hk,⟨_,x.toInCall.ns,λi y v h1 h2 h3=>?_⟩,λy c h=>⟨_,x.cell y c h⟩,e0.aX.fresh (le_refl _),λy c h=>?_,λp hp=>absurd (show p∈([]:WP) from hp) 2e0,e0.aX.kept hk,?_⟩
 ·exact name_of_addr x.apart (PySem.mem_of_lookup h1) (PySem.mem_of_lookup h2)
 ·have hy:scope.names.lookup y=some .cell\/scope.names.lookup y=some .free:=hy;rcases hy with hy|hy
  ·exact yV hy
  ·exact absurd rfl (S.Rm _ (PySem.mem_of_lookup hy))
 ·exact Nat.le_of_lt (x.above y c (PySem.mem_of_lookup h))
 ·have hi:i<vs.length:=by
   unfold start at h2;by_cases hi:i<vs.length
   ·exact hi
   ·rw[List.getElem?_append_right (by simpa using hi)] at h2;rw[List.getElem?_replicate] at h2;split at h2<;>cases h2
  have ha:vs[i]? =some v:=by
   unfold start at h2;rw[List.getElem?_append_left (by simpa using hi),getElem?_map] at h2
   cases e:vs[i]? with
   |none=>rw[e] at h2;cases h2
   |some a=>rw[e] at h2;cases h2;rfl
  obtain⟨u,hu,rv⟩:=r.get ha
  have hp:ps[i]? =some y:=by
   rw[<-S.pre,List.getElem?_take_of_lt 0e1];exact h1
  have ndP:ps.Nodup:=by rw[<-S.pre];exact S.nd.sublist (List.take_sublist _ _)
  refine⟨u,rv,?_⟩;rcases S.par y (mem_of_getElem? hp) with k|k
  ·exact .inl ⟨k,uX ndP hp hu k⟩
  ·obtain⟨c,e⟩:=yV (n:=s.heap.objs.size+1) k;refine .inr ⟨.inl k,c,e,?_⟩;have q:=x.cell y c e;rw[uY ndP hp hu (by show scope.names.lookup y≠_;rw[k];decide)] at q;exact q
 ·exact e0.aX.fresh (Nat.le_of_lt (x.above y c (PySem.mem_of_lookup h)))
 ·unfold start;show _=N.length;rw[length_append,length_map,List.length_replicate];omega
def fn_of{CX:C8}{P:Op}{w:World}{K:Uu}{mg:Wp}{base:Heap}{k:Nat}{f:Py}{name qual:Str}{params:Arguments}{body:List Stmt}{scope:Scope}{dV kV doc pm bg ct oc:Ps}{an od:UF}
  {p7:Array (Option Value)} {N ps:On} {sp:Sp} (lk:K.lookup f=some ⟨oc,od, .func (fnOf name qual params body scope dV kV doc pm an bg ct),p7⟩) (mx:PySem.W.codeIn K bg qual=true) (S:ay N ps scope)
  (len:∀vs H Q E,sp vs H Q E->vs.length=ps.length)
  (eB:∀(A:Pn) (outer:List Env) (s:Os) (H:Hp) (vs:KB) (Q:VK) (E:XK),cU k (A.deeper (envOfC qual scope s.heap.objs.size f bg))->sp vs H Q E->
   ∃t,mz (jc CX P w K mg base N qual scope f bg A outer s H E) body t/\t { nx:=λ_ H'=>Q .cF H',rt:=Q } (start N vs) H):
  fO P w K mg base CX (k+1) f (fnOf name qual params body scope dV kV doc pm an bg ct) ps sp:=by
 refine⟨len,λA outer s H args us vs Q E hr e0 hb r GQ=>?_⟩;have hl:=len _ _ _ _ GQ;have KX:K.In s.heap:=e0.mod.gv.keeps λb o e=>(e0.bs b o e).1;have lim:s.heap.NoLimit:=e0.mod.nolimit.keeps λb o e=>(e0.bs b o e).1
 have Wf:∀y∈ps.zip us,scope.names.lookup y.1=some .local\/(scope.names.lookup y.1=some .cell/\((cellsFrom 2e3 scope.names []).lookup y.1).isSome=true):=fun⟨n,v⟩ hy=>by
  rcases S.par n (of_mem_zip hy).1 with q|q
  ·exact .inl q
  ·exact .inr ⟨q,PySem.W.cellsFrom_some _ _ _ (.inl q)⟩
 refine codeAny_call_function hr.depth (KX _ _ lk) rfl S.co S.gen rfl (PySem.W.codeRec_of KX mx) (hb _ _ _ _ ?_);refine wpAny_newFunctionEnv_cells S.kind Wf λenv he s1 x=>?_;subst he;refine⟨lim.keeps x.toInCall.keep,codeAny_func ?_⟩;obtain⟨t,ht,hq⟩:=eB A outer s H vs Q E (hr.deeper _) GQ;have I:Inv (jc CX P w K mg base N qual scope f bg A outer s H E) [] (start N vs) H s1:=E2 S hr.hd e0 hl r x;refine wpAny_mono (ht [] s1 (start N vs) H _ I hq) (λfl s' hs=>?_) λe s' hs=>hs;have fin:∀{σ':St} {H':Hp} {v:V} {u:Ps},Inv (jc CX P w K mg base N qual scope f bg A outer s H E) [] σ' H' s'->RelV v u->Q v H'->CE outer P w H s Q u s':=
  fun {σ' H' v u} J rv q=>⟨v,H',J.os,J.bare,J.base,J.aX,rv,q⟩
 cases fl with
 |ret u=>
  obtain⟨v,σ',H',J,rv,q⟩:=hs;exact fin J rv q
 |next=>
  obtain⟨σ',H',J,q⟩:=hs;exact fin (v:=V.cF) (u:=Value.none) J rfl q
 |brk=>
  obtain⟨_,_,_,q⟩:=hs;exact False.elim q
 |cont=>
  obtain⟨_,_,_,q⟩:=hs;exact False.elim q
section
variable {X:Cx}{x:Str}{p pos:Pos}{e:Expr}{es:IN}{t:TA}{id T:String}{r:List V->Hp->VK->Prop}
def tCB(r:List V->Hp->VK->Prop)(t:TA):TE:=fun σ H Q=>t σ H λvs H1=>r vs H1 Q
def bG(hc:gc X (.builtin id) r)(hg:Gl X x)(hm:X.mg x=none)(hv:bootBuiltins x=some (.builtin id))(ha:PA X (e::es) t)(hn:x≠"__name__" :=by decide)(E1:(x==("__debug__" :Str))=false:=by decide)
  (he:starEach (e::es) X.env=(false,eval e X.env)::starEach es X.env:=by rfl) (fP:(backTo pos (starEach es X.env)).any 1e4=false:=by rfl):PE X (.Call (.Name x p) (e::es) [] pos) (tCB r t):=by
 intro pins s σ H Q I h;refine wpAny_Call_Name_kw (lW I hg hm hv ?_ hn E1);exact PyProof.Rows.callWith_builtin1 (b9 (ha pos pins s σ H _ I h) λus s1 ⟨vs,H1,I1,r1,q1⟩=>hc pins s1 σ H1 vs us Q I1 r1 q1) he fP
def bx(hc:gc X (.type T) r)(hg:Gl X x)(hm:X.mg x=none)(hv:bootBuiltins x=some (.type T))(ha:PA X (e::es) t)(hn:x≠"__name__" :=by decide)(E1:(x==("__debug__" :Str))=false:=by decide)
  (he:starEach (e::es) X.env=(false,eval e X.env)::starEach es X.env:=by rfl) (fP:(backTo pos (starEach es X.env)).any 1e4=false:=by rfl):PE X (.Call (.Name x p) (e::es) [] pos) (tCB r t):=by
 intro pins s σ H Q I h;refine wpAny_Call_Name_kw (lW I hg hm hv ?_ hn E1);exact PyProof.Rows.callWith_type1 (b9 (ha pos pins s σ H _ I h) λus s1 ⟨vs,H1,I1,r1,q1⟩=>hc pins s1 σ H1 vs us Q I1 r1 q1) he fP
end
section
variable {κ:Type}[DecidableEq κ]
def ck(kvs:List (κ×V))(k:κ):Option V:=(kvs.find? λkv=>decide (kv.1=k)).map (·.2)
def putK(kvs:List (κ×V))(k:κ)(v:V):List (κ×V):=
 if (kvs.any λkv=>decide (kv.1=k))=true then kvs.map (λkv=>if kv.1=k then (kv.1,v) else kv) else kvs++[(k,v)]
def de{p:κ×V}{r:List (κ×V)}{k:κ}(e:p.1=k):ck (p::r) k=some p.2:=by simp [ck,find?_cons,e]
def dh{p:κ×V}{r:List (κ×V)}{k:κ}(e:¬p.1=k):ck (p::r) k=ck r k:=by simp [ck,find?_cons,e]
theorem eZ(k:κ):∀kvs:List (κ×V),(kvs.any λkv=>decide (kv.1=k))=(ck kvs k).isSome
 | []=>rfl
 |p::r=>by
  rw[any_cons];by_cases e:p.1=k
  ·simp only [de e,decide_eq_true e,Bool.true_or,Option.isSome_some]
  ·rw[dh e,decide_eq_false e,Bool.false_or];exact eZ k r
theorem yW(k j:κ)(y:V):∀kvs:List (κ×V),ck (kvs.map λkv=>if kv.1=k then (kv.1,y) else kv) j=(ck kvs j).map λx=>if j=k then y else x
 | []=>rfl
 |p::r=>by
  have ih:=yW k j y r;rw[map_cons];by_cases h:p.1=k
  ·rw[if_pos h];by_cases e:p.1=j
   ·rw[de (p:=(p.1,y)) e,de e,map_some,if_pos (e.symm.trans h)]
   ·rw[dh (p:=(p.1,y)) e,dh e,ih]
  ·rw[if_neg h];by_cases e:p.1=j
   ·rw[de (p:=p) e,de e,map_some,if_neg (λz=>h (e.trans z))]
   ·rw[dh (p:=p) e,dh e,ih]
theorem uZ(k j:κ)(y:V):∀kvs:List (κ×V),ck kvs k=none->ck (kvs++[(k,y)]) j=if j=k then some y else ck kvs j
 | [],_=>by
   by_cases e:k=j
   ·rw[if_pos e.symm];exact de (p:=(k,y)) e
   ·rw[if_neg (λz=>e z.symm)];exact dh (p:=(k,y)) e
 |p::r,hn=>by
  rw[cons_append];have hk:¬p.1=k:=λz=>by rw[de z] at hn;cases hn
  rw[dh hk] at hn;have ih:=uZ k j y r hn;by_cases e:p.1=j
  ·rw[de e,de e,if_neg (λz=>hk (e.trans z))]
  ·rw[dh e,dh e,ih]
def Hv(kvs:List (κ×V))(k j:κ)(y:V):ck (putK kvs k y) j=if j=k then some y else ck kvs j:=by
 unfold putK;by_cases a:(kvs.any λkv=>decide (kv.1=k))=true
 ·rw[if_pos a,yW];rw[eZ] at a;by_cases e:j=k
  ·obtain⟨x,hx⟩:=isSome_iff_exists.mp a;rw[if_pos e,e,hx,map_some,if_pos rfl]
  ·rw[if_neg e]
   cases ck kvs j with
   |none=>rfl
   |some x=>rw[map_some,if_neg e]
 ·rw[if_neg a];refine uZ k j y kvs ?_;rw[eZ] at a
  cases q:ck kvs k with
  |none=>rfl
  |some x=>rw[q] at a;exact(a rfl).elim
def cE(kvs:List (κ×V))(k:κ)(v:V):(putK kvs k v).length<=kvs.length+1:=by
 unfold putK;split
 ·rw[length_map];omega
 ·rw[length_append,length_cons,length_nil];omega
def mF{kvs:List (κ×V)}{k:κ}(v:V)(h:ck kvs k=none):putK kvs k v=kvs++[(k,v)]:=by
 unfold putK;rw[eZ,h];exact if_neg 0e2
def gH.E3{o:Option V}{u:Option Value}(r:gH o u):o.isSome=u.isSome:=by
 cases o with
 |none=>cases u with
  |none=>rfl
  |some _=>exact(show False from r).elim
 |some _=>cases u with
  |none=>exact(show False from r).elim
  |some _=>rfl
theorem gH.getD{o:Option V}{u:Option Value}{d:V}{d':Ps}(r:gH o u)(rd:RelV d d'):RelV (o.getD d) (u.getD d'):=by
 cases o with
 |none=>cases u with
  |none=>exact rd
  |some _=>exact(show False from r).elim
 |some _=>cases u with
  |none=>exact(show False from r).elim
  |some _=>exact r
def KV.val{kvs:List (κ×V)}{vs:List (κ×Value)}(r:KV kvs vs)(k:κ):gH (ck kvs k) (valueAt vs k):=by
 unfold KV at r
 induction r with
 |nil=>exact True.intro
 | @cons p q ps qs h t ih=>
   obtain⟨h1,h2⟩:=h;by_cases e:p.1=k
   ·have e':q.1=k:=h1.symm.trans e;have b:valueAt (q::qs) k=some q.2:=by simp [valueAt,find?_cons,e']
    rw[de e,b];exact h2
   ·have e':¬q.1=k:=λz=>e (h1.trans z);have b:valueAt (q::qs) k=valueAt qs k:=by simp [valueAt,find?_cons,e']
    rw[dh e,b];exact ih
theorem KV.any{kvs:List (κ×V)}{vs:List (κ×Value)}(r:KV kvs vs)(k:κ):(kvs.any λkv=>decide (kv.1=k))=vs.any λkv=>decide (kv.1=k):=by
 unfold KV at r
 induction r with
 |nil=>rfl
 |cons h t ih=>rw[any_cons,any_cons,ih,h.1]
def KV.Rn{kvs:List (κ×V)}{vs:List (κ×Value)}(r:KV kvs vs)(k:κ){y:V}{u:Ps}(ry:RelV y u):
  KV (kvs.map λkv=>if kv.1=k then (kv.1,y) else kv) (vs.map λkv=>if kv.1=k then (kv.1,u) else kv):=by
 unfold KV at r |-
 induction r with
 |nil=>exact .nil
 | @cons p q ps qs h t ih=>
   rw[map_cons,map_cons];refine .cons ?_ ih;obtain⟨h1,h2⟩:=h;by_cases e:p.1=k
   ·rw[if_pos e,if_pos (h1.symm.trans e)];exact⟨h1,ry⟩
   ·rw[if_neg e,if_neg (λz=>e (h1.trans z))];exact⟨h1,h2⟩
def KV.put{kvs:List (κ×V)}{vs:List (κ×Value)}(r:KV kvs vs)(k:κ){y:V}{u:Ps}(ry:RelV y u):KV (putK kvs k y) (stored vs k u):=by
 unfold putK stored;rw[r.any k];by_cases e:(vs.any λkv=>decide (kv.1=k))=true
 ·rw[if_pos e,if_pos e];exact r.Rn k ry
 ·rw[if_neg e,if_neg e];exact Paired.snoc r ⟨rfl,ry⟩
def KV.keys{kvs:List (κ×V)}{vs:List (κ×Value)}(r:KV kvs vs):kvs.map 1e4=vs.map 1e4:=by
 unfold KV at r
 induction r with
 |nil=>rfl
 |cons h t ih=>rw[map_cons,map_cons,ih,h.1]
theorem KV.length{kvs:List (κ×V)}{vs:List (κ×Value)}(r:KV kvs vs):kvs.length=vs.length:=Paired.length r
end
def u5{P:Op}{w:World}{k:Key}{u:Ps}(r:RelV (kV k) u):(bE P w).is k u=true:=by
 cases k with
 |inl i=>obtain⟨t,e⟩:=(show∃t,u=Value.int i t from r);subst e;exact yM P w i t
 |inr x=>obtain⟨t,e⟩:=(show∃t,u=Value.str x t from r);subst e;exact yN P w x t
theorem items_are{P:Op}{w:World}:∀{ks:No} {us:UV},Vals (ks.map kV) us->ItemsAre (bE P w) ks us
 | [],_,r=>by rw[map_nil] at r;cases r;exact .nil
 |k::ks,_,r=>by
  rw[map_cons] at r
  cases r with
  |cons h t=>exact .cons (u5 h) (items_are t)
abbrev KT(H:Hp):List (List Key×V)->List (List Key×Addr×Value)->Prop:=Paired λp q=>p.1=q.1/\H q.2.1=some (.tup (p.1.map kV))/\RelV p.2 q.2.2
def KT.val{H:Hp}{kvs:List (List Key×V)}{xs:List (List Key×Addr×Value)}(r:KT H kvs xs)(k:No):gH (ck kvs k) ((atKey xs k).map (·.2)):=by
 induction r with
 |nil=>exact True.intro
 | @cons p q ps qs h t ih=>
   obtain⟨h1,_,h2⟩:=h;by_cases e:p.1=k
   ·have e':q.1=k:=h1.symm.trans e;have b:atKey (q::qs) k=some q.2:=by simp [atKey,find?_cons,e']
    rw[de e,b];exact h2
   ·have e':¬q.1=k:=λz=>e (h1.trans z);have b:atKey (q::qs) k=atKey qs k:=by simp [atKey,find?_cons,e']
    rw[dh e,b];exact ih
def KT.Rn{H:Hp}{kvs:List (List Key×V)}{xs:List (List Key×Addr×Value)}(r:KT H kvs xs)(k:No){y:V}{u:Ps}(ry:RelV y u):
  KT H (kvs.map λkv=>if kv.1=k then (kv.1,y) else kv) (xs.map (putAt k u)):=by
 induction r with
 |nil=>exact .nil
 | @cons p q ps qs h t ih=>
   rw[map_cons,map_cons];refine .cons ?_ ih;obtain⟨h1,h2,h3⟩:=h;unfold putAt;by_cases e:p.1=k
   ·rw[if_pos e,if_pos (h1.symm.trans e)];exact⟨h1,h2,ry⟩
   ·rw[if_neg e,if_neg (λz=>e (h1.trans z))];exact⟨h1,h2,h3⟩
def KT.put{H:Hp}{kvs:List (List Key×V)}{xs:List (List Key×Addr×Value)}(r:KT H kvs xs)(k:No){b:Py}{y:V}{u:Ps}(hb:H b=some (.tup (k.map kV)))(ry:RelV y u):
  KT H (putK kvs k y) (storedH xs k b u):=by
 have e:(kvs.any λkv=>decide (kv.1=k))=(atKey xs k).isSome:=by
  rw[eZ,(r.val k).E3,Option.isSome_map]
 unfold putK storedH;rw[e];by_cases q:(atKey xs k).isSome=true
 ·rw[if_pos q,if_pos q];exact r.Rn k ry
 ·rw[if_neg q,if_neg q];exact Paired.snoc r ⟨rfl,hb,ry⟩
def KT.keeps{H H':Hp}{kvs:List (List Key×V)}{xs:List (List Key×Addr×Value)}(r:KT H kvs xs)(ht:∀b ys,H b=some (.tup ys)->H' b=some (.tup ys)):KT H' kvs xs:=
 Paired.QY r λ_ _ z=>⟨z.1,ht _ _ z.2.1,z.2.2⟩
section
variable {P:Op}{w:World}{H:Hp}{h:Heap}{a:Py}
def Pu{u:HO}(ok:jV P w H h)(e:Rd H a u):cu P w H h a u:=e.ok ok
def jR{kvs:PP}(ok:jV P w H h)(e:Rd H a 2e2):kvs.length<=sizeLine/\(a==sysModules)=false/\∃vs,KV kvs vs/\h.DictOf (bE P w) a vs:=
 show cu P w H h a 2e2 from Pu ok e
def qX{kvs:PP}(ok:jV P w H h)(e:H a=some 2e2):kvs.length<=sizeLine/\(a==sysModules)=false/\∃vs,KV kvs vs/\h.DictOf (bE P w) a vs:=jR ok (.inl e)
def key_of{ks:No}(ok:jV P w H h)(e:H a=some (.tup (ks.map kV))):(tupleKind (bE P w)).is h ks a:=by
 obtain⟨_,its,r,o,h1,h2,n,h3⟩:=(show cu P w H h a (.tup (ks.map kV)) from ok a _ e);exact⟨o,its.toArray,n,h1,h2,h3,by simpa using items_are r⟩
def yX{kvs:List (List Key×V)}(ok:jV P w H h)(e:Rd H a (.dT kvs)):kvs.length<=sizeLine/\(a==sysModules)=false/\
  ∃xs,KT H kvs xs/\h.DictOfH (tupleKind (bE P w)) a xs:=by
 obtain⟨z,y,xs,r,o,es,ep,h1,h2,h3,h4,h5⟩:=(show cu P w H h a (.dT kvs) from Pu ok e);refine⟨z,y,xs,r,o,es,ep,h1,h2,h3,h4,λx hx=>?_,h5⟩
 have all:∀{l:List (List Key×V)} {m:List (List Key×Addr×Value)},KT H l m->∀x∈m,(tupleKind (bE P w)).is h x.1 x.2.1:=by
  intro l m q
  induction q with
  |nil=>intro x hx;exact nomatch hx
  | @cons p q ps qs hq t ih=>
    intro x hx;rcases mem_cons.mp hx with e|hx
    ·subst e;exact key_of ok (by rw[<-hq.1];exact hq.2.1)
    ·exact ih x hx
 exact all r x hx
def Wg{kvs:List (List Key×V)}(ok:jV P w H h)(e:H a=some (.dT kvs)):kvs.length<=sizeLine/\(a==sysModules)=false/\
  ∃xs,KT H kvs xs/\h.DictOfH (tupleKind (bE P w)) a xs:=yX ok (.inl e)
end
def fQ(H:Hp)(a:Py)(y:V)(r:Option V):Prop:=
 (∃kvs k,Rd H a 2e2/\y=kV k/\r=ck kvs k)\/∃kvs k b,Rd H a (.dT kvs)/\y= .ref b/\H b=some (.tup (k.map kV))/\r=ck kvs k
def iU(H:Hp)(a:Py)(y v:V)(H':Hp):Prop:=
 (∃kvs k,H a=some 2e2/\y=kV k/\kvs.length<sizeLine/\H'=upd H a (.dK (putK kvs k v)))\/
 ∃kvs k b,H a=some (.dT kvs)/\y= .ref b/\H b=some (.tup (k.map kV))/\kvs.length<sizeLine/\H'=upd H a (.dT (putK kvs k v))
theorem fQ.k{H:Hp}{a:Py}{kvs:PP}{k:Key}(e:H a=some 2e2):fQ H a (kV k) (ck kvs k):= .inl ⟨kvs,k, .inl e,rfl,rfl⟩
theorem iU.k{H:Hp}{a:Py}{kvs:PP}{k:Key}{v:V}(e:H a=some 2e2)(hl:kvs.length<sizeLine):iU H a (kV k) v (upd H a (.dK (putK kvs k v))):= .inl ⟨kvs,k,e,rfl,hl,rfl⟩
section
variable {X:Cx}{pins:WP}{σ:St}{H:Hp}{s:Os}{a:Py}{y v:V}{u r:Ps}{o:Option V}{A:Pn}{E:XV}
def Inv.big(I:0e5):sysModules<s.heap.objs.size:=by
 have h:mainGlobals<s.heap.objs.size:=(I.mod.glob.keeps I.bk).lt;exact lt_trans 0e2 h
def E4{Q:XV}(hu:A.units+1<cLine)(I:0e5)(g:fQ H a y (some v))(ry:RelV y u)(h:∀w' s',Inv X pins σ H s'->RelV v w'->Q w' s'):
  wpAny 0e8 A (getItem (.ref a) u) Q E s:=by
 rcases g with ⟨kvs,k,e,ey,l⟩ | ⟨kvs,k,b,e,ey,eb,l⟩
 ·subst ey;obtain⟨z,hd,vs,rel,dd⟩:=jR I.aX e;obtain⟨w',hw,AX⟩:=gH.some_of (v:=v) (o:=valueAt vs k) (by rw[l];exact rel.val k);exact wpAny_getItem_of (u5 ry) dd.mapOf hw (h w' _ (I.tok _) AX)
 ·subst ey;cases (show u=Value.ref b from ry);obtain⟨z,hd,xs,rel,dd⟩:=yX I.aX e;obtain⟨w',hw,AX⟩:=gH.some_of (v:=v) (o:=(atKey xs k).map (·.2)) (by rw[l];exact rel.val k);obtain⟨p,hp,L6⟩:=Option.map_eq_some_iff.mp hw;refine wpAny_getItem_heap (tupleKind_room_in1 hu) (key_of I.aX eb) dd hp ?_;rw[L6];exact h w' _ (I.tok _) AX
def p8{h':Heap}{t':Nat}{ob:HO}(I:0e5)(mu:VI (H a))(hs:Heap.SameBut a s.heap h')(he:∃q,h'.get? a=some q)(new:cu X.prog X.w (upd H a ob) h' a ob):
  Inv X pins σ (upd H a ob) { s with heap:=h',toks:=t' }:=
 I.write (x:=a) (e:=a) mu (.inl rfl) (λb q hb z=>(hs.2 b hb).trans z) he new
def qY{P:Op}{w:World}{H':Hp}{h':Heap}{kvs:PP}{vs:List (Key×Value)}(z:kvs.length<=sizeLine)(hd:(a==sysModules)=false)(rel:KV kvs vs)(dd:h'.DictOf (bE P w) a vs):
  cu P w H' h' a 2e2:=⟨z,hd,vs,rel,dd⟩
def E5{H':Hp}{Q:ZB}(hu:A.units+1<cLine)(I:0e5)(g:iU H a y v H')(ry:RelV y u)(rv:RelV v r)(h:∀s',Inv X pins σ H' s'->Q () s'):
  wpAny 0e8 A (setItem (.ref a) u r) Q E s:=by
 rcases g with ⟨kvs,k,e,ey,l,eH⟩ | ⟨kvs,k,b,e,ey,eb,l,eH⟩
 ·subst ey eH;obtain⟨z,hd,vs,rel,dd⟩:=qX I.aX e;have hz:vs.length<=sizeLine:=by rw[<-rel.length];exact z
  have hl:(putK kvs k v).length<=sizeLine:=by have:=cE kvs k v;omega
  refine wpAny_setItem_pairs (hsz:=hz) (u5 ry) dd λh' E6 hs=>h _ ?_;have he:∃q,h'.get? a=some q:=let ⟨q,_,_,hq,_⟩:=E6;⟨q,hq⟩;exact p8 I (by rw[e];exact True.intro) hs he (qY hl hd (rel.put k rv) E6)
 ·subst ey eH;cases (show u=Value.ref b from ry);obtain⟨z,hd,xs,rel,dd⟩:=Wg I.aX e;have hz:xs.length<=sizeLine:=by rw[<-Paired.length rel];exact z
  have hl:(putK kvs k v).length<=sizeLine:=by have:=cE kvs k v;omega
  refine wpAny_setItem_heap (hsz:=hz) (tupleKind_room_in1 hu) (key_of I.aX eb) dd λh' E6 hs=>h _ ?_;obtain⟨q,es,ep,hq,h2,h3,h4,_,h5⟩:=E6;refine p8 I (by rw[e];exact True.intro) hs ⟨q,hq⟩ ⟨hl,hd,_,(rel.put k eb rv).keeps λc ys ec=>?_,q,es,ep,hq,h2,h3,h4,h5⟩;rw[ah (bj ec e (λz=>nomatch z))];exact ec
end
section
variable {X:Cx}{pins:WP}{σ:St}{H:Hp}{s:Os}{a:Py}{kvs:PP}{k:Key}{u:Ps}{A:Pn}{E:XV}
def Wh{Q:XV}(I:0e5)(e:Rd H a 2e2)(h:∀t s',Inv X pins σ H s'->Q (.int kvs.length t) s'):wpAny 0e8 A (call (.builtin "len") [.ref a]) Q E s:=by
 obtain⟨z,hd,vs,rel,dd⟩:=jR I.aX e;refine call_len_dict hd dd (by rw[<-rel.length];rw[sizeLine_eq] at z;omega) ?_;rw[<-rel.length];exact h _ _ (I.tok _)
end
def Wi(i:Expr):Prop:=∀ov iv,subscripted i false ov iv=operate [ov,iv] (getItem ov iv)
def L7{prog:Op}{w:World}{A:Pn}{E:XV}{s:Os}{env:Env}{value slice:Expr}{pos:Pos}{T id:String}{Q:XV}
  (hl:typeLookup (.type T) "__getitem__" =pure (some (.builtin id))) (hs:Wi slice)
  (h:wpAny 1e9 A (eval value env) (λo s₁=>wpAny 1e9 A (eval slice env) (λi s₂=>s₂.TypeIs o T/\wpAny 1e9 A (getItem o i) Q E s₂) E s₁) E s):
  wpAny 1e9 A (eval (.Subscript value slice pos) env) Q E s:=by
 refine Subscript_ (wpAny_mono h (λo s₁ h₁=>wpAny_mono h₁ (λi s₂ h₂=>?_) λ_ _ x=>x) λ_ _ x=>x);obtain⟨hT,h₂⟩:=h₂;unfold subscriptTail;refine wpAny_bind ?_;rw[getitemInPython_of_ne hT.not_modules];refine wpAny_bind (wpAny_specialOf hT hl ?_)
 have fin:wpAny 1e9 A (subscripted slice false o i) (λr s₃=>wpAny 1e9 A (letTemporaryGo value o r >>= λ_=>pure r) Q E s₃) E s₂:=by
  rw[hs o i];exact wpAny_operating (wpAny_mono h₂ (λr s₃ h₃=>wpAny_bind (wpAny_letTemporaryGo (wpAny_pure h₃))) λ_ _ x=>x)
 first
  |exact wpAny_pure (wpAny_bind fin)
  |exact wpAny_bind (wpAny_pure (wpAny_bind fin))
  |exact wpAny_bind fin
def yY{X:Cx}{pins:WP}{σ:St}{H:Hp}{s:Os}{a:Py}{y:V}{o:Option V}(I:0e5)(g:fQ H a y o):s.TypeIs (.ref a) "dict" :=by
 rcases g with ⟨kvs,k,e,_,_⟩ | ⟨kvs,k,b,e,_,_,_⟩
 ·obtain⟨_,_,vs,_,dd⟩:=jR I.aX e;exact dd.typeIs
 ·obtain⟨_,_,xs,_,dd⟩:=yX I.aX e;exact dd.typeIs
inductive Ro(Q:VK)(x:V)(y:V)(H2:Hp):Prop
 |mk (a v:_) (bM:x= .ref a) (bV:fQ H2 a y (some v)) (b8:Q v H2)
def Hw(td ty:TE):TE:=fun σ H Q=>td σ H λx H1=>ty σ H1 (Ro Q x)
inductive Rp(D:Ends)(σ:St)(v:V)(x:V)(y:V)(H3:Hp):Prop
 |mk (a H4:_) (bM:x= .ref a) (bV:iU H3 a y v H4) (b8:D.nx σ H4)
def Hx(td ty tv:TE):TS:=λD σ H=>tv σ H λv H1=>td σ H1 λx H2=>ty σ H2 (Rp D σ v x)
section
variable {X:Cx}{o i e value:Expr}{pos pos' mE:Pos}{td ty tv:TE}
def cf(hu:X.A.units+1<cLine)(ho:PE X o td)(hi:PE X i ty)(hs:Wi i):PE X (.Subscript o i pos) (Hw td ty):=by
 intro pins s σ H Q I h;refine L7 PySem.F.slot_dict_getitem.lookup hs (b9 (ho pins s σ H _ I h) λu s1 ⟨x,H1,I1,rx,q1⟩=>b9 (hi pins s1 σ H1 _ I1 q1) λiv s2 ⟨y,H2,I2,ry,a,v,ex,g,q2⟩=>?_);subst ex;obtain rfl:u=Value.ref a:=rx;exact⟨yY I2 g,E4 hu I2 g ry λw' s3 I3 AX=>⟨v,H2,I3,AX,q2⟩⟩
def cP(hu:X.A.units+1<cLine)(ho:PE X o td)(hi:PE X i ty)(hv:PE X value tv)(hs:swapsWith value (some (.Subscript o i pos')) pos.line X.env=pure false):
  PS X (.Assign [.Subscript o i pos'] value pos) (Hx td ty tv):=by
 intro pins s σ H D I h;refine wpAny_Assign_Subscript (b9 (hv pins s σ H _ I h) λr s1 ⟨v,H1,I1,rv,q1⟩=>b9 (ho pins s1 σ H1 _ I1 q1) λu s2 ⟨x,H2,I2,rx,q2⟩=>b9 (hi pins s2 σ H2 _ I2 q2) λiv s3 ⟨y,H3,I3,ry,a,H4,ex,g,q3⟩=>?_) hs;subst ex;obtain rfl:u=Value.ref a:=rx;exact E5 hu I3 g ry rv λs4 I4=>⟨σ,H4,I4,q3⟩
end
def yZ{P:Op}{w:World}{H:Hp}(h:Heap)(hb:sysModules<h.objs.size):cu P w H (h.push { cls:= .type "dict",data:= .dict #[] }) h.objs.size (.dK []):=
 ⟨zero_le _,beq_eq_false_iff_ne.mpr (Ne.symm (ne_of_lt hb)),[], .nil,Heap.DictOf.new h⟩
def Rq:TE:=λ_ H Q=>∀p,H p=none->Q (.ref p) (upd H p (.dK []))
section
variable {X:Cx}{pos:Pos}
def eC:PE X (.Dict [] [] pos) Rq:=λpins s σ H Q I h=>
 wpAny_Dict_empty ⟨.ref s.heap.objs.size,_,I.laid (a:=s.heap.objs.size) (o:= .dK []) (t':=s.toks) (λ_ _ q=>Heap.get?_push_of_some _ q) (le_refl _) (yZ s.heap I.big),rfl,h _ (I.aX.fresh (le_refl _))⟩
end
def Bk:List (TE×TE)->St->Hp->(List (V×V)->Hp->Prop)->Prop
 | [],_,H,Q=>Q [] H
 | (tk,tv)::r,σ,H,Q=>tk σ H λx H1=>tv σ H1 λy H2=>Bk r σ H2 λps H3=>Q ((x,y)::ps) H3
abbrev VV:List (V×V)->List (Value×Value)->Prop:=Paired λp q=>RelV p.1 q.1/\RelV p.2 q.2
def PPs(X:Cx)(pos:Pos)(keys:List (Option Expr))(values:IN)(L8:List (TE×TE)):Prop:=
 ∀(pins:WP) (s:Os) (σ:St) (H:Hp) (Q:List (V×V)->Hp->Prop),Inv X pins σ H s->Bk L8 σ H Q->
  wpAny 0e8 X.A (evalPairs (pairTrees keys values X.env pos)) (λvs s'=>∃ps H',Inv X pins σ H' s'/\VV ps vs/\Q ps H') X.xe s
def ix{X:Cx}{pos:Pos}:PPs X pos [] [] []:=λpins s σ H Q I h=>pairTrees_nil_walk ⟨[],H,I, .nil,h⟩
def gi{X:Cx}{pos:Pos}{k v:Expr}{ks:List (Option Expr)}{vs:IN}{tk tv:TE}{L8:List (TE×TE)}(hk:PE X k tk)(hv:PE X v tv)(hr:PPs X pos ks vs L8):
  PPs X pos (some k::ks) (v::vs) ((tk,tv)::L8):=λpins s σ H Q I h=>
 pairTrees_cons_walk (b9 (hk pins s σ H _ I h) λu s1 ⟨x,H1,I1,rx,q1⟩=>b9 (hv pins s1 σ H1 _ I1 q1) λw2 s2 ⟨y,H2,I2,ry,q2⟩=>
  b9 (hr pins s2 σ H2 _ I2 q2) λws s3 ⟨ps,H3,I3,rel,q3⟩=>⟨(x,y)::ps,H3,I3, .cons ⟨rx,ry⟩ rel,q3⟩)
def bD(kvs more:PP):List (Key×V):=more.foldl (λacc kv=>putK acc kv.1 kv.2) kvs
def KV.merge:∀{more:PP} {rs:List (Key×Value)} {kvs:PP} {vs:List (Key×Value)},KV more rs->KV kvs vs->KV (bD kvs more) (merged vs rs):=by
 intro more rs kvs vs r;unfold KV at r
 induction r generalizing kvs vs with
 |nil=>intro q;exact q
 | @cons p q ps qs h t ih=>
   intro r0
   have e:KV (putK kvs p.1 p.2) (stored vs q.1 q.2):=by
    have:=r0.put p.1 h.2;rw[<-h.1];exact this
   exact ih e
theorem eD:∀(more kvs:PP),(bD kvs more).length<=kvs.length+more.length
 | [],kvs=>by show kvs.length<=kvs.length+0;omega
 |p::r,kvs=>by
  have h1:=eD r (putK kvs p.1 p.2);have h2:=cE kvs p.1 p.2;show (bD (putK kvs p.1 p.2) r).length<=_;rw[length_cons];omega
theorem qZ{P:Op}{w:World}:∀{kvs:PP} {ws:List (Value×Value)},VV (kvs.map λkv=>(kV kv.1,kv.2)) ws->∃rs,Carries (bE P w) ws rs/\KV kvs rs
 | [],_,r=>by rw[map_nil] at r;cases r;exact⟨[],True.intro, .nil⟩
 |p::kvs,_,r=>by
  rw[map_cons] at r
  cases r with
  | @cons a b as bs h t=>
    obtain⟨rs,c,q⟩:=qZ (P:=P) (w:=w) t;obtain⟨b1,b2⟩:=b;exact⟨(p.1,b2)::rs,⟨u5 h.1,U,c⟩, .cons ⟨U,h.2⟩ q⟩
def Wj(L8:List (TE×TE)):TE:=fun σ H Q=>∀p,H p=none->Bk L8 σ (upd H p (.dK [])) λps H2=>H2 p=some (.dK [])/\∃kvs:List (Key×V),ps=kvs.map (λkv=>(kV kv.1,kv.2))/\kvs.length<=15/\Q (.ref p) (upd H2 p (.dK (bD [] kvs)))
def iy{X:Cx}{pos:Pos}{keys:List (Option Expr)}{values:IN}{L8:List (TE×TE)}(h:PPs X pos keys values L8)(E7:keys.all (·.isSome)=true)(hl:keys.length=values.length)(h0:keys≠[])
  (h15:keys.length<=15):PE X (.Dict keys values pos) (Wj L8):=by
 intro pins s σ H Q I q;have hn:=I.aX.fresh (le_refl s.heap.objs.size);have I1:=I.laid (a:=s.heap.objs.size) (o:= .dK []) (h':=s.heap.push { cls:= .type "dict",data:= .dict #[] }) (t':=s.toks) (λ_ _ q=>Heap.get?_push_of_some _ q) (le_refl _) (yZ s.heap I.big);refine wpAny_Dict_walk (knd:=bE X.prog X.w) E7 hl h0 h15 (b9 (h pins _ σ _ _ I1 (q _ hn)) λws s2 ⟨ps,H2,I2,rel,e,kvs,ep,lk,q2⟩=>?_);subst ep;obtain⟨rs,c,rk⟩:=qZ (P:=X.prog) (w:=X.w) rel;obtain⟨z,hd,vs0,r0,dd⟩:=qX I2.aX e;cases r0;refine⟨rs,c,dd,λh' E6 hs=>⟨.ref s.heap.objs.size,_,?_,U,q2⟩⟩
 have hz:(bD [] kvs).length<=sizeLine:=by
  have h1:=eD kvs [];rw[length_nil] at h1;rw[sizeLine_eq];omega
 have he:∃q,h'.get? s.heap.objs.size=some q:=let ⟨q,_,_,hq,_⟩:=E6;⟨q,hq⟩;exact p8 I2 (by rw[e];exact True.intro) hs he (qY hz hd (rk.merge .nil) E6)
structure M1(X:Cx)(o:Expr)(m:Str)(apos:Pos)(e:Expr)(gw:Pos):Prop where
 base:attributeBase o m X.env (eval o X.env)=eval o X.env
 few:((backTo gw (starEach [e] X.env)).all (λx=>!x.1)&&(backToKw gw (keywordEach [] X.env)).all (λx=>x.1.isSome)
  &&decide (([e]:List Expr).length+([]:List Keyword).length+(if ([]:List Keyword).isEmpty then 0 else 1) <30))=true
 line:(apos.endLine==gw.line)=true
 trees:backTo gw (starEach [e] X.env)=[(false,eval e X.env)]
structure M2(X:Cx)(o:Expr)(m:Str)(apos:Pos)(e f:Expr)(gw:Pos):Prop where
 base:attributeBase o m X.env (eval o X.env)=eval o X.env
 few:((backTo gw (starEach [e,f] X.env)).all (λx=>!x.1)&&(backToKw gw (keywordEach [] X.env)).all (λx=>x.1.isSome)
  &&decide (([e,f]:List Expr).length+([]:List Keyword).length+(if ([]:List Keyword).isEmpty then 0 else 1) <30))=true
 line:(apos.endLine==gw.line)=true
 trees:backTo gw (starEach [e,f] X.env)=[(false,eval e X.env),(false,eval f X.env)]
def IsD(H:Hp)(a:Py):Prop:=(∃kvs,Rd H a 2e2)\/∃kvs,Rd H a (.dT kvs)
def Hy{X:Cx}{pins:WP}{σ:St}{H:Hp}{s:Os}{a:Py}(I:0e5)(d:IsD H a):
  s.TypeIs (.ref a) "dict" /\(∀b,Value.ref a= .ref b->∃ob,s.heap.get? b=some ob/\ob.dict=none)/\(a==sysModules)=false:=by
 rcases d with ⟨kvs,e⟩ | ⟨kvs,e⟩
 ·obtain⟨_,hd,vs,_,dd⟩:=jR I.aX e;refine⟨dd.typeIs,λb q=>?_,hd⟩;cases q;obtain⟨ob,_,_,h1,h2,_⟩:=dd;exact⟨ob,h1,h2.2.1⟩
 ·obtain⟨_,hd,xs,_,dd⟩:=yX I.aX e;refine⟨dd.typeIs,λb q=>?_,hd⟩;cases q;obtain⟨ob,_,_,h1,h2,_⟩:=dd;exact⟨ob,h1,h2.2.1⟩
section
variable {X:Cx}{pins:WP}{σ:St}{H:Hp}{s:Os}{a:Py}{y d:V}{u r:Ps}{o:Option V}{A:Pn}{E:XV}
def Rr{Q:XV}(hu:A.units+1<cLine)(I:0e5)(g:fQ H a y o)(ry:RelV y u)(rd:RelV d r)(h:∀w' s',Inv X pins σ H s'->RelV (o.getD d) w'->Q w' s'):
  wpAny 0e8 A (call (.builtin "dict.get") [.ref a,u,r]) Q E s:=by
 rcases g with ⟨kvs,k,e,ey,l⟩ | ⟨kvs,k,b,e,ey,eb,l⟩
 ·subst ey;obtain⟨z,hd,vs,rel,dd⟩:=jR I.aX e;refine call_meetsIn PySem.F.slot_dict_get dd.typeIs PySem.F.entry_dict_get (PySem.F.args_dict_get_3 _ _ _) (meets_dict_get_default (bE X.prog X.w) a (u5 ry) hd r) ⟨_,dd.mapOf,h _ _ (I.tok _) ?_⟩;rw[l];exact(rel.val k).getD rd
 ·subst ey;cases (show u=Value.ref b from ry);obtain⟨z,hd,xs,rel,dd⟩:=yX I.aX e;refine call_meetsIn PySem.F.slot_dict_get dd.typeIs PySem.F.entry_dict_get (PySem.F.args_dict_get_3 _ _ _) (meetsH_dict_get_default (tupleKind (bE X.prog X.w)) a b hd r) ⟨tupleKind_room_in1 hu,k,xs,key_of I.aX eb,dd,h _ _ (I.tok _) ?_⟩;rw[l];exact(rel.val k).getD rd
end
def Bl(td ty tx:TE):TE:=fun σ H Q=>td σ H λx H1=>∃a,x= .ref a/\IsD H1 a/\ty σ H1 λy H2=>tx σ H2 λz H3=>∃o,fQ H3 a y o/\Q (o.getD z) H3
section
variable {X:Cx}{o e f:Expr}{apos gw:Pos}{td ty tx:TE}
def bS(hu:X.A.units+1<cLine)(ho:PE X o td)(he:PE X e ty)(hf:PE X f tx)(m:M2 X o "get" apos e f gw):PE X (.Call (.Attribute o "get" apos) [e,f] [] gw) (Bl td ty tx):=by
 intro pins s σ H Q I h;refine wpAny_Call_method m.base m.few m.line PySem.F.plainAttrs_dict PySem.F.slot_dict_get PySem.F.type_dict_get (b9 (ho pins s σ H _ I h) λu s1 ⟨x,H1,I1,rx,a,ex,d,q1⟩=>?_);subst ex;obtain rfl:u=Value.ref a:=rx;obtain⟨t1,t2,_⟩:=Hy I1 d;refine⟨t1,t2,?_⟩;rw[m.trees]
 refine Calls.callWith_builtin rfl (Calls.evalArgs_plain (Calls.spliced_cons (b9 (he pins s1 σ H1 _ I1 q1) λiv s2 ⟨y,H2,I2,ry,q2⟩=>
  Calls.spliced_cons (b9 (hf pins s2 σ H2 _ I2 q2) λfv s3 ⟨z,H3,I3,rz,ov,g,q3⟩=>Calls.spliced_nil ?_))))
 exact Rr hu I3 g ry rz λw' s4 I4 AX=>⟨_,H3,I4,AX,q3⟩
end
section
variable {X:Cx}{pins:WP}{σ:St}{H:Hp}{s:Os}{a:Py}{kvs:PP}{A:Pn}{E:XV}
def Hz{Q:XV}(I:0e5)(e:Rd H a 2e2)(h:∀p s',H p=none->Inv X pins σ (upd H p 2e2) s'->Q (.ref p) s'):wpAny 0e8 A (call (.type "dict") [.ref a]) Q E s:=by
 obtain⟨z,hd,vs,rel,dd⟩:=jR I.aX e;refine kt_call_dict hd dd (by rw[<-rel.length];exact z) λh' E6 hs=>?_;refine h _ _ (I.aX.fresh (le_refl _)) (I.laid (a:=s.heap.objs.size) (o:= .dK kvs) (t':=s.toks) (λb q hq=>?_) (le_refl _) (qY z (beq_eq_false_iff_ne.mpr (Ne.symm (ne_of_lt I.big))) rel E6));exact(hs.2 b (ne_of_lt (Heap.lt_size hq))).trans (Heap.get?_push_of_some _ hq)
end
section
variable {X:Cx}{pins:WP}{σ:St}{H:Hp}{s:Os}{a:Py}{y:V}{u:Ps}{A:Pn}{E:XV}
end
end L2
namespace HT
open PySem PyProof.Rows
section
open PySem.SeqAt
open PySem.AutoSeq1 (wpAny_loadPart')
open PySem.MeetsSeq PySem.MeetsSeq2 PySem.MeetsSeq3
end
section
variable {prog:Op}{w:World}{A:Pn}{E:XV}{s:Os}
def u6(n d:Nat):Option Int->Nat
 |none=>d
 |some v=>if v<0 then (v+(n:Int)).toNat else min v.toNat n
def y7(n d:Nat):u6 n d none=d:=rfl
def C9(n d k:Nat):u6 n d (some (k:Int))=min k n:=by
 show (if (k:Int) <0 then ((k:Int)+(n:Int)).toNat else min (k:Int).toNat n)=min k n;rw[if_neg 0e1,Int.toNat_natCast]
end
end HT
namespace L2
open PySem PySem.Spec PyProof.Rows
abbrev TO:=St->Hp->(Option Int->Hp->Prop)->Prop
def PO(X:Cx)(e:Option Expr)(t:TO):Prop:=
 ∀(pins:WP) (s:Os) (σ:St) (H:Hp) (Q:Option Int->Hp->Prop),Inv X pins σ H s->t σ H Q->
  wpAny 0e8 X.A (evalPart e X.env) (λu s'=>∃o H',Inv X pins σ H' s'/\IsPart u o/\Q o H') X.xe s
def L9:TO:=λ_ H Q=>Q none H
def Wk(t:TE):TO:=fun σ H Q=>t σ H λx H1=>∃i,x= .int i/\Q (some i) H1
def intsAre_of{ns:List Int}:∀{us:UV},Vals (ns.map V.int) us->IntsAre us ns:=by
 induction ns with
 |nil=>intro us r;rw[map_nil] at r;cases r;exact .nil
 |cons n ns ih=>
  intro us r;rw[map_cons] at r
  cases r with
  |cons r1 r2=>
   obtain⟨t,e⟩:=r1;subst e;exact .cons n t (ih r2)
section
variable {X:Cx}{e:Expr}{te:TE}{lo hi:Option Expr}{tl th:TO}{pos p2:Pos}
def p9:PO X none L9:=by
 intro pins s σ H Q I h;rw[evalPart_none];exact wpAny_pure ⟨none,H,I, .none,h⟩
def cY(h:PE X e te):PO X (some e) (Wk te):=by
 intro pins s σ H Q I hw;rw[evalPart_some];refine b9 (h pins s σ H _ I hw) λu s1 ⟨x,H1,I1,r1,q1⟩=>?_;obtain⟨i,rfl,q⟩:=q1;obtain⟨t,rfl⟩:=r1;exact⟨some i,H1,I1, .int i t,q⟩
def SlR(X:Cx)(r:V->Option Int->Option Int->Hp->VK->Prop):Prop:=
 ∀(pins:WP) (s:Os) (σ:St) (H:Hp) (x:V) (v vl vu:Ps) (lo hi:Option Int) (sl:Py) (Q:VK),Inv X pins σ H s->RelV x v->s.heap.IsSliceOf sl vl vu .none->IsPart vl lo->IsPart vu hi->r x lo hi H Q->
  ∃T id,typeLookup (.type T) "__getitem__" =pure (some (.builtin id))/\s.TypeIs v T/\wpAny 0e8 X.A (getItem v (.ref sl)) (EP X pins σ Q) X.xe s
def tSl(r:V->Option Int->Option Int->Hp->VK->Prop)(te:TE)(tl th:TO):TE:=fun σ H Q=>te σ H λx H1=>tl σ H1 λl H2=>th σ H2 λu H3=>r x l u H3 Q
def eF{r:V->Option Int->Option Int->Hp->VK->Prop}(hr:SlR X r)(he:PE X e te)(hl:PO X lo tl)(hu:PO X hi th):PE X (.Subscript e (.Slice lo hi none p2) pos) (tSl r te tl th):=by
 intro pins s σ H Q I h;refine Subscript_ (b9 (he pins s σ H _ I h) λv s1 ⟨x,H1,I1,r1,q1⟩=>?_);refine wpAny_Slice (b9 (hl pins s1 σ H1 _ I1 q1) λvl s2 ⟨l,H2,I2,pl,q2⟩=>b9 (hu pins s2 σ H2 _ I2 q2) λvu s3 ⟨u,H3,I3,pu,q3⟩=>?_);rw[evalPart_none];refine wpAny_pure ?_;have I4:Inv X pins σ H3 { s3 with heap:=s3.heap.push { cls:= .type "slice",data:= .fields #[vl,vu, .none] } }:=I3.kept (t':=s3.toks) λb ob q=>Heap.get?_push_of_some _ q;obtain⟨T,id,hT,ht,hg⟩:=hr pins { s3 with heap:=s3.heap.push { cls:= .type "slice",data:= .fields #[vl,vu, .none] } } σ H3 x v vl vu l u s3.heap.objs.size Q I4 r1 (Heap.IsSliceOf.new ..) pl pu q3;show wpAny 0e8 X.A (subscriptTail e (.Slice lo hi none p2) v (.ref s3.heap.objs.size)) (EP X pins σ Q) X.xe { s3 with heap:=s3.heap.push { cls:= .type "slice",data:= .fields #[vl,vu, .none] } };exact tail_any (ops:=[.ref s3.heap.objs.size,v]) ht hT hg (by with_unfolding_all rfl)
def j5(xs:KB)(lo hi:Option Int):List V:=(xs.drop (HT.u6 xs.length 0 lo)).take (HT.u6 xs.length xs.length hi - HT.u6 xs.length 0 lo)
def o9(xs:KB)(lo hi:Option Int):(j5 xs lo hi).length<=xs.length:=by
 unfold j5;rw[length_take,length_drop];omega
end
def LA(n:Nat)(i:Int):Option Nat:=if 0<=i then (if i<n then some i.toNat else none) else if -(n:Int)<=i then some (i+n).toNat else none
def y8{α:Type}(xs:List α)(i:Int):Option α:=(LA xs.length i).bind λj=>xs[j]?
def Dc{n:Nat}{i:Int}{j:Nat}(h:LA n i=some j):seqIndex? i n=some j/\j<n/\ -(n:Int)<=i/\i<n:=by
 unfold LA at h;by_cases h0:0<=i
 ·rw[if_pos h0] at h;by_cases h1:i<n
  ·rw[if_pos h1] at h;have e:i.toNat=j:=Option.some.inj h;exact⟨by rw[seqIndex_of h0 h1,e],by omega,by omega,h1⟩
  ·rw[if_neg h1] at h;cases h
 ·rw[if_neg h0] at h;by_cases h1: -(n:Int)<=i
  ·rw[if_pos h1] at h;have e:(i+n).toNat=j:=Option.some.inj h;exact⟨by rw[seqIndex_neg 0e1 h1,e],by omega,h1,by omega⟩
  ·rw[if_neg h1] at h;cases h
def wG{α:Type}{xs:List α}{i:Int}{v:α}(h:y8 xs i=some v):∃j,seqIndex? i xs.length=some j/\xs[j]? =some v/\j<xs.length/\ -(xs.length:Int)<=i/\i<xs.length:=by
 unfold y8 at h
 cases e:LA xs.length i with
 |none=>rw[e] at h;cases h
 |some j=>
  rw[e] at h;obtain⟨h1,h2,h3,h4⟩:=Dc e;exact⟨j,h1,h,h2,h3,h4⟩
def qa{α:Type}{xs:List α}{j:Nat}{v:α}(h:xs[j]? =some v):y8 xs (j:Int)=some v:=by
 have hj:j<xs.length:=(List.getElem?_eq_some_iff.mp h).1
 have e:LA xs.length (j:Int)=some j:=by
  unfold LA;rw[if_pos 0e1,if_pos 0e1];simp
 unfold y8;rw[e];exact h
def L'(b:Expr):Prop:=∀o i,subscripted b false o i=operate [o,i] (getItem o i)
def U7(X:Cx)(r:R2):Prop:=
 ∀(value slice:Expr) (pins:WP) (s:Os) (σ:St) (H:Hp) (x y:V) (v u:Ps) (Q:VK),Inv X pins σ H s->RelV x v->RelV y u->r x y H Q->
  subscripted slice false v u=operate [v,u] (getItem v u)->wpAny 0e8 X.A (subscriptTail value slice v u) (EP X pins σ Q) X.xe s
def MtR(X:Cx)(id:String)(r:V->List V->Hp->VK->Prop):Prop:=
 ∀(pins:WP) (s:Os) (σ:St) (H:Hp) (x:V) (xs:KB) (v:Ps) (us:UV) (Q:VK),Inv X pins σ H s->RelV x v->Vals xs us->r x xs H Q->
  wpAny 0e8 X.A (call (.builtin id) (v::us)) (EP X pins σ Q) X.xe s
section
variable {X:Cx}{a b:Expr}{ta tb:TE}{pos:Pos}
def bq{r:R2}(hr:U7 X r)(ha:PE X a ta)(hb:PE X b tb)(hs:L' b):PE X (.Subscript a b pos) (Rh r ta tb):=by
 intro pins s σ H Q I h;exact Subscript_ (Ri ha hb I h λv u s2 x y H2 I2 rx ry q=>hr a b pins s2 σ H2 x y v u Q I2 rx ry q (hs _ _))
inductive Wl(K:1e8)(x:V)(y:V)(H:Hp)(Q:VK):Prop
 |mk (p xs i v:_) (bM:x= .ref p) (bV:y= .int i) (b8:bh K H p xs) (cS:y8 xs i=some v) (eK:Q v H)
def Wm(K:Uu):R2:=Wl K
inductive Wn(K:1e8)(x:V)(y:V)(H:Hp)(Q:VK):Prop
 |mk (p xs i v:_) (bM:x= .ref p) (bV:y= .int i) (b8:gE K H p xs) (cS:y8 xs i=some v) (eK:Q v H)
def Wo(K:Uu):R2:=Wn K
inductive Wq(x:V)(y:V)(H:Hp)(Q:VK):Prop
 |mk (z i c:_) (bM:x= .str z) (bV:y= .int i) (b8:z.length<=sizeLine) (cS:y8 z.cps.toList i=some c) (eK:Q (.str ⟨#[c]⟩) H)
def rIxS:R2:=Wq
def a8:U7 X (Wm X.K):=by
 intro value slice pins s σ H x y v u Q I rx ry h hs;obtain⟨p,xs,i,z,rfl,rfl,hq,he,q⟩:=h;cases rx;obtain⟨t,rfl⟩:=ry;obtain⟨its,r,pl,hz⟩:=I.list hq;obtain⟨j,h1,h2,h3,h4,h5⟩:=wG he;obtain⟨w,ew,AX⟩:=r.get h2;have hl:=r.length;have hn:=lY;have fin:EP X pins σ Q w s:=⟨z,H,I,AX,q⟩;by_cases h0:0<=i
 ·have hj:i.toNat=j:=by
   rw[seqIndex_of h0 h5] at h1;exact Option.some.inj h1
  exact item_listR pl.isList h0 0e1 (by rw[hj];simpa using ew) fin hs
 ·have hj:(i+(its.toArray.size:Int)).toNat=j:=by
   rw[seqIndex_neg 0e1 h4] at h1;rw[size_toArray,<-hl];exact Option.some.inj h1
  exact subscriptTail_builtinR (x:=w) pl.isList.typeIs slot_list_getitem.lookup
   (wpAny_getItem_list_neg (Q:=λr s'=>r=w/\EP X pins σ Q r s') pl.isList 0e1 (by rw[size_toArray]<;>omega) 0e1 (by rw[hj];simpa using ew) ⟨rfl,fin⟩) hs
def j6:U7 X (Wo X.K):=by
 intro value slice pins s σ H x y v u Q I rx ry h hs;obtain⟨p,xs,i,z,rfl,rfl,hq,he,q⟩:=h;cases rx;obtain⟨t,rfl⟩:=ry;obtain⟨its,r,pl,hz⟩:=I.tuple hq;obtain⟨j,h1,h2,h3,h4,h5⟩:=wG he;obtain⟨w,ew,AX⟩:=r.get h2;have hl:=r.length;have hn:=lY;have fin:EP X pins σ Q w s:=⟨z,H,I,AX,q⟩;exact subscriptTail_builtinR (x:=w) pl.typeIs slot_tuple_getitem.lookup
  (getItem_tuple (j:=j) (Q:=λr s'=>r=w/\EP X pins σ Q r s') pl 0e1 0e1 (by rw[size_toArray,<-hl];exact h1) (by simpa using ew) ⟨rfl,fin⟩) hs
def iH:U7 X rIxS:=by
 intro value slice pins s σ H x y v u Q I rx ry h hs;obtain⟨z,i,c,rfl,rfl,hz,he,q⟩:=h;obtain⟨t,rfl⟩:=rx;obtain⟨t',rfl⟩:=ry;obtain⟨j,h1,h2,h3,h4,h5⟩:=wG he;have hl:z.cps.toList.length=z.length:=by simp [Str.length]
 rw[hl] at h1 h4 h5;have hn:=lY
 exact tail_any (typeIs_str s z t) slot_str_getitem.lookup (getItem_str (c:=c) (by
  have e1:decide (i< -(2^63 :Int))=false:=decide_eq_false 0e1;have e2:decide (i≥2^63)=false:=decide_eq_false 0e1
  rw[e1,e2,Bool.or_false]) (by rw[h1];simpa using h2) ⟨.str ⟨#[c]⟩,H,I.tok _,⟨_,rfl⟩,q⟩) hs
def Bm(its:UV)(n j:Nat)(u:Ps):Obj.mapSeq (·.setIfInBounds j u) { cls:= .type "list",data:= .seq its.toArray n }={ cls:= .type "list",data:= .seq (its.set j u).toArray n }:=by
 simp [Obj.mapSeq]
theorem Inv.lst{pins:WP}{σ:St}{H:Hp}{s:Os}{p:Py}{xs:KB}(I:0e5)(h:H p=some (.lst xs)):
  ∃(its:UV) (n:Nat),Vals xs its/\s.heap.get? p=some { cls:= .type "list",data:= .seq its.toArray n }/\xs.length<=sizeLine:=by
 obtain⟨z,its,n,r,e⟩:=I.aX p _ h;exact⟨its,n,r,e,z⟩
def Inv.Rt{pins:WP}{σ:St}{H:Hp}{s:Os}{p:Py}{xs ys:KB}{its its':UV}{n n':Nat}{f:Obj->Obj}(I:0e5)(h:H p=some (.lst xs))
  (ho:s.heap.get? p=some { cls:= .type "list",data:= .seq its.toArray n }) (hf:f { cls:= .type "list",data:= .seq its.toArray n }={ cls:= .type "list",data:= .seq its'.toArray n' }) (r:Vals ys its') (hz:ys.length<=sizeLine) (t:Nat):
  Inv X pins σ (upd H p (.lst ys)) { s with heap:=s.heap.update p f,toks:=t }:=by
 have e:(s.heap.update p f).get? p=some { cls:= .type "list",data:= .seq its'.toArray n' }:=by
  rw[Heap.get?_update_self f ho (by rw[hf]<;>rfl),hf]
 refine I.write (x:=p) (e:=p) (by rw[h];trivial) (.inl rfl) (λb u hb q=>(Heap.get?_update_other _ _ (Ne.symm hb)).trans q) ⟨_,e⟩ ?_;exact⟨hz,its',n',r,e⟩
def Wr:V->V->V->Hp->(Hp->Prop)->Prop:=λo i v H Q=>∃p xs k j,o= .ref p/\i= .int k/\H p=some (.lst xs)/\LA xs.length k=some j/\Q (upd H p (.lst (xs.set j v)))
def set_list:VR X Wr:=by
 intro pins s σ H o i v ov iv u Q I ro ri rv h;obtain⟨p,xs,k,j,rfl,rfl,hp,hj,q⟩:=h;cases ro;obtain⟨t,rfl⟩:=ri;obtain⟨its,n,r,ho,hz⟩:=I.lst hp;obtain⟨h1,h2,h3,h4⟩:=Dc hj;have hl:=r.length;have hn:=lY;have I':Inv X pins σ (upd H p (.lst (xs.set j v))) { s with heap:=s.heap.update p (Obj.mapSeq (·.setIfInBounds j u)) }:=
  I.Rt hp ho (Bm its n j u) (r.set rv j) (by rw[List.length_set];exact hz) s.toks
 by_cases h0:0<=k
 ·have hk:k.toNat=j:=by
   rw[seqIndex_of h0 h4] at h1;exact Option.some.inj h1
  exact PySem.W.ki_setAt ho h0 0e1 (by rw[size_toArray,<-hl];exact h4) (by rw[hk];exact⟨_,I',q⟩)
 ·have hk:(k+(its.toArray.size:Int)).toNat=j:=by
   rw[seqIndex_neg 0e1 h3] at h1;rw[size_toArray,<-hl];exact Option.some.inj h1
  exact PySem.W.ki_setBack ho 0e1 (by rw[size_toArray,<-hl];exact h3) 0e1 (by rw[hk];exact⟨_,I',q⟩)
def slice_bounds(lo hi:Option Int)(n:Nat):(sliceBounds lo hi none n).1=((HT.u6 n 0 lo:Nat):Int)/\(sliceBounds lo hi none n).2.1=((HT.u6 n n hi:Nat):Int)/\(sliceBounds lo hi none n).2.2=1:=by
 refine⟨?_,?_,U⟩
 ·cases lo with
  |none=>simp [sliceBounds,HT.u6]
  |some i=>
   simp only [sliceBounds,HT.u6,getD_none,show (1 :Int) >0 by decide,if_true];by_cases h:i<0
   ·simp only [h,if_true]<;>omega
   ·simp only [h,if_false]<;>omega
 ·cases hi with
  |none=>simp [sliceBounds,HT.u6]
  |some i=>
   simp only [sliceBounds,HT.u6,getD_none,show (1 :Int) >0 by decide,if_true];by_cases h:i<0
   ·simp only [h,if_true]<;>omega
   ·simp only [h,if_false]<;>omega
def t6(its:UV)(lo hi:Option Int):slicePick its.toArray lo hi none=((its.drop (HT.u6 its.length 0 lo)).take (HT.u6 its.length its.length hi - HT.u6 its.length 0 lo)).toArray:=by
 obtain⟨h1,h2,h3⟩:=slice_bounds lo hi its.toArray.size;unfold slicePick;rw[h1,h2,h3];simp only [sliceRange_one,pick_run,size_toArray]<;>rfl
def rSlL(K:Uu):V->Option Int->Option Int->Hp->VK->Prop:=λx lo hi H Q=>∃a xs,x= .ref a/\bh K H a xs/\∀p,H p=none->Q (.ref p) (upd H p (.lst (j5 xs lo hi)))
def k7:SlR X (rSlL X.K):=by
 intro pins s σ H x v vl vu lo hi sl Q I rx hs pl pu h;obtain⟨a,xs,rfl,hx,q⟩:=h;cases rx;obtain⟨its,r,ht,hz⟩:=I.list hx;have hlen:=r.length;refine⟨"list",_,slot_list_getitem.lookup,ht.isList.typeIs,?_⟩;refine wpAny_getItem_list_slice ht.isList hs pl pu .none 2e0 ?_ (by rw[size_toArray]<;>omega);rw[t6,<-hlen];refine⟨.ref s.heap.objs.size,_,I.laid (t':=s.toks) (o:= .lst (j5 xs lo hi)) (λb ob q=>Heap.get?_push_of_some _ q) (le_refl _) ?_,U,q _ (I.aX.fresh (le_refl _))⟩;exact⟨le_trans (o9 xs lo hi) hz,_,0,(r.drop (HT.u6 xs.length 0 lo)).take (HT.u6 xs.length xs.length hi - HT.u6 xs.length 0 lo),Heap.get?_push_size _ rfl⟩
def u7:V->Bool
 | .cF=>true
 | .bl _=>true
 | .int _=>true
 | .str _=>true
 |_=>false
def Ws:V->V->Bool
 | .cF, .cF=>true
 | .bl a, .bl b=>a==b
 | .bl a, .int b=>(if a then 1 else 0)==b
 | .int a, .bl b=>a==(if b then 1 else 0)
 | .int a, .int b=>a==b
 | .str a, .str b=>a==b
 |_,_=>false
def Ru{A:Pn}{s:Os}{y x:V}{u v:Ps}(ry:RelV y u)(rx:RelV x v)(fy:u7 y=true)(fx:u7 x=true):SeqAt.EqAt A s u v (Ws y x):=by
 cases y with
 |cF=>
  cases ry
  cases x with
  |cF=>cases rx;exact SeqAt.EqAt.same _
  |bl b=>cases rx;exact SeqAt.EqAt.none_bool b
  |int b=>obtain⟨t,rfl⟩:=rx;exact SeqAt.EqAt.none_int b t
  |str b=>obtain⟨t,rfl⟩:=rx;exact SeqAt.EqAt.none_str b t
  |_=>exact absurd (show false=true from fx) Bool.false_ne_true
 |bl a=>
  cases ry
  cases x with
  |cF=>cases rx;exact SeqAt.EqAt.bool_none a
  |bl b=>cases rx;exact SeqAt.EqAt.bool_bool a b
  |int b=>obtain⟨t,rfl⟩:=rx;exact SeqAt.EqAt.bool_int a b t
  |str b=>obtain⟨t,rfl⟩:=rx;exact SeqAt.EqAt.bool_str a b t
  |_=>exact absurd (show false=true from fx) Bool.false_ne_true
 |int a=>
  obtain⟨t',rfl⟩:=ry
  cases x with
  |cF=>cases rx;exact SeqAt.EqAt.int_none a t'
  |bl b=>cases rx;exact SeqAt.EqAt.int_bool a t' b
  |int b=>obtain⟨t,rfl⟩:=rx;exact SeqAt.EqAt.int_int a t' b t
  |str b=>obtain⟨t,rfl⟩:=rx;exact SeqAt.EqAt.int_str a t' b t
  |_=>exact absurd (show false=true from fx) Bool.false_ne_true
 |str a=>
  obtain⟨t',rfl⟩:=ry
  cases x with
  |cF=>cases rx;exact SeqAt.EqAt.str_none a t'
  |bl b=>cases rx;exact SeqAt.EqAt.str_bool a t' b
  |int b=>obtain⟨t,rfl⟩:=rx;exact SeqAt.EqAt.str_int a t' b t
  |str b=>obtain⟨t,rfl⟩:=rx;exact SeqAt.EqAt.str_str a t' b t
  |_=>exact absurd (show false=true from fx) Bool.false_ne_true
 |_=>exact absurd (show false=true from fy) Bool.false_ne_true
inductive t7(K:1e8)(xs:List V)(H:Hp)(Q:VK):Prop
 |mk (p ys:_) (bM:xs=[.ref p]) (bV:(bh K H p ys\/gE K H p ys)) (b8:Q (.int ys.length) H)
def cp:gc X (.builtin "len") (t7 X.K):=by
 intro pins s σ H xs us Q I r h;obtain⟨p,ys,rfl,hq,q⟩:=h;obtain⟨u,rfl,rx⟩:=vals1 r;cases rx;have hn:=lY;rcases hq with hq|hq
 ·obtain⟨its,r',pl,hz⟩:=I.list hq;have hlen:=r'.length;exact Calls.call_len_list pl.isList (by simp only [size_toArray]<;>omega) ⟨.int ys.length,H,I.tok _,⟨s.toks+1,by rw[size_toArray,hlen]⟩,q⟩
 ·obtain⟨its,r',pl,hz⟩:=I.tuple hq;have hlen:=r'.length;exact len_tuple pl (by simp only [size_toArray]<;>omega) ⟨.int ys.length,H,I.tok _,⟨s.toks+1,by rw[size_toArray,hlen]⟩,q⟩
def jd:gc X (.builtin "len") (λxs H Q=>∃z,xs=[.str z]/\z.length<=sizeLine/\Q (.int z.length) H):=by
 intro pins s σ H xs us Q I r h;obtain⟨z,rfl,hz,q⟩:=h;obtain⟨u,rfl,t,rfl⟩:=vals1 r;have hn:=lY;exact len_str 0e1 ⟨.int z.length,H,I.tok _,⟨_,rfl⟩,q⟩
inductive t8(K:1e8)(xs:List V)(H:Hp)(Q:VK):Prop
 |mk (p ys:_) (bM:xs=[.ref p]) (bV:(bh K H p ys\/gE K H p ys)) (b8:∀l,H l=none->Q (.ref l) (upd H l (.lst ys)))
def d3:gc X (.type "list") (t8 X.K):=by
 intro pins s σ H xs us Q I r h;obtain⟨p,ys,rfl,hq,q⟩:=h;obtain⟨u,rfl,rx⟩:=vals1 r;cases rx;have fin:∀(its:UV),Vals ys its->ys.length<=sizeLine->∀(h':Heap) (c':Nat),(∀b o',s.heap.get? b=some o'->h'.get? b=some o')->
   h'.get? s.heap.objs.size=some { cls:= .type "list",dict:=none,data:= .seq its.toArray c',slots:=#[] }->EP X pins σ Q (.ref s.heap.objs.size) { s with heap:=h' }:=λits r' hz h' c' kp e=>
  ⟨.ref s.heap.objs.size,_,I.laid (t':=s.toks) kp (le_refl _) (show cu X.prog X.w _ h' _ (.lst ys) from ⟨hz,its,c',r',e⟩),rfl,q _ (I.aX.fresh (le_refl _))⟩
 rcases hq with hq|hq
 ·obtain⟨its,r',pl,hz⟩:=I.list hq;have hlen:=r'.length;obtain⟨o,ho,hc,n,hd⟩:=pl.isList;exact call_list_seq p (.inl rfl) ho hc hd (λh' c' kp e=>fin its r' hz h' c' kp e) (by simp only [size_toArray]<;>omega)
 ·obtain⟨its,r',pl,hz⟩:=I.tuple hq;have hlen:=r'.length;obtain⟨o,ho,hc,n,hd⟩:=pl;exact call_list_seq p (.inr rfl) ho hc hd (λh' c' kp e=>fin its r' hz h' c' kp e) (by simp only [size_toArray]<;>omega)
def tyV(K:Uu)(T:String)(x:V)(H:Hp):Prop:=match x with
 | .str _=>T="str"
 | .int _=>T="int"
 | .ref p=>(T="list" /\∃xs,bh K H p xs)\/(T="tuple" /\∃o,K.lookup p=some o/\o.cls= .type "tuple" /\o.dict=none)\/
   (T="dict" /\((∃kvs,H p=some 2e2)\/∃kvs,H p=some (.dT kvs)))\/(T="set" /\∃S n,H p=some (.set S n))
 |_=>False
def Rv{pins:WP}{σ:St}{H:Hp}{s:Os}{T:String}{x:V}{v:Ps}(I:0e5)(r:RelV x v)(ty:tyV X.K T x H):
  s.TypeIs v T/\∀a,v= .ref a->∃ob,s.heap.get? a=some ob/\ob.dict=none:=by
 cases x with
 |str z=>
  obtain⟨t,rfl⟩:=r;cases (show T="str" from ty);exact⟨typeIs_str s z t,λ_ e=>nomatch e⟩
 |int i=>
  obtain⟨t,rfl⟩:=r;cases (show T="int" from ty);exact⟨typeIs_int s i t,λ_ e=>nomatch e⟩
 |ref p=>
  cases r;rcases ty with ⟨rfl,xs,hq⟩ | ⟨rfl,o,hk,hc,hd⟩ | ⟨rfl,hk⟩ | ⟨rfl,S,n,hk⟩
  ·obtain⟨its,_,pl,_⟩:=I.list hq;refine⟨pl.isList.typeIs,λa e=>?_⟩;cases e;obtain⟨o,n,e,c,hd,_⟩:=pl;exact⟨o,e,hd⟩
  ·refine⟨⟨o,I.i6 p o hk,hc⟩,λa e=>?_⟩;cases e;exact⟨o,I.i6 _ o hk,hd⟩
  ·have z:∃o,s.heap.get? p=some o/\o.ExactDict:=by
    rcases hk with ⟨kvs,hk⟩ | ⟨kvs,hk⟩
    ·obtain⟨_,_,_,_,o,_,_,e,ex,_⟩:=I.aX p _ hk;exact⟨o,e,ex⟩
    ·obtain⟨_,_,_,_,o,_,_,e,ex,_⟩:=I.aX p _ hk;exact⟨o,e,ex⟩
   obtain⟨o,e,ex⟩:=z;refine⟨⟨o,e,ex.1⟩,λa e2=>?_⟩;cases e2;exact⟨o,e,ex.2.1⟩
  ·obtain⟨o,_,_,_,e,ex,_⟩:=I.aX p _ hk;refine⟨⟨o,e,ex.1⟩,λa e2=>?_⟩;cases e2;exact⟨o,e,ex.2.1⟩
 |_=>exact False.elim ty
def tBM(K:Uu)(T:String)(r:V->List V->Hp->VK->Prop)(to:TE)(t:TA):TE:=fun σ H Q=>to σ H λx H1=>tyV K T x H1/\t σ H1 λxs H2=>r x xs H2 Q
variable {o e:Expr}{es:IN}{to:TE}{t:TA}{name:Str}{apos gw:Pos}{T id:String}{r:V->List V->Hp->VK->Prop}
def eU(pa:PlainAttrs T)(slot:Slot T name id)(Wt:typeOf (.builtin id)=pure (.type "method_descriptor"))(hm:MtR X id r)(ho:PE X o to)(ha:PA X (e::es) t)
  (Wu:attributeBase o name X.env (eval o X.env)=eval o X.env:=by rfl)
  (hfew:((backTo gw (starEach (e::es) X.env)).all (λx=>!x.1)&&(backToKw gw (keywordEach [] X.env)).all (λx=>x.1.isSome)
   &&decide ((e::es).length+([]:List Keyword).length+(if ([]:List Keyword).isEmpty then 0 else 1) <30))=true:=by rfl)
  (HA:(apos.endLine==gw.line)=true:=by rfl) (hs:starEach (e::es) X.env=(false,eval e X.env)::starEach es X.env:=by rfl) (Rw:(backTo gw (starEach es X.env)).any 1e4=false:=by rfl):
  PE X (.Call (.Attribute o name apos) (e::es) [] gw) (tBM X.K T r to t):=by
 intro pins s σ H Q I h;refine wpAny_Call_method_late Wu hfew HA rfl (b9 (ho pins s σ H _ I h) λv s1 ⟨x,H1,I1,r1,ty,q1⟩=>?_);obtain⟨h1,h2⟩:=Rv I1 r1 ty;refine⟨T,id,pa,slot,Wt,h1,h2,?_⟩;have hA:=ha gw pins s1 σ H1 _ I1 q1;rw[hs] at hA |-;refine Calls.callWith_builtin (by show (false||(backTo gw (starEach es X.env)).any 1e4)=false;rw[Rw]<;>rfl) (Calls.evalArgs_plain ?_);exact b9 hA λus s2 ⟨vs,H2,I2,r2,q2⟩=>hm pins s2 σ H2 x vs v us Q I2 r1 r2 q2
end
def MtM(X:Cx)(id:String)(r:V->List V->Hp->VK->Prop):Prop:=
 ∀(pins:WP) (s:Os) (σ:St) (H:Hp) (x:V) (xs:KB) (v:Ps) (us:UV) (Q:VK),Inv X pins σ H s->RelV x v->Vals xs us->r x xs H Q->
  wpAny 0e8 X.A (call (.builtin id) (v::us)) (EP X pins σ Q) X.xe s
def Vals.one:∀{x:V} {us:UV},Vals [x] us->∃u,us=[u]/\RelV x u
 |_,_, .cons r .nil=>⟨_,rfl,r⟩
section
variable {X:Cx}{pins:WP}{σ:St}{H:Hp}{s:Os}{l b:Py}{xs ys zs:KB}
def Inv.Wv{its its':UV}{n:Nat}{f:Array Value->Array Value}{t':Nat}(I:0e5)(hH:H l=some (.lst xs))
  (e:s.heap.get? l=some { cls:= .type "list",data:= .seq its.toArray n }) (hf:f its.toArray=its'.toArray) (hv:Vals ys its') (hz:ys.length<=sizeLine):
  Inv X pins σ (upd H l (.lst ys)) { s with heap:=s.heap.update l (Obj.mapSeq f),toks:=t' }:=by
 have q:=PySem.IsL.update e f;rw[hf] at q;refine I.write (x:=l) (e:=l) (by rw[hH];exact trivial) (.inl rfl) (λb' u hb hu=>(Heap.get?_update_other s.heap (Obj.mapSeq f) (Ne.symm hb)).trans hu) ⟨_,q⟩ ?_;exact⟨hz,its',_,hv,q⟩
def Inv.Ww{its:UV}{t':Nat}(I:0e5)(hv:Vals ys its)(hz:ys.length<=sizeLine):
  Inv X pins σ (upd H s.heap.objs.size (.lst ys)) { s with heap:=s.heap.push { cls:= .type "list",data:= .seq its.toArray },toks:=t' }:=
 I.laid (λ_ _ q=>Heap.get?_push_of_some _ q) (le_refl _) ⟨hz,its,0,hv,Heap.get?_push_size _ rfl⟩
theorem Inv.fresh(I:0e5):H s.heap.objs.size=none:=I.aX.fresh (le_refl _)
def Inv.E8(I:0e5)(hH:H l=some (.lst xs)):xs.length<=sizeLine/\∃(its:UV) (n:Nat),Vals xs its/\xs.length=its.length/\s.heap.get? l=some { cls:= .type "list",data:= .seq its.toArray n }:=by
 obtain⟨z,its,n,r,e⟩:=I.aX l _ hH;exact⟨z,its,n,r,r.length,e⟩
def HB{n:Nat}(h:n<=sizeLine):Builtin.List.listTooLong n=false:=by
 unfold Builtin.List.listTooLong;exact decide_eq_false 0e1
end
section
variable {X:Cx}
def Ma:V->List V->Hp->VK->Prop:=λx vs H Q=>∃l xs y,x= .ref l/\vs=[y]/\H l=some (.lst xs)/\xs.length<sizeLine/\Q .cF (upd H l (.lst (xs++[y])))
def cn:MtM X "list.append" Ma:=by
 intro pins s σ H x vs v us Q I rx rv h;obtain⟨l,xs,y,rfl,rfl,hH,hz,q⟩:=h;cases rx;obtain⟨u,rfl,ru⟩:=rv.one;obtain⟨z,its,n,r,hl,e⟩:=I.E8 hH;refine call_meets F.slot_list_append ⟨_,e,rfl⟩ F.entry_list_append (F.args_list_append_2 _ _) (PySem.list_append l its.toArray n u (by rw[size_toArray];omega)) ⟨e,?_⟩;refine⟨.cF,_,I.Wv (its':=its++[u]) hH e 2e0 (r.append (.cons ru .nil)) ?_,U,q⟩;rw[length_append,List.length_singleton];omega
def Mb:V->List V->Hp->VK->Prop:=λx vs H Q=>∃l b xs zs,x= .ref l/\vs=[.ref b]/\H l=some (.lst xs)/\H b=some (.lst zs)/\xs.length+zs.length<=sizeLine/\Q .cF (upd H l (.lst (xs++zs)))
def E9:MtM X "list.extend" Mb:=by
 intro pins s σ H x vs v us Q I rx rv h;obtain⟨l,b,xs,zs,rfl,rfl,hH,hB,hz,q⟩:=h;cases rx;obtain⟨u,rfl,ru⟩:=rv.one;cases ru;obtain⟨z,its,n,r,hl,e⟩:=I.E8 hH;obtain⟨z2,Bn,n2,r2,pM,e2⟩:=I.E8 hB;have hsz:its.toArray.size+Bn.toArray.size<=sizeLine:=by rw[size_toArray,size_toArray];omega
 have Wx:¬(!its.toArray.isEmpty&&Builtin.List.listTooLong (its.toArray.size+Bn.toArray.size))=true:=by
  rw[HB hsz,Bool.and_false];exact Bool.false_ne_true
 refine call_meets F.slot_list_extend ⟨_,e,rfl⟩ F.entry_list_extend (F.args_list_extend_2 _ _)
  (AutoSeq1.list_extend_list_list_0 l its.toArray n b Bn.toArray n2 Wx (by rw[size_toArray];omega) 0e1) ⟨e,e2,?_⟩
 refine⟨.cF,_,I.Wv (its':=its++Bn) hH e 2e0 (r.append r2) ?_,U,q⟩;rw[length_append];omega
inductive Wy(x:V)(y:V)(H:Hp)(Q:VK):Prop
 |mk (l b xs zs:_) (bM:x= .ref l) (bV:y= .ref b) (b8:H l=some (.lst xs)) (cS:H b=some (.lst zs)) (eK:xs.length+zs.length<=sizeLine) (gS:∀p,H p=none->Q (.ref p) (upd H p (.lst (xs++zs))))
def rCat:R2:=Wy
def l5:mC X (binaryOp .Add) rCat:=by
 intro pins s σ H x y v u Q I rx ry h;obtain⟨l,b,xs,zs,rfl,rfl,hH,hB,hz,q⟩:=h;cases rx;cases ry;obtain⟨z,its,n,r,hl,e⟩:=I.E8 hH;obtain⟨z2,Bn,n2,r2,pM,e2⟩:=I.E8 hB;refine PySem.P.add_list e e2 ?_ (by rw[size_toArray,size_toArray];omega);have ea:its.toArray++Bn.toArray=(its++Bn).toArray:=by simp
 rw[ea];exact⟨.ref _,_,I.Ww (t':=s.toks) (r.append r2) (by rw[length_append];omega),U,q _ I.fresh⟩
end
section
variable {prog:Op}{w:World}{A:Pn}{E:XV}{s:Os}
end
section
variable {X:Cx}
end
end L2
namespace Att
open PySem PySem.W PySem.Calls PyProof.Rows
def pN{P:Params}{h:Heap}:∀(ns:List Int) (vs:UV),WellAll P h vs (ns.map WData.int)->IntsAre vs ns:=by
 intro ns
 induction ns with
 |nil=>
  intro vs w;rw[map_nil] at w;cases w;exact .nil
 |cons n ns ih=>
  intro vs w;rw[map_cons] at w
  cases w with
  |cons a b=>
   cases a;exact .cons _ _ (ih _ b)
def Fb{l:OpenLaw}{n:Nat}(hn:l.most=some n){P:Params}{h:Heap}{args:List WData}{vals:UV}
  (Mc:l.row.toRowW.claim.pre args=true) (Wz:WellAll P h vals args):
  ∃a vs ns,vals=[Value.ref a]/\args=[WData.list (ns.map WData.int)]/\h.get? a=some { cls:= .type "list",data:= .seq vs.toArray }/\IntsAre vs ns/\ns.length<=n:=by
 have hsh:WShape.hasAll [] args [.list .int]=true:=(pre_splitW Mc).1;have hc:l.pre.holds [] { args:=args }=true:=(pre_splitW Mc).2;obtain⟨d,r,rfl,h1,h2⟩:=hasAllW_cons hsh;obtain rfl:=hasAllW_nil h2;obtain⟨xs,rfl,h3⟩:=hasW_list h1;obtain⟨ns,rfl⟩:=items_int h3
 have hlen:ns.length<=n:=by
  unfold OpenLaw.pre at hc
  have h4:(WTm.not (.lt (.lit (.int (n:Int))) (.len (.arg 0)))).holds [] { args:=[.list (ns.map .int)] }=true:=by
   have h4:=(holds_andW hc).1;rw[hn] at h4;exact h4
  have h5:=condW_of h4 (w_not (w_lt w_lit (w_len_list (w_arg rfl))));rw[length_map] at h5;refine Nat.le_of_not_lt λq=>?_;have q':(n:Int) < ((ns.length:Nat):Int):=by omega
  first
   | (rw[decide_eq_true q'] at h5;exact absurd h5 (by decide))
   | (simp at h5;omega)
 cases Wz with
 |cons w1 w2=>
  cases w2
  cases w1 with
  |list ho E7=>exact⟨_,_,ns,U,U,ho,pN ns _ E7,hlen⟩
def Fc(l:OpenLaw)(args:List WData):l.row.toRowW.claim.post args (.bool true) args=true:=
 postW_of (r:=l.row.toRowW) (X:=(true==true))
  (show WShape.has [] (.bool true) .bool=true by first|rfl|decide|simp [WShape.has,WShape.arms,WShape.armsAll])
  (show (WTm.eq .res (.lit (.bool true))).value [] { args:=args,res:=some (.bool true),after:=args }=some (.bool (true==true)) from w_eq_bool (w_res rfl) w_lit) rfl
def y9{l:OpenLaw}{n:Nat}{q:Op}{loose:On}{XP:(Str->Option Value)->Heap->Prop}{YP:World->Heap->Prop}{d:DefRec}
  (hn:l.most=some n) (WA:d.params.defaults=[])
  (call:∀(w:World) (s₀ s₁:Os) (mg mb:Wp) (fa:Py) (o:Obj) (pm cd doc:Ps) (a:Py) (vs:UV) (ns:List Int),
   Ground q loose [] XP w s₀ mg mb s₁.heap->YP w s₁.heap->
   s₁.heap.get? fa=some o->o.data= .func (docDef d.name d.params d.body d.scope pm cd doc)->s₁.heap.CodeRec cd d.name->mg d.name=some (.ref fa)->
   s₁.heap.get? a=some { cls:= .type "list",data:= .seq vs.toArray }->IntsAre vs ns->ns.length<=n->s₁.gens=#[]->
   codeAny (model l.prog w) callerA (.call (.ref fa) ⟨[.ref a],[]⟩) (λr s'=>r= .ok (.ret (.bool true))/\OldK s₁.heap s'.heap/\s'.os=s₁.os/\AllBare s'.gens) s₁):
  WalkO q loose XP YP l.row.toRowW d [] (λf vs=>PySem.call f vs):=by
 intro w s₀ s₁ mg mb G Y fa o pm cd doc dV kV ho hd mx hD WB hg args vals as Mc hlay hrd Wz U8;obtain rfl:dV= .none:=Dflts.none hD WA;obtain rfl:kV= .none:=Dflts.noKw hD;obtain⟨a,vs,ns,rfl,rfl,Rx,hints,hlen⟩:=Fb hn Mc Wz;refine enter_call (codeAny_mono (call w s₀ s₁ mg mb fa o pm cd doc a vs ns G Y ho (fd_plain hd) mx WB Rx hints hlen hg) λr s' hq=>?_);obtain⟨rfl,h2,h3,h4⟩:=hq;exact⟨.inl ⟨.bool true, .bool true,[],U,λ_=>rfl, .bool true,Fc l _,λ_=>⟨List.Pairwise.nil,λ_ hm=>(nomatch hm)⟩⟩,h2,h3,h4⟩
section
variable {prog:Op}{w:World}{A:Pn}{E:XV}{s:Os}{K:Frag}
end
end Att
namespace L2
open PySem PySem.Spec PyProof.Rows
theorem u9:∀{vs:UV} {ns:List Int},IntsAre vs ns->Vals (ns.map V.int) vs
 |_,_, .nil=> .nil
 |_,_, .cons n t h=> .cons ⟨t,rfl⟩ (u9 h)
def Ry(H:Hp):Prop:=∀b,H b=none\/∃o xs,H b=some (.eI o (.lst xs))
def HC{P:Op}{w:World}{K:Uu}{mg mb:Wp}{CX:C8}{k:Nat}{fa a:Py}{fd:FuncData}{x:Str}{sp:Sp}{s₁:Os}{vs:UV}{ns:List Int}
  (KX:K.In s₁.heap) (t9:s₁.heap.Ns mainGlobals mg) (hb:s₁.heap.Ns builtinsNs mb) (hbb:∀x:Str,x≠"__name__" ->mb x=bootBuiltins x) (hlim:s₁.heap.NoLimit) (hg:s₁.gens=#[])
  (ha:s₁.heap.get? a=some { cls:= .type "list",data:= .seq vs.toArray }) (hi:IntsAre vs ns) (hl:ns.length<=sizeLine) (hr:cU k callerA)
  (F:∀base:Heap,K.In base->base.Ns mainGlobals mg->fO P w K mg base CX k fa fd [x] sp) (WC:∀(s:Os) (u:Ps),BindsTo s fd ⟨[u],[]⟩ [(x,u)])
  (GQ:∀H:Hp,Ry H->bh K H a (ns.map V.int)->sp [.ref a] H (λv _=>v= .bl true) λ_ _ _=>False)
  (hCX:∀H e s',CX [] H s₁ (λ_ _ _=>False) e s'->False):
  codeAny (model P w) callerA (.call (.ref fa) ⟨[.ref a],[]⟩) (λr s'=>r= .ok (.ret (.bool true))/\OldK s₁.heap s'.heap/\s'.os=s₁.os/\AllBare s'.gens) s₁:=by
 have rv:=u9 hi;have lenV:=hi.length;have core:∀H:Hp,Ry H->bh K H a (ns.map V.int)->jV P w H s₁.heap->(∀b,H b≠none->b=a)->(H a≠none->K.lookup a=none)->
   codeAny (model P w) callerA (.call (.ref fa) ⟨[.ref a],[]⟩) (λr s'=>r= .ok (.ret (.bool true))/\OldK s₁.heap s'.heap/\s'.os=s₁.os/\AllBare s'.gens) s₁:=by
  intro H hO hS aX hA hK;have base_of:∀{b:Py} {o:Obj},s₁.heap.get? b=some o->H b=none->(wq s₁.heap H).get? b=some o:=λe n=>Hd e n
  have We:∀{b:Py} {o:Obj} {es:Array DictEntry} {ep:Nat},s₁.heap.get? b=some o->o.data= .dict es ep->H b=none:=fun {b o es ep} e d=>by
   cases q:H b with
   |none=>rfl
   |some u=>
    have e':b=a:=hA b (by rw[q];simp);subst e';rw[ha] at e;cases e;have d':Data.seq vs.toArray _=Data.dict es ep:=d;cases d'
  have nsK:∀{b:Py} {m:Wp},s₁.heap.Ns b m->(wq s₁.heap H).Ns b m:=fun {b m} ⟨o,es,ep,e,d,r⟩=>⟨o,es,ep,base_of e (We e d),d,r⟩
  have hKb:K.In (wq s₁.heap H):=λb o e=>base_of (KX b o e) (by
   cases q:H b with
   |none=>rfl
   |some u=>
    have e':b=a:=hA b (by rw[q];simp);subst e'
    rw[hK (by rw[q];simp)] at e;cases e)
  have hM:Mod K mg (wq s₁.heap H):=⟨hKb,nsK t9,⟨mb,nsK hb,hbb⟩,let ⟨mc,h1,h2⟩:=hlim;⟨mc,nsK h1,h2⟩⟩;have e0:Bi P w K mg (wq s₁.heap H) callerA [] s₁ H:=⟨rfl,hM,λb o e=>LP e,le_of_eq (EU _ _),trivial,λb hb=>absurd (show b∈([]:Ix) from hb) 2e0,aX, .of_eq hg⟩;refine codeAny_mono ((F _ hKb (nsK t9)).run callerA [] s₁ H ⟨[.ref a],[]⟩ [.ref a] [.ref a] _ _ hr e0 (WC s₁ (.ref a)) (.cons rfl .nil) (GQ H hO hS)) λr s' h=>?_
  cases r with
  |error e=>exact(hCX H e s' h).elim
  |ok fl=>
   cases fl with
   |next=>exact False.elim h
   |brk=>exact False.elim h
   |cont=>exact False.elim h
   |ret u=>
    obtain⟨v,H',os,bare,un,hok',r',q⟩:=h;have q':v= .bl true:=q;subst q';obtain rfl:u=Value.bool true:=r';refine⟨U,OldK.of_keep λb o e=>?_,os,bare⟩
    cases q:H b with
    |none=>exact un.keep b o e q (by intro z;exact absurd (show b∈([]:Ix) from z) 2e0) 2e0
    |some u=>
     rcases hO b with z| ⟨ob,xs,z⟩
     ·rw[q] at z;cases z
     ·have z2:=un.nZ b ob _ z;obtain⟨e1,_⟩:=aX b _ z;obtain⟨e2,_⟩:=hok' b _ z2;rw[e] at e1;cases e1;exact e2
 cases hk:K.lookup a with
 |some o=>
  have e:=KX a o hk;rw[ha] at e;cases e;refine core (λ_=>none) (λ_=> .inl rfl) (.inr ⟨_,vs.toArray,_,hk,rfl,rfl,rfl,by rw[size_toArray,lenV];exact hl,by simpa using rv⟩) (λb u z=>by have z':(none:Option HO)=some u:=z;cases z') (λb z=>absurd rfl z) λz=>absurd rfl z
 |none=>
  refine core (λb=>if b=a then some (.eI { cls:= .type "list",data:= .seq vs.toArray } (.lst (ns.map V.int))) else none) (λb=>?_) (.inl (.inr ⟨{ cls:= .type "list",data:= .seq vs.toArray },if_pos rfl⟩)) (λb u z=>?_) (λb z=>?_) λ_=>hk
  ·by_cases hb:b=a
   ·exact .inr ⟨_,_,if_pos hb⟩
   ·exact .inl (if_neg hb)
  ·by_cases hb:b=a
   ·have z':=(if_pos hb).symm.trans z;cases z';subst hb;exact⟨ha,by rw[length_map];exact hl,vs,_,rv,ha⟩
   ·have z':=(if_neg hb).symm.trans z;cases z'
  ·by_cases hb:b=a
   ·exact hb
   ·exact absurd (if_neg hb) z
def Md{l:PySem.W.OpenLaw}{n k:Nat}{q:Op}{loose:On}{XP:(Str->Option Value)->Heap->Prop}{YP:World->Heap->Prop}{d:DefRec}{K:Params->PySem.W.Frag}{CX:World->C8}{sp:World->Sp}{x:Str}
  (hn:l.most=some n) (C6:n<=sizeLine) (WA:d.params.defaults=[]) (hr:cU k callerA)
  (hY:∀(w:World) (h:Heap),YP w h->(K w.params).In h)
  (F:∀(w:World) (mg:Wp) (fa:Py) (h:Heap),(K w.params).In h->h.Ns mainGlobals mg->mg d.name=some (.ref fa)->
   ∃fd:FuncData,(∀(s:Os) (u:Ps),BindsTo s fd ⟨[u],[]⟩ [(x,u)])/\
    ∀base:Heap,(K w.params).In base->base.Ns mainGlobals mg->fO l.prog w (K w.params) mg base (CX w) k fa fd [x] (sp w))
  (GQ:∀(w:World) (H:Hp) (a:Py) (ns:List Int),ns.length<=n->Ry H->bh (K w.params) H a (ns.map V.int)->sp w [.ref a] H (λv _=>v= .bl true) λ_ _ _=>False)
  (hCX:∀(w:World) (H:Hp) (s:Os) (e:Ps) (s':Os),CX w [] H s (λ_ _ _=>False) e s'->False):
  PySem.W.WalkO q loose XP YP l.row.toRowW d [] (λf vs=>PySem.call f vs):=by
 refine Att.y9 hn WA λw s₀ s₁ mg mb fa o pm cd doc a vs ns G Y ho hd mx WB Rx hints hlen hg=>?_;have KX:=hY w _ Y;obtain⟨fd,hb,hF⟩:=F w mg fa _ KX G.T.g WB;exact HC KX G.T.g G.T.b G.T.builtins G.T.nolimit hg Rx hints (le_trans hlen C6) hr hF hb (λH hO hS=>GQ w H a ns hlen hO hS) λH e s'=>hCX w H s₁ e s'
def inClass(s:Stmt)(j:Nat):Stmt:=match s with
 | .ClassDef _ _ _ body _ _ _ _ _ _ _=>body.getD j (.Pass ⟨0,0,0,0⟩)
 |_=> .Pass ⟨0,0,0,0⟩
def dJ(s:Stmt):Arguments:=match s with
 | .FunctionDef _ a _ _ _ _ _ _ _ _=>a
 |_=>{ posonlyargs:=[],args:=[],vararg:=none,kwonlyargs:=[],kw_defaults:=[],kwarg:=none,defaults:=[] }
def b5(s:Stmt):List Stmt:=match s with
 | .FunctionDef _ _ b _ _ _ _ _ _ _=>b
 |_=>[]
def ao(s:Stmt):Scope:=match s with
 | .FunctionDef _ _ _ _ _ _ sc _ _ _=>sc
 |_=>{ kind:= .function,names:=[],isGenerator:=false,isCoroutine:=false }
abbrev q5:C8:=λ_ _ _ _ _ _=>False
abbrev E0:XK:=λ_ _ _=>False
def bb{X:Cx}:Passes q5 X E0:=λ_ _ _ _ _ _ _ h=>h.elim
structure GR(K:1e8)(x qual:Str)(st:Stmt)(f:Addr)(fd:FuncData):Prop where
 ex:∃(oc:Value) (od:Option Addr) (kV doc pm:Value) (an:Option Addr) (bg ct:Value) (p7:Array (Option Value)),
  fd=fnOf x qual (dJ st) (b5 st) (ao st) .none kV doc pm an bg ct/\K.lookup f=some ⟨oc,od, .func fd,p7⟩/\PySem.W.codeIn K bg qual=true
 kp:keepIn K (.ref f)=true
section
variable {P:Op}{w:World}{K:Uu}{mg:Wp}{base:Heap}
def GR.ok{x qual:Str}{st:Stmt}{f:Py}{fd:FuncData}{N ps:On}{k:Nat}{sp:Sp}(F:GR K x qual st f fd)(S:ay N ps (ao st))(len:∀vs H Q E,sp vs H Q E->vs.length=ps.length)
  (eB:∀(bg:Ps) (A:Pn) (outer:List Env) (s:Os) (H:Hp) (vs:KB) (Q:VK) (E:XK),cU k (A.deeper (envOfC qual (ao st) s.heap.objs.size f bg))->sp vs H Q E->
   ∃t,mz (jc q5 P w K mg base N qual (ao st) f bg A outer s H E).Hi (b5 st) t/\t { nx:=λ_ H'=>Q .cF H',rt:=Q } (start N vs) H):fO P w K mg base q5 (k+1) f fd ps sp:=by
 obtain⟨oc,od,kV,doc,pm,an,bg,ct,p7,rfl,lk,mx⟩:=F.ex;refine fn_of lk mx S len λA outer s H vs Q E hr GQ=>?_;obtain⟨t,h,q⟩:=eB bg A outer s H vs Q E hr GQ;exact⟨t,h.Hi,q⟩
def GR.binds{x qual:Str}{st:Stmt}{f:Py}{fd:FuncData}{ps:On}(F:GR K x qual st f fd)
  (h:∀(kV doc pm:Ps) (an:UF) (bg ct:Ps) (us:UV),us.length=ps.length->bindArgs (fnOf x qual (dJ st) (b5 st) (ao st) .none kV doc pm an bg ct) ⟨us,[]⟩=pure (ps.zip us)):Binds K fd ps []:=by
 obtain⟨oc,od,kV,doc,pm,an,bg,ct,p7,rfl,lk,mx⟩:=F.ex;exact .all (h kV doc pm an bg ct)
def Rz{x qual:Str}{st:Stmt}{f:Py}{oc:Ps}{od an:UF}{p7:Array (Option Value)}{kV doc pm bg ct:Ps}(l:K.lookup f=some ⟨oc,od, .func (fnOf x qual (dJ st) (b5 st) (ao st) .none kV doc pm an bg ct),p7⟩)
  (c:PySem.W.codeIn K bg qual=true) (k:keepIn K (.ref f)=true):GR K x qual st f (fnOf x qual (dJ st) (b5 st) (ao st) .none kV doc pm an bg ct):=⟨⟨oc,od,kV,doc,pm,an,bg,ct,p7,rfl,l,c⟩,k⟩
end
def di{A:Pn}{k:Nat}(hr:cU k A):A.units+1<cLine:=lt_of_le_of_lt (Nat.add_le_add_left (by decide:1<=64) _) hr.units
def k8{n:Nat}(h:n<=1000):n<sizeLine:=lt_of_le_of_lt h 0e2
section
variable {X:Cx}
def pv(i:Nat){x:Str}{pos:Pos}(hN:X.N[i]? =some x:=by rfl)(hv:Vis X.env.scope x:=by first|exact Or.inl rfl|exact Or.inr (Or.inl rfl) |exact Or.inr (Or.inr rfl))(hd:(x==("__debug__" :Str))=false:=by decide)
  (mx:(x==("__classdict__" :Str))=false:=by decide):PE X (.Name x pos) (jZ i):=Q2 hN hv hd mx
end
def d4{A B:Prop}(h:B):if false=true then A else B:=by
 rw[if_neg Bool.false_ne_true];exact h
def je{A B:Prop}(h:A):if true=true then A else B:=by
 rw[if_pos rfl];exact h
def fJ{c A B:Prop}[Decidable c](h1:c->A)(h2:¬c->B):if c then A else B:=by
 by_cases h:c
 ·rw[if_pos h];exact h1 h
 ·rw[if_neg h];exact h2 h
def Pw{c A B:Prop}[Decidable c](hc:c)(h:B):if (!decide c)=true then A else B:=by
 rw[decide_eq_true hc];exact d4 h
def au(H H':Hp):Prop:=∀b o,H b=some o->H' b=some o
def au.refl(H:Hp):au H H:=λ_ _ h=>h
def au.trans{H H1 H2:Hp}(a:au H H1)(b:au H1 H2):au H H2:=λc o h=>b c o (a c o h)
def au.seq{K:Uu}{H H':Hp}{a:Py}{xs:KB}(e:au H H')(h:bh K H a xs):bh K H' a xs:=by
 rcases h with (h| ⟨o,h⟩) |h
 ·exact .inl (.inl (e _ _ h))
 ·exact .inl (.inr ⟨o,e _ _ h⟩)
 ·exact .inr h
section
variable {κ:Type}[DecidableEq κ]
def mG{kvs:List (κ×V)}{k:κ}(h:ck kvs k=none):¬k∈kvs.map 1e4:=by
 intro m;obtain⟨p,hp,e⟩:=mem_map.mp m;have q:(kvs.any λkv=>decide (kv.1=k))=true:=any_eq_true.mpr ⟨p,hp,decide_eq_true e⟩;rw[eZ,h] at q;exact absurd q 2e0
def qb{kvs:List (κ×V)}{k:κ}{v:V}(h:ck kvs k=some v):k∈kvs.map 1e4:=by
 have q:(kvs.any λkv=>decide (kv.1=k))=true:=by
  rw[eZ,h]
  all_goals rfl
 obtain⟨p,hp,e⟩:=any_eq_true.mp q;exact mem_map.mpr ⟨p,hp,of_decide_eq_true e⟩
theorem Dd:∀{l:List κ} {k:κ},l.Nodup->¬k∈l->(l++[k]).Nodup
 | [],k,_,_=>by simp
 |a::r,k,h,hk=>by
  obtain⟨h1,h2⟩:=nodup_cons.mp h;show (a::(r++[k])).Nodup;refine nodup_cons.mpr ⟨λm=>?_,Dd h2 λm=>hk (mem_cons.mpr (Or.inr m))⟩;rcases mem_append.mp m with q|q
  ·exact h1 q
  ·exact hk (mem_cons.mpr (Or.inl (mem_singleton.mp q).symm))
def Me{kvs:List (κ×V)}{k:κ}(v:V)(hn:(kvs.map 1e4).Nodup)(h:ck kvs k=none):((putK kvs k v).map 1e4).Nodup:=by
 rw[mF v h,map_append];exact Dd hn (mG h)
end
section
variable {X:Cx}{pins:WP}{σ:St}{H:Hp}{s:Os}{a:Py}{u u':HO}
def Inv.Px(I:0e5)(e:H a=some u)(nw:cu X.prog X.w (upd H a u') s.heap a u')
  (h1:∀xs,X.H₀ a≠some (.tup xs)) (h2:∀o z,X.H₀ a≠some (.eI o z)) (h3:∀ps,X.H₀ a≠some (.Pl ps))
  (n1:∀x,u≠ .own x) (n2:∀xs,u≠ .tup xs):Inv X pins σ (upd H a u') s:=by
 have na:∀b,H b=none->(upd H a u') b=none:=λb q=>by
  rw[ah (λz=>by rw[z,e] at q;cases q)];exact q
 have B:=I.base
 refine⟨I.ok,I.os,I.bare,⟨B.keep,B.slot,λb o q n x=>na b (B.free b o q n x),B.there,λb xs q=>?_,λb o z q=>?_,λb ps q=>?_⟩,
  I.loc,I.cell,na _ I.free,λx c q=>na _ (I.gC x c q),λp hp=>?_,λb o q=>?_,I.len⟩
 ·rw[ah (show b≠a from λz=>h1 xs (by rw[<-z];exact q))];exact B.nY b xs q
 ·rw[ah (show b≠a from λz'=>h2 o z (by rw[<-z'];exact q))];exact B.nZ b o z q
 ·rw[ah (show b≠a from λz'=>h3 ps (by rw[<-z'];exact q))];exact B.n4 b ps q
 ·obtain⟨p1,p2,p3⟩:=I.pin p hp;exact⟨p1,na _ p2,p3⟩
 ·by_cases hb:b=a
  ·subst hb;rw[ag] at q;cases q;exact nw
  ·rw[ah hb] at q;refine(I.aX b o q).qI (λ_ _ _ z=>z) (λc z=>?_) λc xs z=>?_
   ·rw[ah (λz'=>by rw[z',e] at z;exact n1 b (Option.some.inj z))];exact z
   ·rw[ah (λz'=>by rw[z',e] at z;exact n2 xs (Option.some.inj z))];exact z
def NF(X:Cx)(a:Py):Prop:=∀o z,X.H₀ a≠some (.eI o z)
def Inv.nf{kvs:PP}(I:0e5)(e:H a=some 2e2):NF X a:=λo z q=>by
 have:=I.base.nZ a o z q;rw[e] at this;cases this
def Inv.freeze{kvs:PP}(I:0e5)(e:H a=some 2e2):∃o,s.heap.get? a=some o/\Inv X pins σ (upd H a (.eI o 2e2)) s:=by
 have ok:=I.aX a _ e;obtain⟨z,hd,vs,rel,dd⟩:=qX I.aX e;obtain⟨o,es,ep,ho,r⟩:=id dd;refine⟨o,ho,I.Px e ⟨ho,z,hd,vs,rel,dd⟩ (λxs q=>?_) (I.nf e) (λps q=>?_) (λx q=>by cases q) λxs q=>by cases q⟩
 ·have:=I.base.nY a xs q;rw[e] at this;cases this
 ·obtain⟨m,q'⟩:=I.base.n4 a ps q;rw[e] at q';cases q'
def Inv.HD{kvs:PP}{o:Obj}(I:0e5)(e:H a=some (.eI o 2e2))(nf:NF X a):Inv X pins σ (upd H a 2e2) s:=by
 obtain⟨ho,z,hd,vs,rel,dd⟩:=(show cu X.prog X.w H s.heap a (.eI o 2e2) from I.aX a _ e);refine I.Px e (show cu X.prog X.w _ s.heap a 2e2 from ⟨z,hd,vs,rel,dd⟩) (λxs q=>?_) nf (λps q=>?_) (λx q=>by cases q) λxs q=>by cases q
 ·have:=I.base.nY a xs q;rw[e] at this;cases this
 ·obtain⟨m,q'⟩:=I.base.n4 a ps q;rw[e] at q';cases q'
def cH{o:HO}(e:H a=some o):upd H a o=H:=by
 funext b;by_cases hb:b=a
 ·subst hb;rw[ag,e]
 ·rw[ah hb]
end
def Mf(a:Py)(o:Obj)(kvs:PP):It:=
 ⟨λi H=>H a=some (.eI o 2e2)/\i<kvs.length,λi H x H'=>H'=H/\∃k v,kvs[i]? =some (k,v)/\x=kV k,λi H=>H a=some (.eI o 2e2)/\kvs.length<=i⟩
theorem KV.get{κ:Type}:∀{kvs:List (κ×V)} {vs:List (κ×Value)} {i:Nat} {k:κ} {v:V},KV kvs vs->kvs[i]? =some (k,v)->∃u,vs[i]? =some (k,u)/\RelV v u
 |_,_,_,_,_, .nil,h=>by simp at h
 |_,_,0,k,v, .cons (a:=p) (b:=q) r _,h=>by
  have hp:p=(k,v):=by simpa using h
  subst hp;have e:k=q.1:=r.1;exact⟨q.2,by rw[List.getElem?_cons_zero,e],r.2⟩
 |_,_,i+1,_,_, .cons _ t,h=>by
  simp only [List.getElem?_cons_succ] at h |-;exact KV.get (kvs:=_) t h
def wH{P:Op}{w:World}{k:Key}{u:Ps}(h:(bE P w).is k u=true):RelV (kV k) u:=by
 rw[qH] at h;rcases cq h with ⟨i,t,rfl,rfl⟩ | ⟨x,t,rfl,rfl⟩
 ·exact⟨t,U⟩
 ·exact⟨t,U⟩
def wI{P:Op}{w:World}{H:Hp}{h:Heap}{a:Py}{o:Obj}{kvs:PP}{es:Array DictEntry}{ep:Nat}(ok:jV P w H h)(e:H a=some (.eI o 2e2))(hd:o.data= .dict es ep):
  ∃vs,KV kvs vs/\h.DictAt (bE P w) a vs ep/\(a==sysModules)=false:=by
 obtain⟨ho,z,hs,vs,rel,dd⟩:=(show cu P w H h a (.eI o 2e2) from ok a _ e);obtain⟨o',es',ep',yF,ex,gD,r⟩:=dd;rw[ho] at yF;cases yF;rw[hd] at gD;cases gD;exact⟨vs,rel,⟨o,es,ho,ex,hd,r⟩,hs⟩
def Fd{P:Op}{w:World}{K:Uu}{tg:Expr}(a it:Py)(o:Obj)(kvs:PP){es:Array DictEntry}{ep:Nat}(hd:o.data= .dict es ep):
  Turn P w K tg (Mf a o kvs) [it] it (λi h=>h.IsKeyIter it a i kvs.length ep) where
 mem:=by simp
 obj:=λi h st b hb=>by
  have e:b=it:=by simpa using hb
  subst e;obtain⟨o,e,c,d⟩:=st;exact⟨o,e,λv z=>by rw[d] at z;cases z⟩
 keep:=λi h h' st k=>let ⟨o,ho,r⟩:=st;⟨o,k it 2e0 o ho,r⟩
 item:=by
  intro X hP hw hK hc i pins s σ H E I hf st hg;subst hP hw hK;obtain⟨hz,hi⟩:=hg;obtain⟨vs,rel,dd,hs⟩:=wI I.aX hz hd;obtain⟨k,v,pO⟩:∃k v,kvs[i]? =some (k,v):=⟨kvs[i].1,kvs[i].2,by simp [hi]⟩;obtain⟨u,hu,ru⟩:=rel.get pO;obtain⟨f0,f1,f2,f3,f4,f5⟩:=hf it 2e0;rw[rel.length] at st;refine wpAny_pyNext_dict_item st dd hu λkey h' hk yS sb=>?_;rw[<-rel.length] at yS;have I1:Inv X pins σ H { s with heap:=h' }:=I.turned (t':=s.toks) (λb o hb e=>(sb.2 b hb).trans e) f0 f1 f3 f4 f5;obtain⟨oi,e,c,d⟩:=id yS;exact⟨key,U,yR (s:={ s with heap:=h' }) e c d 0e2 ⟨kV k,H,I1,wH hk,⟨U,k,v,pO,U⟩,yS,λb hb=>(hf b hb).1⟩⟩
 done:=by
  intro X hP hw hK hc i pins s σ H E I hf st hg;subst hP hw hK;obtain⟨hz,hi⟩:=hg;obtain⟨vs,rel,dd,hs⟩:=wI I.aX hz hd;obtain⟨f0,f1,f2,f3,f4,f5⟩:=hf it 2e0;rw[rel.length] at st hi;exact wpAny_pyNext_dict_end (I.ok.hd hc) st dd (List.getElem?_eq_none hi) λh' eb=>⟨rfl,I.turned (t':=s.toks) (λb o hb e=>eb b o hb e) f0 f1 f3 f4 f5⟩
 self:=λ_ _ _ _ _ st h=>wpAny_pyIter_keyiter st h
section
variable {X:Cx}{tg:Expr}
inductive RA(X:Cx)(R:It->Hp->Prop)(x:V)(H1:Hp):Prop
 |mk (a kvs:_) (bM:x= .ref a) (bV:H1 a=some (.dK kvs)) (b8:∀o,NF X a->R (Mf a o kvs) (upd H1 a (.eI o 2e2)))
def HF(X:Cx)(td:TE):TI:=fun σ H R=>td σ H (RA X R)
def cQ{l:Expr}{tl:TE}(hl:PE X l tl):PI X tg l (HF X tl):=by
 intro pins s σ H R I h;refine b9 (hl pins s σ H _ I h) λv s1 ⟨x,H1,I1,r1,q1⟩=>?_;obtain⟨a,kvs,e,hk,q⟩:=q1;subst e;cases r1;obtain⟨o,ho,I2⟩:=I1.freeze hk;obtain⟨z,hs,vs,rel,dd⟩:=qX I1.aX hk;obtain⟨ep,da⟩:=dd.dictAt;obtain⟨o',es,yF,ex,hd,_⟩:=id da;rw[ho] at yF;cases yF;refine wpAny_pyIter_dict hs da ?_;refine⟨s1.heap.objs.size,[s1.heap.objs.size],_,_,_,U,I2.kept (t':=s1.toks) λb o e=>Heap.get?_push_of_some _ e,Fd a _ o kvs hd,?_,λb hb=>?_,q o (I1.nf hk)⟩
 ·rw[rel.length];exact⟨_,Heap.get?_push_size _ rfl,U,U⟩
 ·have e:b=s1.heap.objs.size:=by simpa using hb
  subst e;exact I2.wD (le_refl _) (I2.aX.fresh (le_refl _))
inductive Th(X:Cx)(Q:Hp->Prop)(H:Hp):Prop
 |mk (a o kvs:_) (bM:H a=some (.eI o (.dK kvs))) (bV:NF X a) (b8:Q (upd H a (.dK kvs)))
def HG(X:Cx)(t:TS):TS:=λD σ H=>t { nx:=fun σ'=>Th X (D.nx σ'),rt:=λv=>Th X (D.rt v),bk:=fun σ'=>Th X (D.bk σ'),ct:=fun σ'=>Th X (D.ct σ') } σ H
def dM{st:Stmt}{t:TS}(h:PS X st t):PS X st (HG X t):=by
 intro pins s σ H D I q;refine b9 (h pins s σ H _ I q) λf s' z=>?_
 cases f with
 |next=>obtain⟨σ',H',J,a,o,kvs,e,nf,q⟩:=z;exact⟨σ',_,J.HD e nf,q⟩
 |brk=>obtain⟨σ',H',J,a,o,kvs,e,nf,q⟩:=z;exact⟨σ',_,J.HD e nf,q⟩
 |cont=>obtain⟨σ',H',J,a,o,kvs,e,nf,q⟩:=z;exact⟨σ',_,J.HD e nf,q⟩
 |ret u=>obtain⟨v,σ',H',J,r,a,o,kvs,e,nf,q⟩:=z;exact⟨v,σ',_,J.HD e nf,r,q⟩
def mH{e:Expr}{t:TE}(h:PE X e t):PE X e (fun σ H Q=>t σ H λv=>Th X (Q v)):=by
 intro pins s σ H Q I q;refine b9 (h pins s σ H _ I q) λu s' z=>?_;obtain⟨v,H',J,r,a,o,kvs,e,nf,q⟩:=z;exact⟨v,_,J.HD e nf,r,q⟩
end
def dw{X:Cx}{a:Py}{o:Obj}{kvs:PP}{g:TG}{tb:TS}{D:Ends}{σ:St}{H:Hp}(nf:NF X a)(Pv:Nat->St->Hp->Prop)(h0:Pv 0 σ H)(hl:∀i σ H,Pv i σ H->H a=some 2e2)
  (hs:∀i k v σ H,kvs[i]? =some (k,v)->Pv i σ H->g (kV k) σ (upd H a (.eI o 2e2)) fun σ2 H2=>tb { nx:=fun σ' H'=>H' a=some (.eI o 2e2)/\Pv (i+1) σ' (upd H' a 2e2),ct:=fun σ' H'=>H' a=some (.eI o 2e2)/\Pv (i+1) σ' (upd H' a 2e2),bk:=fun σ'=>Th X (D.nx σ'),rt:=λv=>Th X (D.rt v) } σ2 H2)
  (hd:∀σ H,Pv kvs.length σ H->D.nx σ H):
  ∃W:Nat->Nat->St->Hp->Prop,(∃m,W 0 m σ (upd H a (.eI o 2e2)))/\∀i m σ H,W i m σ H->((Mf a o kvs).stop i H/\Th X (D.nx σ) H)\/
   ((Mf a o kvs).go i H/\∃N:St->Hp->Prop,(∀σ' H',N σ' H'->∃m',m'<m/\W (i+1) m' σ' H')/\∀x H',(Mf a o kvs).pY i H x H'->g x σ H' fun σ2 H2=>tb { nx:=N,ct:=N,bk:=fun σ'=>Th X (D.nx σ'),rt:=λv=>Th X (D.rt v) } σ2 H2):=by
 refine⟨λi m σ H=>m+i=kvs.length/\H a=some (.eI o 2e2)/\Pv i σ (upd H a 2e2),⟨kvs.length,by omega,ag,?_⟩,?_⟩
 ·rw[gI,cH (hl _ _ _ h0)];exact h0
 ·rintro i m σ H ⟨hm,hz,hp⟩;by_cases hi:i<kvs.length
  ·refine .inr ⟨⟨hz,hi⟩,fun σ' H'=>H' a=some (.eI o 2e2)/\Pv (i+1) σ' (upd H' a 2e2),fun σ' H' q=>⟨m - 1,by omega,by omega,q⟩,?_⟩;rintro x H' ⟨rfl,k,v,pO,rfl⟩;have:=hs i k v σ _ pO hp;rw[gI,cH hz] at this;exact this
  ·have e:i=kvs.length:=by omega
   subst e;exact .inl ⟨⟨hz,le_refl _⟩,a,o,kvs,hz,nf,hd _ _ hp⟩
def Mg:V->Option Value
 | .ty n=>some (.type n)
 | .ref a=>some (.ref a)
 |_=>none
inductive wJ(K:1e8)(xs:List V)(H:Hp)(Q:VK):Prop
 |mk (x c cv t b:_) (bM:xs=[x,c]) (bV:Mg c=some cv) (b8:oa K H x t) (cS:kitOne K t cv=some b) (eK:Q (.bl b) H)
def pe{X:Cx}:gc X (.builtin "isinstance") (wJ X.K):=by
 intro pins s σ H xs us Q I r h;obtain⟨x,c,cv,t,b,rfl,hc,ty,e,q⟩:=h;obtain⟨u,v,rfl,ru,rv⟩:=vals2 r
 have hv:v=cv:=by
  cases c<;>simp only [Mg,Option.some.injEq,reduceCtorEq] at hc
  ·cases (show v=Value.ref _ from rv);exact hc
  ·cases (show v=Value.type _ from rv);exact hc
 subst hv;exact EZ I ru ty e λtk=>⟨.bl b,H,I.tok tk,rfl,q⟩
inductive y'(xs:List V)(H:Hp)(Q:VK):Prop
 |mk (a kvs:_) (bM:xs=[.ref a]) (bV:Rd H a (.dK kvs)) (b8:∀p,H p=none->Q (.ref p) (upd H p 2e2))
def gU{X:Cx}:gc X (.type "dict") (y'):=by
 intro pins s σ H xs us Q I r h;obtain⟨a,kvs,rfl,hk,q⟩:=h;obtain⟨u,rfl,ru⟩:=vals1 r;cases ru;exact Hz I hk λp s' hp I'=>⟨.ref p,_,I',rfl,q p hp⟩
inductive ze(xs:List V)(H:Hp)(Q:VK):Prop
 |mk (a kvs:_) (bM:xs=[.ref a]) (bV:Rd H a (.dK kvs)) (b8:Q (.int kvs.length) H)
def Bo{X:Cx}:gc X (.builtin "len") (ze):=by
 intro pins s σ H xs us Q I r h;obtain⟨a,kvs,rfl,hk,q⟩:=h;obtain⟨u,rfl,ru⟩:=vals1 r;cases ru;exact Wh I hk λt s' I'=>⟨.int kvs.length,H,I',⟨t,rfl⟩,q⟩
def Inv.HH{X:Cx}{pins:WP}{σ:St}{H:Hp}{s:Os}{a:Py}{kvs:PP}(I:0e5)(e:Rd H a 2e2):(kvs.map 1e4).Nodup:=by
 obtain⟨z,hd,vs,rel,dd⟩:=jR I.aX e;obtain⟨_,da⟩:=dd.dictAt;rw[rel.keys];exact da.nodup
def Bp(kb:PP)(p:Key×V):Bool:=match ck kb p.1 with
 |none=>false
 |some y=>Ws p.2 y
def eqD(ka kb:PP):Bool:=ka.length==kb.length&&ka.all (Bp kb)
def ph(ka:PP):Prop:=∀p∈ka,u7 p.2=true
def Fe{kb:PP}(hb:ph kb){k:Key}{y:V}(h:ck kb k=some y):u7 y=true:=by
 unfold ck at h
 cases e:kb.find? λkv=>decide (kv.1=k) with
 |none=>rw[e] at h;cases h
 |some p=>
  rw[e] at h;cases h;exact hb p (List.mem_of_find?_eq_some e)
theorem De{A:Pn}{s:Os}{kb:PP}{vb:List (Key×Value)}(rb:KV kb vb)(fb:ph kb):∀{ka:PP} {va:List (Key×Value)},KV ka va->ph ka->PySem.W.KeqHits A s vb va (ka.all (Bp kb))
 |_,_, .nil,_=> .nil
 | (k,x)::r,(k',u)::r', .cons hp t,fa=>by
   obtain⟨e1,ru⟩:=hp;have e1:k=k':=e1;subst e1;have ih:=De (A:=A) (s:=s) rb fb t λp hp=>fa p (mem_cons_of_mem _ hp);have hv:=rb.val k;rw[all_cons]
   cases e:ck kb k with
   |none=>
    rw[e] at hv;have:Bp kb (k,x)=false:=by simp only [Bp,e]
    rw[this,Bool.false_and];exact .miss (gH.none_of hv)
   |some y=>
    rw[e] at hv;obtain⟨uy,ey,ry⟩:=gH.some_of hv;have:Bp kb (k,x)=Ws x y:=by simp only [Bp,e]
    rw[this];exact .hit ey (Ru ru ry (fa (k,x) 1e0) (Fe fb e)) ih
section
variable {X:Cx}
inductive WD(neg:Bool)(x:V)(y:V)(H:Hp)(Q:VK):Prop
 |mk (a b ka kb:_) (bM:x= .ref a) (bV:y= .ref b) (b8:Rd H a (.dK ka)) (cS:Rd H b (.dK kb)) (eK:ph ka) (gS:ph kb) (lR:((ka.map (·.1)).Nodup->(kb.map (·.1)).Nodup->Q (.bl (neg^^eqD ka kb)) H))
def rEqD(neg:Bool):R2:=WD neg
def HI(hu:X.A.units<cLine):mC X (compareOp .NotEq) (rEqD true):=by
 intro pins s σ H x y v u Q I rx ry h;obtain⟨a,b,ka,kb,rfl,rfl,ha,hb,fa,fb,q⟩:=h;cases rx;cases ry;obtain⟨za,da,va,ra,dda⟩:=jR I.aX ha;obtain⟨zb,db,vb,rb,ddb⟩:=jR I.aX hb;refine PySem.W.keq_ne da db dda ddb hu (λ_=>De rb fb ra fa) ⟨.bl (!eqD ka kb),H,I,?_,?_⟩
 ·show Value.bool _=Value.bool _;rw[<-ra.length,<-rb.length];rfl
 ·have q:=q (I.HH ha) (I.HH hb);simpa using q
end
def HJ{x:V}(h:u7 x=true):Ws x x=true:=by
 cases x<;>simp_all [Ws,u7]
theorem gj:∀{kvs:PP} {p:Key×V},(kvs.map 1e4).Nodup->p∈kvs->ck kvs p.1=some p.2
 |q::r,p,nd,hp=>by
  rw[map_cons,nodup_cons] at nd;rcases mem_cons.mp hp with rfl|hr
  ·exact de rfl
  ·rw[dh (λe=>nd.1 (e▸mem_map_of_mem (f:=1e4) hr))];exact gj nd.2 hr
def q9{ka:PP}(nd:(ka.map 1e4).Nodup)(fa:ph ka):eqD ka ka=true:=by
 unfold eqD;rw[beq_self_eq_true,Bool.true_and,all_eq_true];intro p hp;unfold Bp;rw[gj nd hp];exact HJ (fa p hp)
def vc(X:Cx)(pins:WP)(N:On)(scope:Scope)(cl:List (Str×Addr))(fp:Ix)(s:Os)(H:Hp):Cx where
 prog:=X.prog
 w:=X.w
 K:=X.K
 mg:=X.mg
 base:=X.base
 A:=X.A
 N:=N
 s₀:=s
 H₀:=H
 env:=compEnvC scope cl s.heap.objs.size X.env
 outer:=X.stack
 stack:=X.stack
 ex:=fp
 fn:=λ_=>false
 calm:=X.calm
 pn:=X.pn++pins
 xe:=λ_ _=>False
structure WE(X:Cx)(N:List Str)(fr:List (Option Nat))(scope:Scope)(cl:List (Str×Addr)):Prop where
 WG:closureFor scope X.env=pure cl
 kind:scope.kind= .function
 wK:∀y∈scope.names,y.2≠ .cell
 names:∀y∈scope.names,y.2= .local->scope.names.lookup y.1=some .local
 cells:∀x c,cl.lookup x=some c->X.env.cells.lookup x=some c
 has:∀x,((relabel scope X.env).names.lookup x=some .cell\/(relabel scope X.env).names.lookup x=some .free)->∃c,cl.lookup x=some c
 len:fr.length=N.length
 out:∀(i j:Nat) (x:Str),N[i]? =some x->fr[i]? =some (some j)->X.N[j]? =some x/\X.env.kindOf x=some .cell/\((relabel scope X.env).names.lookup x=some .cell\/(relabel scope X.env).names.lookup x=some .free)
def og(env:Env):List (Str×NameKind)->List (Str×Addr)->List (Str×Addr)
 | [],cs=>cs
 | (n,k)::r,cs=>og env r (if (k== .free)=true then (n,(env.cells.lookup n).getD 0)::cs else cs)
def zf(scope:Scope)(env:Env):List (Str×Addr):=og env scope.names []
theorem Df{env:Env}:∀{names:List (Str×NameKind)} (cs:List (Str×Addr)),(∀y∈names,y.2= .free->∃c,env.cells.lookup y.1=some c)->
  (forIn names cs λ(x:Str×NameKind) cs=>match x with
   | (name,kind)=>if (kind==NameKind.free)=true then do let c<-cellOf env name;pure (ForInStep.yield ((name,c)::cs)) else pure (ForInStep.yield cs):Sem (List (Str×Addr)))=pure (og env names cs)
 | [],cs,_=>rfl
 | (n,k)::r,cs,h=>by
   rw[List.forIn_cons];dsimp only;have ih:=λcs=>Df (env:=env) (names:=r) cs λy hy=>h y (mem_cons_of_mem _ hy);by_cases hk:(k==NameKind.free)=true
   ·obtain⟨c,hc⟩:=h (n,k) 1e0 (by simpa using hk);rw[if_pos hk,show og env ((n,k)::r) cs=og env r ((n,c)::cs) by rw[og,if_pos hk,hc];rfl];have e:cellOf env n=pure c:=by unfold cellOf;rw[hc]
    rw[e];exact ih _
   ·rw[if_neg hk,show og env ((n,k)::r) cs=og env r cs by rw[og,if_neg hk]];exact ih _
def Mh{scope:Scope}{env:Env}(h:∀y∈scope.names,y.2= .free->∃c,env.cells.lookup y.1=some c):closureFor scope env=pure (zf scope env):=by
 have t:=Df (env:=env) [] h
 have e:closureFor scope env=((forIn scope.names ([]:List (Str×Addr)) λ(x:Str×NameKind) cs=>match x with
   | (name,kind)=>if (kind==NameKind.free)=true then do let c<-cellOf env name;pure (ForInStep.yield ((name,c)::cs)) else pure (ForInStep.yield cs)) >>= λcs=>pure cs:Sem (List (Str×Addr))):=rfl
 rw[e,t];rfl
theorem rf{env:Env}:∀{names:List (Str×NameKind)} {cs:List (Str×Addr)},(∀y∈names,y.2= .free->∃c,env.cells.lookup y.1=some c)->(∀x c,cs.lookup x=some c->env.cells.lookup x=some c)->∀x c,(og env names cs).lookup x=some c->env.cells.lookup x=some c
 | [],_,_,hc,x,c,h=>hc x c h
 | (n,k)::r,cs,hn,hc,x,c,h=>by
   rw[og] at h;refine rf (names:=r) (λy hy=>hn y (mem_cons_of_mem _ hy)) (λx c h=>?_) x c h;by_cases hk:(k==NameKind.free)=true
   ·rw[if_pos hk] at h;obtain⟨c',CZ⟩:=hn (n,k) 1e0 (by simpa using hk);rw[lookup_cons] at h
    cases e:x==n with
    |true=>
     rw[e] at h;have ex:x=n:=by simpa using e
     subst ex;rw[CZ] at h |-;exact h
    |false=>
     rw[e] at h;exact hc x c h
   ·rw[if_neg hk] at h;exact hc x c h
theorem zg{env:Env}:∀{names:List (Str×NameKind)} {cs:List (Str×Addr)} {x:Str},((x,NameKind.free)∈names\/∃c,cs.lookup x=some c)->∃c,(og env names cs).lookup x=some c
 | [],_,_,h=>h.elim (λz=>by cases z) λz=>z
 | (n,k)::r,cs,x,h=>by
   rw[og];refine zg (names:=r) ?_;by_cases hk:(k==NameKind.free)=true
   ·rw[if_pos hk,lookup_cons]
    cases e:x==n with
    |true=>exact .inr ⟨_,rfl⟩
    |false=>
     rcases h with h|h
     ·rcases mem_cons.mp h with z|z
      ·cases z;simp at e
      ·exact .inl z
     ·exact .inr h
   ·rw[if_neg hk];rcases h with h|h
    ·rcases mem_cons.mp h with z|z
     ·cases z;exact absurd rfl hk
     ·exact .inl z
    ·exact .inr h
theorem j7{env:Env}(x:Str):∀names:List (Str×NameKind),
  (names.map λ(y:Str×NameKind)=>match y with
   | (n,k)=>if (k==NameKind.free&&env.scope.kind== .function&&env.kindOf n==some .cell)=true then (n,NameKind.cell) else (n,k)).lookup x
   =(names.lookup x).map λk=>if (k==NameKind.free&&env.scope.kind== .function&&env.kindOf x==some .cell)=true then NameKind.cell else k
 | []=>rfl
 | (n,k)::r=>by
   have ih:=j7 (env:=env) x r;rw[map_cons,lookup_cons];by_cases e:(x==n)=true
   ·have ex:x=n:=by simpa using e
    subst ex;dsimp only;by_cases hc:(k==NameKind.free&&env.scope.kind== .function&&env.kindOf x==some .cell)=true
    ·rw[if_pos hc,lookup_cons,beq_self_eq_true];dsimp only [Option.map];rw[if_pos hc]
    ·rw[if_neg hc,lookup_cons,beq_self_eq_true];dsimp only [Option.map];rw[if_neg hc]
   ·have e':(x==n)=false:=by simpa using e
    dsimp only;by_cases hc:(k==NameKind.free&&env.scope.kind== .function&&env.kindOf n==some .cell)=true
    ·rw[if_pos hc,lookup_cons,e'];exact ih
    ·rw[if_neg hc,lookup_cons,e'];exact ih
structure HK(sc scope:Scope)(NX N:List Str)(fr:List (Option Nat)):Prop where
 WH:sc.kind= .function
 kind:scope.kind= .function
 wK:∀y∈scope.names,y.2≠ .cell
 names:∀y∈scope.names,y.2= .local->scope.names.lookup y.1=some .local
 free:∀y∈scope.names,y.2= .free->sc.names.lookup y.1=some .cell
 len:fr.length=N.length
 out:((List.range N.length).all λi=>match fr[i]? with
  |some (some j)=>(match N[i]? with
   |some x=>(NX[j]? ==some x)&&(scope.names.lookup x==some .free)
   |none=>false)
  |_=>true)=true
def oh{names:List (Str×NameKind)}{x:Str}{k:NameKind}(h:names.lookup x=some k):(x,k)∈names:=PySem.mem_of_lookup h
def HK.zh{X:Cx}{sc scope:Scope}{NX N:On}{fr:WF}(B:HK sc scope NX N fr)(e1:X.env.scope=sc)(e2:X.N=NX)(ok:X.Ok):WE X N fr scope (zf scope X.env):=by
 subst e1 e2;have fc:∀y∈scope.names,y.2= .free->∃c,X.env.cells.lookup y.1=some c:=λy hy hf=>ok.has y.1 (.inl (B.free y hy hf));have lk:∀x,(relabel scope X.env).names.lookup x=(scope.names.lookup x).map λk=>if (k==NameKind.free&&X.env.scope.kind== .function&&X.env.kindOf x==some .cell)=true then NameKind.cell else k:=λx=>j7 x scope.names
 have RB:∀x,scope.names.lookup x=some .free->(relabel scope X.env).names.lookup x=some .cell:=λx hx=>by
  have hk:X.env.kindOf x=some .cell:=B.free (x, .free) (oh hx) rfl;rw[lk,hx,map_some,hk,B.WH];rfl
 refine⟨Mh fc,B.kind,B.wK,B.names,λx c h=>rf fc (λx c h=>by cases h) x c h,λx h=>zg (.inl ?_),B.len,λi j x h1 h2=>?_⟩
 ·rw[lk] at h
  cases e:scope.names.lookup x with
  |none=>rw[e] at h;rcases h with h|h<;>cases h
  |some k=>
   rw[e,map_some] at h;have hm:=oh e
   cases k with
   |free=>exact hm
   |cell=>exact absurd rfl (B.wK _ hm)
   |_=>rcases h with h|h<;>simp at h
 ·have hi:i<N.length:=(List.getElem?_eq_some_iff.mp h1).1;have:=all_eq_true.mp B.out i (List.mem_range.mpr hi);rw[h2] at this;dsimp only at this;rw[h1] at this;dsimp only at this;rw[and_eq_true] at this;have a1:X.N[j]? =some x:=by simpa using this.1
  have a2:scope.names.lookup x=some .free:=by simpa using this.2
  exact⟨a1,B.free (x, .free) (oh a2) rfl, .inl (RB x a2)⟩
def startB(fr:WF)(σ:St):St:=fr.map λo=>o.bind λj=>(σ[j]?).join
def Bq{fr:WF}{σ:St}{i:Nat}{v:V}(h:(startB fr σ)[i]? =some (some v)):∃j,fr[i]? =some (some j)/\σ[j]? =some (some v):=by
 unfold startB at h;rw[getElem?_map] at h
 cases e:fr[i]? with
 |none=>rw[e] at h;cases h
 |some o=>
  rw[e] at h
  cases o with
  |none=>cases h
  |some j=>
   have h':(σ[j]?).join=some v:=Option.some.inj h
   cases q:σ[j]? with
   |none=>rw[q] at h';cases h'
   |some z=>rw[q] at h';exact⟨j,U,by rw[q];exact congrArg some h'⟩
section
variable {X:Cx}{pins:WP}{σ:St}{H:Hp}{s:Os}{N:On}{fr:WF}{scope:Scope}{cl:List (Str×Addr)}{fp:Ix}
def HL(B:WE X N fr scope cl)(I:0e5)(f:∀b∈fp,lQ X pins H b/\b<s.heap.objs.size):(vc X pins N scope cl fp s H).Ok where
 mod:=I.mod
 kind:=B.kind
 glob:=I.ok.glob
 blt:=I.ok.blt
 above:=le_refl _
 inj:=λx y c h1 h2=>I.ok.inj x y c (B.cells x c h1) (B.cells y c h2)
 has:=λx h=>B.has x h
 LR:=λx c h=>by cases h
 hd:=I.ok.hd
 frames:=I.ok.frames
 Po:= .inl rfl
 U2:=λb hb=>⟨ne_of_lt (f b hb).2,λx c h=>(f b hb).1.2.2.2.2.1 x c (B.cells x c h)⟩
 bs:=I.bs
 EV:=le_trans I.ok.EV I.sz
 wt:=λb o e hb=>by
  rcases (f b hb).1.2.2.2.1 with h|h
  ·exact I.ok.wt b o e h
  ·exact absurd (lt_of_lt_of_le (Heap.lt_size e) (le_trans I.ok.EV h)) (lt_irrefl _)
 wu:=λb hb h=>by
  rcases mem_cons.mp (I.wx b h) with z|z
  ·exact(f b hb).1.2.1 z
  ·exact(f b hb).1.2.2.1 z
 lO:=I.stack
 He:=I.wy
def Ff{h1:Heap}{t1:Nat}(B:WE X N fr scope cl)(I:0e5)(f:∀b∈fp,lQ X pins H b/\b<s.heap.objs.size)(t9:h1.Ns s.heap.objs.size λ_=>none)
  (RC:∀b o,s.heap.get? b=some o->h1.get? b=some o):Inv (vc X pins N scope cl fp s H) [] (startB fr σ) H { s with heap:=h1,toks:=t1 }:=by
 obtain⟨m,hm,hl⟩:=I.loc;refine⟨HL B I f,U,I.bare,Un.kept RC,⟨_,t9,λi x v e1 e2 _=>?_⟩,λx c h=>?_,I.aX.fresh (le_refl _),λx c h=>I.gC x c (B.cells x c h),λp hp=>?_,I.aX.kept RC,?_⟩
 ·obtain⟨j,ej,es⟩:=Bq e2;obtain⟨o1,o2,o3⟩:=B.out i j x e1 ej;obtain⟨u,ru,L⟩:=hl j x v o1 es (.inr (.inl o2));refine⟨u,ru, .inr ⟨o3,?_⟩⟩;obtain⟨c,hc⟩:=B.has x o3;rcases L with ⟨k1,_⟩ | ⟨_,c',CZ,cc⟩
  ·rw[o2] at k1;cases k1
  ·rw[B.cells x c hc] at CZ;cases CZ;exact⟨c,hc,cc.keeps RC⟩
 ·obtain⟨v,hv⟩:=I.cell x c (B.cells x c h);exact⟨v,hv.keeps RC⟩
 ·have zj:p∈X.pn++pins:=by rw[append_nil] at hp;exact hp
  obtain⟨p1,p2,p3,p4,p5⟩:=I.pin p zj;exact⟨RC _ _ p1,p2,ne_of_lt (Heap.lt_size p1),λz=>(mem_cons.mp (I.wx _ z)).elim p3 p4,p5⟩
 ·show (startB fr σ).length=N.length;unfold startB;rw[length_map,B.len]
end
def RD(X:Cx)(cs:IN)(t:TT):Prop:=
 ∀(pins:WP) (s:Os) (σ:St) (H:Hp) (Q:Bool->Hp->Prop),Inv X pins σ H s->t σ H Q->
  wpAny 0e8 X.A (forIn cs true λc r=>if r=true then do let ok<-isTrue c X.env (eval c X.env);pure (ForInStep.yield ok) else pure (ForInStep.yield r)) (TP X pins σ Q) X.xe s
def tYes:TT:=λ_ H Q=>Q true H
def gJ{X:Cx}:RD X [] tYes:=λpins s σ H Q I h=>by
 rw[List.forIn_nil];exact wpAny_pure ⟨H,I,h⟩
def mI{X:Cx}{c:Expr}{t:TT}(h:PT X c t):RD X [c] t:=λpins s σ H Q I q=>by
 rw[List.forIn_cons,if_pos rfl];refine wpAny_bind (wpAny_bind (b9 (h pins s σ H Q I q) λb s' z=>?_));refine wpAny_pure ?_;dsimp only;rw[List.forIn_nil];exact wpAny_pure z
section
variable {prog:Op}{w:World}{A:Pn}{R:Qp}{s:Os}
def comp_loop{elt tg iter:Expr}{ifs:IN}{scope:Scope}{pos:Pos}{it acc:Ps}{env:Env}(J:Nat->Shared->Prop)
  (turn:∀n s,J n s->wpAny 1e9 A (pyNext it) (λr s₁=>match r with
   |none=>R (.ok .next) s₁
   |some v=>wpAny 1e9 A (letOwnedTupleGo tg it v) (λ_ sg=>wpAny 1e9 A (assign tg env v) (λ_ s₂=>
     wpAny 1e9 A (forIn ifs true λc r=>if r=true then do let ok<-isTrue c env (eval c env);pure (ForInStep.yield ok) else pure (ForInStep.yield r)) (λok s₃=>
      if ok=true then wpAny 1e9 A (eval elt env) (λx s₄=>wpAny 1e9 A (call (.builtin "list.append") [acc,x]) (λ_ s₅=>∃m,m<n/\J m s₅) (λ_ _=>False) s₄) (λ_ _=>False) s₃
      else∃m,m<n/\J m s₃) (λ_ _=>False) s₂) (λ_ _=>False) sg) (λ_ _=>False) s₁) (λ_ _=>False) s)
  (n:Nat) (h:J n s):codeAny 1e9 A (.compLoop (.ListComp elt [⟨tg,iter,ifs,0⟩] scope pos) 0 it acc env) R s:=by
 refine codeAny_loop rfl J (λn s hJ=>?_) n h;show wpAny _ A ((compTurn (.ListComp elt [⟨tg,iter,ifs,0⟩] scope pos) 0 it acc env).onRaise (λx=>do noteFrame x env;theTreesLotGoes x)) _ _ s;refine wpAny_noted ?_;rw[compTurn_list];have no:∀{P:XV} (a:Ps) (s:Os),(λ(_:Ps) (_:Os)=>False) a s->P a s:=λ_ _ z=>False.elim z;refine wpAny_bind (wpAny_standAt (wpAny_bind (wpAny_mono (turn n s hJ) (λr s₁ h₁=>?_) no)))
 cases r with
 |none=>exact wpAny_pure h₁
 |some v=>
  refine wpAny_bind (wpAny_mono h₁ (λ_ sg hg=>?_) no);refine wpAny_bind (wpAny_mono hg (λ_ s₂ h₂=>wpAny_bind (wpAny_mono h₂ (λok s₃ h₃=>?_) no)) no)
  cases ok with
  |false=>exact wpAny_pure ⟨rfl,h₃⟩
  |true=>exact wpAny_bind (wpAny_bind (wpAny_mono h₃ (λx s₄ h₄=>wpAny_bind (wpAny_mono h₄ (λ_ s₅ h₅=>wpAny_pure (wpAny_pure ⟨rfl,h₅⟩)) no)) no))
end
def Pz(wi:TI)(fr:WF)(g:TG)(tt:TT)(te:TE):TE:=fun σ H Q=>wi σ H λJ H1=>∀D,H1 D=none->∃W:Nat->Nat->St->Hp->Prop,(∃m,W 0 m (startB fr σ) (upd H1 D (.lst [])))/\∀i m σ H,W i m σ H->
 (J.stop i H/\Q (.ref D) H)\/(J.go i H/\∀x H2,J.pY i H x H2->g x σ H2 fun σ3 H3=>tt σ3 H3 λb H4=>if b=true
   then te σ3 H4 λy H5=>∃ys,H5 D=some (.lst ys)/\ys.length<sizeLine/\∃m',m'<m/\W (i+1) m' σ3 (upd H5 D (.lst (ys++[y])))
   else∃m',m'<m/\W (i+1) m' σ3 H4)
section
variable {X:Cx}{elt tg iter:Expr}{ifs:IN}{scope:Scope}{pos:Pos}{N:On}{fr:WF}{cl:List (Str×Addr)}{wi:TI}{g:TG}{tt:TT}{te:TE}
def Mi(B:WE X N fr scope cl)(hc:X.calm=true)
  (hg:∀pins fp s H,PG (vc X pins N scope cl fp s H) tg g) (ht:∀pins fp s H,RD (vc X pins N scope cl fp s H) ifs tt) (he:∀pins fp s H,PE (vc X pins N scope cl fp s H) elt te)
  {pins:WP} {s3:Os} {σ:St} {H3:Hp} {Q:VK} {it D:Py} {fp:Ix} {tn:Nat->Heap->Prop} {J:It} (I3:Inv X pins σ H3 s3) (T:Turn X.prog X.w X.K tg J fp it tn) (st3:tn 0 s3.heap) (f3:∀b∈fp,lQ X pins H3 b/\b<s3.heap.objs.size)
  {W:Nat->Nat->St->Hp->Prop} {m0:Nat} (w0:W 0 m0 (startB fr σ) H3)
  (turn:∀i m σ H,W i m σ H->(J.stop i H/\Q (.ref D) H)\/(J.go i H/\∀x H2,J.pY i H x H2->g x σ H2 fun σ3 H3=>tt σ3 H3 λb H4=>if b=true
    then te σ3 H4 λy H5=>∃ys,H5 D=some (.lst ys)/\ys.length<sizeLine/\∃m',m'<m/\W (i+1) m' σ3 (upd H5 D (.lst (ys++[y])))
    else∃m',m'<m/\W (i+1) m' σ3 H4))
  {R:Qp} (hR:∀s' H',Inv X pins σ H' s'->lQ X pins H' s3.heap.objs.size->(∃m,s'.heap.Ns s3.heap.objs.size m)->Q (.ref D) H'->R (.ok .next) s')
  {h₁:Heap} {t1:Nat} (t9:h₁.Ns s3.heap.objs.size λ_=>none) (PB:∀b o,s3.heap.get? b=some o->h₁.get? b=some o):
  codeAny 0e8 X.A (.compLoop (.ListComp elt [⟨tg,iter,ifs,0⟩] scope pos) 0 (.ref it) (.ref D) (compEnvC scope cl s3.heap.objs.size X.env)) R { s3 with heap:=h₁,toks:=t1 }:=by
 have Ib:=Ff (t1:=t1) B I3 f3 t9 PB;have Bc:∀{H':Hp},(∀b∈fp,H' b=none)->∀b∈fp,lQ (vc X pins N scope cl fp s3 H3) [] H' b:=λhn b hb=>
  ⟨hn b hb,ne_of_lt (f3 b hb).2,(HL B I3 f3).wu b hb, .inl hb,λx c h=>(f3 b hb).1.2.2.2.2.1 x c (B.cells x c h),λp hp=>(f3 b hb).1.2.2.2.2.2 p (by rw[append_nil] at hp;exact hp)⟩
 refine comp_loop (λn s'=>∃i σ' H',Inv (vc X pins N scope cl fp s3 H3) [] σ' H' s'/\tn i s'.heap/\(∀b∈fp,H' b=none)/\W i n σ' H') ?_ m0
  ⟨0,_,_,Ib,T.keep _ _ _ st3 λb _ o e=>PB b o e,λb hb=>(f3 b hb).1.1,w0⟩
 rintro n s4 ⟨i,σ4,H4,I4,st4,fr4,w4⟩;rcases turn i n σ4 H4 w4 with ⟨stop,qn⟩ | ⟨go,step⟩
 ·refine b9 (T.done (vc X pins N scope cl fp s3 H3) rfl rfl rfl hc i [] s4 σ4 H4 _ I4 (Bc fr4) st4 stop) λr s5 ⟨hr,I5⟩=>?_;subst hr;have J5:Inv X pins σ H4 s5:=I3.Hf (ch:=fp) I5.os I5.base I5.aX I5.bare λb hb=>⟨(f3 b hb).1.2.2.2.1,(f3 b hb).1.2.1,(f3 b hb).1.2.2.2.2.1,(f3 b hb).1.2.2.2.2.2⟩;obtain⟨mm,RE,_⟩:=I5.loc;exact hR s5 H4 J5 (I3.wD (le_refl _) I5.free) ⟨mm,RE⟩ qn
 ·refine b9 (T.item (vc X pins N scope cl fp s3 H3) rfl rfl rfl hc i [] s4 σ4 H4 _ I4 (Bc fr4) st4 go) λr s5 ⟨u,hr,h5⟩=>?_;subst hr;refine b9 h5 λ_ s6 ⟨x,H6,I6,r6,y6,st6,fr6⟩=>?_;have I6':=I6.pinned (Bc fr6) (T.obj _ _ st6);have back:∀{s7:Os} {σ7:St} {H7:Hp} {m':Nat},Inv (vc X pins N scope cl fp s3 H3) ([]++qO fp s6.heap) σ7 H7 s7->m'<n->W (i+1) m' σ7 H7->
    ∃m,m<n/\∃i σ' H',Inv (vc X pins N scope cl fp s3 H3) [] σ' H' s7/\tn i s7.heap/\(∀b∈fp,H' b=none)/\W i m σ' H':=fun {s7 σ7 H7 m'} I7 hm w7=>by
   refine⟨m',hm,i+1,σ7,H7,I7.gb,T.keep _ _ _ st6 λb hb o e=>(I7.pin (b,o) (mem_append_right _ (mem_append_right _ (ja hb e)))).1,λb hb=>?_,w7⟩;obtain⟨o,e,d⟩:=T.obj _ _ st6 b hb;exact(I7.pin (b,o) (mem_append_right _ (mem_append_right _ (ja hb e)))).2.1
  refine b9 (hg _ _ _ _ _ s6 σ4 H6 x u _ I6' r6 (step x H6 y6)) λ_ s7 ⟨σ7,H7,I7,q7⟩=>?_;refine b9 (ht _ _ _ _ _ s7 σ7 H7 _ I7 q7) λok s8 ⟨H8,I8,q8⟩=>?_
  cases ok with
  |false=>
   rw[if_neg 0e2] at q8 |-;obtain⟨m',hm,w8⟩:=q8;exact back I8 hm w8
  |true=>
   rw[if_pos rfl] at q8 |-;refine b9 (he _ _ _ _ _ s8 σ7 H8 _ I8 q8) λy s9 ⟨v9,H9,I9,r9,ys,hD9,hl9,m',hm,w9⟩=>?_;refine b9 (cn _ s9 σ7 H9 (.ref D) [v9] _ [y] (λ_ H'=>W (i+1) m' σ7 H') I9 rfl (.cons r9 .nil) ⟨_,ys,v9,rfl,rfl,hD9,hl9,w9⟩) λ_ Fg ⟨_,yH,I10,_,q10⟩=>?_;exact back I10 hm q10
def zk(B:WE X N fr scope cl)(hc:X.calm=true)
  (hg:∀pins fp s H,PG (vc X pins N scope cl fp s H) tg g) (ht:∀pins fp s H,RD (vc X pins N scope cl fp s H) ifs tt) (he:∀pins fp s H,PE (vc X pins N scope cl fp s H) elt te)
  {pins:WP} {s2:Os} {σ:St} {H2:Hp} {Q:VK} {E:XV} {it:Py} {fp:Ix} {tn:Nat->Heap->Prop} {J:It} (I2:Inv X pins σ H2 s2) (T:Turn X.prog X.w X.K tg J fp it tn) (nV:tn 0 s2.heap) (f2:∀b∈fp,lQ X pins H2 b)
  (q:∀D,H2 D=none->∃W:Nat->Nat->St->Hp->Prop,(∃m,W 0 m (startB fr σ) (upd H2 D (.lst [])))/\∀i m σ H,W i m σ H-> (J.stop i H/\Q (.ref D) H)\/(J.go i H/\∀x H2,J.pY i H x H2->g x σ H2 fun σ3 H3=>tt σ3 H3 λb H4=>if b=true
     then te σ3 H4 λy H5=>∃ys,H5 D=some (.lst ys)/\ys.length<sizeLine/\∃m',m'<m/\W (i+1) m' σ3 (upd H5 D (.lst (ys++[y])))
     else∃m',m'<m/\W (i+1) m' σ3 H4))
  {RR:Value->Addr->Result->Shared->Prop}
  (hRR:∀D C s' H',Inv X pins σ H' s'->lQ X pins H' C->(∃m,s'.heap.Ns C m)->Q (.ref D) H'->RR (.ref D) C (.ok .next) s'):
  wpAny 0e8 X.A (newList []) (λacc s₃=>wpAny 0e8 X.A (newFunctionEnv scope X.env.globals cl [] X.env.qual none .none (some X.env)) (λWI s₄=>
   codeAny 0e8 X.A (.compStart (.ListComp elt [⟨tg,iter,ifs,0⟩] scope pos) 0 (.ref it) acc { WI with scope:=relabel scope X.env }) (RR acc WI.locals) s₄) E s₃) E s2:=by
 have hD:H2 s2.heap.objs.size=none:=I2.aX.fresh (le_refl _);obtain⟨W,⟨m0,w0⟩,turn⟩:=q s2.heap.objs.size hD;have I3:=I2.Ww (ys:=[]) (its:=[]) (t':=s2.toks) .nil 0e2
 have lt2:∀b∈fp,b<s2.heap.objs.size:=λb hb=>by
  obtain⟨o,e,_⟩:=T.obj _ _ nV b hb;exact Heap.lt_size e
 refine wpAny_newObj_type (wpAny_newFunctionEnv B.wK (by intro y hy;simp at hy) (λh₁ t9 RC=>?_) B.kind);have up2:∀b o,s2.heap.get? b=some o->(s2.heap.push { cls:= .type "list",data:= .seq ([]:UV).toArray }).get? b=some o:=λb o e=>Heap.get?_push_of_some _ e;have PB:∀b o,(s2.heap.push { cls:= .type "list",data:= .seq ([]:UV).toArray }).get? b=some o->h₁.get? b=some o:=λb o e=>RC.extBut b o (ne_of_lt (Heap.lt_size e)) (Heap.get?_push_of_some _ e)
 have f3:∀b∈fp,lQ X pins (upd H2 s2.heap.objs.size (.lst [])) b/\b< (s2.heap.push { cls:= .type "list",data:= .seq ([]:UV).toArray }).objs.size:=λb hb=>by
  refine⟨⟨?_,(f2 b hb).2⟩,?_⟩
  ·rw[ah (ne_of_lt (lt2 b hb))];exact(f2 b hb).1
  ·rw[Heap.size_push];exact Nat.lt_succ_of_lt (lt2 b hb)
 have fin:=Mi (iter:=iter) (pos:=pos) (D:=s2.heap.objs.size) (t1:=s2.toks) (R:=RR (.ref s2.heap.objs.size) (s2.heap.push { cls:= .type "list",data:= .seq ([]:UV).toArray }).objs.size) B hc hg ht he I3 T (T.keep _ _ _ nV λb _ o e=>up2 b o e) f3 w0 turn
  (λs' H' J' f m q=>hRR _ _ s' H' J' f m q) t9 PB
 exact codeAny_compStart_list fin (T.self _ 0 _ _ _ (T.keep _ _ _ nV λb _ o e=>PB b o (up2 b o e)) fin)
def fW{sc:Scope}{NX:On}(S:HK sc scope NX N fr)(e1:X.env.scope=sc)(e2:X.N=NX)(hc:X.calm=true)(hi:PI X tg iter wi)
  (hg:∀pins fp s H,PG (vc X pins N scope (zf scope X.env) fp s H) tg g) (ht:∀pins fp s H,RD (vc X pins N scope (zf scope X.env) fp s H) ifs tt) (he:∀pins fp s H,PE (vc X pins N scope (zf scope X.env) fp s H) elt te)
  (hs:∀x,foldedSetIterable iter X.env x=pure x:=by intro _;rfl):PE X (.ListComp elt [⟨tg,iter,ifs,0⟩] scope pos) (Pz wi fr g tt te):=by
 intro pins s σ H Q I h;have B:=S.zh e1 e2 I.ok;rw[eval_ListComp];refine wpAny_comprehension_free (use:=none) rfl hs B.WG B.kind B.names (b9 (hi pins s σ H _ I h) λv s1 h1=>b9 h1 λitv s2 h2=>?_);obtain⟨it,fp,tn,J,H2,e,I2,T,nV,f2,q⟩:=h2;subst e;refine zk (RR:=λacc C=>compPost 0e8 X.A X.xe none (EP X pins σ Q) acc C) B hc hg ht he I2 T nV f2 q ?_;intro D C s' H' J' fC ⟨m,hm⟩ qn;refine⟨m,hm,λh' yI=>⟨.ref D,H',?_,U,qn⟩⟩;obtain⟨f0,f1,_,f3,f4,f5⟩:=fC;exact J'.turned (t':=s'.toks) (λb o hb e=>(yI.2 b hb).trans e) f0 f1 f3 f4 f5
end
end L2
namespace PySem
namespace F
def mJ:entryFor table "dict.update.loop" =some Builtin.«dict.update.loop» :=entryFor_of_tree (by kernel_rfl)
def gK:plainId "dict.update.loop" =true:=by decide+kernel
def wM:typeLookup (.type "list") "keys" =pure none:=by rw[typeLookup_type,builtinLookup_eq_fast];kernel_rfl
end F
section
variable {prog:Op}{w:World}{K:Type}[DecidableEq K]{knd:KeyKind prog w K}{A:Pn}{E:XV}{s:Os}
def Br{a:Py}{xs:Array Value}{k:Nat}{sl:Array (Option Value)}{Q:Option Value->Shared->Prop}
  (hx:s.heap.get? a=some { cls:= .type "list",dict:=none,data:= .seq xs k,slots:=sl }) (hA:A.handled=none)
  (h:∀h' tk,(∀b o,s.heap.get? b=some o->h'.get? b=some o)->Q none { s with heap:=h',toks:=tk }):wpAny 1e9 A (getAttr? (.ref a) "keys") Q E s:=by
 obtain⟨hp,g,d,tk,os⟩:=s;have hT:∀RF,(⟨hp,g,d,RF,os⟩:Os).TypeIs (.ref a) "list" :=λ_=>⟨_,hx,rfl⟩;have f1:=sub_AttributeError;have f3:=F.slot_list_getattribute.lookup;have f4:=F.slot_list_getattribute.bind (.ref a);have f5:=am_list_getattr_none;unfold getAttr? getAttrBy? getAttrBy
 repeat (any_goals (first|assumption|exact hT _| ((with_reducible show wpAny _ _ (call (Value.builtin "list.__getattribute__") _ _) _ _ _);refine call_meets F.slot_list_getattribute (hT _) am_entry_list_getattribute (F.args_list_getattribute_2 _ _) (meets_getattribute_miss_list a xs k sl "keys" _ F.wM (by decide+kernel) (by decide+kernel)) ⟨hx,hA,λh' RF e LB=>?_⟩) |wp_step))
 obtain⟨t',u',he⟩:=LB.there;show wpAny _ _ (getattributeRaised _ _ _ _ _ _ _) _ _ _;unfold getattributeRaised
 repeat (any_goals (first|assumption|wp_step))
 all_goals exact h h' RF LB.keeps
def RG{d it l:Py}{res:Ps}{R:Qp}{ps:List (Addr×K×Value×Value)}(hh:A.handled=none)(hdl:d≠l)(nW:d≠it)(zm:it≠l)
  (Mj:∀p∈ps,p.1≠d/\p.1≠it/\knd.is p.2.1 p.2.2.1=true):
  ∀(n i:Nat) (s:Os) (kvs:List (K×Value)),ps.length - i=n->i<=ps.length->s.heap.IsListIter it l i->s.heap.IsList l (ps.map λp=>Value.ref p.1).toArray->
   (∀p∈ps,s.heap.IsTuple p.1 #[p.2.2.1,p.2.2.2])->s.heap.DictOf knd d kvs->kvs.length+(ps.length - i)<=sizeLine->
   (∀h' tk,h'.DictOf knd d ((ps.drop i).foldl (λacc p=>stored acc p.2.1 p.2.2.2) kvs)->(∀b o,b≠d->b≠it->s.heap.get? b=some o->h'.get? b=some o)->R (.ok (.ret res)) { s with heap:=h',toks:=tk })->
   codeAny 1e9 A (.builtin "dict.update.loop" ⟨[.ref d, .ref it,rawInt i,res],[]⟩) R s:=by
 intro n
 induction n with
 |zero=>
  intro i s kvs hn hi hit hl ht hd hsz hR;refine codeAny_builtin F.mJ ?_;rw[Around.under_plainId F.gK _];show wpAny _ A.in1 (pyNext (.ref it) >>= _) _ _ s;refine wpAny_bind (wpAny_pyNext_list_end hh hit hl (by simp;omega) λh' eb=>?_);show wpAny _ A.in1 (Builtin.Dict.addKeywords d [] >>= λ_=>ret res) _ _ _;have e:ps.drop i=[]:=List.drop_eq_nil_of_le 0e1;rw[e] at hR;exact wpAny_bind (wpAny_pure (wpAny_pure (hR h' s.toks (hd.extBut eb nW) λb o _ hb q=>eb b o hb q)))
 |succ n ih=>
  intro i s kvs hn hi hit hl ht hd hsz hR;have lT:i<ps.length:=by omega
  have hp:=ps.get_mem ⟨i,lT⟩;have LC:ps.drop i=ps[i]::ps.drop (i+1):=drop_eq_getElem_cons lT;obtain⟨n1,n2,hk⟩:=Mj _ (getElem_mem lT);refine codeAny_builtin F.mJ ?_;rw[Around.under_plainId F.gK _];show wpAny _ A.in1 (pyNext (.ref it) >>= _) _ _ s;refine wpAny_bind (wpAny_pyNext_list_item hit hl (x:= .ref ps[i].1) (by simp [lT]) λh1 hit1 sb1=>?_)
  have WJ:∀p∈ps,h1.IsTuple p.1 #[p.2.2.1,p.2.2.2]:=λp hp=>by
   obtain⟨o,q,r⟩:=ht p hp;exact⟨o,(sb1.2 _ (Mj p hp).2.1).trans q,r⟩
  obtain⟨o,ho,hc,m,hdat⟩:=WJ _ (getElem_mem lT);have Ml:h1.DictOf knd d kvs:=hd.sameBut sb1 nW;have uc:h1.IsList l (ps.map λp=>Value.ref p.1).toArray:=hl.extBut sb1.extBut (Ne.symm zm);show wpAny _ A.in1 (holding [Value.ref ps[i].1] _ >>= _) _ _ _;refine wpAny_bind (wpAny_holding (wpAny_bind ?_));refine wpAny_tryCatch ?_;unfold Builtin.Dict.pairItems;refine wpAny_bind (wpAny_typeOf (T:="tuple") ⟨o,ho,hc⟩ ?_);rw[if_pos 0e2];refine wpAny_bind (wpAny_seqItems ho hdat (wpAny_pure ?_));show wpAny _ A.in1 (holding [ps[i].2.2.1,ps[i].2.2.2] (dictSet d ps[i].2.2.1 ps[i].2.2.2)) _ _ _;refine wpAny_holding (wpAny_dictSet_pairs hk Ml (λh2 hd2 sb2=>?_) 0e1);have hc1:((i:Int)+1)=((i+1 :Nat):Int):=by push_cast;rfl
  have up:∀b o,b≠d->b≠it->s.heap.get? b=some o->h2.get? b=some o:=λb o q1 q2 q=>(sb2.2 b q1).trans ((sb1.2 b q2).trans q);refine wpAny_pure ⟨plainId_quiet F.gK _,?_⟩;show codeAny _ _ (.builtin "dict.update.loop" ⟨[.ref d, .ref it,rawInt ((i:Int)+1),res],[]⟩) _ _;rw[hc1];refine ih (i+1) _ _ 0e1 lT ?_ ?_ ?_ hd2 ?_ ?_
  ·obtain⟨oi,q,r⟩:=hit1;exact⟨oi,(sb2.2 _ (Ne.symm nW)).trans q,r⟩
  ·exact uc.extBut sb2.extBut (Ne.symm hdl)
  ·intro p hp;obtain⟨o',q,r⟩:=WJ p hp;exact⟨o',(sb2.2 _ (Mj p hp).1).trans q,r⟩
  ·have:=stored_length_le kvs ps[i].2.1 ps[i].2.2.2;omega
  ·intro h' tk gD keep;refine hR h' tk ?_ λb o q1 q2 q=>keep b o q1 q2 (up b o q1 q2 q);rw[LC];exact gD
end
section
variable {prog:Op}{w:World}{K:Type}[DecidableEq K]{knd:KeyKind prog w K}{A:Pn}{E:XV}{s:Os}
def l6{l:Py}{n:Nat}{sl:Array (Option Value)}{ps:List (Addr×K×Value×Value)}{Q:XV}(hh:A.handled=none)
  (hl:s.heap.get? l=some { cls:= .type "list",dict:=none,data:= .seq (ps.map λp=>Value.ref p.1).toArray n,slots:=sl })
  (ht:∀p∈ps,s.heap.IsTuple p.1 #[p.2.2.1,p.2.2.2]/\knd.is p.2.1 p.2.2.1=true) (hsz:ps.length<=sizeLine)
  (h:∀h' tk,h'.DictOf knd s.heap.objs.size (ps.foldl (λacc p=>stored acc p.2.1 p.2.2.2) [])->(∀b o,s.heap.get? b=some o->h'.get? b=some o)->Q (.ref s.heap.objs.size) { s with heap:=h',toks:=tk }):
  wpAny 1e9 A (call (.type "dict") [.ref l]) Q E s:=by
 refine callType_codes (Q₁:=λobj s₁=>obj= .ref s.heap.objs.size/\s₁={ s with heap:=s.heap.push { cls:= .type "dict",data:= .dict #[] } }) F.kt_called_dict (F.kt_typeCall_dict_1 _) F.entry_dict_init (kt_code_dict_new _ ⟨rfl,rfl⟩) ?_;rintro obj s₁ ⟨rfl,rfl⟩;have gy:(s.heap.push { cls:= .type "dict",data:= .dict #[] }).DictOf knd s.heap.objs.size []:=Heap.DictOf.new s.heap;have up:∀b o,s.heap.get? b=some o->(s.heap.push { cls:= .type "dict",data:= .dict #[] }).get? b=some o:=λb o q=>Heap.get?_push_of_some _ q;have uc:=up _ _ hl;refine⟨gy.typeIs,F.args_dict_init_2 _ _,?_⟩;unfold Builtin.«dict.__init__»;refine wpAny_bind ?_;unfold Builtin.Dict.selfAndRest;refine wpAny_bind (wpAny_notOrdered_dict gy.typeIs ?_);show wpAny _ _ (pure (s.heap.objs.size,[Value.ref l])) _ _ _;refine wpAny_pure ?_;show wpAny _ _ (Builtin.Dict.updateFrom "dict.__init__" s.heap.objs.size (.ref l) [] .none) _ _ _;unfold Builtin.Dict.updateFrom;refine wpAny_bind (wpAny_typeOf (T:="list") ⟨_,uc,rfl⟩ ?_);rw[if_pos 0e2];refine wpAny_bind (Br uc hh λh2 tk2 k2=>?_);rw[if_pos (show (none:Option Value).isNone=true from rfl)];refine wpAny_bind (wpAny_rule ?_);have pM:=k2 _ _ uc;have isl:h2.IsList l (ps.map λp=>Value.ref p.1).toArray:=⟨_,pM,rfl,n,rfl⟩;have U8:l<s.heap.objs.size:=Heap.lt_size hl
 have sz:s.heap.objs.size+1<=h2.objs.size:=by
  obtain⟨o,es,ep,q,r⟩:=id gy;exact Heap.lt_size (k2 _ _ q)
 refine wpAny_bind (wpAny_pyIter_list isl ?_);refine wpAny_pure ⟨plainId_quiet F.gK _,?_⟩;have PB:∀b o,s.heap.get? b=some o->(h2.push { cls:= .type "list_iterator",data:= .fields #[.ref l, .int 0 0] }).get? b=some o:=λb o q=>Heap.get?_push_of_some _ (k2 _ _ (up b o q));refine RG (A:=A.in1) (knd:=knd) (l:=l) (ps:=ps) hh (ne_of_gt U8) (ne_of_lt sz) (ne_of_gt (lt_of_lt_of_le U8 (Nat.le_of_lt sz))) (λp hp=>?_) ps.length 0 _ [] 0e1 (zero_le _) ?_ ?_ ?_ ?_ ?_ ?_
 ·obtain⟨⟨o,q,_⟩,hk⟩:=ht p hp;have:=Heap.lt_size q;exact⟨ne_of_lt this,ne_of_lt (lt_trans this sz),hk⟩
 ·exact⟨_,Heap.get?_push_size _ rfl,U,U⟩
 ·exact⟨_,Heap.get?_push_of_some _ pM,U,n,U⟩
 ·intro p hp;obtain⟨⟨o,q,r⟩,hk⟩:=ht p hp;exact⟨o,PB _ _ q,r⟩
 ·obtain⟨o,es,ep,q,r⟩:=gy;exact⟨o,es,ep,Heap.get?_push_of_some _ (k2 _ _ q),r⟩
 ·simpa using hsz
 ·intro h' tk gD keep;refine⟨U,h h' tk gD λb o q=>?_⟩;have:=Heap.lt_size q;exact keep b o (ne_of_lt this) (ne_of_lt (lt_trans this sz)) (PB b o q)
end
end PySem
namespace L2
open PySem PySem.Spec PyProof.Rows
theorem vd:∀{as:Ix} {us:UV},Vals (as.map V.ref) us->us=as.map Value.ref
 | [],_, .nil=>rfl
 |a::r,_, .cons h t=>by
  rw[vd t];exact congrArg (·::r.map Value.ref) (show _=Value.ref a from h)
theorem pairs_of{P:Op}{w:World}{H:Hp}{h:Heap}(ok:jV P w H h):∀{ps:List (Addr×Key×V)},(∀p∈ps,H p.1=some (.tup [kV p.2.1,p.2.2]))->
  ∃qs:List (Addr×Key×Value×Value),Paired (λ(p:Addr×Key×V) (q:Addr×Key×Value×Value)=>p.1=q.1/\p.2.1=q.2.1/\RelV p.2.2 q.2.2.2) ps qs/\∀q∈qs,h.IsTuple q.1 #[q.2.2.1,q.2.2.2]/\(bE P w).is q.2.1 q.2.2.1=true
 | [],_=>⟨[], .nil,λq hq=>by cases hq⟩
 | (a,k,v)::r,hp=>by
   obtain⟨qs,pr,hq⟩:=pairs_of ok (ps:=r) λp zj=>hp p (mem_cons_of_mem _ zj);obtain⟨_,its,vs,tu⟩:=(show cu P w H h a (.tup [kV k,v]) from ok a _ (hp (a,k,v) 1e0));obtain⟨u1,u2,rfl,r1,r2⟩:=vals2 vs;refine⟨(a,k,u1,u2)::qs, .cons ⟨U,U,r2⟩ pr,λq yG=>?_⟩;rcases mem_cons.mp yG with rfl|z
   ·exact⟨tu,u5 r1⟩
   ·exact hq q z
theorem rg:∀{ps:List (Addr×Key×V)} {qs:List (Addr×Key×Value×Value)},Paired (λ(p:Addr×Key×V) (q:Addr×Key×Value×Value)=>p.1=q.1/\p.2.1=q.2.1/\RelV p.2.2 q.2.2.2) ps qs->(ps.map λp=>Value.ref p.1)=qs.map λq=>Value.ref q.1
 |_,_, .nil=>rfl
 |_,_, .cons h t=>by
  rw[map_cons,map_cons,rg t,h.1]
theorem rh:∀{ps:List (Addr×Key×V)} {qs:List (Addr×Key×Value×Value)} {kvs:PP} {vs:List (Key×Value)},Paired (λ(p:Addr×Key×V) (q:Addr×Key×Value×Value)=>p.1=q.1/\p.2.1=q.2.1/\RelV p.2.2 q.2.2.2) ps qs->KV kvs vs->
  KV (bD kvs (ps.map (·.2))) (qs.foldl (λacc q=>stored acc q.2.1 q.2.2.2) vs)
 |_,_,_,_, .nil,h=>h
 |_,_,kvs,vs, .cons (b:=q) (a:=p) h t,r=>by
  obtain⟨h1,h2,h3⟩:=h
  have u:KV (putK kvs p.2.1 p.2.2) (stored vs q.2.1 q.2.2.2):=by
   rw[<-h2];exact r.put p.2.1 h3
  have z:=rh t u;exact z
inductive zq(xs:List V)(H:Hp)(Q:VK):Prop
 |mk (l:_) (ps:List (Addr×Key×V)) (bM:xs=[.ref l]) (bV:H l=some (.lst (ps.map λp=> .ref p.1))) (b8:(∀p∈ps,H p.1=some (.tup [kV p.2.1,p.2.2]))) (cS:∀q,H q=none->Q (.ref q) (upd H q (.dK (bD [] (ps.map (·.2))))))
def rj{X:Cx}(hc:X.calm=true):gc X (.type "dict") (zq):=by
 intro pins s σ H xs us Q I r h;obtain⟨l,ps,rfl,hl,hp,q⟩:=h;obtain⟨u,rfl,ru⟩:=vals1 r;cases ru;obtain⟨z,its,n,vs,_,e⟩:=I.E8 hl;obtain⟨qs,pr,hq⟩:=pairs_of I.aX hp
 have e1:its=qs.map λq=>Value.ref q.1:=by
  rw[<-rg pr];have:=vd (as:=ps.map 1e4) (us:=its) (by rw[map_map];exact vs);rw[this,map_map];rfl
 subst e1
 have zl:qs.length<=sizeLine:=by
  rw[<-pr.length]
  rwa [length_map] at z
 refine l6 (ps:=qs) (I.ok.hd hc) e hq zl λh' tk dd keep=>?_;have kv:=rh (kvs:=[]) (vs:=[]) pr .nil
 have zz:(bD [] (ps.map (·.2))).length<=sizeLine:=by
  have:=eD (ps.map (·.2)) [];rw[length_map] at this;have:=pr.length;simp only [length_nil] at*;omega
 exact⟨.ref s.heap.objs.size,_,I.laid (a:=s.heap.objs.size) (o:= .dK (bD [] (ps.map (·.2)))) (t':=tk) keep (le_refl _) (qY zz (beq_eq_false_iff_ne.mpr (Ne.symm (ne_of_lt I.big))) kv dd),U,q _ (I.aX.fresh (le_refl _))⟩
structure HM(K:1e8)(x qual:Str)(st:Stmt)(f:Addr)(fd:FuncData)(dV:Value):Prop where
 ex:∃(oc:Value) (od:Option Addr) (kV doc pm:Value) (an:Option Addr) (bg ct:Value) (p7:Array (Option Value)),
  fd=fnOf x qual (dJ st) (b5 st) (ao st) dV kV doc pm an bg ct/\K.lookup f=some ⟨oc,od, .func fd,p7⟩/\PySem.W.codeIn K bg qual=true
 kp:keepIn K (.ref f)=true
section
variable {P:Op}{w:World}{K:Uu}{mg:Wp}{base:Heap}
def HM.ok{x qual:Str}{st:Stmt}{f:Py}{fd:FuncData}{dV:Ps}{N ps:On}{k:Nat}{sp:Sp}(F:HM K x qual st f fd dV)(S:ay N ps (ao st))(len:∀vs H Q E,sp vs H Q E->vs.length=ps.length)
  (eB:∀(bg:Ps) (A:Pn) (outer:List Env) (s:Os) (H:Hp) (vs:KB) (Q:VK) (E:XK),cU k (A.deeper (envOfC qual (ao st) s.heap.objs.size f bg))->sp vs H Q E->
   ∃t,mz (jc q5 P w K mg base N qual (ao st) f bg A outer s H E).Hi (b5 st) t/\t { nx:=λ_ H'=>Q .cF H',rt:=Q } (start N vs) H):fO P w K mg base q5 (k+1) f fd ps sp:=by
 obtain⟨oc,od,kV,doc,pm,an,bg,ct,p7,rfl,lk,mx⟩:=F.ex;refine fn_of lk mx S len λA outer s H vs Q E hr GQ=>?_;obtain⟨t,h,q⟩:=eB bg A outer s H vs Q E hr GQ;exact⟨t,h.Hi,q⟩
def Dg{x qual:Str}{st:Stmt}{f:Py}{oc dV:Ps}{od an:UF}{p7:Array (Option Value)}{kV doc pm bg ct:Ps}(l:K.lookup f=some ⟨oc,od, .func (fnOf x qual (dJ st) (b5 st) (ao st) dV kV doc pm an bg ct),p7⟩)
  (c:PySem.W.codeIn K bg qual=true) (k:keepIn K (.ref f)=true):HM K x qual st f (fnOf x qual (dJ st) (b5 st) (ao st) dV kV doc pm an bg ct) dV:=⟨⟨oc,od,kV,doc,pm,an,bg,ct,p7,rfl,l,c⟩,k⟩
inductive Def(K:1e8)(mg:2e1)(x q:Str)(st:Stmt)(ps:List Str):Prop
 |mk (f fd:_) (bM:GR K x q st f fd) (bV:Binds K fd ps []) (b8:mg x=some (.ref f))
structure Cal(P:Program)(w:World)(K:1e8)(mg:2e1)(base:Heap)(k:Nat)(x:Str)(ps:List Str)(sp:Sp)(f:Addr)(fd:FuncData):Prop where
 ok:fO P w K mg base q5 k f fd ps sp
 kp:keepIn K (.ref f)=true
 b:Binds K fd ps []
 g:mg x=some (.ref f)
inductive bp(P:Program)(w:World)(K:1e8)(mg:2e1)(base:Heap)(k:Nat)(x:Str)(ps:List Str)(sp:Sp):Prop
 |mk (f fd:_) (bM:Cal P w K mg base k x ps sp f fd)
def Def.dk{x q:Str}{st:Stmt}{N ps:On}{k:Nat}{sp:Sp}(D:Def K mg x q st ps)(S:ay N ps (ao st))(len:∀vs H Q E,sp vs H Q E->vs.length=ps.length)
  (eB:∀(f:Py) (bg:Ps) (A:Pn) (outer:List Env) (s:Os) (H:Hp) (vs:KB) (Q:VK) (E:XK),cU k (A.deeper (envOfC q (ao st) s.heap.objs.size f bg))->sp vs H Q E->
   ∃t,mz (jc q5 P w K mg base N q (ao st) f bg A outer s H E).Hi (b5 st) t/\t { nx:=λ_ H'=>Q .cF H',rt:=Q } (start N vs) H):bp P w K mg base (k+1) x ps sp:=by
 obtain⟨f,fd,F,b,g⟩:=D;exact⟨f,fd,F.ok S len (eB f),F.kp,b,g⟩
inductive a9(K:1e8)(C:Addr)(m q:Str)(st:Stmt)(ps:List Str):Prop
 |mk (f fd:_) (bM:GR K m q st f fd) (bV:Binds K fd ps []) (b8:Meth K C m f)
structure WK(P:Program)(w:World)(K:1e8)(mg:2e1)(base:Heap)(k:Nat)(C:Addr)(m:Str)(ps:List Str)(sp:Sp)(f:Addr)(fd:FuncData):Prop where
 ok:fO P w K mg base q5 k f fd ps sp
 m:Meth K C m f
 b:Binds K fd ps []
inductive aJ(P:Program)(w:World)(K:1e8)(mg:2e1)(base:Heap)(k:Nat)(C:Addr)(m:Str)(ps:List Str)(sp:Sp):Prop
 |mk (f fd:_) (bM:WK P w K mg base k C m ps sp f fd)
def a9.dk{C:Py}{m q:Str}{st:Stmt}{N ps:On}{k:Nat}{sp:Sp}(D:a9 K C m q st ps)(S:ay N ps (ao st))(len:∀vs H Q E,sp vs H Q E->vs.length=ps.length)
  (eB:∀(f:Py) (bg:Ps) (A:Pn) (outer:List Env) (s:Os) (H:Hp) (vs:KB) (Q:VK) (E:XK),cU k (A.deeper (envOfC q (ao st) s.heap.objs.size f bg))->sp vs H Q E->
   ∃t,mz (jc q5 P w K mg base N q (ao st) f bg A outer s H E).Hi (b5 st) t/\t { nx:=λ_ H'=>Q .cF H',rt:=Q } (start N vs) H):aJ P w K mg base (k+1) C m ps sp:=by
 obtain⟨f,fd,F,b,g⟩:=D;exact⟨f,fd,F.ok S len (eB f),g,b⟩
inductive j8(K:1e8)(C:Addr)(q:Str)(st:Stmt)(ps:List Str)(ds:List Int):Prop
 |mk (f fd dV:_) (bM:HM K "__init__" q st f fd dV) (bV:Mk K C f) (b8:∀j,j<=ds.length->∃us,Vals ((ds.drop j).map V.int) us/\Binds K fd ps us)
structure CalI(P:Program)(w:World)(K:1e8)(mg:2e1)(base:Heap)(k:Nat)(C:Addr)(ps:List Str)(ds:List Int)(sp:Sp)(f:Addr)(fd:FuncData):Prop where
 ok:fO P w K mg base q5 k f fd ps sp
 m:Mk K C f
 b:∀j,j<=ds.length->∃us,Vals ((ds.drop j).map V.int) us/\Binds K fd ps us
inductive gF(P:Program)(w:World)(K:1e8)(mg:2e1)(base:Heap)(k:Nat)(C:Addr)(ps:List Str)(ds:List Int)(sp:Sp):Prop
 |mk (f fd:_) (bM:CalI P w K mg base k C ps ds sp f fd)
def j8.dk{C:Py}{q:Str}{st:Stmt}{N ps:On}{ds:List Int}{k:Nat}{sp:Sp}(D:j8 K C q st ps ds)(S:ay N ps (ao st))(len:∀vs H Q E,sp vs H Q E->vs.length=ps.length)
  (eB:∀(f:Py) (bg:Ps) (A:Pn) (outer:List Env) (s:Os) (H:Hp) (vs:KB) (Q:VK) (E:XK),cU k (A.deeper (envOfC q (ao st) s.heap.objs.size f bg))->sp vs H Q E->
   ∃t,mz (jc q5 P w K mg base N q (ao st) f bg A outer s H E).Hi (b5 st) t/\t { nx:=λ_ H'=>Q .cF H',rt:=Q } (start N vs) H):gF P w K mg base (k+1) C ps ds sp:=by
 obtain⟨f,fd,dV,F,g,b⟩:=D;exact⟨f,fd,F.ok S len (eB f),g,b⟩
end
def au.new{H:Hp}{p:Py}{o:HO}(h:H p=none):au H (upd H p o):=λb q e=>by
 rw[ah (af e h)];exact e
end L2
namespace L2
open PySem
def fe:bootBuiltins "len" =some (.builtin "len"):=PySem.boot_len
def iI:bootBuiltins "isinstance" =some (.builtin "isinstance"):=by decide+kernel
def wN:bootBuiltins "int" =some (.type "int"):=by decide+kernel
def Bs:bootBuiltins "str" =some (.type "str"):=by decide+kernel
def Mm:bootBuiltins "bool" =some (.type "bool"):=by decide+kernel
def iz:bootBuiltins "list" =some (.type "list"):=by decide+kernel
def jf:bootBuiltins "dict" =some (.type "dict"):=by decide+kernel
def Bt:bootBuiltins "sum" =some (.builtin "sum"):=by decide+kernel
def wO{c A B:Prop}[Decidable c](hc:c)(h:A):if decide c=true then A else B:=by
 rw[if_pos (decide_eq_true hc)];exact h
def rm{c A B:Prop}[Decidable c](hc:¬c)(h:B):if decide c=true then A else B:=by
 rw[if_neg (by rw[decide_eq_false hc];decide)];exact h
def l7{α:Type}{xs:List α}{i:Int}(h0:0<=i)(h1:i<xs.length):∃v,v∈xs/\y8 xs i=some v:=by
 have hl:i.toNat<xs.length:=by omega
 refine⟨xs[i.toNat],getElem_mem hl,?_⟩;have:=qa (getElem?_eq_getElem hl)
 rwa [Int.toNat_of_nonneg h0] at this
def az(x y:Str):(x++y).length=x.length+y.length:=by
 show (x.cps++y.cps).size=_;rw[Array.size_append];rfl
def ve{n:Int}(h1:0<=n)(h2:n<2^64):n.natAbs.log2<1920:=by
 by_cases h:n.natAbs=0
 ·rw[h];decide
 ·have:=(log2_lt h (k:=64)).mpr 0e1;omega
end L2
namespace L2
open PySem PySem.Spec PyProof.Rows
inductive vf:List Expr->List V->Prop where
 |nil:vf [] []
 |int {i:Int} {j} {pos:Pos} {es:List Expr} {vs:List V} (t:vf es vs):vf (.Constant (.int i) j pos::es) (.int i::vs)
 |str {x:Str} {j} {pos:Pos} {es:List Expr} {vs:List V} (t:vf es vs):vf (.Constant (.str x) j pos::es) (.str x::vs)
def WL(vs:KB):TA:=λ_ H Q=>Q vs H
def Mn{X:Cx}{es:IN}{vs:KB}(h:vf es vs):PA X es (WL vs):=by
 induction h with
 |nil=>exact aj
 |int t ih=>exact λpos pins s σ H Q I q=>aa aq ih rfl pos pins s σ H Q I q
 |str t ih=>exact λpos pins s σ H Q I q=>aa aZ ih rfl pos pins s σ H Q I q
section
variable {K:Uu}
def zr{T:String}:kitOne K (.type T) (.type T)=some true:=by
 unfold kitOne;rw[if_pos 2e0]
def RH{T U:String}{b:Bool}(h1:(Value.type T==Value.type U)=false)(h2:PySem.W.kitMeta U=true)(h3:(fastBuiltinMro T).map (·.contains (Value.type U))=some b):kitOne K (.type T) (.type U)=some b:=by
 unfold kitOne;rw[if_neg (by rw[h1];decide)];unfold PySem.W.kitCls;dsimp only;rw[if_pos h2];exact h3
def mK:kitOne K (.type "int") (.type "bool")=some false:=RH 0e4 0e4 0e4
end
section
variable {X:Cx}{elt tg iter:Expr}{ifs:IN}{scope:Scope}{pos Mo py:Pos}{N:On}{fr:WF}{wi:TI}{g:TG}{tt:TT}{te:TE}
def qc{i:Nat}{y:Str}{sc:Scope}{NX:On}(hN:X.N.Nodup)(hi':X.N[i]? =some y)(hy:Loc X.env.scope y)(S:HK sc scope NX N fr)(e1:X.env.scope=sc)(e2:X.N=NX)(hc:X.calm=true)(hi:PI X tg iter wi)
  (hg:∀pins fp s H,PG (vc X pins N scope (zf scope X.env) fp s H) tg g) (ht:∀pins fp s H,RD (vc X pins N scope (zf scope X.env) fp s H) ifs tt) (he:∀pins fp s H,PE (vc X pins N scope (zf scope X.env) fp s H) elt te)
  (hsw:swapsWith (.ListComp elt [⟨tg,iter,ifs,0⟩] scope pos) (some (.Name y py)) Mo.line X.env=pure true:=by rfl) (hs:∀x,foldedSetIterable iter X.env x=pure x:=by intro _;rfl)
  (hf:X.fn y=true\/X.env.scope.names.lookup y=some .local:=by first|exact .inl rfl|exact .inr rfl|assumption):
  PS X (.Assign [.Name y py] (.ListComp elt [⟨tg,iter,ifs,0⟩] scope pos) Mo) (LV (Pz wi fr g tt te) (bL i)):=by
 intro pins s σ H D I h;have B:=S.zh e1 e2 I.ok;rw[exec_Assign_Name_used _ _ _ _ hsw];refine wpAny_bind (wpAny_standAt (wpAny_bind ?_));show wpAny _ X.A (do let _<-comprehension (.ListComp elt [⟨tg,iter,ifs,0⟩] scope pos) scope X.env _ (newList []) false (eval iter X.env) (some (assign (.Name y py) X.env))) _ _ s;refine wpAny_bind (wpAny_mono (wpAny_comprehension_free (use:=some (assign (.Name y py) X.env)) (Q:=λ_ s'=>SP X pins D .next s') rfl hs B.WG B.kind B.names (b9 (hi pins s σ H _ I h) λv s1 h1=>b9 h1 λitv s2 h2=>?_)) (λ_ s' hq=>wpAny_pure (wpAny_pure hq)) λ_ _ e=>e);obtain⟨it,fp,tn,J,H2,e,I2,T,nV,f2,q⟩:=h2;subst e;refine zk (Q:=λv H'=>bL i v σ H' D.nx) (RR:=λacc C=>compPost 0e8 X.A X.xe (some (assign (.Name y py) X.env)) (λ_ s'=>SP X pins D .next s') acc C) B hc hg ht he I2 T nV f2 q ?_;intro D' C s' H' J' fC ⟨m,hm⟩ qn;obtain⟨f0,f1,_,f3,f4,f5⟩:=fC;show wpAny _ X.A (assign (.Name y py) X.env (.ref D')) _ _ _;refine wpAny_assign_Name (uJ J' hN hi' hy (v:= .ref D') rfl (λWc J'' ⟨a,sb,ha⟩=>?_) hf)
 have hCa:C≠a:=by
  rcases ha with z|z
  ·rw[z];exact f1
  ·exact λw'=>f4 _ _ z w'.symm
 refine⟨m,hm.sameBut sb hCa,λh' yI=>⟨_,H',?_,qn⟩⟩;exact J''.turned (t':=Wc.toks) (λb o hb e=>(yI.2 b hb).trans e) f0 f1 f3 f4 f5
end
def vg{K:Uu}{a D:Py}{xs:KB}{g:TG}{tt:TT}{te:TE}{Q:Hp->Prop}{σ:St}{H:Hp}(Pv:Nat->St->Hp->Prop)(h0:Pv 0 σ H)(hl:∀i σ H,i<=xs.length->Pv i σ H->bh K H a xs)
  (hs:∀i x σ H,xs[i]? =some x->Pv i σ H->∀N:St->Hp->Prop,(∀σ' H',Pv (i+1) σ' H'->N σ' H')->g x σ H fun σ3 H3=>tt σ3 H3 λb H4=>if b=true then te σ3 H4 λy H5=>∃ys,H5 D=some (.lst ys)/\ys.length<sizeLine/\N σ3 (upd H5 D (.lst (ys++[y]))) else N σ3 H4)
  (hd:∀σ H,Pv xs.length σ H->Q H):
  ∃W:Nat->Nat->St->Hp->Prop,(∃m,W 0 m σ H)/\∀i m σ H,W i m σ H->((C2 K a).stop i H/\Q H)\/((C2 K a).go i H/\∀x H2,(C2 K a).pY i H x H2->g x σ H2 fun σ3 H3=>tt σ3 H3 λb H4=>if b=true
   then te σ3 H4 λy H5=>∃ys,H5 D=some (.lst ys)/\ys.length<sizeLine/\∃m',m'<m/\W (i+1) m' σ3 (upd H5 D (.lst (ys++[y])))
   else∃m',m'<m/\W (i+1) m' σ3 H4):=by
 refine⟨λi m σ H=>m+i=xs.length/\Pv i σ H,⟨xs.length,U,h0⟩,?_⟩;rintro i m σ H ⟨hm,hp⟩;have sq:=hl i σ H 0e1 hp;by_cases hi:i<xs.length
 ·refine .inr ⟨⟨xs,xs[i],sq,getElem?_eq_getElem hi⟩,?_⟩;rintro x H2 ⟨rfl,hx⟩;exact hs i x σ H2 (hx xs sq) hp _ fun σ' H' q=>⟨m - 1,by omega,by omega,q⟩
 ·have e:i=xs.length:=by omega
  subst e;exact .inl ⟨⟨xs,sq,le_refl _⟩,hd σ H hp⟩
def mL{X:Cx}{es:IN}{k:Nat}{pos:Pos}{t:Ly}(K:Uu)(n:Nat)(hK:X.K=K)(hc:X.calm=true)(h:U4 X es t)(hn:(assignEach es X.env).length=n:=by rfl)(iu:(assignEach es X.env).findIdx? 1e4=none:=by rfl):PG X (.Tuple es k pos) (VU K n t):=by
 subst hK;exact eX hc h hn iu
def oj{a D:Py}{o:Obj}{kvs:PP}{g:TG}{tt:TT}{te:TE}{Q:Hp->Prop}{σ:St}{H:Hp}(Pv:Nat->St->Hp->Prop)(h0:Pv 0 σ H)(hl:∀i σ H,Pv i σ H->H a=some (.eI o 2e2))
  (hs:∀i k v σ H,kvs[i]? =some (k,v)->Pv i σ H->∀N:St->Hp->Prop,(∀σ' H',Pv (i+1) σ' H'->N σ' H')->g (kV k) σ H fun σ3 H3=>tt σ3 H3 λb H4=>if b=true then te σ3 H4 λy H5=>∃ys,H5 D=some (.lst ys)/\ys.length<sizeLine/\N σ3 (upd H5 D (.lst (ys++[y]))) else N σ3 H4)
  (hd:∀σ H,Pv kvs.length σ H->Q H):
  ∃W:Nat->Nat->St->Hp->Prop,(∃m,W 0 m σ H)/\∀i m σ H,W i m σ H->((Mf a o kvs).stop i H/\Q H)\/((Mf a o kvs).go i H/\∀x H2,(Mf a o kvs).pY i H x H2->g x σ H2 fun σ3 H3=>tt σ3 H3 λb H4=>if b=true
   then te σ3 H4 λy H5=>∃ys,H5 D=some (.lst ys)/\ys.length<sizeLine/\∃m',m'<m/\W (i+1) m' σ3 (upd H5 D (.lst (ys++[y])))
   else∃m',m'<m/\W (i+1) m' σ3 H4):=by
 refine⟨λi m σ H=>m+i=kvs.length/\Pv i σ H,⟨kvs.length,U,h0⟩,?_⟩;rintro i m σ H ⟨hm,hp⟩;have hz:=hl i σ H hp;by_cases hi:i<kvs.length
 ·refine .inr ⟨⟨hz,hi⟩,?_⟩;rintro x H2 ⟨rfl,k,v,pO,rfl⟩;exact hs i k v σ H2 pO hp _ fun σ' H' q=>⟨m - 1,by omega,by omega,q⟩
 ·have e:i=kvs.length:=by omega
  subst e;exact .inl ⟨⟨hz,le_refl _⟩,hd σ H hp⟩
section
variable {X:Cx}
def tOr2(t u:TE):TE:=fun σ H Q=>t σ H Q\/u σ H Q
def HN{e:Expr}{t u:TE}(h:PE X e t)(h':PE X e u):PE X e (tOr2 t u):=λpins s σ H Q I q=>
 q.elim (λz=>h pins s σ H Q I z) λz=>h' pins s σ H Q I z
inductive Fh(K:1e8)(xs:List V)(H:Hp)(Q:VK):Prop
 |mk (p:_) (ns:List Int) (bM:xs=[.ref p]) (bV:bh K H p (ns.map V.int)) (b8:Q (.int ns.sum) H)
def rn(hc:X.calm=true):gc X (.builtin "sum") (Fh X.K):=by
 intro pins s σ H xs us Q I r h;obtain⟨p,ns,rfl,hS,q⟩:=h;obtain⟨u,rfl,ru⟩:=vals1 r;cases ru;obtain⟨its,rv,pl,hz⟩:=I.list hS;have hi:IntsAre its ns:=intsAre_of rv;obtain⟨ys,hy⟩:=hi.allInts.items;have hl:s.heap.IsList p (intItems ys):=hy▸pl.isList;refine sum_intListG (I.ok.hd hc) hl λh' tk t' hk=>?_
 have e1:ns=ys.toList.map 1e4:=by
  rw[<-nums_intItems,<-hy];exact(show numsOf its.toArray.toList=ns from hi.numsOf).symm
 have e2:preSum (numAt ys) ys.size=ns.sum:=by rw[preSum_eq,take_of_length_le 2e0,e1]
 exact⟨.int ns.sum,H,I.kept hk,⟨_,by rw[e2]⟩,q⟩
theorem rp:∀{xs:On} {us:UV},Vals (xs.map V.str) us->StrsAre us xs
 | [],_, .nil=> .nil
 |x::r,_, .cons h t=>by
  obtain⟨tk,e⟩:=(show∃t,_=Value.str x t from h);subst e;exact .cons x tk (rp t)
def rJoin(K:Uu):V->List V->Hp->VK->Prop:=λx vs H Q=>∃z l,∃ys:List Str,x= .str z/\vs=[.ref l]/\bh K H l (ys.map V.str)/\(ys.map (·.length)).sum+ys.length*z.length<=16777216/\Q (.str (Txt.join z ys)) H
def mM:MtR X "str.join" (rJoin X.K):=by
 intro pins s σ H x vs v us Q I rx rv h;obtain⟨z,l,ys,rfl,rfl,hS,hz,q⟩:=h;obtain⟨t,e⟩:=(show∃t,v=Value.str z t from rx);subst e;obtain⟨u,rfl,ru⟩:=rv.one;cases ru;obtain⟨its,r,p,_⟩:=I.list hS;exact join_list p.isList (by simpa using rp r) hz λt' k=>⟨.str (Txt.join z ys),H,I.tok k,⟨t',rfl⟩,q⟩
mutual
inductive GS(K:1e8)(H:Hp):V->PyData->Prop where
 |cF:GS K H .cF .none
 |bl (b:Bool):GS K H (.bl b) (.bool b)
 |int (i:Int):GS K H (.int i) (.int i)
 |str (x:Str):GS K H (.str x) (.str x)
 |lst {a:Addr} {xs:List V} {ds:List PyData} (h:bh K H a xs) (t:Bu K H xs ds):GS K H (.ref a) (.list ds)
 |tup {a:Addr} {xs:List V} {ds:List PyData} (h:gE K H a xs) (t:Bu K H xs ds):GS K H (.ref a) (.tuple ds)
inductive Bu(K:1e8)(H:Hp):List V->List PyData->Prop where
 |nil:Bu K H [] []
 |cons {x:V} {d:PyData} {xs:List V} {ds:List PyData} (h:GS K H x d) (t:Bu K H xs ds):Bu K H (x::xs) (d::ds)
end
mutual
theorem j9{pins:WP}{σ:St}{H:Hp}{s:Os}(I:0e5){x:V}{d:PyData}(h:GS X.K H x d){u:Ps}(r:RelV x u):∃as,Reads s.heap u d as:=by
 cases h with
 |cF=>cases (show u=Value.none from r);exact⟨_, .none⟩
 |bl b=>cases (show u=Value.bool b from r);exact⟨_, .bool b⟩
 |int i=>obtain⟨t,rfl⟩:=(show∃t,u=Value.int i t from r);exact⟨_, .int i t⟩
 |str y=>obtain⟨t,rfl⟩:=(show∃t,u=Value.str y t from r);exact⟨_, .str y t⟩
 | @lst a xs ds hS t=>
   cases (show u=Value.ref a from r);obtain⟨its,rv,p,_⟩:=I.list hS;obtain⟨o,ho,hc,n,hd⟩:=p.isList;obtain⟨as,ra⟩:=j' I t rv;exact⟨_, .list ho hc hd (by simpa using ra)⟩
 | @tup a xs ds hS t=>
   cases (show u=Value.ref a from r);obtain⟨its,rv,p,_⟩:=I.tuple hS;obtain⟨o,ho,hc,n,hd⟩:=p;obtain⟨as,ra⟩:=j' I t rv;exact⟨_, .tuple ho hc hd (by simpa using ra)⟩
theorem j'{pins:WP}{σ:St}{H:Hp}{s:Os}(I:0e5){xs:KB}{ds:List PyData}(h:Bu X.K H xs ds){us:UV}(r:Vals xs us):∃as,ReadsAll s.heap us ds as:=by
 cases h with
 |nil=>cases r;exact⟨_, .nil⟩
 |cons h t=>
  cases r with
  |cons r1 r2=>
   obtain⟨as,ra⟩:=j9 I h r1;obtain⟨bs,rb⟩:=j' I t r2;exact⟨_, .cons ra rb⟩
end
inductive WM(neg:Bool)(K:1e8)(x:V)(y:V)(H:Hp)(Q:VK):Prop
 |mk (d e:_) (bM:GS K H x d) (bV:GS K H y e) (b8:SeqAt.shaped d=true) (cS:SeqAt.shaped e=true) (eK:Q (.bl (neg^^PyData.eqv d e)) H)
def WN(neg:Bool)(K:Uu):R2:=WM neg K
def HP(hu:X.A.units+64<cLine):mC X (compareOp .Eq) (WN false X.K):=by
 intro pins s σ H x y v u Q I rx ry h;obtain⟨d,e,hd,he,sd,se,q⟩:=h;obtain⟨as,ra⟩:=j9 I hd rx;obtain⟨bs,rb⟩:=j9 I he ry;exact SeqAt.compareEq_shaped ra rb sd se hu ⟨.bl (PyData.eqv d e),H,I,rfl,by simpa using q⟩
def HQ(hu:X.A.units+64<cLine):mC X (compareOp .NotEq) (WN true X.K):=by
 intro pins s σ H x y v u Q I rx ry h;obtain⟨d,e,hd,he,sd,se,q⟩:=h;obtain⟨as,ra⟩:=j9 I hd rx;obtain⟨bs,rb⟩:=j9 I he ry;exact SeqAt.compareNe_shaped ra rb sd se hu ⟨.bl (!PyData.eqv d e),H,I,rfl,by simpa using q⟩
end
def PD(n:Nat)(i:Int):Prop:=i.natAbs<2^n
def PD.bits{n:Nat}{i:Int}(h:PD n i):Builtin.Int.intBits i<=n:=by
 unfold Builtin.Int.intBits;by_cases e:i=0
 ·rw[if_pos (by simp [e])];exact zero_le _
 ·rw[if_neg (by simp [e])];have h0:i.natAbs≠0:=by omega
  have:=(log2_lt h0).mpr h;omega
def Dh(i j:Int):Prop:=Hm i j\/∃m n,PD m i/\PD n j/\m+n<=134217728
theorem Dh.ok{i j:Int}(h:Dh i j):IntMulOk i j:=by
 rcases h with h| ⟨m,n,h1,h2,h3⟩
 ·exact h.ok
 ·have a:=h1.bits;have b:=h2.bits
  have hc:Builtin.Int.intTooBig (Builtin.Int.intBits i+Builtin.Int.intBits j)=false:=by
   unfold Builtin.Int.intTooBig bitsLine;exact decide_eq_false 0e1
  unfold IntMulOk;rw[hc];simp
section
variable {X:Cx}
def Di:mC X (binaryOp .Mult) (rI Dh λi j=> .int (i*j)):=U6 λ_ _ _ _ _ _ _ hc q=>mul_int q hc.ok
end
def mN{tt:TT}{A B r:TS}{D:Ends}{σ:St}{H:Hp}(Pm:St->Hp->Prop)(h:∀N:St->Hp->Prop,(∀σ' H',Pm σ' H'->N σ' H')->Q4 tt A B { D with nx:=N } σ H)(hr:∀σ' H',Pm σ' H'->r D σ' H'):Hk (Q4 tt A B) r D σ H:=h _ hr
section
variable {X:Cx}{pins:WP}{σ:St}{H:Hp}{s:Os}{h':Heap}
def Inv.wQ{t':Nat}{ch:Ix}{T:Py}{o:HO}(I:0e5)(k:∀b u,b∉ch->s.heap.get? b=some u->h'.get? b=some u)(hf:∀b∈ch,lQ X pins H b)
  (hT:s.heap.objs.size<=T) (new:cu X.prog X.w (upd H T o) h' T o):Inv X pins σ (upd H T o) { s with heap:=h',toks:=t' }:=by
 have hn:=I.aX.fresh hT;have CY:∀b u,H b=some u->b∉ch:=λb u e z=>by rw[(hf b z).1] at e;cases e
 refine I.step (g':=s.gens) (d':=s.drawn) (ch:=ch) (λb hb=>⟨(hf b hb).2.2.2.1,(hf b hb).2.1,(hf b hb).2.2.2.2.1,(hf b hb).2.2.2.2.2⟩)
  (λb u _ _ hc e _=>k b u hc e) (λb u _ _ hc e _=>⟨u.slots,k b u hc e⟩) (λb u _ e n=>?_) (λb u hc e=>⟨u,k b u hc e⟩)
  (λb xs e=>by rw[ah (af e hn)];exact e) (λb u v e=>by rw[ah (af e hn)];exact e) (λb ps e=>⟨#[],by rw[ah (af e hn),e];simp⟩) (λm hm=>?_) (λb u e=>?_) I.bare
 ·rw[ah (ne_of_lt (lt_of_lt_of_le (Heap.lt_size e) hT))];exact n
 ·obtain⟨u,es,ep,ho,r⟩:=hm;exact⟨u,es,ep,k _ u (λz=>(hf _ z).2.1 rfl) ho,r⟩
 ·by_cases hb:b=T
  ·subst hb;rw[ag] at e;cases e;exact new
  ·rw[ah hb] at e;refine(I.aX b u e).qI (λc v hc q=>k c v ?_ q) (λc q=>by rw[ah (af q hn)];exact q) λc xs q=>by rw[ah (af q hn)];exact q
   rcases hc with z|z
   ·rw[z];exact CY b u e
   ·exact CY c _ z
def Inv.wR{t':Nat}{ch:Ix}(I:0e5)(k:∀b u,b∉ch->s.heap.get? b=some u->h'.get? b=some u)(hf:∀b∈ch,lQ X pins H b):Inv X pins σ H { s with heap:=h',toks:=t' }:=by
 have CY:∀b u,H b=some u->b∉ch:=λb u e z=>by rw[(hf b z).1] at e;cases e
 refine I.step (g':=s.gens) (d':=s.drawn) (ch:=ch) (λb hb=>⟨(hf b hb).2.2.2.1,(hf b hb).2.1,(hf b hb).2.2.2.2.1,(hf b hb).2.2.2.2.2⟩)
  (λb u _ _ hc e _=>k b u hc e) (λb u _ _ hc e _=>⟨u.slots,k b u hc e⟩) (λb u _ e n=>n) (λb u hc e=>⟨u,k b u hc e⟩)
  (λb xs e=>e) (λb u v e=>e) (λb ps e=>⟨#[],by rw[e];simp⟩) (λm hm=>?_) (λb u e=>?_) I.bare
 ·obtain⟨u,es,ep,ho,r⟩:=hm;exact⟨u,es,ep,k _ u (λz=>(hf _ z).2.1 rfl) ho,r⟩
 ·refine(I.aX b u e).qI (λc v hc q=>k c v ?_ q) (λ_ q=>q) λ_ _ q=>q;rcases hc with z|z
  ·rw[z];exact CY b u e
  ·exact CY c _ z
end
def WO(K:Uu)(a b:Py):It:=
 ⟨λi H=>∃xs ys x y,bh K H a xs/\bh K H b ys/\xs[i]? =some x/\ys[i]? =some y,
  λi H v H'=>∃p x y,H p=none/\H'=upd H p (.tup [x,y])/\v= .ref p/\(∀xs,bh K H a xs->xs[i]? =some x)/\∀ys,bh K H b ys->ys[i]? =some y,
  λi H=>∃xs ys,bh K H a xs/\bh K H b ys/\(xs.length<=i\/ys.length<=i)⟩
def kg{h:Heap}{a b:Py}{o u:Obj}(e:h.get? a=some o)(e':h.get? b=some u)(n:o.cls≠u.cls):a≠b:=λz=>by
 subst z;rw[e] at e';cases e';exact n rfl
def neN{m n:Nat}(h:m<n\/n<m):(m:Py)≠n:=λz=>by
 have:m=n:=z;omega
structure WQ(z TI TO i1 i2:Addr):Prop where
 TIz:TI≠z
 TOz:TO≠z
 i1z:i1≠z
 i2z:i2≠z
 TITO:TI≠TO
 TIi1:TI≠i1
 TIi2:TI≠i2
 TOi1:TO≠i1
 TOi2:TO≠i2
 i12:i1≠i2
def zt{h:Heap}{z TI TO i1 i2 l1 l2:Py}{f0 a b:Ps}{k1 k2:Nat}{xs ys:Array Value}(F:WQ z TI TO i1 i2)(hz:IsZip h z TI TO f0)(Fi:IsPair h TO a b)(h1:h.IsListIter i1 l1 k1)(h2:h.IsListIter i2 l2 k2)
  (e1:h.IsList l1 xs) (e2:h.IsList l2 ys):ZipApart z TI TO i1 i2 l1 l2:=by
 obtain⟨o1,q1,c1,_⟩:=e1;obtain⟨o2,q2,c2,_⟩:=e2;obtain⟨u1,r1,d1,_⟩:=h1;obtain⟨u2,r2,d2,_⟩:=h2;have d:∀{n m:String},n≠m->Value.type n≠Value.type m:=λh q=>by cases q;exact h rfl
 exact⟨F.TIz,F.TOz,F.i1z,F.i2z,F.TITO,F.TIi1,F.TIi2,F.TOi1,F.TOi2,F.i12,
  kg q1 hz (by rw[c1];exact d 0e2),kg q1 Fi (by rw[c1];exact d 0e2),kg q1 r1 (by rw[c1,d1];exact d 0e2),kg q1 r2 (by rw[c1,d2];exact d 0e2),
  kg q2 hz (by rw[c2];exact d 0e2),kg q2 Fi (by rw[c2];exact d 0e2),kg q2 r1 (by rw[c2,d1];exact d 0e2),kg q2 r2 (by rw[c2,d2];exact d 0e2)⟩
def HR{P:Op}{w:World}{K:Uu}{elts:IN}{x1}{mE:Pos}(l1 l2 z TI TO i1 i2:Py)(F:WQ z TI TO i1 i2):
  Turn P w K (.Tuple elts x1 mE) (WO K l1 l2) [z,TI,TO,i1,i2] z (λi h=>IsZip h z TI TO .none/\IsPair h TI (.ref i1) (.ref i2)/\(∃a b,IsPair h TO a b)/\h.IsListIter i1 l1 i/\h.IsListIter i2 l2 i) where
 mem:=by simp
 obj:=λi h st b hb=>by
  obtain⟨hz,Mp,⟨a,c,Fi⟩,⟨o1,e1,c1,d1⟩,⟨o2,e2,c2,d2⟩⟩:=st;simp only [mem_cons,not_mem_nil,or_false] at hb;rcases hb with e|e|e|e|e
  ·subst e;exact⟨_,hz,λv q=>by cases q⟩
  ·subst e;exact⟨_,Mp,λv q=>by cases q⟩
  ·subst e;exact⟨_,Fi,λv q=>by cases q⟩
  ·subst e;exact⟨o1,e1,λv q=>by rw[d1] at q;cases q⟩
  ·subst e;exact⟨o2,e2,λv q=>by rw[d2] at q;cases q⟩
 keep:=λi h h' st k=>by
  obtain⟨hz,Mp,⟨a,c,Fi⟩,h1,h2⟩:=st;exact⟨k z 2e0 _ hz,k TI 2e0 _ Mp,⟨a,c,k TO 2e0 _ Fi⟩,h1.at λo e=>k i1 2e0 o e,h2.at λo e=>k i2 2e0 o e⟩
 item:=by
  intro X hP hw hK hc i pins s σ H E I hf st hg;subst hP hw hK;obtain⟨xs,ys,x,y,U9,PJ,hx,hy⟩:=hg;obtain⟨hz,Mp,⟨a,c,Fi⟩,h1,h2⟩:=st;obtain⟨its,rv,p,RK⟩:=I.list U9;obtain⟨jts,AX,p',PK⟩:=I.list PJ;obtain⟨u,hu,ru⟩:=rv.get hx;obtain⟨v,hv,rv'⟩:=AX.get hy;have D:=zt F hz Fi h1 h2 p.isList p'.isList;refine wpAny_pyNext_zip_item D hz Mp Fi h1 h2 p.isList p'.isList (x:=u) (y:=v) (by simpa using hu) (by simpa using hv) λh' a1 a2 a3 a4 a5 a6 hk=>⟨_,rfl,?_⟩;refine wpAny_letOwnedTupleGo_zip (s:={ s with heap:=h' }) a1 λMq b1 b2=>?_;have up:∀e o,e≠z->h'.get? e=some o->Mq.get? e=some o:=λe o n q=>b2.extBut _ _ n q;have ne:∀{e:Py} {o},s.heap.get? e=some o->s.heap.objs.size≠e:=λq=>ne_of_gt (Heap.lt_size q);have gy:IsPair Mq s.heap.objs.size u v:=up _ _ (ne hz) a5
  have I1:Inv X pins σ (upd H s.heap.objs.size (.tup [x,y])) { s with heap:=Mq,toks:=s.toks }:=by
   refine I.wQ (ch:=[z,TI,TO,i1,i2]) (λb o hb e=>?_) hf (le_refl _) ⟨by show 2<=sizeLine;decide,[u,v], .cons ru (.cons rv' .nil),⟨_,gy,rfl,_,rfl⟩⟩;simp only [mem_cons,not_mem_nil,or_false,not_or] at hb;exact up _ _ hb.1 (hk b o hb.1 hb.2.2.1 hb.2.2.2.1 hb.2.2.2.2 e)
  refine⟨.ref s.heap.objs.size,_,I1,U,⟨_,x,y,I.aX.fresh (le_refl _),U,U,λzs hz=>by rw[I.mB hz U9];exact hx,λzs hz=>by rw[I.mB hz PJ];exact hy⟩,?_,λb hb=>?_⟩
  ·exact⟨b1,up _ _ F.TIz (hk _ _ F.TIz F.TITO F.TIi1 F.TIi2 Mp),⟨_,_,up _ _ F.TOz a2⟩,a3.at λo e=>up _ _ F.i1z e,a4.at λo e=>up _ _ F.i2z e⟩
  ·have zu:=hb;rw[ah ?_]
   ·exact(hf b hb).1
   ·simp only [mem_cons,not_mem_nil,or_false] at hb;obtain⟨o1,e1,_⟩:=h1;obtain⟨o2,e2,_⟩:=h2;rcases hb with e|e|e|e|e
    ·rw[e];exact Ne.symm (ne hz)
    ·rw[e];exact Ne.symm (ne Mp)
    ·rw[e];exact Ne.symm (ne Fi)
    ·rw[e];exact Ne.symm (ne e1)
    ·rw[e];exact Ne.symm (ne e2)
 done:=by
  intro X hP hw hK hc i pins s σ H E I hf st hg;subst hP hw hK;obtain⟨xs,ys,U9,PJ,hl⟩:=hg;obtain⟨hz,Mp,⟨a,c,Fi⟩,h1,h2⟩:=st;obtain⟨its,rv,p,RK⟩:=I.list U9;obtain⟨jts,AX,p',PK⟩:=I.list PJ;have D:=zt F hz Fi h1 h2 p.isList p'.isList;have l1:=rv.length;have l2:=AX.length;refine wpAny_pyNext_zip_end (I.ok.hd hc) D hz Mp Fi h1 h2 p.isList p'.isList ?_ λh' hk=>⟨rfl,I.wR (t':=s.toks) (ch:=[z,TI,TO,i1,i2]) (λb o hb e=>?_) hf⟩
  ·rcases hl with hl|hl
   ·exact .inl (by simp;omega)
   ·exact .inr (by simp;omega)
  ·simp only [mem_cons,not_mem_nil,or_false,not_or] at hb;exact hk b o hb.1 hb.2.2.1 hb.2.2.2.1 hb.2.2.2.2 e
 self:=λ_ _ _ _ _ st h=>wpAny_pyIter_zip st.1 h
def RL:bootBuiltins "zip" =some (.type "zip"):=by decide+kernel
def wU:bootBuiltins "enumerate" =some (.type "enumerate"):=by decide+kernel
def HS:bootBuiltins "abs" =some (.builtin "abs"):=by decide+kernel
inductive WR(K:1e8)(R:It->Hp->Prop)(vs:List V)(H1:Hp):Prop
 |mk (a b:_) (bM:vs=[.ref a, .ref b]) (bV:(∃xs,bh K H1 a xs)) (b8:(∃ys,bh K H1 b ys)) (cS:R (WO K a b) H1)
def iZip(K:Uu)(ta:TA):TI:=fun σ H R=>ta σ H (WR K R)
def RM{X:Cx}{elts:IN}{x1}{mE:Pos}{a b:Expr}{ta:TA}{p pos:Pos}(hg:Gl X "zip")(hm:X.mg "zip" =none)(ha:PA X [a,b] ta)(hs:starEach [a,b] X.env=[(false,eval a X.env),(false,eval b X.env)]:=by rfl)
  (V4:starEach [b] X.env=[(false,eval b X.env)]:=by rfl):PI X (.Tuple elts x1 mE) (.Call (.Name "zip" p) [a,b] [] pos) (iZip X.K ta):=by
 intro pins s σ H R I h;refine Call_ (lW I hg hm RL (PyProof.Rows.callWith_type1 (b9 (ha pos pins s σ H _ I h) λus s1 ⟨vs,H1,I1,r1,q1⟩=>?_) (by rw[hs,V4]) (by rw[V4];rfl)));obtain⟨l1,l2,e,⟨xs,U9⟩,⟨ys,PJ⟩,q⟩:=q1;subst e;obtain⟨u,v,rfl,r,r'⟩:=vals2 r1;cases r;cases r';obtain⟨its,rv,pl,RK⟩:=I1.list U9;obtain⟨jts,AX,pl',PK⟩:=I1.list PJ;refine call_zip_2 pl.isList pl'.isList λh' a1 a2 a3 a4 a5 a6 hk=>wpAny_pyIter_zip (s:={ s1 with heap:=h' }) a1 ?_
 refine⟨_,[s1.heap.objs.size+4,s1.heap.objs.size+2,s1.heap.objs.size+3,s1.heap.objs.size,s1.heap.objs.size+1],_,_,H1,U,I1.kept (t':=s1.toks) hk,
  HR l1 l2 (s1.heap.objs.size+4) (s1.heap.objs.size+2) (s1.heap.objs.size+3) s1.heap.objs.size (s1.heap.objs.size+1) ⟨neN 0e1,neN 0e1,neN 0e1,neN 0e1,neN 0e1,neN 0e1,neN 0e1,neN 0e1,neN 0e1,neN 0e1⟩,⟨a1,a2,⟨_,_,a3⟩,a4,a5⟩,λb hb=>?_,q⟩
 have zu:s1.heap.objs.size<=b:=by
  simp only [mem_cons,not_mem_nil,or_false] at hb;rcases hb with e|e|e|e|e<;>rw[e]<;>first|exact le_refl _|exact Nat.le_add_right _ _
 exact I1.wD zu (I1.aX.fresh zu)
def WS(K:Uu)(a:Py):It:=
 ⟨λi H=>∃xs x,bh K H a xs/\xs[i]? =some x,
  λi H v H'=>∃p x,H p=none/\H'=upd H p (.tup [.int i,x])/\v= .ref p/\∀xs,bh K H a xs->xs[i]? =some x,
  λi H=>∃xs,bh K H a xs/\xs.length<=i⟩
def Fj{P:Op}{w:World}{K:Uu}{elts:IN}{x1}{mE:Pos}(l e it:Py)(hei:e≠it):
  Turn P w K (.Tuple elts x1 mE) (WS K l) [e,it] e (λi h=>(∃old,IsEnum h e it (i:Nat) old)/\h.IsListIter it l i) where
 mem:=by simp
 obj:=λi h st b hb=>by
  obtain⟨⟨old,he⟩,⟨o1,e1,c1,d1⟩⟩:=st;simp only [mem_cons,not_mem_nil,or_false] at hb;rcases hb with q|q
  ·subst q;exact⟨_,he,λv q=>by cases q⟩
  ·subst q;exact⟨o1,e1,λv q=>by rw[d1] at q;cases q⟩
 keep:=λi h h' st k=>by
  obtain⟨⟨old,he⟩,h1⟩:=st;exact⟨⟨old,k e 2e0 _ he⟩,h1.at λo q=>k it 2e0 o q⟩
 item:=by
  intro X hP hw hK hc i pins s σ H E I hf st hg;subst hP hw hK;obtain⟨xs,x,hq,hx⟩:=hg;obtain⟨⟨old,he⟩,h1⟩:=st;obtain⟨its,rv,p,RK⟩:=I.list hq;obtain⟨u,hu,ru⟩:=rv.get hx;refine wpAny_pyNext_enum_item he h1 p.isList (x:=u) (by simpa using hu) hei λh' a1 a2 a3 a4 hk=>⟨_,rfl,?_⟩;refine wpAny_letOwnedTupleGo_enum (s:={ s with heap:=h',toks:=s.toks+1 }) a1 λMq b1 b2=>?_;have up:∀c o,c≠e->h'.get? c=some o->Mq.get? c=some o:=λc o n q=>b2.extBut _ _ n q;have ne:∀{c:Py} {o},s.heap.get? c=some o->s.heap.objs.size≠c:=λq=>ne_of_gt (Heap.lt_size q);have gy:=up _ _ (ne he) a3
  have I1:Inv X pins σ (upd H s.heap.objs.size (.tup [.int i,x])) { s with heap:=Mq,toks:=s.toks+1 }:=by
   refine I.wQ (ch:=[e,it]) (λb o hb q=>?_) hf (le_refl _) ⟨by show 2<=sizeLine;decide,[.int i s.toks,u], .cons ⟨_,rfl⟩ (.cons ru .nil),⟨_,gy,rfl,_,rfl⟩⟩;simp only [mem_cons,not_mem_nil,or_false,not_or] at hb;exact up _ _ hb.1 (hk b o hb.1 hb.2 q)
  refine⟨.ref s.heap.objs.size,_,I1,U,⟨_,x,I.aX.fresh (le_refl _),U,U,λzs hz=>by rw[I.mB hz hq];exact hx⟩,⟨⟨u,?_⟩,a2.at λo q=>up _ _ (Ne.symm hei) q⟩,λb hb=>?_⟩
  ·have e1:((i+1 :Nat):Int)=(i:Int)+1:=by push_cast;rfl
   rw[e1];exact b1
  ·rw[ah ?_]
   ·exact(hf b hb).1
   ·simp only [mem_cons,not_mem_nil,or_false] at hb;obtain⟨o1,e1,_⟩:=h1;rcases hb with q|q
    ·rw[q];exact Ne.symm (ne he)
    ·rw[q];exact Ne.symm (ne e1)
 done:=by
  intro X hP hw hK hc i pins s σ H E I hf st hg;subst hP hw hK;obtain⟨xs,hq,hl⟩:=hg;obtain⟨⟨old,he⟩,h1⟩:=st;obtain⟨its,rv,p,RK⟩:=I.list hq;have l1:=rv.length;refine wpAny_pyNext_enum_end (I.ok.hd hc) he h1 p.isList (by simp;omega) λh' hk=>⟨rfl,I.wR (t':=s.toks) (ch:=[e,it]) (λb o hb q=>?_) hf⟩;simp only [mem_cons,not_mem_nil,or_false,not_or] at hb;exact hk b o hb.2 q
 self:=λ_ _ _ _ _ st h=>by
  obtain⟨⟨old,he⟩,_⟩:=st;exact wpAny_pyIter_enum he h
def WT(K:Uu)(ta:TA):TI:=fun σ H R=>ta σ H λvs H1=>∃a,vs=[.ref a]/\(∃xs,bh K H1 a xs)/\R (WS K a) H1
def Mr{X:Cx}{elts:IN}{x1}{mE:Pos}{a:Expr}{ta:TA}{p pos:Pos}(hg:Gl X "enumerate")(hm:X.mg "enumerate" =none)(ha:PA X [a] ta)(hs:starEach [a] X.env=[(false,eval a X.env)]:=by rfl):
  PI X (.Tuple elts x1 mE) (.Call (.Name "enumerate" p) [a] [] pos) (WT X.K ta):=by
 intro pins s σ H R I h;refine Call_ (lW I hg hm wU (PyProof.Rows.callWith_type1 (b9 (ha pos pins s σ H _ I h) λus s1 ⟨vs,H1,I1,r1,q1⟩=>?_) hs rfl));obtain⟨l,e,⟨xs,hq⟩,q⟩:=q1;subst e;obtain⟨u,rfl,r⟩:=vals1 r1;cases r;obtain⟨its,rv,pl,RK⟩:=I1.list hq;refine call_enumerate_list pl.isList λh' a1 a2 a3 hk=>wpAny_pyIter_enum (s:={ s1 with heap:=h' }) a1 ?_;refine⟨_,[s1.heap.objs.size+1,s1.heap.objs.size],_,_,H1,U,I1.kept (t':=s1.toks) hk,Fj l (s1.heap.objs.size+1) s1.heap.objs.size (neN 0e1),⟨⟨_,a1⟩,a2⟩,λb hb=>?_,q⟩
 have zu:s1.heap.objs.size<=b:=by
  simp only [mem_cons,not_mem_nil,or_false] at hb;rcases hb with e|e<;>rw[e]<;>first|exact le_refl _|exact Nat.le_add_right _ _
 exact I1.wD zu (I1.aX.fresh zu)
def zw(ns:List Int)(lo hi:Option Int):∃ms:List Int,j5 (ns.map V.int) lo hi=ms.map V.int/\ms.length<=ns.length:=by
 have h:∀x∈j5 (ns.map V.int) lo hi,∃i,x=V.int i:=λx hx=>by
  have:x∈ns.map V.int:=mem_of_mem_drop (mem_of_mem_take hx);obtain⟨i,_,e⟩:=mem_map.mp this;exact⟨i,e.symm⟩
 have hl:=o9 (ns.map V.int) lo hi;rw[length_map] at hl;generalize j5 (ns.map V.int) lo hi=l at h hl;refine⟨l.map λv=>match v with| .int i=>i|_=>0,?_,by rw[length_map];exact hl⟩;rw[map_map];clear hl
 induction l with
 |nil=>rfl
 |cons x r ih=>
  obtain⟨i,rfl⟩:=h x 1e0;rw[map_cons,<-ih λy hy=>h y (mem_cons_of_mem _ hy)];rfl
def HU(xs:KB)(k:Nat):j5 xs none (some (k:Int))=xs.take k:=by
 unfold j5;rw[HT.y7,HT.C9,drop_zero,Nat.sub_zero];rcases Nat.le_total k xs.length with h|h
 ·rw[min_eq_left h]
 ·rw[Nat.min_eq_right h,take_length,take_of_length_le h]
def HV(xs:KB)(k:Nat):j5 xs (some (k:Int)) none=xs.drop k:=by
 unfold j5;rw[HT.y7,HT.C9];rcases Nat.le_total k xs.length with h|h
 ·rw[min_eq_left h];exact take_of_length_le (by rw[length_drop];exact le_refl _)
 ·rw[Nat.min_eq_right h,drop_length,List.drop_of_length_le h];exact List.take_nil
section
variable {K:Uu}{g:TG}{tt:TT}{te:TE}{tb:TS}{D:Ends}
def Dj{J:It}{L:Py}{Q:Hp->Prop}{σ:St}{H:Hp}(n:Nat)(H0:Hp)(S:St->Prop)(Pv:Nat->List V->Prop)(RN:∀i H',i<n->au H0 H'->J.go i H')(rq:∀H',au H0 H'->J.stop n H')
  (HW:H0 L=none) (hσ:S σ) (h0:au H0 H) (hL:H L=some (.lst [])) (p0:Pv 0 []) (hz:n<=sizeLine) (hl:∀i ys,Pv i ys->ys.length<=i)
  (turn:∀i σ H' ys,i<n->S σ->au H0 H'->H' L=some (.lst ys)->Pv i ys->∀(N:St->V->Hp->Prop) (M:St->Hp->Prop),(∀σ3 y H5,S σ3->au H0 H5->H5 L=some (.lst ys)->Pv (i+1) (ys++[y])->N σ3 y H5)->
   ∀x H2,J.pY i H' x H2->g x σ H2 fun σ3 H3=>tt σ3 H3 λb H4=>if b=true then te σ3 H4 λy H5=>N σ3 y H5 else M σ3 H4)
  (fin:∀H' ys,au H0 H'->H' L=some (.lst ys)->Pv n ys->Q H'):
  ∃W:Nat->Nat->St->Hp->Prop,(∃m,W 0 m σ H)/\∀i m σ H,W i m σ H->(J.stop i H/\Q H)\/(J.go i H/\∀x H2,J.pY i H x H2->g x σ H2 fun σ3 H3=>tt σ3 H3 λb H4=>if b=true
   then te σ3 H4 λy H5=>∃ys,H5 L=some (.lst ys)/\ys.length<sizeLine/\∃m',m'<m/\W (i+1) m' σ3 (upd H5 L (.lst (ys++[y])))
   else∃m',m'<m/\W (i+1) m' σ3 H4):=by
 refine⟨λi m σ H=>m+i=n/\S σ/\au H0 H/\∃ys,H L=some (.lst ys)/\Pv i ys,⟨n,U,hσ,h0,[],hL,p0⟩,?_⟩;rintro i m σ H ⟨hm,hs,fg,ys,Fl,hp⟩;by_cases hi:i<n
 ·refine .inr ⟨RN i H hi fg,λx H2 hy=>turn i σ H ys hi hs fg Fl hp _ _ (fun σ3 y H5 k1 k2 k3 k4=>?_) x H2 hy⟩;refine⟨ys,k3,by have:=hl i ys hp;omega,m - 1,by omega,by omega,k1,λb o e=>?_,ys++[y],ag,k4⟩;rw[ah (af e HW)];exact k2 b o e
 ·have e:i=n:=by omega
  subst e;exact .inl ⟨rq H fg,fin H ys fg Fl hp⟩
def Ms{a c:Py}{xs zs:KB}{σ:St}{H:Hp}(Pv:Nat->St->Hp->Prop)(h0:Pv 0 σ H)(hl:∀i σ H,Pv i σ H->bh K H a xs/\bh K H c zs)
  (hs:∀i x z p σ H,xs[i]? =some x->zs[i]? =some z->H p=none->Pv i σ H->g (.ref p) σ (upd H p (.tup [x,z])) fun σ2 H2=>tb { D with nx:=Pv (i+1),ct:=Pv (i+1),bk:=D.nx } σ2 H2) (hd:∀σ H,Pv (min xs.length zs.length) σ H->D.nx σ H):
  ∃W:Nat->Nat->St->Hp->Prop,(∃m,W 0 m σ H)/\∀i m σ H,W i m σ H->
   ((WO K a c).stop i H/\D.nx σ H)\/((WO K a c).go i H/\∃N:St->Hp->Prop,(∀σ' H',N σ' H'->∃m',m'<m/\W (i+1) m' σ' H')/\∀x H',(WO K a c).pY i H x H'->g x σ H' fun σ2 H2=>tb { D with nx:=N,ct:=N,bk:=D.nx } σ2 H2):=by
 refine⟨λi m σ H=>m+i=min xs.length zs.length/\Pv i σ H,⟨min xs.length zs.length,U,h0⟩,?_⟩;rintro i m σ H ⟨hm,p⟩;obtain⟨q1,q2⟩:=hl i σ H p;by_cases lT:i<min xs.length zs.length
 ·refine .inr ⟨⟨xs,zs,xs[i]' 0e1,zs[i]' 0e1,q1,q2,getElem?_eq_getElem _,getElem?_eq_getElem _⟩,Pv (i+1),fun σ' H' p'=>⟨m - 1,by omega,by omega,p'⟩,λv H' hy=>?_⟩;obtain⟨t,x,z,ht,rfl,rfl,hx,hz⟩:=hy;exact hs i x z t σ H (hx xs q1) (hz zs q2) ht p
 ·have e:i=min xs.length zs.length:=by omega
  subst e;exact .inl ⟨⟨xs,zs,q1,q2,by omega⟩,hd σ H p⟩
def HX{a:Py}{xs:KB}{σ:St}{H:Hp}(Pv:Nat->St->Hp->Prop)(h0:Pv 0 σ H)(hl:∀i σ H,Pv i σ H->bh K H a xs)
  (hs:∀i x p σ H,xs[i]? =some x->H p=none->Pv i σ H->g (.ref p) σ (upd H p (.tup [.int i,x])) fun σ2 H2=>tb { D with nx:=Pv (i+1),ct:=Pv (i+1),bk:=D.nx } σ2 H2) (hd:∀σ H,Pv xs.length σ H->D.nx σ H):
  ∃W:Nat->Nat->St->Hp->Prop,(∃m,W 0 m σ H)/\∀i m σ H,W i m σ H->
   ((WS K a).stop i H/\D.nx σ H)\/((WS K a).go i H/\∃N:St->Hp->Prop,(∀σ' H',N σ' H'->∃m',m'<m/\W (i+1) m' σ' H')/\∀x H',(WS K a).pY i H x H'->g x σ H' fun σ2 H2=>tb { D with nx:=N,ct:=N,bk:=D.nx } σ2 H2):=by
 refine⟨λi m σ H=>m+i=xs.length/\Pv i σ H,⟨xs.length,U,h0⟩,?_⟩;rintro i m σ H ⟨hm,p⟩;have q1:=hl i σ H p;by_cases lT:i<xs.length
 ·refine .inr ⟨⟨xs,xs[i],q1,getElem?_eq_getElem _⟩,Pv (i+1),fun σ' H' p'=>⟨m - 1,by omega,by omega,p'⟩,λv H' hy=>?_⟩;obtain⟨t,x,ht,rfl,rfl,hx⟩:=hy;exact hs i x t σ H (hx xs q1) ht p
 ·have e:i=xs.length:=by omega
  subst e;exact .inl ⟨⟨xs,q1,by omega⟩,hd σ H p⟩
end
section
variable {X:Cx}{pins:WP}{σ:St}{H:Hp}{s:Os}{N:On}{fr:WF}{scope:Scope}{fp:Ix}
end
section
variable {X:Cx}{elt tg iter:Expr}{ifs:IN}{scope:Scope}{pos Mo py:Pos}{N:On}{fr:WF}{wi:TI}{g:TG}{tt:TT}{te:TE}
end
section
variable {X:Cx}{tg:Expr}(K:Uu)
def HY(hK:X.K=K):U7 X (Wm K):=by subst hK;exact a8
end
def RO(L:Py)(H H':Hp):Prop:=∀b o,H b=some o->b≠L->H' b=some o
theorem RO.upd{L:Py}{H:Hp}{o:HO}:RO L H (upd H L o):=λb u h n=>by rw[ah n];exact h
section
variable {K:Uu}{g:TG}{tt:TT}{te:TE}
def HZ{J:It}{L:Py}{Q:Hp->Prop}{σ:St}{H:Hp}(n:Nat)(H0:Hp)(S:St->Prop)(Pv:Nat->List V->Hp->Prop)(RN:∀i H',i<n->au H0 H'->J.go i H')(rq:∀H',au H0 H'->J.stop n H')
  (Ia:∀i ys H H',RO L H H'->Pv i ys H->Pv i ys H')
  (HW:H0 L=none) (hσ:S σ) (h0:au H0 H) (hL:H L=some (.lst [])) (p0:Pv 0 [] H) (hz:n<=sizeLine) (hl:∀i ys H,Pv i ys H->ys.length<=i)
  (turn:∀i σ H' ys,i<n->S σ->au H0 H'->H' L=some (.lst ys)->Pv i ys H'->∀(N:St->V->Hp->Prop) (M:St->Hp->Prop),(∀σ3 y H5,S σ3->au H0 H5->H5 L=some (.lst ys)->Pv (i+1) (ys++[y]) H5->N σ3 y H5)->
   ∀x H2,J.pY i H' x H2->g x σ H2 fun σ3 H3=>tt σ3 H3 λb H4=>if b=true then te σ3 H4 λy H5=>N σ3 y H5 else M σ3 H4)
  (fin:∀H' ys,au H0 H'->H' L=some (.lst ys)->Pv n ys H'->Q H'):
  ∃W:Nat->Nat->St->Hp->Prop,(∃m,W 0 m σ H)/\∀i m σ H,W i m σ H->(J.stop i H/\Q H)\/(J.go i H/\∀x H2,J.pY i H x H2->g x σ H2 fun σ3 H3=>tt σ3 H3 λb H4=>if b=true
   then te σ3 H4 λy H5=>∃ys,H5 L=some (.lst ys)/\ys.length<sizeLine/\∃m',m'<m/\W (i+1) m' σ3 (upd H5 L (.lst (ys++[y])))
   else∃m',m'<m/\W (i+1) m' σ3 H4):=by
 refine⟨λi m σ H=>m+i=n/\S σ/\au H0 H/\∃ys,H L=some (.lst ys)/\Pv i ys H,⟨n,U,hσ,h0,[],hL,p0⟩,?_⟩;rintro i m σ H ⟨hm,hs,fg,ys,Fl,hp⟩;by_cases hi:i<n
 ·refine .inr ⟨RN i H hi fg,λx H2 hy=>turn i σ H ys hi hs fg Fl hp _ _ (fun σ3 y H5 k1 k2 k3 k4=>?_) x H2 hy⟩;refine⟨ys,k3,by have:=hl i ys H hp;omega,m - 1,by omega,by omega,k1,λb o e=>?_,ys++[y],ag,Ia _ _ _ _ RO.upd k4⟩;rw[ah (af e HW)];exact k2 b o e
 ·have e:i=n:=by omega
  subst e;exact .inl ⟨rq H fg,fin H ys fg Fl hp⟩
def lh{a L:Py}{xs:KB}{Q:Hp->Prop}{σ:St}{H:Hp}(H0:Hp)(S:St->Prop)(Pv:Nat->List V->Hp->Prop)(ha:bh K H0 a xs)(Ia:∀i ys H H',RO L H H'->Pv i ys H->Pv i ys H')
  (HW:H0 L=none) (hσ:S σ) (h0:au H0 H) (hL:H L=some (.lst [])) (p0:Pv 0 [] H) (hz:xs.length<=sizeLine) (hl:∀i ys H,Pv i ys H->ys.length<=i)
  (turn:∀i x σ H' ys,xs[i]? =some x->S σ->au H0 H'->H' L=some (.lst ys)->Pv i ys H'->∀(N:St->V->Hp->Prop) (M:St->Hp->Prop),(∀σ3 y H5,S σ3->au H0 H5->H5 L=some (.lst ys)->Pv (i+1) (ys++[y]) H5->N σ3 y H5)->
   g x σ H' fun σ3 H3=>tt σ3 H3 λb H4=>if b=true then te σ3 H4 λy H5=>N σ3 y H5 else M σ3 H4)
  (fin:∀H' ys,au H0 H'->H' L=some (.lst ys)->Pv xs.length ys H'->Q H'):
  ∃W:Nat->Nat->St->Hp->Prop,(∃m,W 0 m σ H)/\∀i m σ H,W i m σ H->((C2 K a).stop i H/\Q H)\/((C2 K a).go i H/\∀x H2,(C2 K a).pY i H x H2->g x σ H2 fun σ3 H3=>tt σ3 H3 λb H4=>if b=true
   then te σ3 H4 λy H5=>∃ys,H5 L=some (.lst ys)/\ys.length<sizeLine/\∃m',m'<m/\W (i+1) m' σ3 (upd H5 L (.lst (ys++[y])))
   else∃m',m'<m/\W (i+1) m' σ3 H4):=
 HZ xs.length H0 S Pv (λi H' hi e=>⟨xs,xs[i],e.seq ha,getElem?_eq_getElem hi⟩) (λH' e=>⟨xs,e.seq ha,le_refl _⟩) Ia HW hσ h0 hL p0 hz hl
  (λi σ H' ys _ hs e k p N M hN x H2 hy=>by
   obtain⟨rfl,hx⟩:=hy
   exact turn i x σ H2 ys (hx xs (e.seq ha)) hs e k p N M hN) fin
end
mutual
theorem rA:∀d:PyData,d.canLay0=true->PyData.eqv d d=true
 | .none,_=>by simp [PyData.eqv]
 | .bool _,_=>by simp [PyData.eqv]
 | .int _,_=>by simp [PyData.eqv]
 | .str _,_=>by simp [PyData.eqv]
 | .list xs,h=>by rw[PyData.eqv];exact kh xs (by simpa [PyData.canLay0] using h)
 | .tuple xs,h=>by rw[PyData.eqv];exact kh xs (by simpa [PyData.canLay0] using h)
 | .dict _,h=>by simp [PyData.canLay0] at h
theorem kh:∀xs:List PyData,PyData.canLayAll0 xs=true->PyData.eqvAll xs xs=true
 | [],_=>by simp [PyData.eqvAll]
 |x::xs,h=>by
  have h':x.canLay0=true/\PyData.canLayAll0 xs=true:=by simpa [PyData.canLayAll0] using h
  rw[PyData.eqvAll,rA x h'.1,kh xs h'.2];rfl
end
theorem rB{α:Type}(f:α->PyData):∀l:List α,(∀x∈l,(f x).canLay0=true)->PyData.canLayAll0 (l.map f)=true
 | [],_=>by simp [PyData.canLayAll0]
 |x::l,h=>by
  rw[map_cons,PyData.canLayAll0,h x 1e0,rB f l λy hy=>h y (mem_cons_of_mem _ hy)];rfl
def vh{d:PyData}(h1:d.canLay0=true)(h2:d.depth<=64):SeqAt.shaped d=true:=by
 unfold SeqAt.shaped;rw[h1,decide_eq_true h2];rfl
def Fn{α:Type}{l:List α}{i:Nat}{z:α}(h:l[i]? =some z):l.take (i+1)=l.take i++[z]:=by
 rw[take_add_one,h];rfl
section
variable {X:Cx}(K:Uu)
end
section
variable {K:Uu}{g:TG}{tt:TT}{te:TE}
end
def Fp:bootBuiltins "sorted" =some (.builtin "sorted"):=by decide+kernel
section
variable {X:Cx}
end
section
variable {X:Cx}
end
end L2
namespace L2
open PySem PySem.Spec PyProof.Rows PySem.W
section
variable {O:KeyOrd}{k:Nat->O.α}{n:Nat}{I:Shared->Prop}{cmp:Nat->Nat->(Bool->Shared->Prop)->Shared->Prop}
end
end L2
namespace PySem.SeqAt
open AutoSeq1 (wpAny_loadPart')
open MeetsSeq MeetsSeq2 MeetsSeq3
def Mt(e c:Nat->Bool):List Nat->Bool
 | []=>false
 |j::r=>if e j=true then Mt e c r else c j
end PySem.SeqAt
namespace L2
open PySem PySem.Spec PyProof.Rows PySem.SeqAt PySem.W
@[reducible] def colOrd:KeyOrd where
  α:=List Int
  blt a b:=decide (a<b)
  irrefl a:=by simp
  trans a b c h1 h2:=by simp only [decide_eq_true_eq] at*;exact List.lt_trans h1 h2
  negTrans a b c h:=by
   simp only [decide_eq_true_eq] at*;by_cases RP:a<b
   ·exact .inl RP
   ·exact .inr (List.lt_of_le_of_lt (not_lt.mp RP) h)
  total a b h1 h2:=by simp only [decide_eq_false_iff_not] at*;exact List.le_antisymm (not_lt.mp h2) (not_lt.mp h1)
theorem Mu:∀(xs ys:List Int) (d:Nat) (f g:Nat->Int),xs.length=ys.length->(∀j,j<xs.length->f (d+j)=xs.getD j 0)->(∀j,j<xs.length->g (d+j)=ys.getD j 0)->
  Mt (λj=>f j==g j) (λj=>decide (f j<g j)) (List.range' d xs.length)=decide (xs<ys)
 | [],[],d,f,g,_,_,_=>by simp [Mt]
 |x::xs,y::ys,d,f,g,hl,hf,hg=>by
  have h0:=hf 0 2e0;have g0:=hg 0 2e0;simp at h0 g0
  have ih:=Mu xs ys (d+1) f g (by simpa using hl) (λj hj=>by
   have:=hf (j+1) (by simp;omega)
   rw[show d+1+j=d+(j+1) by omega,this];simp) (λj hj=>by
   have:=hg (j+1) (by simp;omega)
   rw[show d+1+j=d+(j+1) by omega,this];simp)
  rw[length_cons,List.range'_succ,Mt,ih,h0,g0];by_cases e:x=y
  ·subst e;rw[if_pos 2e0];simp [cons_lt_cons_iff]
  ·rw[if_neg (by simpa using e)];simp [cons_lt_cons_iff,e]
section
variable {prog:Op}{w:World}{A:Pn}{E:XV}{s:Os}
end
section
variable {X:Cx}
end
end L2
namespace L2
open PySem PySem.Spec PyProof.Rows
def RQ:bootBuiltins "min" =some (.builtin "min"):=by decide+kernel
section
variable {X:Cx}
end
section
variable {K:Uu}{g:TG}{tt:TT}{te:TE}
def Ic{J:It}{L:Py}{Q:Hp->Prop}{σ:St}{H:Hp}(n:Nat)(H0:Hp)(S:St->Prop)(Pv:Nat->List V->Prop)(RN:∀i H',i<n->au H0 H'->J.go i H')(rq:∀H',au H0 H'->J.stop n H')
  (HW:H0 L=none) (hσ:S σ) (h0:au H0 H) (hL:H L=some (.lst [])) (p0:Pv 0 []) (hz:n<=sizeLine) (hl:∀i ys,Pv i ys->ys.length<=i)
  (turn:∀i σ H' ys,i<n->S σ->au H0 H'->H' L=some (.lst ys)->Pv i ys->∀(N:St->V->Hp->Prop) (M:St->Hp->Prop),(∀σ3 y H5,S σ3->au H0 H5->H5 L=some (.lst ys)->Pv (i+1) (ys++[y])->N σ3 y H5)->(∀σ3 H4,S σ3->au H0 H4->H4 L=some (.lst ys)->Pv (i+1) ys->M σ3 H4)->
   ∀x H2,J.pY i H' x H2->g x σ H2 fun σ3 H3=>tt σ3 H3 λb H4=>if b=true then te σ3 H4 λy H5=>N σ3 y H5 else M σ3 H4)
  (fin:∀H' ys,au H0 H'->H' L=some (.lst ys)->Pv n ys->Q H'):
  ∃W:Nat->Nat->St->Hp->Prop,(∃m,W 0 m σ H)/\∀i m σ H,W i m σ H->(J.stop i H/\Q H)\/(J.go i H/\∀x H2,J.pY i H x H2->g x σ H2 fun σ3 H3=>tt σ3 H3 λb H4=>if b=true
   then te σ3 H4 λy H5=>∃ys,H5 L=some (.lst ys)/\ys.length<sizeLine/\∃m',m'<m/\W (i+1) m' σ3 (upd H5 L (.lst (ys++[y])))
   else∃m',m'<m/\W (i+1) m' σ3 H4):=by
 refine⟨λi m σ H=>m+i=n/\S σ/\au H0 H/\∃ys,H L=some (.lst ys)/\Pv i ys,⟨n,U,hσ,h0,[],hL,p0⟩,?_⟩;rintro i m σ H ⟨hm,hs,fg,ys,Fl,hp⟩;by_cases hi:i<n
 ·refine .inr ⟨RN i H hi fg,λx H2 hy=>turn i σ H ys hi hs fg Fl hp _ _ (fun σ3 y H5 k1 k2 k3 k4=>?_) (fun σ3 H4 k1 k2 k3 k4=>?_) x H2 hy⟩
  ·refine⟨ys,k3,by have:=hl i ys hp;omega,m - 1,by omega,by omega,k1,λb o e=>?_,ys++[y],ag,k4⟩;rw[ah (af e HW)];exact k2 b o e
  ·exact⟨m - 1,by omega,by omega,k1,k2,ys,k3,k4⟩
 ·have e:i=n:=by omega
  subst e;exact .inl ⟨rq H fg,fin H ys fg Fl hp⟩
def vi{a L:Py}{xs:KB}{Q:Hp->Prop}{σ:St}{H:Hp}(H0:Hp)(S:St->Prop)(Pv:Nat->List V->Prop)(ha:bh K H0 a xs)
  (HW:H0 L=none) (hσ:S σ) (h0:au H0 H) (hL:H L=some (.lst [])) (p0:Pv 0 []) (hz:xs.length<=sizeLine) (hl:∀i ys,Pv i ys->ys.length<=i)
  (turn:∀i x σ H' ys,xs[i]? =some x->S σ->au H0 H'->H' L=some (.lst ys)->Pv i ys->∀(N:St->V->Hp->Prop) (M:St->Hp->Prop),(∀σ3 y H5,S σ3->au H0 H5->H5 L=some (.lst ys)->Pv (i+1) (ys++[y])->N σ3 y H5)->(∀σ3 H4,S σ3->au H0 H4->H4 L=some (.lst ys)->Pv (i+1) ys->M σ3 H4)->
   g x σ H' fun σ3 H3=>tt σ3 H3 λb H4=>if b=true then te σ3 H4 λy H5=>N σ3 y H5 else M σ3 H4)
  (fin:∀H' ys,au H0 H'->H' L=some (.lst ys)->Pv xs.length ys->Q H'):
  ∃W:Nat->Nat->St->Hp->Prop,(∃m,W 0 m σ H)/\∀i m σ H,W i m σ H->((C2 K a).stop i H/\Q H)\/((C2 K a).go i H/\∀x H2,(C2 K a).pY i H x H2->g x σ H2 fun σ3 H3=>tt σ3 H3 λb H4=>if b=true
   then te σ3 H4 λy H5=>∃ys,H5 L=some (.lst ys)/\ys.length<sizeLine/\∃m',m'<m/\W (i+1) m' σ3 (upd H5 L (.lst (ys++[y])))
   else∃m',m'<m/\W (i+1) m' σ3 H4):=
 Ic xs.length H0 S Pv (λi H' hi e=>⟨xs,xs[i],e.seq ha,getElem?_eq_getElem hi⟩) (λH' e=>⟨xs,e.seq ha,le_refl _⟩) HW hσ h0 hL p0 hz hl
  (λi σ H' ys _ hs e k p N M hN hM x H2 hy=>by
   obtain⟨rfl,hx⟩:=hy
   exact turn i x σ H2 ys (hx xs (e.seq ha)) hs e k p N M hN hM) fin
end
section
variable {X:Cx}
end
section
variable {K:Uu}{g:TG}{tt:TT}{te:TE}
end
section
variable {X:Cx}
end
end L2
namespace PySem.W
open PySem PySem.Calls PyProof.Rows PyProof.V PySem.Spec
section
variable {prog:Op}{w:World}{A:Pn}{E:XV}{s:Os}{T:String}{r d:Py}{n:Nat}{P:Nat->Value->Prop}{OK:Heap->Prop}
def Bv{G:List Value->Shared->Prop}(S:KdlSrc prog w T r d n P OK)(hd:A.handled=none)(ok:OK s.heap)(small:n<=sizeLine)
  (q:∀(g:Heap) (k:Nat) (xs:Array Value),(∀b o,s.heap.get? b=some o->g.get? b=some o)->s.heap.objs.size<g.objs.size->ItemsOf P xs n->G xs.toList { s with heap:=g,toks:=k }):
  wpAny 1e9 A (collect (.ref r)) G E s:=by
 obtain⟨lr,ld⟩:=S.there _ ok;unfold collect;refine wpAny_bind (wpAny_runValue (codeAny_builtin entry_proto_collect' ?_));rw[Around.under_plainId PySem.F.plain_proto_collect _];show wpAny _ A.in1 (newList [] >>= λy=>again (.builtin "list.__iadd__" ⟨[y, .ref r],[]⟩)) _ _ s;refine wpAny_bind (wpAny_newObj_type (wpAny_pure ⟨plainId_quiet PySem.F.plain_list_iadd _,codeAny_builtin entry_list_iadd' ?_⟩));rw[Around.under_plainId PySem.F.plain_list_iadd _];show wpAny _ A.in1 (Builtin.List.listExtendWith (.ref s.heap.objs.size) (.ref r) (.ref s.heap.objs.size)) _ _ _;have told:=kdl_extend (A:=A) (s:={ s with heap:=s.heap.push { cls:= .type "list",data:= .seq ([]:UV).toArray } })
  (R:=λz s1=>∃(g:Heap) (k:Nat) (xs:Array Value) (c:Nat),z= .ok (.ret (.ref s.heap.objs.size))/\s1={ s with heap:=g,toks:=k }/\(∀b o,s.heap.get? b=some o->g.get? b=some o)/\
   g.get? s.heap.objs.size=some { cls:= .type "list",dict:=none,data:= .seq xs c,slots:=#[] }/\ItemsOf P xs n) S hd (S.keep _ _ ok λb _ o e=>Heap.get?_push_of_some _ e) s.heap.objs.size (ne_of_gt lr) (ne_of_gt ld)
  (.ref s.heap.objs.size) 0 (Heap.get?_push_size _ rfl) (λg k xs c kp at' its=>⟨g,k,xs,c,rfl,rfl,λb o e=>kp b o (ne_of_lt (Heap.lt_size e)) (Heap.get?_push_of_some _ e),at',its⟩) small
 refine wpAny_mono told (λz s1 y=>?_) λz s1 y=>?_
 ·cases z with
  |done f=>obtain⟨g,k,xs,c,e,rfl,kp,at',its⟩:=y;cases e;exact wpAny_bind (wpAny_load at' (wpAny_pure (q g k xs kp (Heap.lt_size at') its)))
  |again c0=>
   refine⟨y.1,codeAny_mono y.2 λz1 s2 y2=>?_⟩;obtain⟨g,k,xs,c,rfl,rfl,kp,at',its⟩:=y2;exact wpAny_bind (wpAny_load at' (wpAny_pure (q g k xs kp (Heap.lt_size at') its)))
 ·obtain⟨_,_,_,_,e,_⟩:=y;cases e
end
end PySem.W
namespace L2
open PySem PySem.Spec PyProof.Rows PySem.W
section
variable {X:Cx}
def Bw:∀{us:UV} {ss:On},StrsAre us ss->Vals (ss.map V.str) us:=by
 intro us ss h
 induction h with
 |nil=>exact .nil
 |cons=>exact .cons ⟨_,rfl⟩ (by assumption)
theorem mO{P:Op}{w:World}:∀{us:UV} {ks:On},us.length=ks.length->(∀(j:Nat) (k:Str) (u:Ps),ks[j]? =some k->us[j]? =some u->(bE P w).is (Sum.inr k) u=true)->StrsAre us ks
 | [],[],_,_=> .nil
 | [],_::_,h,_=>by simp at h
 |_::_,[],h,_=>by simp at h
 |u::us,k::ks,h,q=>by
  have hu:=q 0 k u rfl rfl;rw[qH] at hu;rcases cq hu with ⟨i,t,e,_⟩ | ⟨x,t,e,rfl⟩
  ·cases e
  ·cases e;exact .cons _ _ (mO (by simpa using h) λj k' u' h1 h2=>q (j+1) k' u' (by simpa using h1) (by simpa using h2))
end
end L2
namespace L2
open PySem PySem.Spec PyProof.Rows
section
variable {X:Cx}
end
section
variable {X:Cx}
inductive Bx(x:V)(y:V)(H:Hp)(Q:VK):Prop
 |mk (i j:_) (bM:x= .str i) (bV:y= .str j) (b8:Q (.bl (!decide (j.cps.toList<i.cps.toList))) H)
def gT:mC X (compareOp .LtE) (Bx):=by
 intro pins s σ H x y v u Q I rx ry h;obtain⟨i,j,rfl,rfl,q⟩:=h;obtain⟨t,rfl⟩:=(show∃t,v=Value.str i t from rx);obtain⟨t',rfl⟩:=(show∃t,u=Value.str j t from ry);exact PySem.P.le_str ⟨.bl _,H,I,rfl,q⟩
inductive By(xs:List V)(H:Hp)(Q:VK):Prop
 |mk (x n:_) (bM:xs=[.str x]) (bV:PySem.intText? x=some n) (b8:x.length<=640) (cS:Q (.int n) H)
def Fq:gc X (.type "int") (By):=by
 intro pins s σ H xs us Q I r h;obtain⟨x,n,rfl,hn,hl,q⟩:=h;obtain⟨u,rfl,ru⟩:=vals1 r;obtain⟨t,rfl⟩:=(show∃t,u=Value.str x t from ru);exact PySem.W.KIN.call_text hn hl ⟨.int n,H,I.tok _,⟨_,rfl⟩,q⟩
def rSlS:V->Option Int->Option Int->Hp->VK->Prop:=λx lo hi H Q=>∃y,x= .str y/\y.length<=sizeLine/\Q (.str (Txt.slice y lo hi)) H
def wV:SlR X rSlS:=by
 intro pins s σ H x v vl vu lo hi sl Q I rx hs pl pu h;obtain⟨y,rfl,hz,q⟩:=h;obtain⟨t,rfl⟩:=(show∃t,v=Value.str y t from rx);refine⟨"str",_,F.slot_str_getitem.lookup,typeIs_str _ _ _,?_⟩
 cases pl with
 |none=>cases pu with
  |none=>exact wpAny_getItem_str_slice (l:=none) (u:=none) (st:=none) hs rfl (post_val_or_str ⟨le_trans (Txt.slice_le y _ _) hz,λt' k=>⟨.str _,H,I.tok k,⟨t',rfl⟩,q⟩⟩)
  |int j uj=>exact wpAny_getItem_str_slice (l:=none) (u:=some (j,uj)) (st:=none) hs rfl (post_val_or_str ⟨le_trans (Txt.slice_le y _ _) hz,λt' k=>⟨.str _,H,I.tok k,⟨t',rfl⟩,q⟩⟩)
 |int i ui=>cases pu with
  |none=>exact wpAny_getItem_str_slice (l:=some (i,ui)) (u:=none) (st:=none) hs rfl (post_val_or_str ⟨le_trans (Txt.slice_le y _ _) hz,λt' k=>⟨.str _,H,I.tok k,⟨t',rfl⟩,q⟩⟩)
  |int j uj=>exact wpAny_getItem_str_slice (l:=some (i,ui)) (u:=some (j,uj)) (st:=none) hs rfl (post_val_or_str ⟨le_trans (Txt.slice_le y _ _) hz,λt' k=>⟨.str _,H,I.tok k,⟨t',rfl⟩,q⟩⟩)
end
def WU(x:Str):It:=⟨λi _=>i<x.length,λi H v H'=>H'=H/\∃c,x.cps[i]? =some c/\v= .str ⟨#[c]⟩,λi _=>x.length<=i⟩
def Ie{P:Op}{w:World}{K:Uu}{tg:Expr}(it:Py)(x:Str)(t:Tok):
  Turn P w K tg (WU x) [it] it (λi h=>h.IsStrIter it "str_ascii_iterator" x t i) where
 mem:=by simp
 obj:=λi h st b hb=>by
  have e:b=it:=by simpa using hb
  subst e;obtain⟨o,e,c,d⟩:=st;exact⟨o,e,λv z=>by rw[d] at z;cases z⟩
 keep:=λi h h' st k=>let ⟨o,ho,r⟩:=st;⟨o,k it 2e0 o ho,r⟩
 item:=by
  intro X hP hw hK hc i pins s σ H E I hf st hg;subst hP hw hK;have hg:i<x.cps.size:=hg;obtain⟨f0,f1,f2,f3,f4,f5⟩:=hf it 2e0;refine wpAny_pyNext_ascii_item st (Array.getElem?_eq_getElem hg) λh' yS sb=>?_;have I1:Inv X pins σ H { s with heap:=h',toks:=s.toks+1 }:=I.turned (t':=s.toks+1) (λb o hb e=>(sb.2 b hb).trans e) f0 f1 f3 f4 f5;obtain⟨oi,e,c,d⟩:=id yS;exact⟨_,U,yR (s:={ s with heap:=h',toks:=s.toks+1 }) e c d 0e2 ⟨.str ⟨#[x.cps[i]]⟩,H,I1,⟨_,U⟩,⟨U,_,Array.getElem?_eq_getElem hg,U⟩,yS,λb hb=>(hf b hb).1⟩⟩
 done:=by
  intro X hP hw hK hc i pins s σ H E I hf st hg;subst hP hw hK;have hg:x.cps.size<=i:=hg;obtain⟨f0,f1,f2,f3,f4,f5⟩:=hf it 2e0;exact wpAny_pyNext_ascii_end (I.ok.hd hc) st (Array.getElem?_eq_none hg) λh' eb=>⟨rfl,I.turned (t':=s.toks) (λb o hb e=>eb b o hb e) f0 f1 f3 f4 f5⟩
 self:=λ_ _ _ _ _ st h=>wpAny_pyIter_striter_ascii st h
section
variable {X:Cx}{tg:Expr}
def iStr(tl:TE):TI:=fun σ H R=>tl σ H λv H1=>∃x,v= .str x/\x.cps.all (· <128)=true/\R (WU x) H1
def RS{l:Expr}{tl:TE}(hl:PE X l tl):PI X tg l (iStr tl):=by
 intro pins s σ H R I h;refine b9 (hl pins s σ H _ I h) λv s1 ⟨y,H1,I1,r1,x,e,ha,q⟩=>?_;subst e;obtain⟨t,rfl⟩:=(show∃t,v=Value.str x t from r1);refine wpAny_pyIter_ascii ha ?_;refine⟨s1.heap.objs.size,[s1.heap.objs.size],_,_,_,U,I1.kept (t':=s1.toks) λb o e=>Heap.get?_push_of_some _ e,Ie _ x t,?_,λb hb=>?_,q⟩
 ·exact⟨_,Heap.get?_push_size _ rfl,U,U⟩
 ·have e:b=s1.heap.objs.size:=by simpa using hb
  subst e;exact I1.wD (le_refl _) (I1.aX.fresh (le_refl _))
end
def Mv{x:Str}{g:TG}{tb:TS}{D:Ends}{σ:St}{H:Hp}(Pv:Nat->St->Hp->Prop)(h0:Pv 0 σ H)
  (hs:∀i c σ H,x.cps[i]? =some c->Pv i σ H->g (.str ⟨#[c]⟩) σ H fun σ2 H2=>tb { D with nx:=Pv (i+1),ct:=Pv (i+1),bk:=D.nx } σ2 H2) (hd:∀σ H,Pv x.length σ H->D.nx σ H):
  ∃W:Nat->Nat->St->Hp->Prop,(∃m,W 0 m σ H)/\∀i m σ H,W i m σ H->
   ((WU x).stop i H/\D.nx σ H)\/((WU x).go i H/\∃N:St->Hp->Prop,(∀σ' H',N σ' H'->∃m',m'<m/\W (i+1) m' σ' H')/\∀v H',(WU x).pY i H v H'->g v σ H' fun σ2 H2=>tb { D with nx:=N,ct:=N,bk:=D.nx } σ2 H2):=by
 refine⟨λi m σ H=>m+i=x.length/\Pv i σ H,⟨x.length,U,h0⟩,?_⟩;rintro i m σ H ⟨hm,p⟩;by_cases hi:i<x.length
 ·refine .inr ⟨hi,Pv (i+1),fun σ' H' q=>⟨m - 1,by omega,by omega,q⟩,?_⟩;rintro v H' ⟨rfl,c,hc,rfl⟩;exact hs i c σ _ hc p
 ·have e:i=x.length:=by omega
  subst e;exact .inl ⟨le_refl _,hd σ H p⟩
section
variable {X:Cx}
def Dk(K:Uu)(hK:X.K=K):U7 X (Wo K):=by subst hK;exact j6
end
end L2
namespace PySem.W
open PySem PySem.Calls PyProof.Rows PyProof.V PySem.Spec
section
variable {prog:Op}{w:World}{A:Pn}{E:XV}{s:Os}{T:String}{r d:Py}{n:Nat}{P:Nat->Value->Prop}{OK:Heap->Prop}
def zx{ss:On}{Q:XV}(S:KdlSrc prog w T r d n P OK)(hd:A.handled=none)(ok:OK s.heap)(hn:n<64)(hs:∀xs:Array Value,ItemsOf P xs n->StrsAre xs.toList ss)
  (q:∀(g:Heap) (k:Nat) (a:Py) (out:Array Value) (GU:On) (e:Nat),(∀b o,s.heap.get? b=some o->g.get? b=some o)->s.heap.objs.size<=a->g.get? a=some (seqObj "list" out e)->StrsAre out.toList GU->GU.Perm ss->sortedS GU=true->Q (.ref a) { s with heap:=g,toks:=k }):
  wpAny 1e9 A (call (.builtin "sorted") [.ref r]) Q E s:=by
 refine Calls.call_function_entry kind_sorted plain_sorted entry_sorted (args_sorted1 _) ?_;unfold Builtin.«sorted»;refine wpAny_bind (m:=checkCount "sorted" 1 1 _) (wpAny_pure ?_);have big:(64 :Nat)<=sizeLine:=by decide
 refine wpAny_bind (Bv (A:=A.in1) S hd ok 0e1 λg k xs kp lt its=>?_);have hS:=hs xs its;have hl:xs.toList.length=n:=by rw[Array.length_toList];exact its.1
 refine wpAny_bind (wpAny_newList ?_ (by rw[hl];omega));have U3:(g.push (seqObj "list" xs.toList.toArray 0)).get? g.objs.size=some (seqObj "list" xs.toList.toArray 0):=Heap.get?_push_size _ rfl;refine wpAny_bind (wpAny_holding (wpAny_call_entry slot_list_sort ⟨_,U3,rfl⟩ entry_list_sort (list_sort_treeK strKind_oneLt U3 hS.keysOf (λv₁ v₂ rest e=>keyKind_strs (by rw[<-e];exact hS)) 0e1 λyS a1 a2=>⟨_,rfl,?_⟩) (args_list_sort _)));obtain⟨GU,h1,h2,h3⟩:=sorted_out_str hS a1 a2;obtain⟨e,he⟩:=sortedHeap_at (out:=(arrOf yS).map (·.2)) U3;refine wpAny_pure ⟨_,rfl,q _ k g.objs.size _ GU e (λb o z=>?_) 0e1 he h1 h2 h3⟩;have hb:=kp b o z;have lT:=Heap.lt_size hb;rw[sortedHeap_old (ne_of_lt lT) (by rw[size_push'];exact Nat.lt_succ_of_lt lT),Heap.get?_push_ne _ _ _ (ne_of_lt lT)];exact hb
end
end PySem.W
namespace L2
open PySem PySem.Spec PyProof.Rows PySem.W
section
variable {X:Cx}
inductive ud(xs:List V)(H:Hp)(Q:VK):Prop
 |mk (p kvs:_) (ks:List Str) (bM:xs=[.ref p]) (bV:Rd H p (.dK kvs)) (b8:kvs.map (·.1)=ks.map Sum.inr) (cS:ks.length<64) (eK:∀(l:Addr) (ms:List Str),ms.Perm ks->sortedS ms=true->H l=none->Q (.ref l) (upd H l (.lst (ms.map V.str))))
def wW(hc:X.calm=true):gc X (.builtin "sorted") (ud):=by
 intro pins s σ H xs us Q I r h;obtain⟨p,kvs,ks,rfl,hk,jg,h64,q⟩:=h;obtain⟨u,rfl,ru⟩:=vals1 r;cases ru;obtain⟨z,lo,vs,rel,dd⟩:=jR I.aX hk;obtain⟨ep,da⟩:=dd.dictAt
 have hlen:vs.length=ks.length:=by
  have:=congrArg List.length jg;rw[length_map,length_map] at this;rw[<-rel.length];exact this
 have key:∀(j:Nat) (k:Key) (x:Ps),vs[j]? =some (k,x)->(ks[j]?).map Sum.inr=some k:=λj k x e=>by
  have h1:(kvs.map 1e4)[j]? =some k:=by rw[rel.keys,getElem?_map,e];rfl
  rw[jg,getElem?_map] at h1;exact h1
 refine zx (ss:=ks) (kdl_dict (knd:=bE X.prog X.w) (kvs:=vs) (ep:=ep) lo) (I.ok.hd hc) da 0e1 (λar its=>?_) λg k a out GU e kp le hg h1 h2 h3=>?_
 ·refine mO (P:=X.prog) (w:=X.w) (by rw[Array.length_toList,its.1,hlen]) λj k u h1 h2=>?_;obtain⟨k',x,h3,h4⟩:=its.2 j u (by simpa using h2);have h5:=key j k' x h3;rw[h1] at h5;cases h5;exact h4
 ·refine⟨.ref a,_,I.laid (t':=k) (o:= .lst (GU.map V.str)) kp le ⟨?_,out.toList,e,Bw h1,?_⟩,U,q _ GU h2 h3 (I.aX.fresh le)⟩
  ·rw[length_map,h2.length_eq];have big:(64 :Nat)<=sizeLine:=by decide
   omega
  ·rw[hg]
end
section
variable {X:Cx}{pins:WP}{σ:St}{H:Hp}{s:Os}{a b:Py}{kvs more:PP}{A:Pn}{E:XV}
def Ig{Q:XV}(I:0e5)(e:H a=some 2e2)(e2:H b=some (.dK more))(RP:a≠b)(hz:kvs.length+more.length<=sizeLine)
  (h:∀s',Inv X pins σ (upd H a (.dK (bD kvs more))) s'->Q .none s'):wpAny 0e8 A (call (.builtin "dict.update") [.ref a, .ref b]) Q E s:=by
 obtain⟨z,hd,vs,rel,dd⟩:=qX I.aX e;obtain⟨z2,hd2,ws,WV,dd2⟩:=qX I.aX e2;refine call_meetsIn PySem.F.slot_dict_update dd.typeIs PySem.F.entry_dict_update (PySem.F.args_dict_update_2 _ _) (meets_dict_update (bE X.prog X.w) a b RP hd2)
  ⟨vs,ws,dd,dd2,by rw[<-rel.length,<-WV.length];exact hz,λh' E6 _ hs=>h _ ?_⟩
 have he:∃q,h'.get? a=some q:=let ⟨q,_,_,hq,_⟩:=E6;⟨q,hq⟩;exact p8 I (by rw[e];exact True.intro) hs he (qY (le_trans (eD more kvs) hz) hd (KV.merge WV rel) E6)
end
def WW(td ty:TE):TE:=fun σ H Q=>td σ H λx H1=>∃a,x= .ref a/\IsD H1 a/\ty σ H1 λy H2=>∃b kvs more,y= .ref b/\H2 a=some 2e2/\H2 b=some (.dK more)/\a≠b/\kvs.length+more.length<=sizeLine/\Q .cF (upd H2 a (.dK (bD kvs more)))
section
variable {X:Cx}{o e:Expr}{apos gw:Pos}{td ty:TE}
def Dl(ho:PE X o td)(he:PE X e ty)(m:M1 X o "update" apos e gw):PE X (.Call (.Attribute o "update" apos) [e] [] gw) (WW td ty):=by
 intro pins s σ H Q I h;refine wpAny_Call_method m.base m.few m.line PySem.F.plainAttrs_dict PySem.F.slot_dict_update PySem.F.type_dict_update (b9 (ho pins s σ H _ I h) λu s1 ⟨x,H1,I1,rx,a,ex,d,q1⟩=>?_);subst ex;obtain rfl:u=Value.ref a:=rx;obtain⟨t1,t2,_⟩:=Hy I1 d;refine⟨t1,t2,?_⟩;rw[m.trees];refine Calls.callWith_builtin rfl (Calls.evalArgs_plain (Calls.spliced_cons (b9 (he pins s1 σ H1 _ I1 q1) λiv s2 ⟨y,H2,I2,ry,b,kvs,more,ey,ea,eb,RP,hz,q2⟩=>Calls.spliced_nil ?_)));subst ey;obtain rfl:iv=Value.ref b:=ry;exact Ig I2 ea eb RP hz λs3 I3=>⟨.cF,_,I3,rfl,q2⟩
end
end L2
namespace L2
open PySem PySem.Spec PyProof.Rows
end L2
namespace L2
open PySem PySem.Spec PyProof.Rows PySem.W
section
variable {X:Cx}
end
end L2
namespace L2
open PySem PySem.Spec PyProof.Rows
def RT{X:Cx}{body:List Stmt}{h0:ExceptHandler}{hs:List ExceptHandler}{pos:Pos}{t:TS}(hx:∀v s,X.xe v s->False)(hb:mz X body t):PS X (.Try body (h0::hs) [] [] pos) t:=by
 intro pins s σ H D I h;refine wpAny_Try_except (wpAny_mono (hb pins s σ H D I h) (λf s1 q=>?_) λe s1 z=>(hx e s1 z).elim)
 cases f with
 |next=>exact wpAny_execs_nil q
 |brk=>exact q
 |cont=>exact q
 |ret u=>exact q
section
variable {X:Cx}
def gW:mC X (binaryOp .FloorDiv) (rI (λ_ j=>0<j/\j<18446744073709551616) λi j=> .int (i/j)):=U6 λi j _ _ _ _ _ hc q=>by
 have h1:(0 :Int) <j:=hc.1;have h2:j<18446744073709551616:=hc.2;refine floordiv_int 0e1 (by rw[Int.fdiv_eq_ediv_of_nonneg i 0e1];exact q) (.inl (PyProof.noPylong_of_log2 ?_));have:=(log2_lt (n:=j.natAbs) 0e1 (k:=64)).mpr 0e1;omega
end
section
variable {X:Cx}
end
section
variable {X:Cx}
end
end L2
namespace PySem
structure Heap.om(h:Heap)(e:Addr)(tb:Option Addr):Prop where
 ex:∃oe vs,h.get? e=some oe/\oe.data= .fields vs/\vs[1]? =some (tb.elim Value.none Value.ref)
 tr:∀T,tb=some T->T≠e/\∃oT ts,h.get? T=some oT/\oT.data= .fields ts/\3<ts.size
structure Heap.Moved(fs:List Addr)(e:Addr)(tb:Option Addr)(h h':Heap):Prop where
 keep:∀b o,h.get? b=some o->b≠e->tb≠some b->b∉fs->h'.get? b=some o
 slot:∀b o,h.get? b=some o->b≠e->tb≠some b->∃sl,h'.get? b=some { o with slots:=sl }
 self:∀o,h.get? e=some o->∃vs,h'.get? e=some { o with data:= .fields vs }
 ent:∀b o,tb=some b->b≠e->h.get? b=some o->∃o',h'.get? b=some o'
 size:h.objs.size<=h'.objs.size
 ctx:∀o vs,h.get? e=some o->o.data= .fields vs->∃WX,h'.get? e=some { o with data:= .fields WX }/\WX[2]? =vs[2]?
def Heap.Moved.there{fs:Ix}{e:Py}{tb:UF}{h h':Heap}(m:Heap.Moved fs e tb h h')(b:Py)(o:Obj)(q:h.get? b=some o):∃o',h'.get? b=some o':=by
 by_cases be:b=e
 ·subst be;obtain⟨vs,z⟩:=m.self o q;exact⟨_,z⟩
 ·by_cases bt:tb=some b
  ·exact m.ent b o bt be q
  ·obtain⟨sl,z⟩:=m.slot b o q be bt;exact⟨_,z⟩
def Heap.Moved.refl{fs:Ix}{e:Py}{tb:UF}{h:Heap}(x:h.om e tb):Heap.Moved fs e tb h h:=
 ⟨λ_ _ q _ _ _=>q,λ_ o q _ _=>⟨o.slots,q⟩,λo q=>by
  obtain⟨oe,vs,he,hd,_⟩:=x.ex;rw[q] at he;cases he
  exact⟨vs,by rw[q,<-hd]⟩,λ_ o _ _ q=>⟨o,q⟩,le_refl _,λo vs q d=>⟨vs,by rw[q,<-d],rfl⟩⟩
theorem Heap.Moved.trans{fs:Ix}{e:Py}{tb tb':UF}{h h1 h2:Heap}(x:Heap.Moved fs e tb h h1)(y:Heap.Moved fs e tb' h1 h2)(n:∀T,tb'=some T->tb=some T\/h.objs.size<=T):Heap.Moved fs e tb h h2 where
 keep:=λb o q be bt bf=>y.keep b o (x.keep b o q be bt bf) be (λz=>(n b z).elim bt λw=>absurd (Heap.lt_size q) (Nat.not_lt.mpr w)) bf
 slot:=λb o q be bt=>by
  obtain⟨sl,z⟩:=x.slot b o q be bt;obtain⟨Q0,z'⟩:=y.slot b _ z be (λz=>(n b z).elim bt λw=>absurd (Heap.lt_size q) (Nat.not_lt.mpr w));exact⟨Q0,z'⟩
 self:=λo q=>by
  obtain⟨vs,z⟩:=x.self o q;obtain⟨WX,z'⟩:=y.self _ z;exact⟨WX,z'⟩
 ent:=λb o _ be q=>by
  obtain⟨o1,z⟩:=x.there b o q;exact y.there b o1 z
 size:=le_trans x.size y.size
 ctx:=λo vs q d=>by
  obtain⟨v1,z1,c1⟩:=x.ctx o vs q d;obtain⟨v2,z2,c2⟩:=y.ctx _ v1 z1 rfl;exact⟨v2,z2,c2.trans c1⟩
def Heap.Moved.mono{fs LO:Ix}{e:Py}{tb:UF}{h h':Heap}(x:Heap.Moved fs e tb h h')(k:∀b∈fs,b∈LO):Heap.Moved LO e tb h h':=
 ⟨λb o q be bt bf=>x.keep b o q be bt λz=>bf (k b z),x.slot,x.self,x.ent,x.size,x.ctx⟩
def mP{o:Obj}{vs:Array Value}(hd:o.data= .fields vs)(f:Array Value->Array Value):o.mapFields f={ o with data:= .fields (f vs) }:=by
 obtain⟨a,b,c,d⟩:=o;cases hd;rfl
section
variable {M:Model}{A:Pn}{E:XV}{s:Os}
def zy{base:Heap}{env:Env}{outer:List Env}{L e:Py}{oe:Obj}{vs:Array Value}{hd0:Ps}{nx:Bool}{Q:ZB}(fr:A.frames=some (env::outer))(fl:s.heap.FunFrames base (env::outer))(hL:env.frame=some L)
  (xe:s.heap.get? e=some oe) (xd:oe.data= .fields vs) (xs:1<vs.size)
  (k:∀h' T,h'.om e (some T)->s.heap.objs.size<=T->Heap.Moved ((env::outer).filterMap (·.frame)) e none s.heap h'->Q () { s with heap:=h' }):
  wpAny M A (do let a<-frameOf env;let pl<-entryPlaceOf L nx;let b<-EntryCells.newEntry hd0 a .none (rawInt L) .none pl;setField (.ref e) 1 b) Q E s:=by
 have ene:e∉(env::outer).filterMap (·.frame):=λz=>by
  obtain⟨_,o,q,nf⟩:=fl.mem z;rw[xe] at q;cases q;exact nf vs xd
 refine wpAny_bind (wpAny_frameOf_fun fr fl hL λg1 so=>?_);refine wpAny_bind (wpAny_entryPlaceOf λpl ok=>?_);unfold EntryCells.newEntry newFields;refine wpAny_bind (wpAny_newObj_type ?_ (ok.sizeOk5 _ _ _ _ _));have e1:g1.get? e=some oe:=(so.2.1 e ene).trans xe;generalize hO:({ cls:= .type "traceback",dict:=none,data:= .fields ([hd0, .ref L, .none,rawInt L, .none]++(if pl.isEmpty then List.replicate 6 Value.none else pl)).toArray }:Obj)=ob;have e2:=Heap.get?_push_of_some (h:=g1) ob e1;refine wpAny_setField e2 xd xs ?_;have Te:g1.objs.size≠e:=ne_of_gt (Heap.lt_size e1);have nf:ob.isFreed=false:=by rw[<-hO];rfl
 have eT:(g1.push ob).get? g1.objs.size=some ob:=Heap.get?_push_size g1 nf;have e3:=Heap.get?_update_self (Obj.mapFields (·.setIfInBounds 1 (Value.ref g1.objs.size))) e2 (Obj.isFreed_of_fields (Obj.data_mapFields xd _));refine k _ g1.objs.size ⟨⟨_,_,e3,Obj.data_mapFields xd _,by simp [xs]⟩,λT z=>?_⟩ (le_of_eq so.1.symm) ⟨λb o q be _ bf=>?_,λb o q be _=>?_,λo q=>?_,λb o z=>(by cases z),?_,λo us q d=>?_⟩
 ·cases z;refine⟨Te,ob,([hd0, .ref L, .none,rawInt L, .none]++(if pl.isEmpty then List.replicate 6 Value.none else pl)).toArray,?_,by rw[<-hO],by simp only [size_toArray,length_append,length_cons,length_nil];omega⟩;rw[Heap.get?_update_other _ _ (Ne.symm Te)];exact eT
 ·rw[Heap.get?_update_other _ _ (Ne.symm be)];exact Heap.get?_push_of_some _ ((so.2.1 b bf).trans q)
 ·obtain⟨sl,z⟩:=so.2.2 b o q;refine⟨sl,?_⟩;rw[Heap.get?_update_other _ _ (Ne.symm be)];exact Heap.get?_push_of_some _ z
 ·rw[xe] at q;cases q;exact⟨_,e3.trans (by rw[mP xd])⟩
 ·show s.heap.objs.size<=((g1.push ob).update e _).objs.size;rw[Heap.size_after_update,Heap.size_push,<-so.1];exact le_succ _
 ·rw[xe] at q;cases q;rw[xd] at d;cases d;exact⟨_,e3.trans (by rw[mP xd]),by simp⟩
def iV{e:Py}{tb fr:UF}{Q:ZB}(x:s.heap.om e tb)(k:∀h',h'.om e tb->Heap.Moved [] e tb s.heap h'->Q () { s with heap:=h' }):wpAny M A (setFlight (.ref e) fr) Q E s:=by
 obtain⟨oe,vs,he,hd,h1⟩:=x.ex;unfold setFlight;refine wpAny_bind (wpAny_field he hd h1 ?_)
 cases tb with
 |none=>
  rw[if_neg 0e2];exact wpAny_pure (k _ x (.refl x))
 |some T=>
  obtain⟨ne,oT,ts,hT,dT,sz⟩:=x.tr T rfl;rw[if_pos (show ((some T).elim Value.none Value.ref != Value.none)=true from by simp)];generalize (fr.elim Value.none λf=>rawInt f)=v3;refine wpAny_setField hT dT sz ?_;have WY:(s.heap.update T (Obj.mapFields (·.setIfInBounds 3 v3))).get? e=some oe:=(Heap.get?_update_other _ _ ne).trans he;have hT':=Heap.get?_update_self (Obj.mapFields (·.setIfInBounds 3 v3)) hT (Obj.isFreed_of_fields (Obj.data_mapFields dT _));refine k _ ⟨⟨oe,vs,WY,hd,h1⟩,λT' z=>?_⟩ ⟨λb o q _ bt _=>?_,λb o q _ bt=>⟨o.slots,?_⟩,λo q=>?_,λb o z _ _=>?_,?_,λo us q d=>?_⟩
  ·cases z;exact⟨ne,_,_,hT',Obj.data_mapFields dT _,by simp [sz]⟩
  ·exact(Heap.get?_update_other _ _ λz=>bt (by rw[z])).trans q
  ·exact(Heap.get?_update_other _ _ λz=>bt (by rw[z])).trans q
  ·rw[he] at q;cases q;exact⟨vs,by rw[WY,<-hd]⟩
  ·cases z;exact⟨_,hT'⟩
  ·show s.heap.objs.size<=(s.heap.update T _).objs.size;rw[Heap.size_after_update];exact le_refl _
  ·rw[he] at q;cases q;exact⟨us,by rw[WY,<-d],U⟩
def wX{base:Heap}{env:Env}{outer:List Env}{L e:Py}{tb:UF}{Q:ZB}(fr:A.frames=some (env::outer))(fl:s.heap.FunFrames base (env::outer))(hL:env.frame=some L)(x:s.heap.om e tb)
  (k:∀h' T,h'.om e (some T)->tb=some T\/s.heap.objs.size<=T->Heap.Moved ((env::outer).filterMap (·.frame)) e tb s.heap h'->Q () { s with heap:=h' }):wpAny M A (noteFrame (.ref e) env) Q E s:=by
 obtain⟨oe,vs,he,hd,h1⟩:=id x.ex;have sz1:1<vs.size:=(Array.getElem?_eq_some_iff.mp h1).1;unfold noteFrame;simp only [hL];refine wpAny_bind (wpAny_field he hd h1 ?_)
 cases tb with
 |none=>
  rw[if_neg 0e2];exact zy fr fl hL he hd sz1 λh' T a b c=>k h' T a (.inr b) c
 |some T=>
  obtain⟨ne,oT,ts,hT,dT,sz⟩:=x.tr T rfl;rw[if_pos (show ((some T).elim Value.none Value.ref != Value.none)=true from by simp)];have h3:ts[3]? =some ts[3]:=Array.getElem?_eq_getElem sz;refine wpAny_bind (wpAny_field hT dT h3 ?_);by_cases c:(ts[3]==rawInt L)=true
  ·rw[if_pos c];exact wpAny_pure (k _ T x (.inl rfl) (.refl x))
  ·rw[if_neg c];refine wpAny_bind (wpAny_setField hT dT sz ?_);have ot:∀b,b≠T->(s.heap.update T (Obj.mapFields (·.setIfInBounds 3 Value.none))).get? b=s.heap.get? b:=λb z=>Heap.get?_update_other _ _ (Ne.symm z);have hT':=Heap.get?_update_self (Obj.mapFields (·.setIfInBounds 3 Value.none)) hT (Obj.isFreed_of_fields (Obj.data_mapFields dT _));have zs:(s.heap.update T (Obj.mapFields (·.setIfInBounds 3 Value.none))).objs.size=s.heap.objs.size:=Heap.size_after_update ..;refine zy (s:={ s with heap:=s.heap.update T (Obj.mapFields (·.setIfInBounds 3 Value.none)) }) fr (fl.of_keeps λb o q nf=>⟨o,(ot b λz=>?_).trans q,rfl⟩) hL ((ot e (Ne.symm ne)).trans he) hd sz1 λh' T' a b c=>k h' T' a (.inr (by rw[<-zs];exact b)) ?_
   ·rw[z,hT] at q;cases q;exact nf ts dT
   ·refine⟨λb o q be bt bf=>c.keep b o ((ot b λz=>bt (by rw[z])).trans q) be (λz=>by cases z) bf,λb o q be bt=>c.slot b o ((ot b λz=>bt (by rw[z])).trans q) be λz=>(by cases z),λo q=>c.self o ((ot e (Ne.symm ne)).trans q),λb o z be q=>?_,?_,λo us q d=>c.ctx o us ((ot e (Ne.symm ne)).trans q) d⟩
    ·cases z;exact c.there _ _ hT'
    ·rw[<-zs];exact c.size
def Ih{base:Heap}{env:Env}{outer:List Env}{L e:Py}{tb:UF}{Q:ZB}(fr:A.frames=some (env::outer))(fl:s.heap.FunFrames base (env::outer))(hL:env.frame=some L)(x:s.heap.om e tb)
  (k:∀h' T,h'.om e (some T)->tb=some T\/s.heap.objs.size<=T->Heap.Moved ((env::outer).filterMap (·.frame)) e tb s.heap h'->Q () { s with heap:=h' }):wpAny M A («leaving» env (.ref e)) Q E s:=by
 unfold «leaving»;refine wpAny_bind (wX fr fl hL x λh1 T a b c=>iV (s:={ s with heap:=h1 }) a λh2 a' c'=>k h2 T a' b (c.trans (c'.mono λ_ z=>absurd z 2e0) λT' z=>?_));cases z;exact b
def Mw{env:Env}{e T:Py}{Q:ZB}(x:s.heap.om e (some T))(k:∀h',h'.om e (some T)->Heap.Moved [] e (some T) s.heap h'->Q () { s with heap:=h' }):
  wpAny M A (do
   if (<-field (.ref e) 1)== .none then unsupported "frame.own-activation:exception-without-traceback"
   setFlight (.ref e) env.frame) Q E s:=by
 obtain⟨oe,vs,he,hd,h1⟩:=id x.ex;refine wpAny_bind (wpAny_field he hd h1 ?_);rw[if_neg 2e0];exact iV x k
end
end PySem
namespace PySem.W
open PySem PySem.Calls PyProof.Rows PySem.Builtin PySem.Builtin.ObjectAttr
abbrev Bz:List Value:=[.type "ValueError", .type "Exception", .type "BaseException", .type "object"]
structure fR(K:Frag)(C HE f:Addr):Prop where
 obj:∃(nm q:Str) (N:Addr) (bs:List Value) (sn:List Str) (sub:List Value) (ab:Bool) (col:Option Bool) (dd:Option Addr) (k0 k1 k2 k3 k5:Option Value),
  K.lookup C=some (excClassObj nm q C N bs (.ref HE::Bz) true sn sub ab col dd k0 k1 k2 k3 k5 "ValueError.__new__")
 init:findIn K (.ref C) "__init__" =some (some (.ref f))
 fn:typeIn K (.ref f)=some (.type "function")
 sa:findIn K (.ref C) "__setattr__" =some (some (.builtin "object.__setattr__"))
 ga:findIn K (.ref C) "__getattribute__" =some (some (.builtin "BaseException.__getattribute__"))
 gh:findIn K (.ref C) "__getattr__" =some none
def jh{C HE:Py}{T:String}{b:Bool}(h:Bz.contains (.type T)=b):(Value.ref C:: .ref HE::Bz).contains (.type T)=b:=by
 rw[List.contains_cons,List.contains_cons,h];rfl
section
variable {prog:Op}{w:World}{A:Pn}{E:XV}{R:Qp}{h:Heap}{g:Array GenState}{d:Drawn}{t:Nat}{os:OsState}
variable {nm q:Str}{C N HE:Py}{bs:UV}{sn:On}{sub:UV}{ab:Bool}{col:Option Bool}{dd:UF}{k0 k1 k2 k3 k5:Option Value}
abbrev rC(vs:List Value):Obj:={ cls:= .type "tuple",data:= .seq vs.toArray }
abbrev rD(C t:Addr):Obj:={ cls:= .ref C,data:= .fields #[.ref t, .none, .none, .none, .bool false, .none] }
def wY{M:Model}{rest:UV}{Q:ZB}(kC:h.get? C=some (excClassObj nm q C N bs (.ref HE::Bz) true sn sub ab col dd k0 k1 k2 k3 k5 "ValueError.__new__"))
  (z:Q () ⟨h,g,d,t,os⟩):wpAny M A (checkBuiltinCall "ValueError.__new__" ⟨.ref C::rest,[]⟩) Q E ⟨h,g,d,t,os⟩:=by
 have F:=PySem.F.excBase_ValueError;have c1:(Value.ref C:: .ref HE::Bz).contains (.type "ValueError")=true:=jh 0e4;have f0:=F.noStar;simp only [checkBuiltinCall,F.newKind,F.newSplit,F.newRow]
 repeat (first|refine wpAny_loadPart_at kC ?_| (refine wpAny_isSubtype_exc kC ?_;rw[c1]) |refine wpAny_staticBase_exc kC ?_|refine wpAny_madeBy_exc kC ?_|simp only [bne_self_eq_false,Bool.false_eq_true,if_false] |wp_step)
 exact z
def RU{rest:UV}(kC:h.get? C=some (excClassObj nm q C N bs (.ref HE::Bz) true sn sub ab col dd k0 k1 k2 k3 k5 "ValueError.__new__"))
  (z:R (.ok (.ret (.ref (h.objs.size+1)))) ⟨(h.push (rC rest)).push (rD C h.objs.size),g,d,t,os⟩) (hz:rest.length<=sizeLine):
  codeAny 1e9 A (.builtin "ValueError.__new__" ⟨.ref C::rest,[]⟩) R ⟨h,g,d,t,os⟩:=by
 have F:=PySem.F.excBase_ValueError;have f0:=F.ends;have c1:(Value.ref C:: .ref HE::Bz).contains (.type "ValueError")=true:=jh 0e4;have c2:(Value.ref C:: .ref HE::Bz).contains (.type "AttributeError")=false:=jh 0e4;have c3:(Value.ref C:: .ref HE::Bz).contains (.type "NameError")=false:=jh 0e4;refine codeAny_builtinAt F.entry ?_;unfold Builtin.«BaseException.__new__»;refine wpAt_bind ?_;show wpAt _ _ _ (stack >>= _) _ _ _;refine wpAt_bind (wpAt_stack λp below=>wpAt_of_wpAny ?_);wp_walk;refine wpAt_of_wpAny ?_;rw[F.owner]
 repeat (first|with_reducible refine wpAny_madeHere_exc F.canon kC ?_|with_reducible refine wpAny_loadPart_at kC ?_| (with_reducible refine wpAny_isSubtype_exc kC ?_;first|rw[c1] |rw[c2] |rw[c3]) |wp_step)
 show R _ _;rw[Heap.size_push];exact z
end
section
variable {prog:Op}{w:World}{A:Pn}{E:XV}{R:Qp}{s:Os}{K:Frag}{C HE f:Py}
def Mx{vs:UV}(X:K.In s.heap)(Z:fR K C HE f)(hz:vs.length<=sizeLine)
  (k:codeAny 1e9 (A.under (.builtin "type.__call__" ⟨.ref C::vs,[]⟩)) (.call (.ref f) ⟨.ref 2e3::vs,[]⟩) (InitBack 2e3 R) { s with heap:=(s.heap.push (rC vs)).push (rD C s.heap.objs.size) }):
  codeAny 1e9 A (.call (.ref C) ⟨vs,[]⟩) R s:=by
 obtain⟨hp,g,d,t,os⟩:=s;obtain⟨nm,q,N,bs,sn,sub,ab,col,dd,k0,k1,k2,k3,k5,hK⟩:=Z.obj;have kC:=X _ _ hK;have F:=PySem.F.excBase_ValueError;have f1:=tc_lookup;have f2:=tc_bind (.ref C);have hT:(⟨hp,g,d,t,os⟩:Os).TypeIs (.ref C) "type" :=⟨_,kC,rfl⟩;refine codeAny_of_tree ?_;show wpAny _ _ (callAny (.ref C) _) _ _ _
 repeat (any_goals (first|assumption|with_reducible refine wpAny_loadPart_at kC ?_|wp_step))
 refine⟨U,?_⟩;refine codeAny_call_builtin_at (Code.quiet_builtin _ 0e4) entry_typeCall (wpAny_check_type_call_sub kC ?_)
 repeat (first|with_reducible refine wpAny_loadPart_at kC ?_|with_reducible refine wpAny_madeBy_exc kC ?_|wp_step)
 refine codeAny_call_builtin_code (Code.quiet_builtin _ F.quiet) (wY kC ?_);refine RU kC ?_ hz;show wpAny _ _ _ _ _ _;have keeps:∀b o,hp.get? b=some o->((hp.push (rC vs)).push (rD C hp.objs.size)).get? b=some o:=λb o e=>Heap.get?_push_of_some _ (Heap.get?_push_of_some _ e);have kC1:=keeps _ _ kC;have X1:K.In ((hp.push (rC vs)).push (rD C hp.objs.size)):=λb o e=>keeps b o (X b o e);have eg:((hp.push (rC vs)).push (rD C hp.objs.size)).get? (hp.objs.size+1)=some (rD C hp.objs.size):=by heap_get
 have c0:(Value.ref C:: .ref HE::Bz).contains (.ref C)=true:=by simp
 unfold isInstance
 repeat (first|with_reducible refine wpAny_loadPart_at eg ?_|wp_step)
 show wpAny _ _ (isSubtype (.ref C) (.ref C)) _ _ _;refine wpAny_isSubtype_exc kC1 ?_;rw[c0]
 repeat (first|with_reducible refine wpAny_loadPart_at eg ?_|wp_step)
 show wpAny _ _ (typeLookup (.ref C) _) _ _ _;refine looks_findIn X1 Z.init _ _ _ _ (λ_ _ e=>e) ?_;refine wpAny_holding (wpAny_bind (bind_fn X1 _ Z.fn _ _ _ _ (λ_ _ e=>e) ?_));refine wpAny_bind (wpAny_call (codeAny_mono k λr s' y=>?_))
 cases r with
 |error z=>exact y
 |ok fl=>
  cases fl with
  |ret u=>
   obtain⟨eu,y⟩:=y;subst eu;exact wpAny_pure (wpAny_pure y)
  |next=>exact y.elim
  |brk=>exact y.elim
  |cont=>exact y.elim
end
section
variable {prog:Op}{w:World}{A:Pn}{E:XV}{R:Qp}{s:Os}{K:Frag}{C HE f e:Py}{ox:Obj}{od:Option Obj}{vs:Array Value}{name:Str}{v:Ps}{tk:Tok}
theorem fR.cd(Z:fR K C HE f):∃cd,clsIn K C=some cd/\cd.mro= .ref C:: .ref HE::Bz/\cd.hasDict=true:=by
 obtain⟨nm,q,N,bs,sn,sub,ab,col,dd,k0,k1,k2,k3,k5,hK⟩:=Z.obj;exact⟨_,by unfold clsIn;rw[hK],U,U⟩
def fR.mro(Z:fR K C HE f){T:String}{b:Bool}(h:Bz.contains (.type T)=b):mroIn K C (.type T)=some b:=by
 obtain⟨cd,a,m,_⟩:=Z.cd;unfold mroIn;rw[a,bind_some,m,jh h];rfl
def Ii(X:K.In s.heap)(Z:fR K C HE f)(I:InstAt s.heap e ox C od)(ht:takerIn K C name=some none)
  (k:∀b,wpAny 1e9 A.in1 (storeInOwnDict (.ref e) (.ref C) (.str name tk) name v b) (λfin s'=>match fin with| .done f=>R (.ok f) s'| .again c'=>c'.quiet=true/\codeAny 1e9 A c' R s') (λe s'=>R (.error e) s') s):
  codeAny 1e9 A (.call (.builtin "object.__setattr__") ⟨[.ref e, .str name tk,v],[]⟩) R s:=by
 have SO:=PySem.F.store_object;obtain⟨cd,hc,hm,_⟩:=Z.cd;have sub:Looks 1e9 s.heap (isInstance (.ref e) (.type "object")) true:=I.type.andThen (looks_mroIn X (Z.mro 0e4));refine codeAny_call_builtin SO.slot.plain SO.entry (@check_slot 1e9 _ _ s "object.__setattr__" "object" "__setattr__" (.ref e) [.str name tk,v] [] _ SO.kind SO.split sub (SO.args (.ref e) (.str name tk) v) ?_);obtain⟨attr,ha,hr⟩:=Option.bind_eq_some_iff.mp ht;have lm:Looks 1e9 s.heap (mroOf (.ref C)) cd.mro:=(looks_clsIn X hc).andThen .now
 have l3:Looks 1e9 s.heap (storeTaker? attr) none:=by
  cases attr with
  |none=>exact .now
  |some a=>
   obtain⟨b,hb,eb⟩:=Option.map_eq_some_iff.mp hr;refine(looks_takesIn X hb).andThen ?_
   cases b with
   |true=>cases eb
   |false=>exact .now
 rw[osa_eq,refuse_eq];refine wpAny_bind (wpAny_bind (I.type.here (wpAny_bind (lm.here ?_))));rw[hm,refuseLoop_ref,refuseLoop_ref,PySem.F.store_ValueError.passes];exact wpAny_pure (wpAny_bind (I.type.here (wpAny_bind ((looks_findIn X ha).here (wpAny_bind (l3.here (k _)))))))
def My{Q:ZB}(X:K.In s.heap)(Z:fR K C HE f)(ht:takerIn K C name=some none)(hx:s.heap.get? e=some ox)(hc:ox.cls= .ref C)(hd:ox.data= .fields vs)(hn:ox.dict=none)
  (k:∀h' RF,h'.get? e=some { ox with dict:=some s.heap.objs.size }->h'.Ns1 s.heap.objs.size (λy=>if y=name then some v else none)->(∀b o,b≠e->s.heap.get? b=some o->h'.get? b=some o)->Q () { s with heap:=h',toks:=RF }):
  wpAny 1e9 A (setAttr (.ref e) name v) Q E s:=by
 have I:InstAt s.heap e ox C none:=⟨hx,hc,by unfold notCls;rw[hd],by rw[hn];trivial⟩;obtain⟨cd,mx,_,hh⟩:=Z.cd;refine set_plain X I Z.sa (Ii (s:={ s with toks:=s.toks+1 }) X Z I ht λb=>?_);obtain⟨oc,odi,oda,p7⟩:=ox;dsimp only at hc hd hn;subst hc hd hn;refine wpAny_bind (wpAny_pure (wpAny_bind (wpAny_bind (wpAny_loadPart hx (wpAny_bind (Looks.here (s:={ s with toks:=s.toks+1 }) (looks_clsIn X mx) ?_))))));rw[hh];have xs:e≠s.heap.objs.size:=ne_of_lt (Heap.lt_size hx);rw[if_neg 0e2];have PL:=Heap.get?_push_of_some (h:=s.heap) { cls:= .type "dict",data:= .dict #[] } hx;refine wpAny_bind (wpAny_alloc' (wpAny_bind (wpAny_update' PL (wpAny_pure ?_))));generalize hG:(s.heap.push { cls:= .type "dict",data:= .dict #[] }).update e (λo=>{ cls:=o.cls,dict:=some s.heap.objs.size,data:=o.data,slots:=o.slots })=G
 have gd:G.get? s.heap.objs.size=some { cls:= .type "dict",data:= .dict #[] }:=by
  rw[<-hG];exact(Heap.get?_update_ne _ _ _ _ (Ne.symm xs)).trans (Heap.get?_push_at rfl rfl)
 have gx:G.get? e=some { cls:= .ref C,dict:=some s.heap.objs.size,data:= .fields vs,slots:=p7 }:=by
  rw[<-hG];exact Heap.get?_update_self _ PL rfl
 have go:∀b o,b≠e->s.heap.get? b=some o->G.get? b=some o:=λb o be q=>by
  rw[<-hG];exact(Heap.get?_update_ne _ _ _ _ be).trans (Heap.get?_push_of_some _ q)
 have gn:G.Ns s.heap.objs.size (λ_=>none):=⟨_,#[],_,gd,rfl,λy hy=>absurd hy 2e0,λ_=>rfl⟩;show wpAny _ _ (storeInDict s.heap.objs.size (.str name s.toks) name v) _ _ { s with heap:=G,toks:=s.toks+1 };unfold storeInDict newKeyGuard;refine wpAny_bind (wpAny_pure (wpAny_bind (wpAny_nsSet1 (s:={ s with heap:=G,toks:=s.toks+1 }) (Heap.Ns1.of_empty gn) λh' n2 s2=>?_)));obtain⟨o2,e2,p2,q2,d2,c2⟩:=n2.count (PySem.Within.cons name v PySem.Within.nil);refine wpAny_bind (wpAny_lookBehind q2 (by rw[d2];exact pastItsLine_dict (le_trans c2 (by rw[length_cons,length_nil,sizeLine_eq];omega))) ?_);exact wpAny_pure (k _ _ ((s2.2 e xs).trans gx) n2 λb o be q=>(s2.2 b (ne_of_lt (Heap.lt_size q))).trans (go b o be q))
def Mz{Q:ZB}{dx:Py}{mA:Wp}{ns:On}(X:K.In s.heap)(Z:fR K C HE f)(ht:takerIn K C name=some none)(hx:s.heap.get? e=some ox)(hc:ox.cls= .ref C)(hd:ox.data= .fields vs)(hn:ox.dict=some dx)
  (N1:s.heap.Ns1 dx mA) (hw:PySem.Within mA ns) (hsz:ns.length<=1000)
  (k:∀h',h'.Ns1 dx (λy=>if y=name then some v else mA y)->Heap.SameBut dx s.heap h'->Q () { s with heap:=h',toks:=s.toks+2 }):
  wpAny 1e9 A (setAttr (.ref e) name v) Q E s:=by
 obtain⟨oD,ed,pd,hod,dD,_⟩:=id N1;have I:InstAt s.heap e ox C (some oD):=⟨hx,hc,by unfold notCls;rw[hd],by rw[hn];exact hod⟩;obtain⟨cd,mx,_,hh⟩:=Z.cd;refine set_plain X I Z.sa (Ii (s:={ s with toks:=s.toks+1 }) X Z I ht λb=>?_);obtain⟨oc,odi,oda,p7⟩:=ox;dsimp only at hc hd hn;subst hc hd hn;refine wpAny_bind (wpAny_pure (wpAny_bind (wpAny_bind (wpAny_loadPart hx (wpAny_bind (Looks.here (s:={ s with toks:=s.toks+1 }) (looks_clsIn X mx) ?_))))));rw[hh];refine wpAny_pure (a:=some dx) (wpAny_bind (wpAny_pure (wpAny_bind ?_)));refine wpAny_nsSet1 (s:={ s with toks:=s.toks+1 }) N1 λh' n2 s2=>?_;obtain⟨o2,e2,p2,q2,d2,c2⟩:=n2.count (PySem.Within.cons name v hw);refine wpAny_bind (wpAny_lookBehind q2 (by rw[d2];exact pastItsLine_dict (le_trans c2 (by rw[length_cons,sizeLine_eq];omega))) ?_);exact wpAny_pure (k _ n2 s2)
def RW{Q:XV}{expr:Bool}(X:K.In s.heap)(Z:fR K C HE f)(I:InstAt s.heap e ox C od)(hf:findObj K C od name=some (.value v))(hh:handedIn v=true)(k:Q v { s with toks:=s.toks+1 }):
  wpAny 1e9 A (getAttr (.ref e) name expr) Q E s:=by
 have T0:=I.type (M:=model prog w);have SG:=PySem.F.attr_ValueError.ga;refine wpAny_bind (wpAny_mkText (wpAny_holding (wpAny_bind (T0 _ _ _ _ (λ_ _ y=>y) (wpAny_bind (looks_findIn X Z.ga _ _ _ _ (λ_ _ y=>y) ?_))))));dsimp only;rw[show (onTheHeap (Value.ref C)&&Value.builtin "BaseException.__getattribute__" ==Value.builtin "object.__getattribute__")=false from by rw[show (Value.builtin "BaseException.__getattribute__" ==Value.builtin "object.__getattribute__")=false from by decide+kernel,Bool.and_false],if_neg 0e2];refine wpAny_bind (looks_hook X (show (if onTheHeap (Value.ref C) then findIn K (.ref C) "__getattr__" else some none)=some none from Z.gh) _ _ _ _ (λ_ _ y=>y) (wpAny_bind (wpAny_attempt (wpAny_holding ?_))));unfold callGetattribute;rw[show (expr&&onTheHeap (Value.builtin "BaseException.__getattribute__"))=false from Bool.and_false _,if_neg 0e2];unfold boundAndCalled;rw[SG.bind];refine wpAny_bind (wpAny_pure ?_);show wpAny _ _ (call (.builtin "BaseException.__getattribute__") [.ref e, .str name s.toks]) _ _ _;refine wpAny_call (codeAny_call_builtin SG.plain PySem.F.entry_bexc_ga ?_);refine @check_slot 1e9 _ _ { s with toks:=s.toks+1 } "BaseException.__getattribute__" "BaseException" "__getattribute__" (.ref e) [.str name s.toks] [] _ 0e4 0e4 (T0.andThen (looks_mroIn X (Z.mro 0e4))) (PySem.F.args_bexc_ga _ _) ?_;have l1:=looks_find (M:=model prog w) X I hf;unfold Builtin.«object.__getattribute__»;refine wpAny_bind (wpAny_of_eq (a:=(Value.ref e,[Value.str name s.toks])) rfl ?_);refine wpAny_bind (wpAny_pure (a:=name) (wpAny_bind (T0 _ _ _ _ (λ_ _ y=>y) (wpAny_bind (l1 _ _ _ _ (λ_ _ y=>y) (wpAny_pure ?_))))));show wpAny _ _ (handedOut v) _ _ _;rw[handedOut_of hh];exact wpAny_pure k
end
section
variable {M:Model}{A:Pn}{E:XV}{s:Os}{K:Frag}{env:Env}
def Ij{x:Sem Value}{Q:Flow->Shared->Prop}(ha:A.handled=none)
  (k:wpAny M A x (λv s1=>∃e oe vs C HE f,v= .ref e/\K.In s1.heap/\fR K C HE f/\s1.heap.get? e=some oe/\oe.cls= .ref C/\oe.data= .fields vs/\vs[1]? =some .none/\E (.ref e) s1) E s):wpAny M A (raiseStmt env (some x) none) Q E s:=by
 unfold raiseStmt;refine wpAny_bind (wpAny_mono k (λv s1 y=>?_) λ_ _ y=>y);obtain⟨e,oe,vs,C,HE,f,rfl,X,Z,he,hc,hd,h1,hE⟩:=y;have cB:(Value.ref C:: .ref HE::Bz).contains (.type "BaseException")=true:=jh 0e4;obtain⟨nm,q,N,bs,sn,sub,ab,col,dd,k0,k1,k2,k3,k5,hK⟩:=Z.obj;have kC:=X _ _ hK;obtain⟨hp,g,d,tk,os⟩:=s1;obtain⟨oc,odi,oda,p7⟩:=oe;dsimp only at hc hd;subst hc hd
 repeat (first|with_reducible refine wpAny_loadPart_at he ?_|with_reducible refine wpAny_loadPart_at kC ?_| (with_reducible refine wpAny_isSubtype_exc kC ?_;rw[cB]) |wp_step)
 rw[h1];refine wpAny_pure ?_;rw[if_neg 0e2];exact wpAny_pure (wpAny_raiseNew_none ha hE)
end
section
variable {prog:Op}{w:World}{A:Pn}{E:XV}{s:Os}{K:Frag}{C HE f e:Py}{ox:Obj}{vs:Array Value}
def Ik{us:UV}{Q:XV}(X:K.In s.heap)(Z:fR K C HE f)(hx:s.heap.get? e=some ox)(hc:ox.cls= .ref C)(hd:ox.data= .fields vs)(h0:0<vs.size)(hz:us.length<=sizeLine)
  (k:∀h',h'.get? e=some { ox with data:= .fields (vs.setIfInBounds 0 (.ref s.heap.objs.size)) }->(∀b o,b≠e->s.heap.get? b=some o->h'.get? b=some o)->Q .none { s with heap:=h' }):
  wpAny 1e9 A (call (.builtin "ValueError.__init__") (.ref e::us)) Q E s:=by
 have F:=PySem.F.excBase_ValueError;obtain⟨nm,q,N,bs,sn,sub,ab,col,dd,k0,k1,k2,k3,k5,hK⟩:=Z.obj;have kC:=X _ _ hK;have c1:(Value.ref C:: .ref HE::Bz).contains (.type "ValueError")=true:=jh 0e4;obtain⟨hp,g,d,t,os⟩:=s;obtain⟨oc,odi,oda,p7⟩:=ox;dsimp only at hc hd;subst hc hd;refine wpAny_call (codeAny_call_builtin F.init.plain F.initEntry ?_);have f0:=F.noStar;simp only [checkBuiltinCall,F.initKind,F.initSplit,F.initRow]
 repeat (first|with_reducible refine wpAny_loadPart_at hx ?_|with_reducible refine wpAny_loadPart_at kC ?_| (with_reducible refine wpAny_isSubtype_exc kC ?_;rw[c1]) |wp_step)
 refine wpAny_onRaise ?_;rw[show∀(a b:String) (n:Nat),Bind.check ⟨.positional,"*","ValueError", .self,[⟨"args", .varPos,false⟩]⟩ a b n (List.map (λx=>x.fst) ({ pos:=Value.ref e::us }:Args).kw)=pure () from λa b n=>check_star_args _ _ _ _ _ _];refine wpAny_pure ?_;wp_walk;rw[show vs[0]? =some vs[0] from Array.getElem?_eq_getElem h0];refine wpAny_pure (wpAny_bind (wpAny_setField (Heap.get?_push_of_some _ hx) rfl h0 ?_));generalize hG:((hp.push (rC us)).update e (Obj.mapFields (·.setIfInBounds 0 (Value.ref hp.objs.size))))=G
 have gx:G.get? e=some { cls:= .ref C,dict:=odi,data:= .fields (vs.setIfInBounds 0 (.ref hp.objs.size)),slots:=p7 }:=by
  rw[<-hG];exact Heap.get?_update_self (Obj.mapFields (·.setIfInBounds 0 (Value.ref hp.objs.size))) (Heap.get?_push_of_some (rC us) hx) rfl
 have go:∀b o,b≠e->hp.get? b=some o->G.get? b=some o:=λb o be q=>by
  rw[<-hG];exact(Heap.get?_update_other _ _ (Ne.symm be)).trans (Heap.get?_push_of_some _ q)
 have fin:=k G gx go;generalize vs[0]=v0
 cases v0 with
 |ref a=>
  dsimp only
  repeat wp_step
  exact fin
 |_=>exact wpAny_pure (wpAny_pure fin)
end
end PySem.W
namespace L2
open PySem PySem.Spec PyProof.Rows
class l8 where
 RX:Addr->Prop
variable [l8]
def AY(dx:Py)(fs:List (Str×V)):HO:= .ext λh=>∃mA,h.Ns1 dx mA/\(∀f,gH (fs.lookup f) (mA f))/\PySem.Within mA (fs.map 1e4)
def vj(e C:Py)(dx:UF):HO:= .ext λh=>∃o vs,h.get? e=some o/\o.cls= .ref C/\o.dict=dx/\o.data= .fields vs/\vs[1]? =some .none/\vs[2]? =some .none/\vs.size=6
def AZ(e C:Py)(dx:UF):HO:= .ext λh=>∃o vs,h.get? e=some o/\o.cls= .ref C/\o.dict=dx/\o.data= .fields vs/\(vs[2]? =some .none\/l8.RX C)
section
variable {P:Op}{w:World}{H:Hp}{h:Heap}{e C dx:Py}{od:UF}{o:Obj}{vs:Array Value}
def PM(he:h.get? e=some o)(hc:o.cls= .ref C)(hd:o.dict=od)(hf:o.data= .fields vs)(h2:vs[2]? =some .none\/l8.RX C):cu P w H h e (AZ e C od):=
 ⟨⟨o,vs,he,hc,hd,hf,h2⟩,⟨o,he⟩,λ_ _ ⟨o,vs,a,b⟩ k=>⟨o,vs,k _ a,b⟩⟩
def Il(he:h.get? e=some o)(hc:o.cls= .ref C)(hd:o.dict=od)(hf:o.data= .fields vs)(h1:vs[1]? =some .none)(h2:vs[2]? =some .none/\vs.size=6):cu P w H h e (vj e C od):=
 ⟨⟨o,vs,he,hc,hd,hf,h1,h2⟩,⟨o,he⟩,λ_ _ ⟨o,vs,a,b⟩ k=>⟨o,vs,k _ a,b⟩⟩
def PN{fs:List (Str×V)}{mA:Wp}(n:h.Ns1 dx mA)(r:∀f,gH (fs.lookup f) (mA f))(wi:PySem.Within mA (fs.map 1e4)):cu P w H h dx (AY dx fs):=by
 obtain⟨o,es,ep,ho,z⟩:=id n;exact⟨⟨mA,n,r,wi⟩,⟨o,ho⟩,λ_ _ ⟨m,⟨o,es,ep,ho,z⟩,r⟩ k=>⟨m,⟨o,es,ep,k _ ho,z⟩,r⟩⟩
def wZ(ok:jV P w H h)(q:H e=some (AZ e C od)):∃o vs,h.get? e=some o/\o.cls= .ref C/\o.dict=od/\o.data= .fields vs:=let ⟨o,vs,a,b,c,d,_⟩:=(ok e _ q).1;⟨o,vs,a,b,c,d⟩
def RY(ok:jV P w H h)(q:H e=some (AZ e C od)):∃o vs,h.get? e=some o/\o.cls= .ref C/\o.dict=od/\o.data= .fields vs/\(vs[2]? =some .none\/l8.RX C):=(ok e _ q).1
def xa(ok:jV P w H h)(q:H e=some (vj e C od)):∃o vs,h.get? e=some o/\o.cls= .ref C/\o.dict=od/\o.data= .fields vs/\vs[1]? =some .none/\vs[2]? =some .none/\vs.size=6:=(ok e _ q).1
def BC{fs:List (Str×V)}(ok:jV P w H h)(q:H dx=some (AY dx fs)):∃mA,h.Ns1 dx mA/\(∀f,gH (fs.lookup f) (mA f))/\PySem.Within mA (fs.map 1e4):=(ok dx _ q).1
end
structure ki(X:Cx)(T:Addr):Prop where
 above:X.s₀.heap.objs.size<=T
 loc:T≠X.env.locals
 cell:∀x c,X.env.cells.lookup x=some c->c≠T
 pn:∀p∈X.pn,p.1≠T
section
variable {X:Cx}{pins:WP}{σ:St}{H:Hp}{s:Os}{e C:Py}{od tb:UF}{h':Heap}{ER:St->XK}{v:Ps}
def Inv.PQ(I:0e5){T:Py}(h:s.heap.objs.size<=T):ki X T:=by
 refine⟨le_trans I.sz h,λz=>?_,λx c q z=>?_,λp hp z=>?_⟩
 ·subst z;exact absurd I.lt (Nat.not_lt.mpr h)
 ·obtain⟨_,o,ho,_⟩:=I.cell x c q;subst z;exact absurd (Heap.lt_size ho) (Nat.not_lt.mpr h)
 ·have q:=(I.pin p (mem_append_left _ hp)).1;rw[z] at q;exact absurd (Heap.lt_size q) (Nat.not_lt.mpr h)
def mQ(X:Cx)(ER:St->XK)(v:Ps)(s:Os):Prop:=
 ∃e C dx σ H tb,v= .ref e/\Inv X [] σ H s/\H e=some (AZ e C dx)/\s.heap.om e tb/\(∀T,tb=some T->H T=none/\ki X T)/\ER σ (.ref C) dx H
def Lets(X:Cx)(ER:St->XK):Prop:=∀v s,mQ X ER v s->X.xe v s
def ki.d6{E:XV}{T:Py}(n:ki (X.j2 E) T):ki X T:=⟨n.above,n.loc,n.cell,n.pn⟩
theorem mQ.d6{E:XV}(z:mQ (X.j2 E) ER v s):mQ X ER v s:=by
 obtain⟨e,C,dx,σ,H,tb,ev,I,he,fl,ht,hE⟩:=z;exact⟨e,C,dx,σ,H,tb,ev,I.d6,he,fl,λT q=>⟨(ht T q).1,(ht T q).2.d6⟩,hE⟩
def Im:Lets (X.j2 (mQ X ER)) ER:=λ_ _ z=>z.d6
def Inv.PR(I:0e5):Inv X [] σ H s:=I.wz λp hp=>absurd hp 2e0
def Inv.moved(I:Inv X [] σ H s)(he:H e=some (AZ e C od))(ht:∀T,tb=some T->H T=none/\ki X T)(m:Heap.Moved (yE X.stack) e tb s.heap h'):Inv X [] σ H { s with heap:=h' }:=by
 have ne:∀b,H b=none->b≠e:=λb n z=>by
  subst z;rw[he] at n;cases n
 refine I.Hf (s':={ s with heap:=h' }) (H':=H) (ch:=tb.toList) rfl ⟨λb o q n hb hx=>m.keep b o q (ne b n) (λz=>hx (by rw[z];simp)) hb,λb o q n hb hx=>m.slot b o q (ne b n) λz=>hx (by rw[z];simp),λ_ _ _ n _=>n,λb o q _=>m.there b o q,
  λ_ _ q=>q,λ_ _ _ q=>q,λ_ ps q=>⟨#[],by simpa using q⟩⟩ (λa o q=>?_) I.bare λb hb=>?_
 ·by_cases ae:a=e
  ·subst ae;rw[he] at q;cases q;obtain⟨o,vs,h1,h2,h3,h4,h5⟩:=RY I.aX he;obtain⟨WX,z,c⟩:=m.ctx o vs h1 h4;exact PM z h2 h3 rfl (by rw[c];exact h5)
  ·refine(I.aX a o q).qI (λb u hb z=>?_) (λ_ q=>q) λ_ _ q=>q
   have zu:∃o',H b=some o':=by
    rcases hb with hb|hb
    ·exact⟨o,by rw[hb];exact q⟩
    ·exact⟨_,hb⟩
   obtain⟨o',zu⟩:=zu;refine m.keep b u z (λz=>?_) (λz=>?_) λz=>?_
   ·rcases hb with hb|hb
    ·exact ae (hb.symm.trans z)
    ·rw[z,he] at hb;cases hb
   ·rw[(ht b z).1] at zu;cases zu
   ·rw[I.wy b z] at zu;cases zu
 ·have z:tb=some b:=by
   cases tb with
   |none=>simp at hb
   |some T=>simp at hb;rw[hb]
  obtain⟨_,n⟩:=ht b z;exact⟨.inr n.above,Ne.symm (Ne.symm n.loc),n.cell,by simpa using n.pn⟩
def MA(X:Cx):Prop:=X.stack=X.env::X.outer/\X.env.frame=some X.env.locals
def oo(hs:MA X)(I:0e5):X.A.frames=some (X.env::X.outer)/\s.heap.FunFrames X.base (X.env::X.outer):=by
 refine⟨by rw[I.ok.frames,hs.1],?_⟩;rw[<-hs.1];exact I.stack
def BE(I:Inv X [] σ H s){tb:UF}{T:Py}(ht:∀T,tb=some T->H T=none/\ki X T)(b:tb=some T\/s.heap.objs.size<=T):∀T',some T=some T'->H T'=none/\ki X T':=λT' z=>by
 cases z;rcases b with b|b
 ·exact ht T b
 ·exact⟨I.aX.fresh b,I.PQ b⟩
def Fs(hs:MA X):PassesOwn 0e8 X.A X.env (mQ X ER):=by
 intro v s' z;obtain⟨e,C,dx,σ,H,tb,ev,I,he,fl,ht,hE⟩:=z;subst ev;obtain⟨fr,ff⟩:=oo hs I;refine wX fr ff hs.2 fl λh1 T a b m=>?_;have m1:Heap.Moved (yE X.stack) e tb s'.heap h1:=by unfold yE;rw[hs.1];exact m
 have I1:=I.moved he ht m1;have t1:=BE I ht b;refine Mw (s:={ s' with heap:=h1 }) a λh2 a2 m2=>?_;exact⟨e,C,dx,σ,H,some T,U,I1.moved he t1 (m2.mono λ_ z=>absurd z 2e0),he,a2,t1,hE⟩
end
def Dm(P:Op)(w:World):C8:=λouter H s E v s'=>
 ∃e C dx H' tb,v= .ref e/\s'.os=s.os/\AllBare s'.gens/\Un (yE outer) [] H H' s.heap s'.heap/\jV P w H' s'.heap/\H' e=some (AZ e C dx)/\s'.heap.om e tb/\(∀T,tb=some T->H' T=none/\s.heap.objs.size<=T)/\E (.ref C) dx H'
section
variable {P:Op}{w:World}{K:Uu}{mg:Wp}{base:Heap}{N ps:On}{qual:Str}{scope:Scope}{f:Py}{cd:Ps}{A:Pn}{outer:List Env}{s s':Os}{H:Hp}{E:XK}{v:Ps}
def zA(z:mQ (jc (Dm P w) P w K mg base N qual scope f cd A outer s H E) (λ_=>E) v s'):(jc (Dm P w) P w K mg base N qual scope f cd A outer s H E).xe v s':=by
 obtain⟨e,C,dx,σ,H',tb,ev,I,he,fl,ht,hE⟩:=z;subst ev;obtain⟨fr,ff⟩:=oo (X:=jc (Dm P w) P w K mg base N qual scope f cd A outer s H E) ⟨rfl,rfl⟩ I;refine Ih fr ff rfl fl λh1 T a b m=>?_;have I1:=I.moved he ht m;have t1:=BE I ht b;have hB:=I.base
 have ne:∀b,H' b=none->b≠e:=λb n z=>by
  subst z;rw[he] at n;cases n
 have nt:∀b o,s.heap.get? b=some o->tb≠some b:=λb o q z=>absurd (Heap.lt_size q) (Nat.not_lt.mpr (ht b z).2.above);refine⟨e,C,dx,H',some T,U,I.os,I.bare,⟨λb o q n hb hx=>?_,λb o q n hb hx=>?_,hB.free,λb o q hx=>?_,hB.nY,hB.nZ,hB.n4⟩,I1.aX,he,a,λT' z=>⟨(t1 T' z).1,(t1 T' z).2.above⟩,hE⟩
 ·refine m.keep b o (hB.keep b o q n hb hx) (ne b (hB.free b o q n hx)) (nt b o q) λz=>?_;rcases mem_cons.mp (show b∈s.heap.objs.size::yE outer from z) with z|z
  ·exact absurd (Heap.lt_size q) (by rw[z];exact lt_irrefl _)
  ·exact hb z
 ·obtain⟨sl,z⟩:=hB.slot b o q n hb hx;obtain⟨Q0,z'⟩:=m.slot b _ z (ne b (hB.free b o q n hx)) (nt b o q);exact⟨Q0,z'⟩
 ·obtain⟨o',z⟩:=hB.there b o q hx;exact m.there b o' z
def PU(P:Op)(w:World)(K:Uu)(mg:Wp)(base:Heap)(N:On)(qual:Str)(scope:Scope)(f:Py)(cd:Ps)(A:Pn)(outer:List Env)(s:Os)(H:Hp)(E:XK):Cx:=
 (jc (Dm P w) P w K mg base N qual scope f cd A outer s H E).j2 (mQ (jc (Dm P w) P w K mg base N qual scope f cd A outer s H E) λ_=>E)
def Dn:Lets (PU P w K mg base N qual scope f cd A outer s H E) (λ_=>E):=λ_ _ z=>z.d6
def Io:PassesOwn (model P w) (PU P w K mg base N qual scope f cd A outer s H E).A (PU P w K mg base N qual scope f cd A outer s H E).env (PU P w K mg base N qual scope f cd A outer s H E).xe:=Fs (X:=jc (Dm P w) P w K mg base N qual scope f cd A outer s H E) ⟨rfl,rfl⟩
def MB{st:List Stmt}{t:TS}(h:mz (PU P w K mg base N qual scope f cd A outer s H E) st t):mz (jc (Dm P w) P w K mg base N qual scope f cd A outer s H E) st t:=λpins s1 σ H1 D I hw=>
 wpAny_mono (h pins s1 σ H1 D (I.j2 _) hw) (λ_ _ q=>q.d6) λ_ _ z=>zA z
def GR.Dq{x:Str}{st:Stmt}{fd:FuncData}{k:Nat}{sp:Sp}(F:GR K x qual st f fd)(S:ay N ps (ao st))(len:∀vs H Q E,sp vs H Q E->vs.length=ps.length)
  (eB:∀(bg:Ps) (A:Pn) (outer:List Env) (s:Os) (H:Hp) (vs:KB) (Q:VK) (E:XK),cU k (A.deeper (envOfC qual (ao st) s.heap.objs.size f bg))->sp vs H Q E->
   ∃t,mz (PU P w K mg base N qual (ao st) f bg A outer s H E) (b5 st) t/\t { nx:=λ_ H'=>Q .cF H',rt:=Q } (start N vs) H):fO P w K mg base (Dm P w) (k+1) f fd ps sp:=by
 obtain⟨oc,od,kV,doc,pm,an,bg,ct,p7,rfl,lk,mx⟩:=F.ex;refine fn_of lk mx S len λA outer s H vs Q E hr GQ=>?_;obtain⟨t,h,q⟩:=eB bg A outer s H vs Q E hr GQ;exact⟨t,MB h,q⟩
end
section
variable {X:Cx}{pins:WP}{σ:St}{H:Hp}{s s':Os}{ER:St->XK}{v:Ps}
def Ft(L:Lets X ER)(I:0e5)(h:Dm X.prog X.w X.stack H s (ER σ) v s'):X.xe v s':=by
 obtain⟨e,C,dx,H',tb,ev,os,bare,un,aX,he,fl,ht,hE⟩:=h;have I1:Inv X pins σ H' s':=I.Hf os un aX bare λb z=>absurd z 2e0;exact L v s' ⟨e,C,dx,σ,H',tb,ev,I1.PR,he,fl,λT z=>⟨(ht T z).1,I.PQ (ht T z).2⟩,hE⟩
end
section
variable {X:Cx}{k:Nat}{f C:Py}{fd:FuncData}{ps:On}{sp:Sp}{jQ:KB}{ds:UV}{ER:St->XK}{x m:Str}{p pos apos:Pos}{e o:Expr}{es:IN}{ta:TE}{t:TA}
def RZ(sp:Sp)(jQ:KB)(ER:St->XK)(t:TA):TE:=fun σ H Q=>t σ H λvs H1=>sp (vs++jQ) H1 Q (ER σ)
inductive MC(C:Addr)(m:Str)(sp:Sp)(jQ:List V)(ER:St->XK)(t:TA)(σ:St)(Q:VK)(x:V)(H1:Hp):Prop
 |mk (a dx fs:_) (bM:x= .ref a) (bV:H1 a=some (.ins C dx fs)) (b8:fs.lookup m=none) (cS:t σ H1 λvs H2=>sp (x::(vs++jQ)) H2 Q (ER σ))
def R0(C:Py)(m:Str)(sp:Sp)(jQ:KB)(ER:St->XK)(ta:TE)(t:TA):TE:=fun σ H Q=>ta σ H (MC C m sp jQ ER t σ Q)
def Dr{pins:WP}{σ:St}{H:Hp}{s:Os}{Q:VK}{us:UV}{vs:KB}(F:fO X.prog X.w X.K X.mg X.base (Dm X.prog X.w) k f fd ps sp)(hr:cU k X.A)(hb:Binds X.K fd ps ds)(hd:Vals jQ ds)(L:Lets X ER)
  (I:0e5) (r:Vals vs us) (h:sp (vs++jQ) H Q (ER σ)):wpAny 0e8 X.A (call (.ref f) us) (EP X pins σ Q) X.xe s:=by
 have r2:Vals (vs++jQ) (us++ds):=r.append hd;have hl:(us++ds).length=ps.length:=by rw[<-r2.length];exact F.len _ _ _ _ h
 refine wpAny_call (codeAny_mono (F.run X.A X.stack s H ⟨us,[]⟩ (us++ds) (vs++jQ) Q (ER σ) hr I.L3 (hb s us I.i6 hl) r2 h) λr s' hq=>?_)
 cases r with
 |error e=>exact Ft L I hq
 |ok fl=>
  cases fl with
  |ret u=>exact I.after hq
  |next=>exact False.elim hq
  |brk=>exact False.elim hq
  |cont=>exact False.elim hq
def Ip(F:fO X.prog X.w X.K X.mg X.base (Dm X.prog X.w) k f fd ps sp)(hr:cU k X.A)(hg:Gl X x)(hm:X.mg x=some (.ref f))(hk:keepIn X.K (.ref f)=true)(hb:Binds X.K fd ps ds)(hd:Vals jQ ds)(L:Lets X ER)
  (ha:PA X (e::es) t) (E1:(x==("__debug__" :Str))=false:=by decide) (he:starEach (e::es) X.env=(false,eval e X.env)::starEach es X.env:=by rfl) (fP:(backTo pos (starEach es X.env)).any 1e4=false:=by rfl):
  PE X (.Call (.Name x p) (e::es) [] pos) (RZ sp jQ ER t):=by
 intro pins s σ H Q I h;refine wpAny_Call_Name_kw (i7 I hg hm ?_ E1);refine PySem.W.callWith_K (h₀:=X.base) I.ok.mod.gv hk (b9 (ha pos pins s σ H _ I h) λus s1 ⟨vs,H1,I1,r,q⟩=>⟨I1.i6,?_⟩) he fP;exact Dr F hr hb hd L I1 r q
def Iq{pl:Sem Bool}(he:PE X o ta)(c:t5 X.K C)(hm:Meth X.K C m f)(F:fO X.prog X.w X.K X.mg X.base (Dm X.prog X.w) k f fd ps sp)(hr:cU k X.A)(hb:Binds X.K fd ps ds)(hd:Vals jQ ds)(L:Lets X ER)(ha:PA X (e::es) t)
  (iu:starEach (e::es) X.env=(false,eval e X.env)::starEach es X.env:=by rfl) (fP:(backTo pos (starEach es X.env)).any 1e4=false:=by rfl)
  (ht:eval (.Call (.Attribute o m apos) (e::es) [] pos) X.env=(do
   let ov<-eval o X.env
   standAt apos.atName
   let (f,first)<-holding [ov] (getMethod ov m pl)
   callWith pos f first (backTo pos (starEach (e::es) X.env)) (backToKw pos (keywordEach [] X.env))):=by rfl):
  PE X (.Call (.Attribute o m apos) (e::es) [] pos) (R0 C m sp jQ ER ta t):=by
 intro pins s σ H Q I h;refine PySem.W.methodCall_KW (pl:=pl) (b9 (he pins s σ H _ I h) λu s1 ⟨x,H1,I1,rx,a,dx,fs,ex,ea,l,q⟩=>?_) ht;subst ex;obtain rfl:u=Value.ref a:=rx;refine lZ I1 ea c hm l ?_;refine PySem.W.callWith_K (first:=[.ref a]) (h₀:=X.base) I.ok.mod.gv hm.kp (b9 (ha pos pins s1 σ H1 _ I1 q) λus s2 ⟨vs,H2,I2,r,q2⟩=>⟨I2.i6,?_⟩) iu fP
 exact Dr (us:= .ref a::us) (vs:= .ref a::vs) F hr hb hd L I2 (.cons rfl r) q2
def R1(C:Py)(sp:Sp)(t:TA):TE:=fun σ H Q=>t σ H λvs H1=>vs.length<=100/\∀x,H1 x=none->sp (.ref x::vs) (upd H1 x (vj x C none)) (λv H2=>v= .cF/\Q (.ref x) H2) E0
def Fu{HE:Py}{pins:WP}{σ:St}{H:Hp}{s:Os}{Q:VK}{us:UV}{vs:KB}(Z:PySem.W.fR X.K C HE f)(F:fO X.prog X.w X.K X.mg X.base q5 k f fd ps sp)(hr:cU (k+1) X.A)(hb:Binds X.K fd ps [])
  (I:0e5) (r:Vals vs us) (hz:vs.length<=100) (h:∀x,H x=none->sp (.ref x::vs) (upd H x (vj x C none)) (λv H2=>v= .cF/\Q (.ref x) H2) E0):
  wpAny 0e8 X.A (call (.ref C) us) (EP X pins σ Q) X.xe s:=by
 have hq:=h 2e3 (I.aX.fresh (le_succ _))
 have e2:((s.heap.push (PySem.W.rC us)).push (PySem.W.rD C s.heap.objs.size)).get? 2e3=some (PySem.W.rD C s.heap.objs.size):=by
  have:=Heap.get?_push_size (s.heap.push (PySem.W.rC us)) (o:=PySem.W.rD C s.heap.objs.size) rfl
  rwa [Heap.size_push] at this
 have I2:Inv X pins σ (upd H 2e3 (vj 2e3 C none)) { s with heap:=(s.heap.push (PySem.W.rC us)).push (PySem.W.rD C s.heap.objs.size) }:=
  I.laid (a:=s.heap.objs.size+1) (t':=s.toks) (λb u q=>Heap.get?_push_of_some _ (Heap.get?_push_of_some _ q)) (le_succ _) (Il e2 rfl rfl rfl rfl ⟨rfl,rfl⟩)
 have r2:Vals (V.ref 2e3::vs) (Value.ref 2e3::us):= .cons rfl r
 have hl:(Value.ref 2e3::us++[]).length=ps.length:=by
  have e:=r2.length;rw[F.len _ _ _ _ hq] at e;rw[append_nil];exact e.symm
 have PV:us.length<=sizeLine:=by
  rw[<-r.length];exact le_trans hz (by rw[sizeLine_eq];decide)
 have BF:=hb { s with heap:=(s.heap.push (PySem.W.rC us)).push (PySem.W.rD C s.heap.objs.size) } (Value.ref 2e3::us) I2.i6 hl;rw[append_nil] at BF;refine wpAny_call (PySem.W.Mx I.i6 Z PV (codeAny_mono (F.run _ X.stack _ _ ⟨Value.ref 2e3::us,[]⟩ (Value.ref 2e3::us) _ _ E0 (hr.make C us []) (I2.L3.make C us []) BF r2 hq) λr s' yG=>?_))
 cases r with
 |error e=>exact False.elim yG
 |ok fl=>
  cases fl with
  |ret u=>
   obtain⟨v,H',I3,rv,ev,q3⟩:=I2.after yG;subst ev;exact⟨rv,⟨V.ref 2e3,H',I3,U,q3⟩⟩
  |next=>exact False.elim yG
  |brk=>exact False.elim yG
  |cont=>exact False.elim yG
def Ir{HE:Py}(Z:PySem.W.fR X.K C HE f)(F:fO X.prog X.w X.K X.mg X.base q5 k f fd ps sp)(hr:cU (k+1) X.A)(hg:Gl X x)(hm:X.mg x=some (.ref C))(hk:keepIn X.K (.ref C)=true)(hb:Binds X.K fd ps [])
  (ha:PA X (e::es) t) (E1:(x==("__debug__" :Str))=false:=by decide) (he:starEach (e::es) X.env=(false,eval e X.env)::starEach es X.env:=by rfl) (fP:(backTo pos (starEach es X.env)).any 1e4=false:=by rfl):
  PE X (.Call (.Name x p) (e::es) [] pos) (R1 C sp t):=by
 intro pins s σ H Q I h;refine wpAny_Call_Name_kw (i7 I hg hm ?_ E1);refine PySem.W.callWith_K (h₀:=X.base) I.ok.mod.gv hk (b9 (ha pos pins s σ H _ I h) λus s1 ⟨vs,H1,I1,r,q⟩=>⟨I1.i6,?_⟩) he fP;exact Fu Z F hr hb I1 r q.1 q.2
inductive MD(K:1e8)(ER:St->XK)(σ:St)(v:V)(H1:Hp):Prop
 |mk (e C HE f dx:_) (bM:v= .ref e) (bV:PySem.W.fR K C HE f) (b8:H1 e=some (vj e C dx)) (cS:ER σ (.ref C) dx (upd H1 e (AZ e C dx)))
def R3(K:Uu)(te:TE)(ER:St->XK):TS:=λ_ σ H=>te σ H (MD K ER σ)
def Iu{ex:Expr}{te:TE}(hc:X.calm=true)(L:Lets X ER)(he:PE X ex te):PS X (.Raise (some ex) none pos) (R3 X.K te ER):=by
 intro pins s σ H D I h;rw[arm_exec_Raise];refine wpAny_bind (wpAny_standAt (PySem.W.Ij (K:=X.K) (I.ok.hd hc) (wpAny_bind (b9 (he pins s σ H _ I h) λu s1 ⟨v,H1,I1,rv,e,C,HE,f,dx,ev,Z,hx,q⟩=>wpAny_bind (wpAny_standAt (wpAny_pure ?_))))));subst ev;obtain rfl:u=Value.ref e:=rv;obtain⟨o,vs,h1,h2,h3,h4,h5,h6⟩:=xa I1.aX hx;refine⟨e,o,vs,C,HE,f,U,I1.i6,Z,h1,h2,h4,h5,L _ _ ⟨e,C,dx,σ,_,none,U,?_,ag,⟨⟨o,vs,h1,h4,h5⟩,λT z=>by cases z⟩,λT z=>(by cases z),q⟩⟩;have J:=I1.PR.write (x:=e) (e:=e) (o:=AZ e C dx) (h':=s1.heap) (t':=s1.toks) (by rw[hx];exact True.intro) (.inl rfl) (λ_ _ _ q=>q) ⟨o,h1⟩ (PM h1 h2 h3 h4 (.inl h6.1));exact J
end
end L2
namespace L2
open PySem PySem.Spec PyProof.Rows
variable [l8]
def R4{H:Hp}{e:Py}{o:HO}(h:H e=some o):upd H e o=H:=by
 funext b;by_cases z:b=e
 ·subst z;rw[ag,h]
 ·rw[ah z]
section
variable {X:Cx}{x f:Str}{a b o value ex:Expr}{ta tb tv:TE}{p pos apos pos':Pos}
structure PX(K:1e8)(HE:Addr):Prop where
 sp:PySem.W.specialIn K (.ref HE) "__getattribute__" =some (some (.builtin "type.__getattribute__"))
 rd:PySem.W.readsIn K HE (.type "type")=true
 fc:PySem.W.findCls K (.ref HE) (.type "type") "__init__" =some (.val (.builtin "ValueError.__init__"))
def R5(K:Uu)(ta tb:TE):TE:=fun σ H Q=>ta σ H λv H1=>tb σ H1 λ_ H2=>∃e C HE f dx,v= .ref e/\PySem.W.fR K C HE f/\H2 e=some (vj e C dx)/\Q .cF H2
def Iv{HE:Py}{pl:Sem Bool}(hg:Gl X x)(hm:X.mg x=some (.ref HE))(B:PX X.K HE)(ha:PE X a ta)(hb:PE X b tb)(hd:(x==("__debug__" :Str))=false:=by decide)
  (iu:starEach [a,b] X.env=(false,eval a X.env)::starEach [b] X.env:=by rfl) (hst1:starEach [b] X.env=(false,eval b X.env)::starEach [] X.env:=by rfl) (fP:(backTo pos (starEach [b] X.env)).any 1e4=false:=by rfl)
  (ht:eval (.Call (.Attribute (.Name x p) "__init__" apos) [a,b] [] pos) X.env=(do
   let ov<-eval (.Name x p) X.env
   standAt apos.atName
   let (f,first)<-holding [ov] (getMethod ov "__init__" pl)
   callWith pos f first (backTo pos (starEach [a,b] X.env)) (backToKw pos (keywordEach [] X.env))):=by rfl):
  PE X (.Call (.Attribute (.Name x p) "__init__" apos) [a,b] [] pos) (R5 X.K ta tb):=by
 intro pins s σ H Q I h;refine PySem.W.methodCall_KW (pl:=pl) (i7 I hg hm ?_ hd) ht;refine PySem.W.method_cls I.i6 B.sp (PySem.W.cls_value I.i6 B.rd B.fc rfl ?_);have I0:=I.tok (s.toks+1);refine PyProof.Rows.callWith_builtin1 (b9 (aa ha (aa hb aj hst1) iu pos pins _ σ H (λvs H2=>match vs with| [v,_]=>∃e C HE f dx,v=V.ref e/\PySem.W.fR X.K C HE f/\H2 e=some (vj e C dx)/\Q .cF H2|_=>False) I0 h) λus s1 ⟨vs,H2,I2,r,q⟩=>?_) iu fP
 match vs,q with
 | [v,u],q=>
   obtain⟨e,C,HE,f,dx,e1,Z,hx,q⟩:=q;subst e1;obtain⟨u1,u2,rfl,r1,r2⟩:=vals2 r;obtain rfl:u1=Value.ref e:=r1;obtain⟨ob,vs,h1,h2,h3,h4,h5,h6⟩:=xa I2.aX hx;have sz:1<vs.size:=(Array.getElem?_eq_some_iff.mp h5).1;refine PySem.W.Ik I2.i6 Z h1 h2 h4 0e1 (by rw[sizeLine_eq,length_cons,length_nil];decide) λh' g1 g2=>⟨.cF,H2,?_,rfl,q⟩;have J:=I2.write (x:=e) (e:=e) (o:=vj e C dx) (h':=h') (t':=s1.toks) (by rw[hx];exact True.intro) (.inl rfl) (λb o be q=>g2 b o be q) ⟨_,g1⟩ (Il g1 h2 h3 rfl (by rw[Array.getElem?_setIfInBounds_ne 0e2];exact h5) ⟨by rw[Array.getElem?_setIfInBounds_ne 0e2];exact h6.1,by rw[Array.size_setIfInBounds];exact h6.2⟩);rw[R4 hx] at J;exact J
inductive R6(K:1e8)(f:Str)(D:Ends)(σ:St)(y:V)(v:V)(H2:Hp):Prop
 |mk (e C HE g:_) (bM:v= .ref e) (bV:PySem.W.fR K C HE g) (b8:PySem.W.takerIn K C f=some none) (cS:((H2 e=some (vj e C none)/\∀dx,H2 dx=none->dx≠e->D.nx σ (upd (upd H2 dx (AY dx [(f,y)])) e (vj e C (some dx))))\/∃dx fs,H2 e=some (vj e C (some dx))/\H2 dx=some (AY dx fs)/\fs.length<1000/\D.nx σ (upd H2 dx (AY dx (cN f y fs)))))
def WZ(K:Uu)(ta tv:TE)(f:Str):TS:=λD σ H=>tv σ H λy H1=>ta σ H1 (R6 K f D σ y)
def qd(ha:PE X o ta)(hv:PE X value tv)(hs:swapsWith value (some (.Attribute o f pos')) pos.line X.env=pure false):PS X (.Assign [.Attribute o f pos'] value pos) (WZ X.K ta tv f):=by
 intro pins s σ H D I h;refine plainObj_wpAny_Assign_Attribute (b9 (hv pins s σ H _ I h) λu s1 ⟨y,H1,I1,ry,q⟩=>b9 (ha pins s1 σ H1 _ I1 q) λov s2 ⟨x,H2,I2,rx,e,C,HE,g,ex,Z,tk,q2⟩=>?_) hs;subst ex;obtain rfl:ov=Value.ref e:=rx;rcases q2 with ⟨hx,q2⟩ | ⟨dx,fs,hx,hd,hl,q2⟩
 ·obtain⟨ob,vs,h1,h2,h3,h4,h5,h6⟩:=xa I2.aX hx;refine PySem.W.My I2.i6 Z tk h1 h2 h4 h3 λh' RF g1 g2 g3=>?_;have ne:s2.heap.objs.size≠e:=ne_of_gt (Heap.lt_size h1);have fr:=I2.aX.fresh (le_refl s2.heap.objs.size);generalize hN:s2.heap.objs.size=n at g1 g2 ne fr
  have at':∀b o,H2 b=some o->b≠e->upd (upd H2 n (AY n [(f,y)])) e (vj e C (some n)) b=some o:=λb o q be=>by
   rw[ah be,ah (af q fr)];exact q
  refine⟨σ,upd (upd H2 n (AY n [(f,y)])) e (vj e C (some n)),I2.un (h':=h') (t':=RF) ⟨λb o q nn _ _=>g3 b o (λz=>?_) q,λb o q nn _ _=>⟨o.slots,g3 b o (λz=>?_) q⟩,λb o q nn _=>?_,λb o q _=>?_,λb xs q=>at' b _ q λz=>?_,λb o u q=>at' b _ q λz=>?_,λb ps q=>⟨#[],?_⟩⟩ λb o q=>?_,q2 n fr ne⟩
  ·rw[z,hx] at nn;cases nn
  ·rw[z,hx] at nn;cases nn
  ·rw[ah (λz=>by rw[z,hx] at nn;cases nn),ah (λz=>by rw[z,<-hN] at q;exact absurd (Heap.lt_size q) (lt_irrefl _))];exact nn
  ·by_cases be:b=e
   ·subst be;exact⟨_,g1⟩
   ·exact⟨o,g3 b o be q⟩
  ·rw[z,hx] at q;cases q
  ·rw[z,hx] at q;cases q
  ·rw[Array.append_empty];exact at' b _ q λz=>by rw[z,hx] at q;cases q
  ·by_cases be:b=e
   ·subst be;rw[ag] at q;cases q;exact Il g1 h2 rfl h4 h5 h6
   ·rw[ah be] at q;by_cases bn:b=n
    ·subst bn;rw[ag] at q;cases q;refine PN g2 (λg=>?_) λg hg=>?_
     ·by_cases eg:g=f
      ·subst eg;simp only [List.lookup,beq_self_eq_true,if_true];exact ry
      ·have e1:(g==f)=false:=by simpa using eg
       simp only [List.lookup,e1,if_neg eg];exact True.intro
     ·by_cases eg:g=f
      ·simp [eg]
      ·exact absurd (if_neg eg) hg
    ·rw[ah bn] at q;refine(I2.aX b o q).qI (λc u hc z=>g3 c u (λce=>?_) z) (λc z=>at' c _ z λce=>?_) λc xs z=>at' c _ z λce=>?_
     ·rcases hc with hc|hc
      ·exact be (hc.symm.trans ce)
      ·rw[ce,hx] at hc;cases hc
     ·rw[ce,hx] at z;cases z
     ·rw[ce,hx] at z;cases z
 ·obtain⟨ob,vs,h1,h2,h3,h4,h5,h6⟩:=xa I2.aX hx;obtain⟨mA,n1,r1,w1⟩:=BC I2.aX hd;have hz:(fs.map 1e4).length<=1000:=by rw[length_map];omega
  refine PySem.W.Mz I2.i6 Z tk h1 h2 h4 h3 n1 w1 hz λh' g1 sb=>⟨σ,_,?_,q2⟩;have gD:∃o,h'.get? dx=some o:=let ⟨o,_,_,e',_⟩:=g1;⟨o,e'⟩;refine I2.write (x:=dx) (e:=dx) (t':=s2.toks+2) (by rw[hd];exact True.intro) (.inl rfl) (λb q hb z=>(sb.2 b hb).trans z) gD (PN g1 (λg=>?_) λg hg=>?_)
  ·rw[aD];by_cases q:g=f
   ·rw[if_pos q,if_pos q];exact ry
   ·rw[if_neg q,if_neg q];exact r1 g
  ·by_cases q:g=f
   ·rw[q];exact(iT f y fs).1
   ·exact(iT f y fs).2 g (w1 g λz=>hg (by rw[if_neg q];exact z))
inductive R7(K:1e8)(f:Str)(Q:VK)(v:V)(H1:Hp):Prop
 |mk (e C HE g dx fs y:_) (bM:v= .ref e) (bV:PySem.W.fR K C HE g) (b8:PySem.W.findIn K (.ref C) f=some none) (cS:H1 e=some (AZ e C (some dx))) (eK:H1 dx=some (AY dx fs)) (gS:fs.lookup f=some y) (lR:Q y H1)
def W0(K:Uu)(ta:TE)(f:Str):TE:=fun σ H Q=>ta σ H (R7 K f Q)
def qe(he:PE X ex ta)(hb:attributeBase ex f X.env (eval ex X.env)=eval ex X.env):PE X (.Attribute ex f pos) (W0 X.K ta f):=by
 intro pins s σ H Q I h;refine C7 hb (b9 (he pins s σ H _ I h) λu s1 ⟨x,H1,I1,rx,e,C,HE,g,dx,fs,y,ex,Z,fi,hx,hd,l,q⟩=>?_);subst ex;obtain rfl:u=Value.ref e:=rx;obtain⟨ob,vs,h1,h2,h3,h4⟩:=wZ I1.aX hx;obtain⟨mA,n1,r1,w1⟩:=BC I1.aX hd;obtain⟨od,ho,hl⟩:=n9 n1;obtain⟨u,hu,ru⟩:=gH.some_of (v:=y) (o:=mA f) (by rw[<-l];exact r1 f);obtain⟨cd,mx,_,hh⟩:=Z.cd;have J:PySem.W.InstAt s1.heap e ob C (some od):=⟨h1,h2,by unfold PySem.W.notCls;rw[h4],by rw[h3];exact ho⟩;exact PySem.W.RW I1.i6 Z J (PySem.W.findObj_own (by unfold PySem.W.hasDictIn;rw[mx];exact hh) fi rfl (by rw[hl,hu])) (uR ru) ⟨y,H1,I1.tok _,ru,q⟩
def tFmt(ta:TE):TE:=fun σ H Q=>ta σ H λv H1=>(∃i,v= .int i/\i.natAbs.log2<1920/\Q (.str (toString i)) H1)\/∃y,v= .str y/\y.length<=sizeLine/\Q (.str y) H1
def xb(he:PE X ex ta):PE X (.FormattedValue ex (-1) none pos) (tFmt ta):=by
 intro pins s σ H Q I h;refine FormattedValue_plain (b9 (he pins s σ H _ I h) λu s1 ⟨v,H1,I1,rv,q⟩=>?_);rcases q with ⟨i,rfl,hi,q⟩ | ⟨y,rfl,hy,q⟩
 ·obtain⟨t,rfl⟩:=rv;exact formatField_int_small hi ⟨.str (toString i),H1,I1.tok _,⟨_,rfl⟩,q⟩
 ·obtain⟨t,rfl⟩:=rv;exact formatField_str (λt' tk=>⟨.str y,H1,I1.tok tk,⟨_,rfl⟩,q⟩) hy
def PF(X:Cx)(es:IN)(t:Str->TE):Prop:=
 ∀(acc:Str) (pins:WP) (s:Os) (σ:St) (H:Hp) (Q:VK),Inv X pins σ H s->t acc σ H Q->wpAny 0e8 X.A (joinParts acc (evalEach es X.env)) (EP X pins σ Q) X.xe s
def W4:Str->TE:=λacc _ H Q=>acc.length<=sizeLine/\Q (.str acc) H
def R8(te:TE)(t:Str->TE):Str->TE:=λacc σ H Q=>te σ H λv H1=>∃y,v= .str y/\(acc++y).length<=sizeLine/\t (acc++y) σ H1 Q
def R9:PF X [] W4:=λacc pins s σ H Q I h=>joinParts_nil ⟨.str acc,H,I.tok _,⟨_,rfl⟩,h.2⟩ h.1
def iA{es:IN}{t:Str->TE}(he:PE X ex ta)(hr:PF X es t)(hs:evalEach (ex::es) X.env=eval ex X.env::evalEach es X.env:=by rfl):PF X (ex::es) (R8 ta t):=by
 intro acc pins s σ H Q I h;rw[hs];refine joinParts_cons (b9 (he pins s σ H _ I h) λu s1 ⟨v,H1,I1,rv,y,ev,hz,q⟩=>?_);subst ev;obtain⟨t',rfl⟩:=rv;exact⟨hz,hr (acc++y) pins s1 σ H1 Q I1 q⟩
def ME{v1 v2:Expr}{es:IN}{t:Str->TE}(h:PF X (v1::v2::es) t):PE X (.JoinedStr (v1::v2::es) pos) (t Str.empty):=λpins s σ H Q I hw=>JoinedStr_many (h Str.empty pins s σ H Q I hw)
end
end L2
namespace PySem.W
open PySem PySem.Calls PyProof.Rows
structure MF(K:Frag)(PC:Addr):Prop where
 obj:∃(nm q:Str) (N:Addr) (bs bm:List Value) (hd:Bool) (sn:List Str) (sub:List Value) (ab:Bool) (col:Option Bool) (dd:Option Addr) (k0 k1 k2 k3 k5:Option Value) (nid:String),
  K.lookup PC=some (excClassObj nm q PC N bs bm hd sn sub ab col dd k0 k1 k2 k3 k5 nid)/\bm.contains (.type "BaseException")=true
def BG{M:Model}{A:Pn}{E:XV}{s:Os}{K:Frag}{C HE f e PC:Py}{ox:Obj}{b:Bool}{Q:Bool->Shared->Prop}(X:K.In s.heap)(Z:fR K C HE f)(Y:MF K PC)(hx:s.heap.get? e=some ox)(hc:ox.cls= .ref C)
  (hm:mroIn K C (.ref PC)=some b) (k:Q b s):wpAny M A (excMatches (.ref e) (.ref PC)) Q E s:=by
 obtain⟨nm,q,N,bs,sn,sub,ab,col,dd,k0,k1,k2,k3,k5,hK⟩:=Z.obj;obtain⟨nm',q',N',bs',bm,gD,sn',sub',ab',col',E6,k0',k1',k2',k3',k5',nid,hP,hB⟩:=Y.obj;obtain⟨cd,mx,em,_⟩:=Z.cd
 have cb:(Value.ref C:: .ref HE::Bz).contains (.ref PC)=b:=by
  unfold mroIn at hm;rw[mx,bind_some,em] at hm;exact Option.some.inj hm
 have kC:=X _ _ hK;have kP:=X _ _ hP;have cB:(Value.ref PC::bm).contains (.type "BaseException")=true:=by rw[List.contains_cons,hB,Bool.or_true]
 have ft:=tc_notTuple;obtain⟨hp,g,d,tk,os⟩:=s;unfold excMatches
 repeat (first| (with_reducible refine wpAny_loadPart_at hx ?_;rw[hc]) |with_reducible refine wpAny_loadPart_at kP ?_| (with_reducible refine wpAny_isSubtype_exc kP ?_;rw[cB]) | (with_reducible refine wpAny_isSubtype_exc kC ?_;rw[cb]) |wp_step)
 cases b<;>(wp_walk;exact k)
end PySem.W
namespace L2
open PySem PySem.Spec PyProof.Rows
variable [l8]
abbrev Cx.pinned(X:Cx)(pn:List (Addr×Obj)):Cx:={ X with pn:=X.pn++pn }
abbrev Cx.mark(X:Cx)(e:Addr):Cx:={ X with A:=X.A.mark (some (.ref e)),calm:=false,xe:=λ_ _=>False }
section
variable {X:Cx}{pins pn:WP}{σ:St}{H:Hp}{s:Os}{ER:St->XK}{v:Ps}{D:Ends}{fl:Flow}
theorem Cx.Ok.pinned(ok:X.Ok):(X.pinned pn).Ok:=⟨ok.mod,ok.kind,ok.glob,ok.blt,ok.above,ok.inj,ok.has,ok.LR,ok.hd,ok.frames,ok.Po,ok.U2,ok.bs,ok.EV,ok.wt,ok.wu,ok.lO,ok.He⟩
def Cx.Ok.gb(ok:(X.pinned pn).Ok):X.Ok:=⟨ok.mod,ok.kind,ok.glob,ok.blt,ok.above,ok.inj,ok.has,ok.LR,ok.hd,ok.frames,ok.Po,ok.U2,ok.bs,ok.EV,ok.wt,ok.wu,ok.lO,ok.He⟩
def Inv.toPn(I:0e5):Inv (X.pinned pins) [] σ H s:=⟨I.ok.pinned,I.os,I.bare,I.base,I.loc,I.cell,I.free,I.gC,λp hp=>I.pin p (by simpa using hp),I.aX,I.len⟩
def Inv.MG(I:Inv (X.pinned pn) pins σ H s):Inv X pn σ H s:=⟨I.ok.gb,I.os,I.bare,I.base,I.loc,I.cell,I.free,I.gC,λp hp=>I.pin p (mem_append_left _ hp),I.aX,I.len⟩
def SP.gb(h:SP (X.pinned pn) pins D fl s):SP X pn D fl s:=by
 cases fl with
 |next=>obtain⟨σ',H',I,q⟩:=h;exact⟨σ',H',I.MG,q⟩
 |brk=>obtain⟨σ',H',I,q⟩:=h;exact⟨σ',H',I.MG,q⟩
 |cont=>obtain⟨σ',H',I,q⟩:=h;exact⟨σ',H',I.MG,q⟩
 |ret u=>obtain⟨v,σ',H',I,r,q⟩:=h;exact⟨v,σ',H',I.MG,r,q⟩
def MH:Lets X (λ_ _ _ _=>False):=λ_ _ ⟨_,_,_,_,_,_,_,_,_,_,_,z⟩=>z.elim
theorem Inv.mark(I:0e5)(e:Py):Inv (X.mark e) pins σ H s:=
 ⟨⟨I.ok.mod,I.ok.kind,I.ok.glob,I.ok.blt,I.ok.above,I.ok.inj,I.ok.has,I.ok.LR,λz=>(by cases z),I.ok.frames,I.ok.Po,I.ok.U2,I.ok.bs,I.ok.EV,I.ok.wt,I.ok.wu,I.ok.lO,I.ok.He⟩,I.os,I.bare,I.base,I.loc,I.cell,I.free,I.gC,I.pin,I.aX,I.len⟩
def Inv.unmark{e:Py}(I:Inv (X.mark e) pins σ H s)(ok:X.Ok):Inv X pins σ H s:=⟨ok,I.os,I.bare,I.base,I.loc,I.cell,I.free,I.gC,I.pin,I.aX,I.len⟩
def PH(X:Cx)(hs:List ExceptHandler)(th:Ends->St->XK):Prop:=
 ∀(s:Os) (σ:St) (H:Hp) (D:Ends) (e C:Py) (dx:UF) (T:Py),Inv X [] σ H s->H e=some (AZ e C dx)->s.heap.om e (some T)->H T=none->ki X T->th D σ (.ref C) dx H->
  wpAny 0e8 X.A (handleBy (.ref e) X.env hs) (SP X [] D) X.xe s
def R'(L:Lets X ER):PH X [] (λ_=>ER):=by
 intro s σ H D e C dx T I he fl hT nT hE;refine wpAny_handleBy_nil ?_;obtain⟨oe,vs,h1,h2,h3⟩:=id fl.ex;unfold PySem.passOn;refine wpAny_bind (wpAny_field h1 h2 h3 ?_);rw[if_neg 2e0];have ht:∀T',some T=some T'->H T'=none/\ki X T':=λT' z=>by cases z;exact⟨hT,nT⟩
 refine wpAny_bind (iV fl λh' a m=>wpAny_throw (L _ _ ⟨e,C,dx,σ,H,some T,rfl,I.moved he ht (m.mono λ_ z=>absurd z 2e0),he,a,ht,hE⟩))
def W5(K:Uu)(PC:Py)(i:Nat)(ts:TS)(tr:Ends->St->XK):Ends->St->XK:=λD σ cv dx H=>
 ∃C HE f b,cv= .ref C/\PySem.W.fR K C HE f/\PySem.W.mroIn K C (.ref PC)=some b/\
  if b=true then∀e,H e=some (AZ e C dx)->ts { D with nx:=fun σ1 H1=>D.nx (σ1.set i none) H1,bk:=fun σ1 H1=>D.bk (σ1.set i none) H1,ct:=fun σ1 H1=>D.ct (σ1.set i none) H1 } (σ.set i (some (.ref e))) H else tr D σ cv dx H
def name_goes{i:Nat}{n:Str}{pos:Pos}{Q:ZB}{A:Pn}{E:XV}(I:0e5)(hN:X.N.Nodup)(hi:X.N[i]? =some n)(hl:X.env.scope.names.lookup n=some .local)
  (k:∀s',Inv X pins (σ.set i none) H s'->Q () s'):wpAny 0e8 A (do bindName X.env n .none;unbindBehindTheSuite X.env n pos) Q E s:=by
 have Q1:(X.env.scope.kind== .class||(X.env.scope.kind== .module&&X.env.locals != X.env.globals))=false:=by rw[I.ok.kind];rfl
 refine wpAny_bind (wpAny_bindName (store_ok I hN hi (.inl hl) (v:= .cF) rfl (λs1 J=>?_) (.inr hl)));have hii:i<σ.length:=by rw[I.len];exact(List.getElem?_eq_some_iff.mp hi).1
 obtain⟨m,hn,U8⟩:=id J.loc;obtain⟨u,_,lk⟩:=U8 i n .cF hi (by rw[List.getElem?_set_self hii]) (.inl hl)
 have hmn:(m n).isSome=true:=by
  rcases lk with ⟨_,z⟩ | ⟨z,_⟩
  ·rw[z];rfl
  ·rcases z with z|z
   ·have:X.env.scope.names.lookup n=some .cell:=z;rw[hl] at this;cases this
   ·have:X.env.scope.names.lookup n=some .free:=z;rw[hl] at this;cases this
 unfold unbindBehindTheSuite;refine wpAny_onRaise ?_;unfold unbindName;refine wpAny_bind (wpAny_point (wpAny_bind ?_));unfold deleteName;have kl:X.env.kindOf n=some .local:=hl;simp only [kl,Q1];rw[if_neg 0e2];refine wpAny_bind (wpAny_nsDel_keeps hn λh2 v2 C6 sb=>?_);rw[hmn];refine wpAny_pure (wpAny_point (k _ ?_));obtain⟨oL,_,_,U3,_⟩:=id hn;have lo:∀b o,X.s₀.heap.get? b=some o->b≠X.env.locals:=λb o q=>ne_of_lt (lt_of_lt_of_le (Heap.lt_size q) J.ok.above);refine⟨J.ok,J.os,J.bare,⟨λb o e nn hb hx=>(sb.2 b (lo b o e)).trans (J.base.keep b o e nn hb hx),λb o e nn hb hx=>?_,J.base.free,λb o e hx=>?_,J.base.nY,J.base.nZ,J.base.n4⟩,⟨_,C6,λj y v' e1 e2 e3=>?_⟩,λy c e=>?_,J.free,J.gC,λp hp=>?_,λb ob e=>?_,by simpa using I.len⟩
 ·obtain⟨sl,e1⟩:=J.base.slot b o e nn hb hx;exact⟨sl,(sb.2 b (lo b o e)).trans e1⟩
 ·obtain⟨o',e1⟩:=J.base.there b o e hx;exact⟨o',(sb.2 b (lo b o e)).trans e1⟩
 ·by_cases hj:j=i
  ·subst hj;rw[List.getElem?_set_self hii] at e2;cases e2
  ·rw[getElem?_set_ne (Ne.symm hj)] at e2;obtain⟨u',r',q⟩:=U8 j y v' e1 (by rw[getElem?_set_ne (Ne.symm hj)];exact e2) e3;refine⟨u',r',?_⟩;rcases q with ⟨k,e⟩ | ⟨k,c,e,z⟩
   ·refine .inl ⟨k,?_⟩;have:y≠n:=λe=>hj (qJ hN e1 (e▸hi));simp [this,e]
   ·exact .inr ⟨k,c,e,z.sameBut sb (J.LS y c e)⟩
 ·obtain⟨w',z⟩:=J.cell y c e;exact⟨w',z.sameBut sb (J.LS y c e)⟩
 ·obtain⟨e,nn,ne,nf,d⟩:=J.pin p hp;exact⟨(sb.2 p.1 ne).trans e,nn,ne,nf,d⟩
 ·refine(J.aX b ob e).qI (λc w' hc q=>(sb.2 c ?_).trans q) (λ_ q=>q) λ_ _ q=>q;rintro rfl;rcases hc with rfl|hc
  ·rw[J.free] at e;cases e
  ·rw[J.free] at hc;cases hc
def W8{x n:Str}{np pos:Pos}{b0:Stmt}{zB:List Stmt}{rest:List ExceptHandler}{PC:Py}{i:Nat}{ts:TS}{tr:Ends->St->XK}(hg:Gl X x)(hm:X.mg x=some (.ref PC))(Y:PySem.W.MF X.K PC)(hN:X.N.Nodup)(hi:X.N[i]? =some n)
  (hl:X.env.scope.names.lookup n=some .local) (hsu:∀e,mz (X.mark e) (b0::zB) ts) (hr:PH X rest tr) (hd:(x==("__debug__" :Str))=false:=by decide):
  PH X (.ExceptHandler (some (.Name x np)) (some n) (b0::zB) pos::rest) (W5 X.K PC i ts tr):=by
 intro s σ H D e C dx T I he fl hT nT hE;obtain⟨C',HE,f,b,ec,Z,mb,hE⟩:=hE;cases ec;obtain⟨o,vs,o1,o2,o3,o4⟩:=wZ I.aX he;have ht:∀T',some T=some T'->H T'=none/\ki X T':=λT' z=>by cases z;exact⟨hT,nT⟩
 refine wpAny_handleBy_cons (codeAny_handlers_test (i7 (X:=X.mark e) (I.mark e) hg hm (PySem.W.BG I.i6 Z Y o1 o2 mb ?_) hd)) 0e7
 cases b with
 |false=>exact hr s σ H D e C dx T I he fl hT nT hE
 |true=>
  have hE:=hE e he;refine codeAny_handlers_suite_as (iV fl λh1 a m=>?_);have I1:=I.moved he ht (m.mono λ_ z=>absurd z 2e0);refine store_ok I1 hN hi (.inl hl) (v:= .ref e) rfl (λs2 I2=>?_) (.inr hl);refine wpAny_mono (hsu e [] s2 _ H _ (I2.mark e) hE) (λf s3 q=>?_) λ_ _ z=>False.elim z
  cases f with
  |next=>
   obtain⟨σ',H',I3,q⟩:=q;exact name_goes (I3.unmark I.ok) hN hi hl λs4 I4=>⟨_,H',I4,q⟩
  |brk=>
   obtain⟨σ',H',I3,q⟩:=q;exact name_goes (I3.unmark I.ok) hN hi hl λs4 I4=>⟨_,H',I4,q⟩
  |cont=>
   obtain⟨σ',H',I3,q⟩:=q;exact name_goes (I3.unmark I.ok) hN hi hl λs4 I4=>⟨_,H',I4,q⟩
  |ret u=>
   obtain⟨v,σ',H',I3,r,q⟩:=q;exact name_goes (I3.unmark I.ok) hN hi hl λs4 I4=>⟨v,_,H',I4,r,q⟩
def W'(tb:(St->XK)->TS)(th:Ends->St->XK):TS:=λD σ H=>tb (th D) D σ H
def MI{body:List Stmt}{h0:ExceptHandler}{hs:List ExceptHandler}{pos:Pos}{tb:(St->XK)->TS}{th:Ends->St->XK}(fm:MA X)(hb:∀pn ER',mz ((X.pinned pn).j2 (mQ (X.pinned pn) ER')) body (tb ER'))(hh:∀pn,PH (X.pinned pn) (h0::hs) th):
  PS X (.Try body (h0::hs) [] [] pos) (W' tb th):=by
 intro pins s σ H D I h;have fin:∀{f s1},SP (X.pinned pins) [] D f s1->SP X pins D f s1:=λq=>q.gb;refine wpAny_Try_except (wpAny_mono (hb pins (th D) [] s σ H D (I.toPn.j2 _) h) (λf s1 q=>?_) λv s1 z=>?_)
 ·have q:=fin q.d6
  cases f with
  |next=>exact wpAny_execs_nil q
  |brk=>exact q
  |cont=>exact q
  |ret u=>exact q
 ·obtain⟨e,C,dx,σ1,H1,tb,ev,I1,he,fl,ht,hE⟩:=z;subst ev;have fm':MA (X.pinned pins):=fm;obtain⟨fr,ff⟩:=oo fm' I1;refine wX fr ff fm'.2 fl λh2 T a b m=>?_;have m1:Heap.Moved (yE (X.pinned pins).stack) e tb s1.heap h2:=by unfold yE;rw[fm'.1];exact m
  have I2:=I1.moved he ht m1;have t1:=BE I1 ht b;refine iV (s:={ s1 with heap:=h2 }) a λh3 a3 m3=>?_;have I3:=I2.moved he t1 (m3.mono λ_ z=>absurd z 2e0);exact b9 (hh pins _ σ1 H1 D e C dx T I3 he a3 (t1 T rfl).1 (t1 T rfl).2 hE) λf s4 q=>fin q
end
end L2
namespace L2
open PySem PySem.Spec PyProof.Rows
def U'(a:Py)(o:Obj)(kvs:PP):It:=
 ⟨λi H=>H a=some (.eI o 2e2)/\i<kvs.length,λi H x H'=>∃p k v,kvs[i]? =some (k,v)/\H p=none/\H'=upd H p (.tup [kV k,v])/\x= .ref p,λi H=>H a=some (.eI o 2e2)/\kvs.length<=i⟩
def Fv:entryFor table "dict_itemiterator.__iter__" =some Builtin.«dict_keyiterator.__iter__» :=entryFor_alias (id':="dict_keyiterator.__iter__") (by kernel_rfl) rfl 0e4 (by kernel_rfl)
def Iw{prog:Op}{w:World}{A:Pn}{E:XV}{s:Os}{it:Py}{Q:XV}(ht:s.TypeIs (.ref it) "dict_itemiterator")(h:Q (.ref it) s):wpAny 1e9 A (pyIter (.ref it)) Q E s:=by
 refine wpAny_pyIter_slot ht PySem.F.slot_dict_itemiterator_iter (wpAny_call_entry PySem.F.slot_dict_itemiterator_iter ht Fv ?_ (PySem.F.args_dict_itemiterator_iter_1 _));exact wpAny_pure ⟨_,rfl,"dict_itemiterator",_,ht,PySem.F.slot_dict_itemiterator_next.lookup,h⟩
def BH{P:Op}{w:World}{K:Uu}{elts:IN}{x1}{mE:Pos}(a it:Py)(o:Obj)(kvs:PP){es:Array DictEntry}{ep:Nat}(hd:o.data= .dict es ep):
  Turn P w K (.Tuple elts x1 mE) (U' a o kvs) [it] it (λi h=>∃ok ov,IsItemIter h it a i kvs.length ep ok ov) where
 mem:=by simp
 obj:=λi h st b hb=>by
  have e:b=it:=by simpa using hb
  subst e;obtain⟨ok,ov,q⟩:=st;exact⟨_,q,λv z=>by cases z⟩
 keep:=λi h h' st k=>let ⟨ok,ov,q⟩:=st;⟨ok,ov,k it 2e0 _ q⟩
 item:=by
  intro X hP hw hK hc i pins s σ H E I hf st hg;subst hP hw hK;obtain⟨hz,hi⟩:=hg;obtain⟨ok,ov,st⟩:=st;obtain⟨vs,rel,dd,hs⟩:=wI I.aX hz hd;obtain⟨k,v,pO⟩:∃k v,kvs[i]? =some (k,v):=⟨kvs[i].1,kvs[i].2,by simp [hi]⟩;obtain⟨u,hu,ru⟩:=rel.get pO;rw[rel.length] at st;refine wpAny_pyNext_items_item st dd hu λkey h' hk a1 a2 a3 a4=>⟨_,rfl,?_⟩;refine wpAny_letOwnedTupleGo_items (s:={ s with heap:=h' }) a1 λMq b1 b2=>?_;have up:∀c q,c≠it->h'.get? c=some q->Mq.get? c=some q:=λc q n z=>b2.extBut _ _ n z;have ne:s.heap.objs.size≠it:=ne_of_gt (Heap.lt_size st);have gy:=up _ _ ne a2
  have I1:Inv X pins σ (upd H s.heap.objs.size (.tup [kV k,v])) { s with heap:=Mq,toks:=s.toks }:=by
   refine I.wQ (ch:=[it]) (λb q hb z=>?_) hf (le_refl _) ⟨by show 2<=sizeLine;decide,[key,u], .cons (wH hk) (.cons ru .nil),⟨_,gy,rfl,_,rfl⟩⟩;have hb:b≠it:=by simpa using hb
   exact up _ _ hb (a4 b q hb z)
  refine⟨.ref s.heap.objs.size,_,I1,U,⟨_,k,v,pO,I.aX.fresh (le_refl _),U,U⟩,⟨key,u,?_⟩,λb hb=>?_⟩
  ·rw[rel.length];exact b1
  ·have e:b=it:=by simpa using hb
   rw[ah (by rw[e];exact Ne.symm ne)];exact(hf b hb).1
 done:=by
  intro X hP hw hK hc i pins s σ H E I hf st hg;subst hP hw hK;obtain⟨hz,hi⟩:=hg;obtain⟨ok,ov,st⟩:=st;obtain⟨vs,rel,dd,hs⟩:=wI I.aX hz hd;rw[rel.length] at st hi;refine wpAny_pyNext_items_end (I.ok.hd hc) st dd (List.getElem?_eq_none hi) λh' eb=>⟨rfl,I.wR (t':=s.toks) (ch:=[it]) (λb q hb z=>?_) hf⟩;exact eb b q (by simpa using hb) z
 self:=λ_ _ _ _ _ st h=>by
  obtain⟨ok,ov,st⟩:=st;exact Iw ⟨_,st,rfl⟩ h
section
variable {X:Cx}{tg:Expr}
inductive MJ(X:Cx)(R:It->Hp->Prop)(x:V)(H1:Hp):Prop
 |mk (a kvs:_) (bM:x= .ref a) (bV:H1 a=some (.dK kvs)) (b8:∀o,NF X a->R (U' a o kvs) (upd H1 a (.eI o 2e2)))
def Sa(X:Cx)(td:TE):TI:=fun σ H R=>td σ H (MJ X R)
def zC{elts:IN}{x1}{mE:Pos}{l:Expr}{tl:TE}{apos pos:Pos}(hl:PE X l tl)(hb:attributeBase l "items" X.env (eval l X.env)=eval l X.env:=by rfl)(HA:(apos.endLine==pos.line)=true:=by rfl):
  PI X (.Tuple elts x1 mE) (.Call (.Attribute l "items" apos) [] [] pos) (Sa X tl):=by
 intro pins s σ H R I h;refine wpAny_Call_method (T:="dict") (id:="dict.items") hb rfl HA PySem.F.plainAttrs_dict PySem.F.slot_dict_items PySem.F.type_dict_items (b9 (hl pins s σ H _ I h) λv s1 ⟨x,H1,I1,r1,q1⟩=>?_);obtain⟨a,kvs,e,hk,q⟩:=q1;subst e;cases r1;obtain⟨o,ho,I2⟩:=I1.freeze hk;obtain⟨z,hs,vs,rel,dd⟩:=qX I1.aX hk;obtain⟨ep,da⟩:=id dd.dictAt;obtain⟨o',es,yF,ex,hd,hr⟩:=id da;rw[ho] at yF;cases yF;refine⟨dd.typeIs,dd.mapOf.noDict,method_meetsIn PySem.F.slot_dict_items PySem.F.entry_dict_items rfl (PySem.evalArgs_none ⟨U,dd.typeIs,PySem.F.args_dict_items_1 _,_,meets_dict_items _ a hs,⟨vs,dd⟩,?_⟩)⟩;have kv:∀b q,s1.heap.get? b=some q->(s1.heap.push { cls:= .type "dict_items",data:= .fields #[.ref a] }).get? b=some q:=λb q e=>Heap.get?_push_of_some _ e;have da2:(s1.heap.push { cls:= .type "dict_items",data:= .fields #[.ref a] }).DictAt (bE X.prog X.w) a vs ep:=⟨o,es,kv _ _ ho,ex,hd,hr⟩;refine wpAny_pyIter_items (s:={ s1 with heap:=s1.heap.push { cls:= .type "dict_items",data:= .fields #[.ref a] } }) ⟨_,Heap.get?_push_size _ rfl,rfl,rfl⟩ da2 ?_;have I3:=I2.kept (t':=s1.toks) kv;refine⟨(s1.heap.push { cls:= .type "dict_items",data:= .fields #[.ref a] }).objs.size,[(s1.heap.push { cls:= .type "dict_items",data:= .fields #[.ref a] }).objs.size],_,_,_,U,I3.kept (t':=s1.toks) λb o e=>Heap.get?_push_of_some _ e,BH a _ o kvs hd,?_,λb hb=>?_,q o (I1.nf hk)⟩
 ·rw[rel.length];exact⟨_,_,Heap.get?_push_size _ rfl⟩
 ·have e:b=(s1.heap.push { cls:= .type "dict_items",data:= .fields #[.ref a] }).objs.size:=by simpa using hb
  subst e;exact I3.wD (le_refl _) (I3.aX.fresh (le_refl _))
end
section
variable {K:Uu}{g:TG}{tt:TT}{te:TE}
def Fw{J:It}{L:Py}{Q:Hp->Prop}{σ:St}{H:Hp}(n:Nat)(H0:Hp)(S:St->Prop)(Pv:Nat->List V->Hp->Prop)(RN:∀i H',i<n->au H0 H'->J.go i H')(rq:∀H',au H0 H'->J.stop n H')(Ia:∀i ys H H',RO L H H'->Pv i ys H->Pv i ys H')
  (HW:H0 L=none) (hσ:S σ) (h0:au H0 H) (hL:H L=some (.lst [])) (p0:Pv 0 [] H) (hz:n<=sizeLine) (hl:∀i ys H,Pv i ys H->ys.length<=i)
  (turn:∀i σ H' ys,i<n->S σ->au H0 H'->H' L=some (.lst ys)->Pv i ys H'->∀(N:St->V->Hp->Prop) (M:St->Hp->Prop),(∀σ3 y H5,S σ3->au H0 H5->H5 L=some (.lst ys)->Pv (i+1) (ys++[y]) H5->N σ3 y H5)->(∀σ3 H4,S σ3->au H0 H4->H4 L=some (.lst ys)->Pv (i+1) ys H4->M σ3 H4)->
   ∀x H2,J.pY i H' x H2->g x σ H2 fun σ3 H3=>tt σ3 H3 λb H4=>if b=true then te σ3 H4 λy H5=>N σ3 y H5 else M σ3 H4)
  (fin:∀H' ys,au H0 H'->H' L=some (.lst ys)->Pv n ys H'->Q H'):
  ∃W:Nat->Nat->St->Hp->Prop,(∃m,W 0 m σ H)/\∀i m σ H,W i m σ H->(J.stop i H/\Q H)\/(J.go i H/\∀x H2,J.pY i H x H2->g x σ H2 fun σ3 H3=>tt σ3 H3 λb H4=>if b=true
   then te σ3 H4 λy H5=>∃ys,H5 L=some (.lst ys)/\ys.length<sizeLine/\∃m',m'<m/\W (i+1) m' σ3 (upd H5 L (.lst (ys++[y])))
   else∃m',m'<m/\W (i+1) m' σ3 H4):=by
 refine⟨λi m σ H=>m+i=n/\S σ/\au H0 H/\∃ys,H L=some (.lst ys)/\Pv i ys H,⟨n,U,hσ,h0,[],hL,p0⟩,?_⟩;rintro i m σ H ⟨hm,hs,fg,ys,Fl,hp⟩;by_cases hi:i<n
 ·refine .inr ⟨RN i H hi fg,λx H2 hy=>turn i σ H ys hi hs fg Fl hp _ _ (fun σ3 y H5 k1 k2 k3 k4=>?_) (fun σ3 H4 k1 k2 k3 k4=>?_) x H2 hy⟩
  ·refine⟨ys,k3,by have:=hl i ys H hp;omega,m - 1,by omega,by omega,k1,λb o e=>?_,ys++[y],ag,Ia _ _ _ _ RO.upd k4⟩;rw[ah (af e HW)];exact k2 b o e
  ·exact⟨m - 1,by omega,by omega,k1,k2,ys,k3,k4⟩
 ·have e:i=n:=by omega
  subst e;exact .inl ⟨rq H fg,fin H ys fg Fl hp⟩
def items_go{a:Py}{ob:Obj}{kvs:PP}{H0:Hp}(ha:H0 a=some (.eI ob 2e2)):∀i H',i<kvs.length->au H0 H'->(U' a ob kvs).go i H':=λ_ _ hi e=>⟨e _ _ ha,hi⟩
def rE{a:Py}{ob:Obj}{kvs:PP}{H0:Hp}(ha:H0 a=some (.eI ob 2e2)):∀H',au H0 H'->(U' a ob kvs).stop kvs.length H':=λ_ e=>⟨e _ _ ha,le_refl _⟩
end
end L2
namespace L2
open PySem PySem.Spec PyProof.Rows PySem.W
section
variable {X:Cx}
theorem vk{P:Op}{w:World}:∀{us:UV} {ks:No},us.length=ks.length->(∀(j:Nat) (k:Key) (u:Ps),ks[j]? =some k->us[j]? =some u->(bE P w).is k u=true)->Vals (ks.map kV) us
 | [],[],_,_=> .nil
 | [],_::_,h,_=>by simp at h
 |_::_,[],h,_=>by simp at h
 |u::us,k::ks,h,q=> .cons (wH (q 0 k u rfl rfl)) (vk (by simpa using h) λj k' u' h1 h2=>q (j+1) k' u' (by simpa using h1) (by simpa using h2))
inductive pP(xs:List V)(H:Hp)(Q:VK):Prop
 |mk (p kvs:_) (bM:xs=[.ref p]) (bV:Rd H p (.dK kvs)) (b8:∀l,H l=none->Q (.ref l) (upd H l (.lst (kvs.map λq=>kV q.1))))
def kj(hc:X.calm=true):gc X (.type "list") (pP):=by
 intro pins s σ H xs us Q I r h;obtain⟨p,kvs,rfl,hk,q⟩:=h;obtain⟨u,rfl,ru⟩:=vals1 r;cases ru;obtain⟨z,lo,vs,rel,dd⟩:=jR I.aX hk;obtain⟨ep,da⟩:=dd.dictAt;have hz:vs.length<=sizeLine:=by rw[<-rel.length];exact z
 refine kdl_call (kdl_dict (knd:=bE X.prog X.w) (kvs:=vs) (ep:=ep) lo) (I.ok.hd hc) da hz λh' tk xs c kp at' its=>?_;have jg:kvs.map 1e4=vs.map 1e4:=rel.keys;refine⟨.ref s.heap.objs.size,_,I.laid (t':=tk) (o:= .lst (kvs.map λq=>kV q.1)) kp (le_refl _) ⟨by rw[length_map];exact z,xs.toList,c,?_,at'⟩,U,q _ (I.aX.fresh (le_refl _))⟩;have e1:(kvs.map λq=>kV q.1)=(vs.map 1e4).map kV:=by rw[<-jg,map_map];rfl
 rw[e1];refine vk (P:=X.prog) (w:=X.w) (by rw[Array.length_toList,its.1,length_map]) λj k u h1 h2=>?_;obtain⟨k',x,h3,h4⟩:=its.2 j u (by simpa using h2);rw[getElem?_map,h3] at h1;cases h1;exact h4
end
end L2
namespace L2
open PySem PySem.Spec PyProof.Rows
section
variable {P:Op}{w:World}{K:Uu}{mg:Wp}{base:Heap}
inductive Iy(K:1e8)(C:Addr)(q:Str)(st:Stmt)(ps:List Str):Prop
 |mk (f fd dV:_) (bM:HM K "__init__" q st f fd dV) (bV:Mk K C f) (b8:Binds K fd ps []) (cS:Binds K fd ps [.none])
structure CalN(P:Program)(w:World)(K:1e8)(mg:2e1)(base:Heap)(CX:C8)(k:Nat)(C:Addr)(ps:List Str)(sp:Sp)(f:Addr)(fd:FuncData):Prop where
 ok:fO P w K mg base CX k f fd ps sp
 m:Mk K C f
 b0:Binds K fd ps []
 b1:Binds K fd ps [.none]
inductive Iz(P:Program)(w:World)(K:1e8)(mg:2e1)(base:Heap)(CX:C8)(k:Nat)(C:Addr)(ps:List Str)(sp:Sp):Prop
 |mk (f fd:_) (bM:CalN P w K mg base CX k C ps sp f fd)
def Iy.dk{C:Py}{q:Str}{st:Stmt}{N ps:On}{k:Nat}{sp:Sp}(D:Iy K C q st ps)(S:ay N ps (ao st))(len:∀vs H Q E,sp vs H Q E->vs.length=ps.length)
  (eB:∀(f:Py) (bg:Ps) (A:Pn) (outer:List Env) (s:Os) (H:Hp) (vs:KB) (Q:VK) (E:XK),cU k (A.deeper (envOfC q (ao st) s.heap.objs.size f bg))->sp vs H Q E->
   ∃t,mz (jc q5 P w K mg base N q (ao st) f bg A outer s H E).Hi (b5 st) t/\t { nx:=λ_ H'=>Q .cF H',rt:=Q } (start N vs) H):Iz P w K mg base q5 (k+1) C ps sp:=by
 obtain⟨f,fd,dV,F,g,b0,b1⟩:=D;exact⟨f,fd,F.ok S len (eB f),g,b0,b1⟩
end
end L2
namespace PySem.W
open PySem PySem.Spec PySem.Calls PyProof.Rows
section
variable {prog:Op}{w:World}{A:Pn}{E:XV}{s:Os}{K:Frag}{e C HE f:Py}{ox:Obj}{od:Option Obj}
def zD{name:Str}{a g:Ps}(hc:(clsIn K C).isSome=true)(ha:findIn K (.ref C) name=some (some a))(hg:specialIn K a "__get__" =some (some g))(ht:takesIn K a=some true):findObj K C od name=some (.bind g a):=by
 obtain⟨cd,hc⟩:=isSome_iff_exists.mp hc;unfold findObj;rw[hc,bind_some,ha,bind_some];simp [hg,ht]
def IA{Q:Option Value->Shared->Prop}(X:K.In s.heap)(Z:fR K C HE f)(I:InstAt s.heap e ox C od)(hf:findObj K C od "__class__" =some (.bind (.builtin "getset_descriptor.__get__") (.builtin "object.__class__")))
  (h:Q (some (.ref C)) { s with toks:=s.toks+1 }):wpAny 1e9 A (getAttr? (.ref e) "__class__") Q E s:=by
 have T0:=I.type (M:=model prog w);have SG:=PySem.F.attr_ValueError.ga;unfold getAttr? getAttrBy? getAttrBy;refine wpAny_bind (wpAny_mkText (wpAny_bind (wpAny_attempt (wpAny_holding (wpAny_bind (T0 _ _ _ _ (λ_ _ y=>y) (wpAny_bind (looks_findIn X Z.ga _ _ _ _ (λ_ _ y=>y) ?_))))))));dsimp only;rw[show (onTheHeap (Value.ref C)&&Value.builtin "BaseException.__getattribute__" ==Value.builtin "object.__getattribute__")=false from by rw[show (Value.builtin "BaseException.__getattribute__" ==Value.builtin "object.__getattribute__")=false from by decide+kernel,Bool.and_false],if_neg 0e2];refine wpAny_bind (looks_hook X (show (if onTheHeap (Value.ref C) then findIn K (.ref C) "__getattr__" else some none)=some none from Z.gh) _ _ _ _ (λ_ _ y=>y) (wpAny_bind (wpAny_attempt (wpAny_holding ?_))));unfold callGetattribute;rw[show (false&&onTheHeap (Value.builtin "BaseException.__getattribute__"))=false from rfl,if_neg 0e2];unfold boundAndCalled;rw[SG.bind];refine wpAny_bind (wpAny_pure ?_);show wpAny _ _ (call (.builtin "BaseException.__getattribute__") [.ref e, .str "__class__" s.toks]) _ _ _;refine wpAny_call (codeAny_call_builtin SG.plain PySem.F.entry_bexc_ga ?_);refine @check_slot 1e9 _ _ { s with toks:=s.toks+1 } "BaseException.__getattribute__" "BaseException" "__getattribute__" (.ref e) [.str "__class__" s.toks] [] _ 0e4 0e4 (T0.andThen (looks_mroIn X (Z.mro 0e4))) (PySem.F.args_bexc_ga _ _) ?_;have l1:=looks_find (M:=model prog w) X I hf;unfold Builtin.«object.__getattribute__»;refine wpAny_bind (wpAny_of_eq (a:=(Value.ref e,[Value.str "__class__" s.toks])) rfl ?_);refine wpAny_bind (wpAny_pure (a:=("__class__" :Str)) (wpAny_bind (T0 _ _ _ _ (λ_ _ y=>y) (wpAny_bind (l1 _ _ _ _ (λ_ _ y=>y) ?_)))));show wpAny _ _ (holding [Value.builtin "object.__class__"] (call (.builtin "getset_descriptor.__get__") [.builtin "object.__class__", .ref e, .ref C]) >>= ret) _ _ _;refine wpAny_bind (wpAny_holding (wpAny_call (class_get (s:={ s with toks:=s.toks+1 }) (ox:=ox) (od:=od) X I (Z.mro 0e4) ?_)));refine wpAny_pure ?_;show wpAny _ _ (handedOut (Value.ref C)) _ _ _;rw[handedOut_of rfl];exact wpAny_pure (wpAny_pure h)
def IB(Z:fR K C HE f)(ha:findIn K (.ref C) "__class__" =some (some (.builtin "object.__class__")))(hn:specialIn K (.builtin "object.__class__") "__get__" =some (some (.builtin "getset_descriptor.__get__")))(uU:takesIn K (.builtin "object.__class__")=some true):
  KitX K (.ref e) (.ref C) (λh=>InstAt h e ox C od) where
 ty:=λ_ _ _ I=>I.type
 it:=λ_ _ X _=>by
  obtain⟨cdD,LZ,_⟩:=Z.cd;unfold clsIn at LZ;split at LZ
  ·rename_i c' d' cd' Q0 ho
   intro A' Q' E' s' k q;unfold isType loadHead;exact wpAny_bind (wpAny_loadPart (k _ _ (X _ _ ho)) (wpAny_pure q))
  ·cases LZ
 ne:=λh tp dd its n sl X MK=>by
  obtain⟨cdD,LZ,_⟩:=Z.cd;refine Bool.eq_false_iff.mpr λq=>?_;have e:C=tp:=Value.ref.inj (beq_iff_eq.mp q);subst e;unfold clsIn at LZ;split at LZ
  ·rename_i c' d' cd' Q0 ho
   have z:=(X _ _ ho).symm.trans MK;cases z
  ·cases LZ
 ca:=λX I k=>IA X Z I (zD (by obtain⟨cd,hc,_⟩:=Z.cd;rw[hc];rfl) ha hn uU) k
end
end PySem.W
namespace L2
open PySem PySem.Spec PyProof.Rows
variable [l8]
def Xa(H:Hp)(e C:Py):Prop:=H e=some (AZ e C none)\/∃dx fs,H e=some (AZ e C (some dx))/\H dx=some (AY dx fs)
structure XIs(K:1e8)(C:Addr):Prop where
 cls:PySem.W.findIn K (.ref C) "__class__" =some (some (.builtin "object.__class__"))
 get:PySem.W.specialIn K (.builtin "object.__class__") "__get__" =some (some (.builtin "getset_descriptor.__get__"))
 takes:PySem.W.takesIn K (.builtin "object.__class__")=some true
inductive uf(K:1e8)(xs:List V)(H:Hp)(Q:VK):Prop
 |mk (e c cv C HE f b:_) (bM:xs=[.ref e,c]) (bV:Mg c=some cv) (b8:PySem.W.fR K C HE f) (cS:XIs K C) (eK:Xa H e C) (gS:kitOne K (.ref C) cv=some b) (lR:Q (.bl b) H)
def xc{X:Cx}:gc X (.builtin "isinstance") (uf X.K):=by
 intro pins s σ H xs us Q I r h;obtain⟨e,c,cv,C,HE,f,b,rfl,hc,Z,Y,hE,ek,q⟩:=h;obtain⟨u,v,rfl,ru,rv⟩:=vals2 r
 have hv:v=cv:=by
  cases c<;>simp only [Mg,Option.some.injEq,reduceCtorEq] at hc
  ·cases (show v=Value.ref _ from rv);exact hc
  ·cases (show v=Value.type _ from rv);exact hc
 subst hv;cases (show u=Value.ref e from ru)
 have J:∃ob od,PySem.W.InstAt s.heap e ob C od:=by
  rcases hE with hx| ⟨dx,fs,hx,hd⟩
  ·obtain⟨ob,vs,h1,h2,h3,h4⟩:=wZ I.aX hx;exact⟨ob,none,h1,h2,by unfold PySem.W.notCls;rw[h4],by rw[h3];trivial⟩
  ·obtain⟨ob,vs,h1,h2,h3,h4⟩:=wZ I.aX hx;obtain⟨mA,n1,r1,w1⟩:=BC I.aX hd;obtain⟨od,ho,hl⟩:=n9 n1;exact⟨ob,some od,h1,h2,by unfold PySem.W.notCls;rw[h4],by rw[h3];exact ho⟩
 obtain⟨ob,od,J⟩:=J;exact PySem.W.kia_one (PySem.W.IB Z Y.cls Y.get Y.takes) I.i6 J ek (λz=>nomatch z) λtk=>⟨.bl b,H,I.tok tk,rfl,q⟩
end L2
namespace LD
open PySem PySem.Spec PySem.Builtin PySem.Builtin.Str
end LD
namespace L2
open PySem PySem.Spec PyProof.Rows
section
variable {X:Cx}
inductive Sb(x:V)(y:V)(H:Hp)(Q:VK):Prop
 |mk (z:Str) (b:Bool) (bM:x= .str z) (bV:y= .int (if b=true then 1 else 0)) (b8:Q (.str (if b=true then z else Str.empty)) H)
def Xb:R2:=Sb
def ML:mC X (binaryOp .Mult) Xb:=by
 intro pins s σ H x y v u Q I rx ry h;obtain⟨z,b,rfl,rfl,q⟩:=h;obtain⟨t,e⟩:=(show∃t,v=Value.str z t from rx);subst e;obtain⟨t2,e⟩:=(show∃t,u=Value.int _ t from ry);subst e
 cases b with
 |false=>exact PySem.P.mul_str_none 0e2 0e2 ⟨.str Str.empty,H,I.tok _,⟨_,rfl⟩,q⟩
 |true=>
  refine PySem.P.mul_str 0e2 (λ_ z=>by simp at z) (λ_ z=>by simp at z) ?_;exact⟨.str z,H,I,⟨_,U⟩,q⟩
end
variable [l8]
section
variable {X:Cx}
def Sd(K:Uu)(hK:X.K=K){x n:Str}{np pos:Pos}{b0:Stmt}{zB:List Stmt}{rest:List ExceptHandler}{PC:Py}{i:Nat}{ts:TS}{tr:Ends->St->XK}(hg:Gl X x)(hm:X.mg x=some (.ref PC))(Y:PySem.W.MF K PC)(hN:X.N.Nodup)(hi:X.N[i]? =some n)
  (hl:X.env.scope.names.lookup n=some .local) (hsu:∀e,mz (X.mark e) (b0::zB) ts) (hr:PH X rest tr) (hd:(x==("__debug__" :Str))=false:=by decide):
  PH X (.ExceptHandler (some (.Name x np)) (some n) (b0::zB) pos::rest) (W5 K PC i ts tr):=by
 subst hK;exact W8 hg hm Y hN hi hl hsu hr hd
end
section
variable {P:Op}{w:World}{K:Uu}{mg:Wp}{base:Heap}
structure CalX(P:Program)(w:World)(K:1e8)(mg:2e1)(base:Heap)(k:Nat)(x:Str)(ps:List Str)(sp:Sp)(f:Addr)(fd:FuncData):Prop where
 ok:fO P w K mg base (Dm P w) k f fd ps sp
 kp:keepIn K (.ref f)=true
 b:Binds K fd ps []
 g:mg x=some (.ref f)
inductive IC(P:Program)(w:World)(K:1e8)(mg:2e1)(base:Heap)(k:Nat)(x:Str)(ps:List Str)(sp:Sp):Prop
 |mk (f fd:_) (bM:CalX P w K mg base k x ps sp f fd)
structure Xc(P:Program)(w:World)(K:1e8)(mg:2e1)(base:Heap)(k:Nat)(C:Addr)(m:Str)(ps:List Str)(sp:Sp)(f:Addr)(fd:FuncData):Prop where
 ok:fO P w K mg base (Dm P w) k f fd ps sp
 m:Meth K C m f
 b:Binds K fd ps []
inductive BI(P:Program)(w:World)(K:1e8)(mg:2e1)(base:Heap)(k:Nat)(C:Addr)(m:Str)(ps:List Str)(sp:Sp):Prop
 |mk (f fd:_) (bM:Xc P w K mg base k C m ps sp f fd)
def Def.Se{x q:Str}{st:Stmt}{N ps:On}{k:Nat}{sp:Sp}(D:Def K mg x q st ps)(S:ay N ps (ao st))(len:∀vs H Q E,sp vs H Q E->vs.length=ps.length)
  (eB:∀(f:Py) (bg:Ps) (A:Pn) (outer:List Env) (s:Os) (H:Hp) (vs:KB) (Q:VK) (E:XK),cU k (A.deeper (envOfC q (ao st) s.heap.objs.size f bg))->sp vs H Q E->
   ∃t,mz (PU P w K mg base N q (ao st) f bg A outer s H E) (b5 st) t/\t { nx:=λ_ H'=>Q .cF H',rt:=Q } (start N vs) H):IC P w K mg base (k+1) x ps sp:=by
 obtain⟨f,fd,F,b,g⟩:=D;exact⟨f,fd,F.Dq S len (eB f),F.kp,b,g⟩
def a9.Se{C:Py}{m q:Str}{st:Stmt}{N ps:On}{k:Nat}{sp:Sp}(D:a9 K C m q st ps)(S:ay N ps (ao st))(len:∀vs H Q E,sp vs H Q E->vs.length=ps.length)
  (eB:∀(f:Py) (bg:Ps) (A:Pn) (outer:List Env) (s:Os) (H:Hp) (vs:KB) (Q:VK) (E:XK),cU k (A.deeper (envOfC q (ao st) s.heap.objs.size f bg))->sp vs H Q E->
   ∃t,mz (PU P w K mg base N q (ao st) f bg A outer s H E) (b5 st) t/\t { nx:=λ_ H'=>Q .cF H',rt:=Q } (start N vs) H):BI P w K mg base (k+1) C m ps sp:=by
 obtain⟨f,fd,F,b,g⟩:=D;exact⟨f,fd,F.Dq S len (eB f),g,b⟩
inductive ID(K:1e8)(mg:2e1)(x:Str)(C HE:Addr)(q:Str)(st:Stmt)(ps:List Str):Prop
 |mk (f fd:_) (bM:GR K "__init__" q st f fd) (bV:PySem.W.fR K C HE f) (b8:Binds K fd ps []) (cS:mg x=some (.ref C)) (eK:keepIn K (.ref C)=true)
structure Xd(P:Program)(w:World)(K:1e8)(mg:2e1)(base:Heap)(k:Nat)(x:Str)(C HE:Addr)(ps:List Str)(sp:Sp)(f:Addr)(fd:FuncData):Prop where
 ok:fO P w K mg base q5 k f fd ps sp
 z:PySem.W.fR K C HE f
 b:Binds K fd ps []
 g:mg x=some (.ref C)
 kp:keepIn K (.ref C)=true
inductive BJ(P:Program)(w:World)(K:1e8)(mg:2e1)(base:Heap)(k:Nat)(x:Str)(C HE:Addr)(ps:List Str)(sp:Sp):Prop
 |mk (f fd:_) (bM:Xd P w K mg base k x C HE ps sp f fd)
def ID.dk{x q:Str}{C HE:Py}{st:Stmt}{N ps:On}{k:Nat}{sp:Sp}(D:ID K mg x C HE q st ps)(S:ay N ps (ao st))(len:∀vs H Q E,sp vs H Q E->vs.length=ps.length)
  (eB:∀(f:Py) (bg:Ps) (A:Pn) (outer:List Env) (s:Os) (H:Hp) (vs:KB) (Q:VK) (E:XK),cU k (A.deeper (envOfC q (ao st) s.heap.objs.size f bg))->sp vs H Q E->
   ∃t,mz (jc q5 P w K mg base N q (ao st) f bg A outer s H E).Hi (b5 st) t/\t { nx:=λ_ H'=>Q .cF H',rt:=Q } (start N vs) H):BJ P w K mg base (k+1) x C HE ps sp:=by
 obtain⟨f,fd,F,Z,b,g,kp⟩:=D;exact⟨f,fd,F.ok S len (eB f),Z,b,g,kp⟩
end
end L2
namespace LD
open PySem PySem.Spec PySem.Calls PyProof.Rows
section
variable {prog:Op}{w:World}{A:Pn}{I:Py}{fp wr:Ix}{n:Nat}{P:Nat->Value->Prop}{St:Nat->Heap->Prop}
def Xe(P:Nat->Value->Prop)(bt:Nat->Nat->Bool)(i:Nat)(old:Array Value):Prop:=(i=0/\old=#[])\/∃j vb,i=j+1/\old=#[vb,vb]/\P (argBest bt j) vb
def MM{R:Qp}{d:Ps}{key:Str}(W:Walks prog w A.in1 I fp wr n P St)(bt:Nat->Nat->Bool)(hcmp:CmpOf prog w A.in1 .Lt P bt)(S:Py)(hSf:S∉fp)(k:Nat):
  ∀(i:Nat) (s:Os) (old:Array Value) (c:Nat),i+k=n->St i s.heap->Xe P bt i old->s.heap.get? S=some { cls:= .type "list",dict:=none,data:= .seq old c,slots:=#[] }->
  (∀v h' tk,(n=0/\v=d\/0<n/\P (argBest bt (n - 1)) v)->(∀b o,b∉wr->b≠S->s.heap.get? b=some o->h'.get? b=some o)->R (.ok (.ret v)) { s with heap:=h',toks:=tk })->
  codeAny 1e9 A (.builtin "min.loop" ⟨[.ref I, .none, .ref S],[(key,d)]⟩) R s:=by
 have hSw:S∉wr:=λh=>hSf (W.sub _ h);have nm:(toString "min" ++toString ".loop" :String)="min.loop" :=by decide
 have oth:∀{h:Heap} {f:Obj->Obj} {b:Py} {o:Obj},b≠S->h.get? b=some o->(h.update S f).get? b=some o:=λhb e=>(Heap.get?_update_other _ _ (Ne.symm hb)).trans e
 induction k with
 |zero=>
  intro i s old c hi iu hB hS hR;have PY:i=n:=by omega
  refine codeAny_builtin F.entry_min_loop ?_;rw[Around.under_plainId F.plain_min_loop];refine wpAny_bind (wpAny_seqItems hS rfl (wpAny_bind (wpAny_tryCatch (W.done s _ _ (PY▸iu) λh' tk pQ=>?_))));rcases hB with ⟨rfl,rfl⟩ | ⟨j,vb,rfl,rfl,hP⟩
  ·exact wpAny_bind (wpAny_rule (wpAny_pure (hR d h' tk (.inl ⟨PY.symm,rfl⟩) λb o hb _ e=>pQ b o hb e)))
  ·refine wpAny_bind (wpAny_updateSeq (pQ S _ hSw hS) rfl (wpAny_bind (wpAny_letGo (wpAny_pure ?_))));exact hR vb _ tk (.inr ⟨by omega,by rw[<-PY];exact hP⟩) λb o hb hbS e=>oth hbS (pQ b o hb e)
 |succ k ih=>
  intro i s old c hi iu hB hS hR;have lT:i<n:=by omega
  refine codeAny_builtin F.entry_min_loop ?_;rw[Around.under_plainId F.plain_min_loop];refine wpAny_bind (wpAny_seqItems hS rfl (wpAny_bind (wpAny_tryCatch (W.item i s _ _ lT iu λv h' tk hP hst' pQ=>?_))));have Xf:=pQ S _ hSw hS;have Sf:∀{h2:Heap} {new:Array Value} {c2:Nat},(∀b o,b≠S->h'.get? b=some o->h2.get? b=some o)->Xe P bt (i+1) new->h2.get? S=some { cls:= .type "list",dict:=none,data:= .seq new c2,slots:=#[] }->
    codeAny 1e9 A (.builtin "min.loop" ⟨[.ref I, .none, .ref S],[(key,d)]⟩) R { s with heap:=h2,toks:=tk }:=fun {h2 new c2} k2 b2 s2=>
   ih (i+1) _ new c2 0e1 (W.frame _ _ _ hst' λb hb o e=>k2 b o (λz=>hSf (z▸hb)) e) b2 s2 λv' h3 t3 hP3 hk3=>hR v' h3 t3 hP3 λb o hb hbS e=>hk3 b o hb hbS (k2 b o hbS (pQ b o hb e))
  rcases hB with ⟨rfl,rfl⟩ | ⟨j,vb,rfl,rfl,hPb⟩
  ·show wpAny _ A.in1 (updateSeq S (λ_=>#[v,v]) >>= _) _ _ _;refine wpAny_bind (wpAny_updateSeq Xf rfl ?_);rw[nm];exact wpAny_pure ⟨plainId_quiet F.plain_min_loop _,Sf (λb o hb e=>oth hb e) (.inr ⟨0,v,rfl,rfl,hP⟩) (Heap.get?_update_self _ Xf rfl)⟩
  ·refine wpAny_bind (wpAny_pure ?_);refine wpAny_bind (wpAny_tryCatch (wpAny_holding (wpAny_bind (hcmp (j+1) (argBest bt j) v vb _ _ _ hP hPb (wpAny_bind (wpAny_holding (wpAny_truthy_bool (wpAny_bind (wpAny_letGo (wpAny_pure ?_))))))))))
   cases hb:bt (j+1) (argBest bt j) with
   |true=>
    simp only [if_true];refine wpAny_bind (wpAny_updateSeq Xf rfl (wpAny_bind (wpAny_letGo ?_)));rw[nm];exact wpAny_pure ⟨plainId_quiet F.plain_min_loop _,Sf (λb o zu e=>oth zu e) (.inr ⟨j+1,v,rfl,rfl,by simp only [argBest,hb,if_true];exact hP⟩) (Heap.get?_update_self _ Xf rfl)⟩
   |false=>
    simp only [Bool.false_eq_true,if_false];refine wpAny_bind (wpAny_letGo ?_);rw[nm];exact wpAny_pure ⟨plainId_quiet F.plain_min_loop _,Sf (λb o _ e=>e) (.inr ⟨j+1,vb,rfl,rfl,by simp only [argBest,hb,Bool.false_eq_true,if_false];exact hPb⟩) Xf⟩
end
section
variable {prog:Op}{w:World}{A:Pn}{E:XV}{s:Os}{l:Py}{xs:Array (Int×Tok)}{d:Ps}
def Sg{args:UV}{kw:List (Str×Value)}{Q:XV}(ha:argsOk "min" ⟨args,kw⟩)
  (hc:wpAny 1e9 A.in1 (Builtin.«min» ⟨args,kw⟩) (λfin s'=>match fin with
   | .done f=>(match (Except.ok f:Result) with| .ok (.ret v)=>Q v s'| .ok _=>False| .error e=>E e s')
   | .again c'=>c'.quiet=true/\codeAny 1e9 A c' (λr s'=>match r with| .ok (.ret v)=>Q v s'| .ok _=>False| .error e=>E e s') s') E s):wpAny 1e9 A (call (.builtin "min") args kw) Q E s:=by
 refine wpAny_call (codeAny_call_builtin F.plain_min F.entry_min ?_);rw[checkBuiltinCall,F.kind_min];unfold argsOk at ha
 cases hs:Manifest.signature? "min" with
 |none=>exact wpAny_pure hc
 |some sig=>
  rw[hs] at ha;have ha:Bind.checkArgs "min" sig ⟨args,kw⟩=pure ():=ha;dsimp only;rw[ha];exact wpAny_pure hc
def Fx(a v:Ps):argsOk "min" ⟨[a],[(Str.ofString "default",v)]⟩:=by unfold argsOk;kernel_rfl
def Fy{Q:XV}(hh:A.handled=none)(hl:s.heap.IsList l (intItems xs))
  (h:∀v h' tk,(xs.size=0/\v=d\/0<xs.size/\(intItems xs)[argBest (λi j=>decide (numAt xs i<numAt xs j)) (xs.size - 1)]? =some v)->(∀b o,s.heap.get? b=some o->h'.get? b=some o)->Q v { s with heap:=h',toks:=tk }):
  wpAny 1e9 A (call (.builtin "min") [.ref l] [(Str.ofString "default",d)]) Q E s:=by
 have nm:(toString "min" ++toString ".loop" :String)="min.loop" :=by decide
 refine Sg (Fx _ _) ?_;show wpAny _ A.in1 (Builtin.Builtins.bindParams "min" ["key","default"] 0 ⟨[],[(Str.ofString "default",d)]⟩ >>= _) _ _ s;refine wpAny_bind (wpAny_of_eq (show Builtin.Builtins.bindParams "min" ["key","default"] 0 ⟨[],[(Str.ofString "default",d)]⟩=pure [none,some d] from rfl) (wpAny_bind (wpAny_pure (wpAny_bind (iter_intList hl λs₂ e st hfp hlI=>?_)))));subst e;refine wpAny_bind (wpAny_newObj_type ?_);rw[nm];have W:=Walks.list (prog:=prog) (w:=w) (A:=A.in1) hh s.heap.objs.size l hlI (intItems xs);refine wpAny_pure ⟨plainId_quiet F.plain_min_loop _,MM W (λi j=>decide (numAt xs i<numAt xs j)) (CmpOf.ints_lt (numAt xs) (λ_ _=>intItems_at)) _ (λhm=>lt_irrefl _ (hfp _ hm)) (intItems xs).size 0 _ #[] _ (Nat.zero_add _) (W.frame _ _ _ st λb _ o e=>Heap.get?_push_of_some _ e) (.inl ⟨rfl,rfl⟩) (Heap.get?_push_size _ rfl) λv h' tk hP hk=>?_⟩;refine h v h' tk ?_ (old_kept λb o hb e=>hk b o hb (ne_of_lt (Heap.lt_size e)) (Heap.get?_push_of_some _ e));have ez:(intItems xs).size=xs.size:=by simp [intItems]
 rw[ez] at hP;exact hP
end
end LD
namespace L2
open PySem PySem.Spec PyProof.Rows
section
variable {X:Cx}
inductive Si(K:1e8)(Q:VK)(vs:List V)(H1:Hp):Prop
 |mk (q:_) (ns:List Int) (bM:vs=[.ref q]) (bV:bh K H1 q (ns.map V.int)) (b8:(ns=[]->Q .cF H1)) (cS:∀M,M∈ns->(∀a∈ns,M<=a)->Q (.int M) H1)
def Xg(K:Uu)(t:TA):TE:=fun σ H Q=>t σ H (Si K Q)
def MN{e:Expr}{t:TA}{p pos kp Wb:Pos}{j}(hc:X.calm=true)(hg:Gl X "min")(hm:X.mg "min" =none)(ha:PA X [e] t)
  (he:backTo pos (starEach [e] X.env)=[(false,eval e X.env)]:=by rfl):PE X (.Call (.Name "min" p) [e] [⟨some "default", .Constant .none j Wb,kp⟩] pos) (Xg X.K t):=by
 intro pins s σ H Q I h;refine wpAny_Call_Name_kw (lW I hg hm RQ ?_);refine callWith_kw (b9 (ha pos pins s σ H _ I h) λus s1 ⟨vs,H1,I1,r1,q,ns,ev,hS,q0,q1⟩=>kws_cons (b9 (qK pins s1 σ H1 (λv H'=>v= .cF/\H'=H1) I1 ⟨rfl,rfl⟩) λu s2 ⟨v,H2,I2,r2,ev2,eH⟩=>kws_nil ?_)) (by rw[he];rfl) (by rw[he];rfl);subst ev ev2 eH;cases (show u=Value.none from r2);obtain⟨u1,rfl,ru⟩:=vals1 r1;cases ru;obtain⟨its,rv,pl,hz⟩:=I2.list hS;have hi:IntsAre its ns:=intsAre_of rv;obtain⟨xs,ex⟩:=hi.allInts.items;have t9:ns=xs.toList.map 1e4:=by rw[<-hi.numsOf,<-nums_intItems,<-ex]
 have hl:s2.heap.IsList q (intItems xs):=ex▸pl.isList;refine LD.Fy (I2.ok.hd hc) hl λv h' tk hv hk=>?_;rcases hv with ⟨h0,rfl⟩ | ⟨hp,hv⟩
 ·refine⟨.cF,H2,I2.kept hk,U,q0 ?_⟩;rw[t9,map_eq_nil_iff];exact List.eq_nil_of_length_eq_zero (by rw[Array.length_toList];exact h0)
 ·obtain⟨t,rfl⟩:=intItems_at hv;obtain⟨g1,g2⟩:=argBest_lt (numAt xs) (xs.size - 1);refine⟨.int _,H2,I2.kept hk,⟨t,U⟩,q1 _ ?_ λa ha=>?_⟩
  ·rw[t9,numAt_eq];exact getD_mem (by rw[length_map,Array.length_toList];omega)
  ·rw[t9] at ha;obtain⟨i,hi',rfl⟩:=mem_getD ha;rw[length_map,Array.length_toList] at hi';rw[<-numAt_eq];exact g2 i 0e1
end
end L2
namespace L2
open PySem PySem.Spec
section
variable {X:Cx}
def tJ(t:TE):TE:=fun σ H Q=>∃Pm:V->Hp->Prop,t σ H Pm/\∀x H',Pm x H'->Q x H'
def qf{e:Expr}{t:TE}(h:PE X e t):PE X e (tJ t):=λpins s σ H Q I ⟨Pm,hp,hq⟩=>
 b9 (h pins s σ H Pm I hp) λ_ _ ⟨x,H1,I1,r,p⟩=>⟨x,H1,I1,r,hq x H1 p⟩
end
def IE{K:Uu}(v:Ps):kitOne K v v=some true:=by
 unfold kitOne;rw[if_pos 2e0]
end L2
namespace L2
open PySem PySem.Spec PyProof.Rows
def ln1{p:List Value->Prop}(us:UV)(e:us.length=1)(h:∀a,p [a]):p us:=by
 cases us with
 |nil=>cases e
 |cons a us=>cases us with
  |nil=>exact h a
  |cons b us=>simp at e
def ln2{p:List Value->Prop}(us:UV)(e:us.length=2)(h:∀a b,p [a,b]):p us:=by
 cases us with
 |nil=>cases e
 |cons a us=>exact ln1 (p:=λus=>p (a::us)) us (by simpa using e) (h a)
def ln3{p:List Value->Prop}(us:UV)(e:us.length=3)(h:∀a b c,p [a,b,c]):p us:=by
 cases us with
 |nil=>cases e
 |cons a us=>exact ln2 (p:=λus=>p (a::us)) us (by simpa using e) (h a)
def ln4{p:List Value->Prop}(us:UV)(e:us.length=4)(h:∀a b c d,p [a,b,c,d]):p us:=by
 cases us with
 |nil=>cases e
 |cons a us=>exact ln3 (p:=λus=>p (a::us)) us (by simpa using e) (h a)
def ln5{p:List Value->Prop}(us:UV)(e:us.length=5)(h:∀a b c d e,p [a,b,c,d,e]):p us:=by
 cases us with
 |nil=>cases e
 |cons a us=>exact ln4 (p:=λus=>p (a::us)) us (by simpa using e) (h a)
section
variable {K:Uu}{h:Heap}{mg:Wp}{x m q:Str}{st:Stmt}{ps:On}{f C HE:Py}
def FnI(K:Uu)(x q:Str)(st:Stmt)(f:Py):Prop:=(∃fd,GR K x q st f fd)/\PySem.W.isFn K (.ref f)=true
def BB(x q:Str)(st:Stmt)(ps:On)(kV doc pm:Ps)(an:UF)(bg ct:Ps)(us:UV):Prop:=bindArgs (fnOf x q (dJ st) (b5 st) (ao st) .none kV doc pm an bg ct) ⟨us,[]⟩=pure (ps.zip us)
def BA(x q:Str)(st:Stmt)(ps:On):Prop:=∀(kV doc pm:Ps) (an:UF) (bg ct:Ps) (us:UV),us.length=ps.length->BB x q st ps kV doc pm an bg ct us
def ba1{p0:Str}(h:∀(kV doc pm:Ps) (an:UF) (bg ct u0:Ps),BB x q st [p0] kV doc pm an bg ct [u0]):BA x q st [p0]:=λkV doc pm an bg ct us hl=>ln1 (p:=BB x q st [p0] kV doc pm an bg ct) us hl (h kV doc pm an bg ct)
def ba2{p0 p1:Str}(h:∀(kV doc pm:Ps) (an:UF) (bg ct u0 u1:Ps),BB x q st [p0,p1] kV doc pm an bg ct [u0,u1]):BA x q st [p0,p1]:=λkV doc pm an bg ct us hl=>ln2 (p:=BB x q st [p0,p1] kV doc pm an bg ct) us hl (h kV doc pm an bg ct)
def ba3{p0 p1 p2:Str}(h:∀(kV doc pm:Ps) (an:UF) (bg ct u0 u1 u2:Ps),BB x q st [p0,p1,p2] kV doc pm an bg ct [u0,u1,u2]):BA x q st [p0,p1,p2]:=λkV doc pm an bg ct us hl=>ln3 (p:=BB x q st [p0,p1,p2] kV doc pm an bg ct) us hl (h kV doc pm an bg ct)
def ba4{p0 p1 p2 p3:Str}(h:∀(kV doc pm:Ps) (an:UF) (bg ct u0 u1 u2 u3:Ps),BB x q st [p0,p1,p2,p3] kV doc pm an bg ct [u0,u1,u2,u3]):BA x q st [p0,p1,p2,p3]:=λkV doc pm an bg ct us hl=>ln4 (p:=BB x q st [p0,p1,p2,p3] kV doc pm an bg ct) us hl (h kV doc pm an bg ct)
def ba5{p0 p1 p2 p3 p4:Str}(h:∀(kV doc pm:Ps) (an:UF) (bg ct u0 u1 u2 u3 u4:Ps),BB x q st [p0,p1,p2,p3,p4] kV doc pm an bg ct [u0,u1,u2,u3,u4]):BA x q st [p0,p1,p2,p3,p4]:=λkV doc pm an bg ct us hl=>ln5 (p:=BB x q st [p0,p1,p2,p3,p4] kV doc pm an bg ct) us hl (h kV doc pm an bg ct)
def dE{N P:On}{sc:Scope}(a:sc.kind= .function:=by rfl)(b:sc.isCoroutine=false:=by rfl)(c:sc.isGenerator=false:=by rfl)(d:N.Nodup:=by decide+kernel)(e:N.take P.length=P:=by rfl)(f:∀x∈P,sc.names.lookup x=some .local\/sc.names.lookup x=some .cell:=by decide+kernel)(g:∀y∈sc.names,y.2≠ .free:=by decide+kernel):ay N P sc:=⟨a,b,c,d,e,f,g⟩
def Xh(X:K.In h)(G:h.Ns mainGlobals mg)(a:nsIn K mainGlobals x=some (some (.ref f)))(l:FnI K x q st f)(b:BA x q st ps):Def K mg x q st ps:=by
 obtain⟨⟨fd,F⟩,_⟩:=l;exact⟨f,fd,F,F.binds b,PySem.W.mg_of X G a⟩
def Xi(a:PySem.W.findIn K (.ref C) m=some (some (.ref f)))(l:FnI K m q st f)(b:BA m q st ps):a9 K C m q st ps:=by
 obtain⟨⟨fd,F⟩,i⟩:=l;exact⟨f,fd,F,F.binds b,⟨a,i,F.kp⟩⟩
def Xj(k:PySem.W.makesIn K C=true)(a:PySem.W.findIn K (.ref C) "__init__" =some (some (.ref f)))(kc:keepIn K (.ref C)=true)(l:FnI K "__init__" q st f)(b:BA "__init__" q st ps):j8 K C q st ps []:=by
 obtain⟨⟨fd,F⟩,i⟩:=l;exact⟨f,fd, .none,⟨F.ex,F.kp⟩,⟨k,a,i,kc⟩,λj _=>⟨[],by rw[List.drop_nil];exact .nil,F.binds b⟩⟩
def Xk(Z:PySem.W.fR K C HE f)(g:mg x=some (.ref C))(kc:keepIn K (.ref C)=true)(l:FnI K "__init__" q st f)(b:BA "__init__" q st ps):ID K mg x C HE q st ps:=by
 obtain⟨⟨fd,F⟩,i⟩:=l;exact⟨f,fd,F,Z,F.binds b,g,kc⟩
end
end L2
namespace L2
open PySem PySem.Spec PyProof.Rows PySem.W PySem.Calls
section
variable {prog:Op}{w:World}{κ:Type}[DecidableEq κ]{knd:KeyKind prog w κ}{A:Pn}{E:XV}{s:Os}{d it:Py}{i ep:Nat}{kvs:List (κ×Value)}
end
section
variable {X:Cx}
end
end L2
namespace L2
open PySem PySem.Spec PyProof.Rows
end L2
namespace L2
open PySem PySem.Spec
variable [l8]
end L2
namespace L2
open PySem PySem.Spec PyProof.Rows PySem.W
section
variable {X:Cx}
end
end L2
namespace L2
open PySem PySem.Spec PyProof.Rows
variable [l8]
section
variable {prog:Op}{w:World}{A:Pn}{R:Qp}{s:Os}
end
section
variable {X:Cx}{elt tg iter:Expr}{ifs:IN}{scope:Scope}{pos:Pos}{N:On}{fr:WF}{cl:List (Str×Addr)}{wi:TI}{g:TG}{tt:TT}{te:TE}
variable {teX:(St->XK)->TE}{ER:St->XK}
variable {Mo py:Pos}
end
end L2
namespace L2
open PySem PySem.Spec PyProof.Rows
section
variable {X:Cx}{e o:Expr}{es:IN}{t:TA}{ta:TE}{x m:Str}{ps:On}{sp:Sp}{f C:Py}{fd:FuncData}{k n:Nat}{p apos pos:Pos}
def dR(c:Cal X.prog X.w X.K X.mg X.base k x ps sp f fd)(hr:cU n X.A)(ha:PA X (e::es) t)(hg:Gl X x:=by rfl)(hle:k<=n:=by first|decide|omega)(E1:(x==("__debug__" :Str))=false:=by decide)(he:starEach (e::es) X.env=(false,eval e X.env)::starEach es X.env:=by rfl)(fP:(backTo pos (starEach es X.env)).any 1e4=false:=by rfl):
  PE X (.Call (.Name x p) (e::es) [] pos) (Pt sp [] E0 t):=L4 c.ok (hr.mono hle) hg c.g c.kp c.b .nil bb ha E1 he fP
def pR{pl:Sem Bool}(c:WK X.prog X.w X.K X.mg X.base k C m ps sp f fd)(hr:cU n X.A)(hc:t5 X.K C)(ho:PE X o ta)(ha:PA X (e::es) t)(hle:k<=n:=by first|decide|omega)
  (iu:starEach (e::es) X.env=(false,eval e X.env)::starEach es X.env:=by rfl) (fP:(backTo pos (starEach es X.env)).any 1e4=false:=by rfl)
  (ht:eval (.Call (.Attribute o m apos) (e::es) [] pos) X.env=(do
   let ov<-eval o X.env
   standAt apos.atName
   let (f,first)<-holding [ov] (getMethod ov m pl)
   callWith pos f first (backTo pos (starEach (e::es) X.env)) (backToKw pos (keywordEach [] X.env))):=by rfl):
  PE X (.Call (.Attribute o m apos) (e::es) [] pos) (Ht C m sp [] E0 ta t):=L5 ho hc c.m c.ok (hr.mono hle) c.b .nil bb ha iu fP ht
end
end L2
namespace L2
open PySem
def le1{p:Nat->Prop}(a:p 0)(b:p 1)(j:Nat)(h:j<=1):p j:=by
 cases j with
 |zero=>exact a
 |succ j=>cases j with
  |zero=>exact b
  |succ j=>omega
def bn1{K:Uu}{fd:FuncData}{ps:On}{ds:UV}(l:ps.length=1+ds.length)(h:∀s a,K.In s.heap->BindsTo s fd ⟨[a],[]⟩ (ps.zip ([a]++ds))):Binds K fd ps ds:=λs us hk hl=>ln1 (p:=λus=>BindsTo s fd ⟨us,[]⟩ (ps.zip (us++ds))) us (by rw[length_append] at hl;omega) λa=>h s a hk
def bn2{K:Uu}{fd:FuncData}{ps:On}{ds:UV}(l:ps.length=2+ds.length)(h:∀s a b,K.In s.heap->BindsTo s fd ⟨[a,b],[]⟩ (ps.zip ([a,b]++ds))):Binds K fd ps ds:=λs us hk hl=>ln2 (p:=λus=>BindsTo s fd ⟨us,[]⟩ (ps.zip (us++ds))) us (by rw[length_append] at hl;omega) λa b=>h s a b hk
def bn3{K:Uu}{fd:FuncData}{ps:On}{ds:UV}(l:ps.length=3+ds.length)(h:∀s a b c,K.In s.heap->BindsTo s fd ⟨[a,b,c],[]⟩ (ps.zip ([a,b,c]++ds))):Binds K fd ps ds:=λs us hk hl=>ln3 (p:=λus=>BindsTo s fd ⟨us,[]⟩ (ps.zip (us++ds))) us (by rw[length_append] at hl;omega) λa b c=>h s a b c hk
end L2
namespace L2
open PySem PySem.Spec PyProof.Rows
section
variable {X:Cx}{o:Expr}{to:TE}{apos gw:Pos}
end
section
variable {X:Cx}
end
end L2
namespace PySem
section
variable {prog:Op}{w:World}{A:Pn}{E:XV}{s:Os}
end
namespace F
end F
section
variable {prog:Op}{w:World}{K:Type}[DecidableEq K]{knd:KeyKind prog w K}{A:Pn}{E:XV}{s:Os}
end
end PySem
namespace L2
open PySem PySem.Spec PyProof.Rows
end L2
namespace PySem.W
open PySem PySem.Calls PyProof.Rows
section
variable {prog:Op}{w:World}{A:Pn}{E:XV}{s:Os}{K:Frag}{env:Env}
end
end PySem.W
namespace L2
open PySem PySem.Spec PyProof.Rows
variable [l8]
section
variable {P:Op}{w:World}{K:Uu}{mg:Wp}{base:Heap}
end
end L2
namespace L2
open PySem PySem.Spec PyProof.Rows
variable [l8]
section
variable {X Y:Cx}{k:Nat}{f C:Py}{fd:FuncData}{ps:On}{sp:Sp}{ER:St->XK}{x:Str}{p pos:Pos}{e:Expr}{es:IN}{t:TA}{A0:Pn}{e':Py}
end
section
variable {X:Cx}{pins:WP}{σ:St}{H:Hp}{s:Os}{ER:St->XK}
end
instance (priority:=low) lateAll:l8:=⟨λ_=>True⟩
end L2
namespace L2
open PySem PySem.Spec PyProof.Rows
section
variable {X:Cx}{o:Expr}{to:TE}{apos gw:Pos}
end
section
variable {X:Cx}{o i:Expr}{pos:Pos}{td ty:TE}
end
section
variable {X:Cx}{o e:Expr}{es:IN}{pos:Pos}{te:TE}{t:TA}{E:XK}
end
section
variable [l8]{X:Cx}{o e:Expr}{es:IN}{pos:Pos}{te:TE}{t:TA}{ER:St->XK}
end
end L2
namespace LD
open PySem PySem.Spec PySem.Builtin PySem.Builtin.Str
end LD
namespace L2
open PySem PySem.Spec PyProof.Rows
end L2
namespace LD
open PySem PySem.Spec
section
variable {prog:Op}{w:World}{A:Pn}{E:XV}{s:Os}{it t l:Py}{i k:Nat}{xs ys:Array Value}{x y a b:Ps}
end
section
variable {prog:Op}{w:World}{A:Pn}{E:XV}{s:Os}{z TI TO i1 i2 t l:Py}{k:Nat}{xs ys:Array Value}{x y a b:Ps}
end
end LD
namespace L2
open PySem PySem.Spec PyProof.Rows
section
variable {X:Cx}{o e:Expr}{es:IN}{pos:Pos}{te:TE}{t:TA}{E:XK}{k:Nat}
end
section
variable [l8]{X:Cx}{o e:Expr}{es:IN}{pos:Pos}{te:TE}{t:TA}{ER:St->XK}{k:Nat}
end
section
variable {P:Op}{w:World}{K:Uu}{mg:Wp}{base:Heap}{k:Nat}{x:Str}{ps:On}{sp:Sp}{f:Py}
end
section
variable {K:Uu}{g:TG}{tt:TT}{te:TE}
end
end L2
namespace L2
open PySem PySem.Spec PyProof.Rows PySem.W
section
variable {prog:Op}{w:World}{A:Pn}{E:XV}{κ:SortKind}{it:Array Keyed}{O:KeyOrd}{k:Nat->O.α}{n:Nat}{I:Shared->Prop}{s:Os}{st:SortSt}
end
section
variable {prog:Op}{w:World}{A:Pn}{E:XV}{κ:SortKind}{it:Array Keyed}{O:KeyOrd}{k:Nat->O.α}{n:Nat}{I:Shared->Prop}{s:Os}{st:SortSt}
abbrev Ar:=Array Keyed
end
section
variable {O:KeyOrd}{k:Nat->O.α}
def le(k:Nat->O.α)(x y:Nat):Prop:=O.kle (k x) (k y)
def le_of_lt{x y:Nat}(h:O.blt (k x) (k y)=true):le k x y:=KeyOrd.kle_of_klt h
end
section
variable {it:Array Keyed}
def ar(it:Array Keyed)(l:IR):Ar:=(l.map (kas_item it)).toArray
end
section
variable {prog:Op}{w:World}{A:Pn}{E:XV}{κ:SortKind}{it:Array Keyed}{O:KeyOrd}{k:Nat->O.α}{n:Nat}{I:Shared->Prop}{s:Os}{st:SortSt}
def el{l:IR}{i:Nat}{Q:Keyed->SortSt->Shared->Prop}(hi:i<l.length)(q:Q (kas_item it (l.getD i 0)) st s):kasC 1e9 A E (elem' (ar it l) i) Q st s:=by
 rw[elem'_eq]
 have e:(ar it l)[i]? =some (kas_item it (l.getD i 0)):=by
  simp [ar,List.getD,hi]
 rw[e];exact kasC_pure q
end
section
variable {prog:Op}{w:World}{A:Pn}{E:XV}{κ:SortKind}{it:Array Keyed}{O:KeyOrd}{k:Nat->O.α}{n:Nat}{I:Shared->Prop}{s:Os}{st:SortSt}{la lb:IR}
end
abbrev D1:=Option Ar×Nat×Nat×Ar×Nat×Nat
abbrev D2:=Option Ar×Nat×Nat×Ar×Nat×Nat×Nat
abbrev D3:=Option Ar×Nat×Nat×Ar×Nat
section
variable {O:KeyOrd}{k:Nat->O.α}
end
section
variable {it:Array Keyed}
end
section
variable {prog:Op}{w:World}{A:Pn}{E:XV}{κ:SortKind}{it:Array Keyed}{O:KeyOrd}{k:Nat->O.α}{n:Nat}{I:Shared->Prop}{s:Os}{st:SortSt}{la lb:IR}
end
section
variable {prog:Op}{w:World}{A:Pn}{E:XV}{κ:SortKind}{it:Array Keyed}{O:KeyOrd}{k:Nat->O.α}{n:Nat}{I:Shared->Prop}{s:Os}{st:SortSt}{la lb:IR}
end
section
variable {prog:Op}{w:World}{A:Pn}{E:XV}{κ:SortKind}{it:Array Keyed}{O:KeyOrd}{k:Nat->O.α}{n:Nat}{I:Shared->Prop}{s:Os}{st:SortSt}
end
section
variable {prog:Op}{w:World}{A:Pn}{E:XV}{κ:SortKind}{it:Array Keyed}{O:KeyOrd}{k:Nat->O.α}{n:Nat}{I:Shared->Prop}{s:Os}
end
section
variable {it:Array Keyed}
end
section
variable {prog:Op}{w:World}{A:Pn}{E:XV}{κ:SortKind}{it:Array Keyed}{O:KeyOrd}{k:Nat->O.α}{n:Nat}{I:Shared->Prop}{s:Os}{pd:Array (Nat×Nat×Nat)}{g:Nat}
end
section
variable {it:Array Keyed}
end
section
variable {prog:Op}{w:World}{A:Pn}{E:XV}{κ:SortKind}{it:Array Keyed}{O:KeyOrd}{k:Nat->O.α}{n:Nat}{I:Shared->Prop}{s:Os}{pd:Array (Nat×Nat×Nat)}{g:Nat}
end
section
variable {O:KeyOrd}{k:Nat->O.α}
end
section
variable {prog:Op}{w:World}{A:Pn}{E:XV}{κ:SortKind}{it:Array Keyed}{O:KeyOrd}{k:Nat->O.α}{n:Nat}{I:Shared->Prop}{s:Os}{pd:Array (Nat×Nat×Nat)}{g:Nat}
end
end L2
namespace L2
open PySem PySem.Spec PyProof.Rows PySem.SeqAt PySem.W
section
variable {prog:Op}{w:World}{A:Pn}{E:XV}{s:Os}
end
section
variable {X:Cx}
end
@[reducible] def intOrd:KeyOrd where
  α:=Int
  blt a b:=decide (a<b)
  irrefl a:=by simp
  trans a b c h1 h2:=by simp only [decide_eq_true_eq] at*;omega
  negTrans a b c h:=by simp only [decide_eq_true_eq] at*;omega
  total a b h1 h2:=by simp only [decide_eq_false_iff_not] at*;omega
section
variable {prog:Op}{w:World}{A:Pn}{E:XV}{s:Os}
end
section
variable {X:Cx}
end
end L2
namespace L2
open PySem
section
variable {K:Uu}{q:Str}{st:Stmt}{f td C:Py}{oc kV doc pm bg ct otc:Ps}{od an otd:UF}{p7 ots:Array (Option Value)}{tn:Nat}{it:Ps}{p0 p1 p2:Str}
def BD(q:Str)(st:Stmt)(ps:On)(it:Ps)(us ws:UV):Prop:=∀(td:Py) (kV doc pm:Ps) (an:UF) (bg ct:Ps),∃k,bindArgs (fnOf "__init__" q (dJ st) (b5 st) (ao st) (.ref td) kV doc pm an bg ct) ⟨us,[]⟩=seqItems? (.ref td) >>= k/\k (some #[it])=pure (ps.zip ws)
def BD.go{ps:On}{us ws:UV}{s:Os}(b:BD q st ps it us ws)(t:K.lookup td=some ⟨otc,otd, .seq #[it] tn,ots⟩)(hk:K.In s.heap):BindsTo s (fnOf "__init__" q (dJ st) (b5 st) (ao st) (.ref td) kV doc pm an bg ct) ⟨us,[]⟩ (ps.zip ws):=by
 obtain⟨k,h1,h2⟩:=b td kV doc pm an bg ct;exact PySem.W.binds_K hk rfl t rfl h1 h2
def Sj{d:Int}{tk:Tok}(a:PySem.W.findIn K (.ref C) "__init__" =some (some (.ref f)))(l:K.lookup f=some ⟨oc,od, .func (fnOf "__init__" q (dJ st) (b5 st) (ao st) (.ref td) kV doc pm an bg ct),p7⟩)
  (t:K.lookup td=some ⟨otc,otd, .seq #[.int d tk] tn,ots⟩) (c:PySem.W.codeIn K bg q=true) (k:keepIn K (.ref f)=true) (m:PySem.W.makesIn K C=true) (i:PySem.W.isFn K (.ref f)=true) (kc:keepIn K (.ref C)=true)
  (b:∀u v,BD q st [p0,p1,p2] (.int d tk) [u,v] [u,v, .int d tk]) (b':∀u v x,BD q st [p0,p1,p2] (.int d tk) [u,v,x] [u,v,x]):j8 K C q st [p0,p1,p2] [d]:=
 ⟨_,_,_,Dg l c k,⟨m,a,i,kc⟩,le1 ⟨[.int d tk], .cons ⟨_,rfl⟩ .nil,bn2 rfl λ_ u v hk=>(b u v).go t hk⟩ ⟨[], .nil,bn3 rfl λ_ u v x hk=>(b' u v x).go t hk⟩⟩
def Xl(a:PySem.W.findIn K (.ref C) "__init__" =some (some (.ref f)))(l:K.lookup f=some ⟨oc,od, .func (fnOf "__init__" q (dJ st) (b5 st) (ao st) (.ref td) kV doc pm an bg ct),p7⟩)
  (t:K.lookup td=some ⟨otc,otd, .seq #[.none] tn,ots⟩) (c:PySem.W.codeIn K bg q=true) (k:keepIn K (.ref f)=true) (m:PySem.W.makesIn K C=true) (i:PySem.W.isFn K (.ref f)=true) (kc:keepIn K (.ref C)=true)
  (b:∀u,BD q st [p0,p1] .none [u] [u, .none]) (b':∀u v,BD q st [p0,p1] .none [u,v] [u,v]):Iy K C q st [p0,p1]:=
 ⟨_,_,_,Dg l c k,⟨m,a,i,kc⟩,bn2 rfl λ_ u v hk=>(b' u v).go t hk,bn1 rfl λ_ u hk=>(b u).go t hk⟩
end
def Ds{sc scope:Scope}{NX N:On}{fr:WF}(a:sc.kind= .function:=by rfl)(b:scope.kind= .function:=by rfl)(c:∀y∈scope.names,y.2≠ .cell:=by decide+kernel)(d:∀y∈scope.names,y.2= .local->scope.names.lookup y.1=some .local:=by decide+kernel)(e:∀y∈scope.names,y.2= .free->sc.names.lookup y.1=some .cell:=by decide+kernel)(f:fr.length=N.length:=by rfl)(g:((List.range N.length).all λi=>match fr[i]? with
  |some (some j)=>(match N[i]? with
   |some x=>(NX[j]? ==some x)&&(scope.names.lookup x==some .free)
   |none=>false)
  |_=>true)=true:=by decide+kernel):HK sc scope NX N fr:=⟨a,b,c,d,e,f,g⟩
end L2
set_option maxHeartbeats 4000000
namespace K83
open PySem L2
def gMp{α:Type}{f:α->V}{o:Option α}{x:V}(h:o.map f=some x):∃m,o=some m/\x=f m:=by
 cases o with
 |none=>cases h
 |some m=>exact⟨m,U,(Option.some.inj h).symm⟩
def bgL:(2000:Nat)<=sizeLine:=by decide
def top(i:Nat):Stmt:=PySem.Challenge.pw_balancehall_k83_whole_rows_of_changes.main.body.getD i (.Pass ⟨0,0,0,0⟩)
abbrev BK:Stmt:=top 16
abbrev BL:Stmt:=top 17
abbrev xf:Stmt:=top 18
abbrev km:Stmt:=top 19
abbrev mR:Stmt:=top 21
abbrev ko:Stmt:=top 22
abbrev IF:Stmt:=inClass (top 25) 0
abbrev BM:Stmt:=inClass (top 25) 1
abbrev xg:Stmt:=inClass (top 25) 2
abbrev BN:Stmt:=inClass (top 26) 0
abbrev mS:Stmt:=inClass (top 26) 1
abbrev kq:Stmt:=inClass (top 26) 2
abbrev BO:Stmt:=inClass (top 27) 0
abbrev kr:Stmt:=inClass (top 27) 1
abbrev ji:Stmt:=inClass (top 27) 2
abbrev rF:Stmt:=top 34
abbrev jj:Stmt:=top 35
abbrev BP:Stmt:=inClass (top 36) 0
abbrev qg:Stmt:=inClass (top 36) 1
abbrev rG:Stmt:=inClass (top 36) 2
abbrev xh:Stmt:=inClass (top 37) 0
abbrev Dt:Stmt:=inClass (top 37) 1
abbrev Du:Stmt:=inClass (top 37) 2
abbrev mT:Stmt:=inClass (top 37) 3
abbrev rH:Stmt:=inClass (top 37) 4
abbrev qh:Stmt:=inClass (top 37) 5
abbrev jk:Stmt:=inClass (top 37) 6
abbrev mU:Stmt:=inClass (top 37) 7
abbrev rJ:Stmt:=inClass (top 37) 8
abbrev lu:Stmt:=inClass (top 37) 9
abbrev xi:Stmt:=inClass (top 37) 10
abbrev qi:Stmt:=inClass (top 37) 11
abbrev mV:Stmt:=inClass (top 37) 12
abbrev mW:Stmt:=inClass (top 37) 13
abbrev oq:Stmt:=top 38
abbrev rK:Stmt:=top 47
abbrev jm:Stmt:=top 48
abbrev ku:Stmt:=top 49
abbrev BQ:Stmt:=inClass (top 50) 0
abbrev BR:Stmt:=inClass (top 50) 2
abbrev zE:Stmt:=inClass (top 50) 4
abbrev BS:Stmt:=inClass (top 51) 0
abbrev xj:Stmt:=inClass (top 51) 1
abbrev rL:Stmt:=inClass (top 51) 2
abbrev xk:Stmt:=inClass (top 51) 3
abbrev rM:Stmt:=top 52
abbrev xm:Stmt:=top 54
abbrev ou:Stmt:=top 56
abbrev rN:Stmt:=top 57
abbrev gX:Stmt:=top 58
abbrev xn:Stmt:=top 59
abbrev jo:Stmt:=top 60
abbrev BU:Stmt:=inClass (top 61) 0
abbrev IG:Stmt:=inClass (top 61) 1
abbrev Sk:Stmt:=inClass (top 61) 2
abbrev xo:Stmt:=inClass (top 61) 4
abbrev qj:Stmt:=inClass (top 61) 7
abbrev BV:Stmt:=inClass (top 8) 0
abbrev Dv:Stmt:=top 74
abbrev xp:Stmt:=top 76
abbrev sCW:Stmt:=top 23
abbrev rO:Stmt:=inClass (top 36) 3
abbrev xq:Stmt:=inClass (top 61) 6
abbrev qk:Stmt:=top 75
abbrev Dw:Stmt:=inClass (top 61) 8
abbrev IH:Stmt:=top 63
abbrev xr:Stmt:=top 64
abbrev xt:Stmt:=top 65
abbrev Sl:Stmt:=top 66
abbrev ow:Stmt:=top 67
abbrev rP:Stmt:=top 68
abbrev xu:Stmt:=top 69
abbrev II:Stmt:=top 70
abbrev IJ:Stmt:=top 71
abbrev BW:Stmt:=top 72
abbrev BX:Stmt:=top 73
def nkc:¬(("kind" :Str)="count"):=by decide+kernel
def xv(k:Str)(n:Int):List (Str×V):=cN "count" (.int n) (cN "kind" (.str k) [])
def vm(k:Str)(n:Int):(xv k n).lookup ("kind" :Str)=some (.str k):=by
 unfold xv;rw[aD,if_neg nkc,aD,if_pos rfl]
def rQ(k:Str)(n:Int):(xv k n).lookup ("count" :Str)=some (.int n):=by
 unfold xv;rw[aD,if_pos rfl]
def DA(k:Str)(n:Int){m:Str}(h1:¬m="count")(h2:¬m="kind"):(xv k n).lookup m=none:=by
 unfold xv;rw[aD,if_neg h1,aD,if_neg h2]
 all_goals rfl
def gz(C:Py)(H:Hp)(p:Py)(k:Str)(n:Int):Prop:=∃dx,H p=some (.ins C dx (xv k n))
def gz.same{C:Py}{H H':Hp}{p:Py}{k:Str}{n:Int}(a:gz C H p k n)(e:au H H'):gz C H' p k n:=let ⟨dx,h⟩:=a;⟨dx,e _ _ h⟩
def aY(kvs:PP):Prop:=∀p∈kvs,∃i,p.2=V.int i
def aG(kvs:PP)(k:Key):Int:=match ck kvs k with
 |some (.int i)=>i
 |_=>0
def fj{kvs:PP}{k:Key}(h:ck kvs k=none):aG kvs k=0:=by unfold aG;rw[h]
def fk{kvs:PP}{k:Key}{i:Int}(h:ck kvs k=some (.int i)):aG kvs k=i:=by unfold aG;rw[h]
def bZ(kvs:PP)(k:Key)(n:Int):List (Key×V):=putK kvs k (.int (aG kvs k+n))
def aV(t:Int)(acc:PP)(as:Uf):List (Key×V):=as.foldl (λacc p=>bZ acc (Sum.inr p.1) (p.2*t)) acc
def iJ(c:Int)(acc:PP)(l:PP)(all:PP):List (Key×V):=l.foldl (λacc p=>bZ acc p.1 (aG all p.1*c)) acc
def Fz(B:Int)(kvs:PP):Prop:=∀p∈kvs,∃i,p.2=V.int i/\0<=i/\i<=B
def iW{kvs:PP}{k:Key}{v:V}(e:ck kvs k=some v):(k,v)∈kvs:=by
 unfold ck at e
 cases f:kvs.find? λkv=>decide (kv.1=k) with
 |none=>rw[f] at e;cases e
 |some p=>
  rw[f] at e;cases e;have h1:=List.mem_of_find?_eq_some f;have h2:p.1=k:=by simpa using List.find?_some f
  rw[<-h2];exact h1
def aY.look{kvs:PP}(h:aY kvs){k:Key}{v:V}(e:ck kvs k=some v):v= .int (aG kvs k):=by
 obtain⟨i,hi⟩:=h _ (iW e);have hi:v= .int i:=hi;subst hi;rw[fk e]
def aY.at{kvs:PP}(h:aY kvs)(k:Key):(ck kvs k).getD (.int 0)= .int (aG kvs k):=by
 cases e:ck kvs k with
 |none=>rw[fj e];rfl
 |some v=>rw[h.look e];rfl
def Fz.MO{B:Int}{kvs:PP}(h:Fz B kvs)(hB:0<=B)(k:Key):0<=aG kvs k/\aG kvs k<=B:=by
 cases e:ck kvs k with
 |none=>rw[fj e];exact⟨Int.le_refl _,hB⟩
 |some v=>
  obtain⟨i,hi,h0,h1⟩:=h _ (iW e);have hi:v= .int i:=hi;subst hi;rw[fk e];exact⟨h0,h1⟩
def Fz.put{B B':Int}{kvs:PP}(h:Fz B kvs)(hBB:B<=B')(k:Key){i:Int}(h0:0<=i)(h1:i<=B'):Fz B' (putK kvs k (.int i)):=by
 intro p hp;unfold putK at hp;split at hp
 ·obtain⟨q,hq,e⟩:=mem_map.mp hp;subst e;split
  ·exact⟨i,U,h0,h1⟩
  ·obtain⟨j,e,h2,h3⟩:=h q hq;exact⟨j,e,h2,Int.le_trans h3 hBB⟩
 ·rcases mem_append.mp hp with hq|hq
  ·obtain⟨j,e,h2,h3⟩:=h p hq;exact⟨j,e,h2,Int.le_trans h3 hBB⟩
  ·have e:p=(k,V.int i):=by simpa using hq
   exact⟨i,by rw[e],h0,h1⟩
def Fz.add{B b:Int}{kvs:PP}(h:Fz B kvs)(hB:0<=B)(k:Key){n:Int}(h0:0<=n)(h1:n<=b):Fz (B+b) (bZ kvs k n):=by
 obtain⟨z0,z1⟩:=h.MO hB k;exact h.put 0e1 k 0e1 0e1
def ma{kvs:PP}{k:Key}{v:V}(h:(kvs.map 1e4).Nodup):((putK kvs k v).map 1e4).Nodup:=by
 cases e:ck kvs k with
 |none=>exact Me v h e
 |some x=>
  have ha:(kvs.any λkv=>decide (kv.1=k))=true:=by rw[eZ,e];rfl
  unfold putK;rw[if_pos ha,map_map]
  have:((λ(x:Key×V)=>x.1)∘λkv=>if kv.1=k then (kv.1,v) else kv)=λ(x:Key×V)=>x.1:=by
   funext y;simp only [Function.comp];split<;>rfl
  rw[this];exact h
def aY.put{kvs:PP}(h:aY kvs)(k:Key)(i:Int):aY (putK kvs k (.int i)):=by
 intro p hp;unfold putK at hp;split at hp
 ·obtain⟨q,hq,e⟩:=mem_map.mp hp;subst e;split
  ·exact⟨i,U⟩
  ·exact h q hq
 ·rcases mem_append.mp hp with hq|hq
  ·exact h p hq
  ·have e:p=(k,V.int i):=by simpa using hq
   exact⟨i,by rw[e]⟩
def aY.add{kvs:PP}(h:aY kvs)(k:Key)(n:Int):aY (bZ kvs k n):=h.put k _
theorem jq(t:Int):∀(as:Uf) (acc:PP),aY acc->aY (aV t acc as)
 | [],_,h=>h
 |_::r,_,h=>jq t r _ (h.add _ _)
theorem xw(t:Int):∀(as:Uf) (acc:PP),(acc.map 1e4).Nodup->((aV t acc as).map 1e4).Nodup
 | [],_,h=>h
 |_::r,_,h=>xw t r _ (ma h)
theorem jr(t:Int):∀(as:Uf) (acc:PP),(aV t acc as).length<=acc.length+as.length
 | [],_=>le_refl _
 |p::r,acc=>by
  have:=jr t r (bZ acc (Sum.inr p.1) (p.2*t));have h2:=cE acc (Sum.inr p.1 :Key) (.int (aG acc (Sum.inr p.1)+p.2*t));have e:(bZ acc (Sum.inr p.1) (p.2*t)).length<=acc.length+1:=h2;show (aV t (bZ acc (Sum.inr p.1) (p.2*t)) r).length<=_;rw[length_cons];omega
theorem xx{t b:Int}(hb:0<=b):∀(as:Uf) (acc:PP) (B:Int),0<=B->Fz B acc->(∀p∈as,0<=p.2*t/\p.2*t<=b)->Fz (B+as.length*b) (aV t acc as)
 | [],acc,B,_,h,_=>by
   have e:B+(([]:Uf).length:Int)*b=B:=by simp
   rw[e];exact h
 |p::r,acc,B,hB,h,hp=>by
  obtain⟨p0,p1⟩:=hp p 1e0;have:=xx hb r _ (B+b) 0e1 (h.add hB (Sum.inr p.1) p0 p1) λq hq=>hp q (mem_cons_of_mem _ hq)
  have e:B+b+(r.length:Int)*b=B+((p::r).length:Int)*b:=by
   rw[length_cons];push_cast;rw[add_mul,one_mul];omega
  rw[<-e];exact this
def cD(n:Int):Str:=if n=1 then "" else (toString n:Str)
def BY:∀n:Nat,n<1000->(cD (n:Int)).length<=3:=by decide+kernel
def dS{n:Int}(h:1<=n)(h':n<=999):(cD n).length<=3:=by
 have:=BY n.toNat 0e1
 rwa [Int.toNat_of_nonneg 0e1] at this
def jn(ys:On):Str:=Str.join ⟨#[]⟩ ys
def join_eq(ys:On):Txt.join "" ys=jn ys:=by
 have h:=PyProof.Rows.join_closes (sep:="") (sep':=⟨#[]⟩) (ys:=ys) 0e4;unfold jn;simpa using h
def DB(x:Str)(r:On):jn (x::r)=x++jn r:=PyProof.Rows.join_nil_cons x r
theorem xy:∀{ys:On} {b:Nat},(∀y∈ys,y.length<=b)->(ys.map (·.length)).sum<=ys.length*b
 | [],_,_=>zero_le _
 |y::r,b,h=>by
  rw[map_cons,sum_cons,length_cons,Nat.succ_mul];have h1:=h y 1e0;have h2:=xy (ys:=r) (b:=b) λz hz=>h z (mem_cons_of_mem _ hz);omega
def npc:¬(("parts" :Str)="count"):=by decide+kernel
def mX(l:Py)(n:Int):List (Str×V):=cN "count" (.int n) (cN "parts" (.ref l) [])
def iB(l:Py)(n:Int):(mX l n).lookup ("parts" :Str)=some (.ref l):=by
 unfold mX;rw[aD,if_neg npc,aD,if_pos rfl]
def iC(l:Py)(n:Int):(mX l n).lookup ("count" :Str)=some (.int n):=by
 unfold mX;rw[aD,if_pos rfl]
def mY(l:Py)(n:Int){m:Str}(h1:¬m="count")(h2:¬m="parts"):(mX l n).lookup m=none:=by
 unfold mX;rw[aD,if_neg h1,aD,if_neg h2]
 all_goals rfl
inductive MP(vs:List V)(H:Hp)(Q:VK)(E:XK):Prop
 |mk (n:Int) (bM:vs=[.int n]) (bV:1<=n) (b8:n<=999) (cS:Q (.str (cD n)) H)
def iK:Sp:=MP
inductive MQ(C:Addr)(vs:List V)(H:Hp)(Q:VK)(E:XK):Prop
 |mk (p dx:Addr) (k:Str) (n:Int) (bM:vs=[.ref p, .str k, .int n]) (bV:H p=some (.ins C dx [])) (b8:∀H',H' p=some (.ins C dx (xv k n))->(∀b o,H b=some o->b≠p->H' b=some o)->Q .cF H')
def IK(C:Py):Sp:=MQ C
inductive IL(C:Addr)(vs:List V)(H:Hp)(Q:VK)(E:XK):Prop
 |mk (p:Addr) (k:Str) (n:Int) (bM:vs=[.ref p]) (bV:gz C H p k n) (b8:k.length<=3) (cS:1<=n) (eK:n<=999) (gS:Q (.str (k++cD n)) H)
def xA(C:Py):Sp:=IL C
inductive FA(C:Addr)(vs:List V)(H:Hp)(Q:VK)(E:XK):Prop
 |mk (p:Addr) (k:Str) (n:Int) (bM:vs=[.ref p]) (bV:gz C H p k n) (b8:∀d,H d=none->Q (.ref d) (upd H d (.dK [(Sum.inr k, .int n)])))
def rR(C:Py):Sp:=FA C
structure oA(K:1e8)(mg:2e1)(C:Addr):Prop where
 gA:t5 K C
 xB:cG K C "kind"
 rS:cG K C "count"
 Sm:mg "Atom" =some (.ref C)
 iD:mg "len" =none
 IM:mg "str" =none
 DC:mg "int" =none
 Sn:mg "bool" =none
 lz:mg "range" =none
 js:mg "isinstance" =none
 k1:kitOne K (.type "int") (.type "int")=some true
 k2:kitOne K (.type "int") (.type "bool")=some false
 k3:kitOne K (.type "dict") (.type "dict")=some true
 k4:kitOne K (.type "str") (.type "str")=some true
 k6:kitOne K (.type "list") (.type "list")=some true
def ql{x y:Str}(h:x.cps.toList=y.cps.toList):x=y:=by
 cases x;cases y;congr 1;exact Array.toList_inj.mp h
def MR(a b n:Nat):Builtin.Str.strSliceIndices (some (a:Int)) (some (b:Int)) 1 n=Builtin.Str.strSliceIndices (some (a:Int)) (some ((min b n:Nat):Int)) 1 n:=by
 have h2:¬((b:Int) <0):=by omega
 have h3:¬(((min b n:Nat):Int) <0):=by omega
 have e2:max (0 :Int) (min (b:Int) (n:Int))=max (0 :Int) (min ((min b n:Nat):Int) (n:Int)):=by omega
 simp only [Builtin.Str.strSliceIndices,h2,h3,if_false,e2,show ((1 :Int) >0)=True from by simp,if_true]
def vn(x:Str){a b:Nat}(RP:a<=b)(ha:a<=x.length):(Txt.slice x (some (a:Int)) (some (b:Int))).cps.toList=(x.cps.toList.drop a).take (b - a):=by
 have hm:a<=min b x.length:=by omega
 have hb:min b x.length<=x.length:=by omega
 have h1:=StrLaws.sliced_plain x hm hb;have h2:=StrLaws.strSliceIndices_plain hm hb;have hl:x.cps.toList.length=x.length:=by simp [Str.length]
 unfold Txt.slice;rw[MR];split
 ·rename_i h
  have h:(Builtin.Str.strSliceIndices (some (a:Int)) (some ((min b x.length:Nat):Int)) 1 x.length).length=x.length:=by simpa using h
  rw[h2,length_map,List.length_range] at h;by_cases hz:x.length=0
  ·have:x.cps.toList=[]:=List.length_eq_zero_iff.mp 0e1;rw[this];simp
  ·have e:a=0:=by omega
   subst e;rw[drop_zero,take_of_length_le 0e1]
 ·show (List.filterMap _ _).toArray.toList=_;rw[h1,List.take_eq_take_iff,length_drop,hl];omega
def eO(x:Str)(p:Nat):Str:=⟨((x.cps.toList.drop p).take 1).toArray⟩
def vo(x:Str){p:Nat}(hp:p<=x.length):Txt.slice x (some (p:Int)) (some ((p:Int)+1))=eO x p:=by
 apply ql;have:=vn x (a:=p) (b:=p+1) 0e1 hp;rw[Nat.add_sub_cancel_left] at this;exact this
def Here(x:Str)(p:Nat)(t post:IR):Prop:=p<=x.length/\x.cps.toList.drop p=t++post
def Here.on{x:Str}{p:Nat}{t u post:IR}(h:Here x p (t++u) post):Here x (p+t.length) u post:=by
 obtain⟨h1,h2⟩:=h;have hl:x.cps.toList.length=x.length:=by simp [Str.length]
 have e:=congrArg List.length h2;rw[length_drop,length_append,length_append,hl] at e;refine⟨by omega,?_⟩;rw[<-List.drop_drop,h2,append_assoc,List.drop_left]
def Here.sg{x:Str}{p:Nat}{c:Nat}{t post:IR}(h:Here x p (c::t) post):eO x p=⟨#[c]⟩:=by
 unfold eO;rw[h.2];rfl
def Here.So{x:Str}{p:Nat}{post:IR}(h:Here x p [] post):eO x p=⟨(post.take 1).toArray⟩:=by
 unfold eO;rw[h.2];rfl
def Here.cut{x:Str}{p:Nat}{t post:IR}(h:Here x p t post):Txt.slice x (some (p:Int)) (some ((p+t.length:Nat):Int))=⟨t.toArray⟩:=by
 apply ql;rw[vn x 0e1 h.1,h.2,Nat.add_sub_cancel_left,List.take_left]
def Here.le{x:Str}{p:Nat}{t post:IR}(h:Here x p t post):p+t.length<=x.length:=by
 have hl:x.cps.toList.length=x.length:=by simp [Str.length]
 have e:=congrArg List.length h.2;rw[length_drop,length_append,hl] at e;have:=h.1;omega
def inR(lo hi:Nat)(s:Str):Bool:=match s.cps.toList with
 | [c]=>decide (lo<=c)&&decide (c<=hi)
 |_=>false
def Sq(lo:Nat)(s:Str)(h:s.cps.toList.length<=1):(!decide (s.cps.toList< [lo]))=(match s.cps.toList with| [c]=>decide (lo<=c) |_=>false):=by
 match hh:s.cps.toList,h with
 | [],_=>simp
 | [c],_=>
   have:([c] < [lo])↔c<lo:=by simp [cons_lt_cons_iff]
   by_cases hc:c<lo
   ·rw[decide_eq_true (this.mpr hc)];simp;omega
   ·rw[decide_eq_false (λz=>hc (this.mp z))];simp;omega
 |_::_::_,h=>simp at h
def Sr(hi:Nat)(s:Str)(h:s.cps.toList.length<=1):(!decide ([hi] <s.cps.toList))=(match s.cps.toList with| [c]=>decide (c<=hi) |_=>true):=by
 match hh:s.cps.toList,h with
 | [],_=>simp
 | [c],_=>
   have:([hi] < [c])↔hi<c:=by simp [cons_lt_cons_iff]
   by_cases hc:hi<c
   ·rw[decide_eq_true (this.mpr hc)];simp;omega
   ·rw[decide_eq_false (λz=>hc (this.mp z))];simp;omega
 |_::_::_,h=>simp at h
def mZ(x:Str)(p:Nat):(eO x p).cps.toList.length<=1:=by
 unfold eO;simp;omega
def Not(f:Nat->Bool)(l:IR):Prop:=∀c,l.head? =some c->f c=false
def jX(c:Nat):Bool:=decide (48<=c)&&decide (c<=57)
def md(c:Nat):Bool:=decide (97<=c)&&decide (c<=122)
def zF(c:Nat):Bool:=decide (65<=c)&&decide (c<=90)
def aQ(n:Int):List Nat:=(cD n).cps.toList
def jt:aQ 1=[]:=by decide+kernel
def kA{n:Nat}(h:n≠1):aQ (n:Int)=(Nat.toDigits 10 n).map Char.toNat:=by
 unfold aQ cD;rw[if_neg 0e1];exact PySem.W.KIN.signs_num n
def m4(n:Nat):(aQ (n:Int)).all jX=true:=by
 by_cases h:n=1
 ·subst h;rw[show ((1 :Nat):Int)=1 from rfl,jt];rfl
 ·rw[kA h,all_eq_true];intro c hc;obtain⟨ch,lP,e⟩:=mem_map.mp hc;have r:=PyProof.Rows.digit_range (Nat.isDigit_of_mem_toDigits 0e2 0e2 lP);rw[<-e];simp only [jX,and_eq_true,decide_eq_true_eq];exact r
def IP(n:Nat):Nat.toDigits 10 n≠[]:=by
 intro e;have h:=PySem.toDigits_len_ge 10 n;rw[e] at h;exact absurd h 0e2
def IQ:∀n:Nat,n≠0->(Nat.toDigits 10 n).head? ≠some '0' :=by
 intro n
 induction n using Nat.strongRecOn with
 |_ m ih=>
  intro h0;by_cases h:m<10
  ·rw[Nat.toDigits_of_lt_base h];have:∀m:Nat,m<10->m≠0->[Nat.digitChar m].head? ≠some '0' :=by decide
   exact this m h h0
  ·have hm:m%10<10:=Nat.mod_lt m 0e2;have t:Nat.toDigits 10 (m/10)++Nat.toDigits 10 (m%10)=Nat.toDigits 10 (10*(m/10)+m%10):=Nat.toDigits_append_toDigits 0e2 0e1 hm;rw[Nat.div_add_mod] at t;have:=ih (m/10) 0e1 0e1;rw[<-t]
   cases hh:Nat.toDigits 10 (m/10) with
   |nil=>exact absurd hh (IP _)
   |cons c r=>
    rw[hh] at this;exact this
def IS(n:Nat)(h0:n≠0):(aQ (n:Int)).head? ≠some 48:=by
 by_cases h:n=1
 ·subst h;rw[show ((1 :Nat):Int)=1 from rfl,jt];simp
 ·rw[kA h,List.head?_map];intro z
  cases e:(Nat.toDigits 10 n).head? with
  |none=>rw[e] at z;cases z
  |some c=>
   rw[e] at z;have z:c.toNat=48:=by simpa using z
   have:c='0' :=by
    apply Char.ext;apply UInt32.toNat_inj.mp;exact z
   exact IQ n h0 (by rw[e,this])
def MS(n:Nat):aQ (n:Int)≠[49]:=by
 by_cases h:n=1
 ·subst h;rw[show ((1 :Nat):Int)=1 from rfl,jt];simp
 ·rw[kA h];intro z;have:=PySem.W.KIN.val_back n;rw[z] at this;exact h this.symm
def qm(n:Nat)(h:aQ (n:Int)=[]):n=1:=by
 by_cases e:n=1
 ·exact e
 ·rw[kA e] at h;exact absurd (map_eq_nil_iff.mp h) (IP n)
def lA{n:Nat}{k:Nat}(hk:0<k)(h:n<10^k):(cD (n:Int)).length<=k:=by
 unfold cD;split
 ·exact zero_le _
 ·rw[PySem.ofString_length];show (Nat.repr n).length<=k;rw[Nat.length_repr_le_iff hk];exact h
def xC(n:Nat)(h:n<10^12)(h1:n≠1):PySem.intText? (cD (n:Int))=some (n:Int):=by
 have hd:PySem.NumText.AllDigits (cD (n:Int)).cps.toList:=by
  intro c hc;have:=all_eq_true.mp (m4 n) c hc;simpa only [jX,and_eq_true,decide_eq_true_eq] using this
 have m5:(cD (n:Int)).cps.toList≠[]:=λz=>h1 (qm n z);have e:=PySem.intText_digits hd m5 (le_trans (lA 0e2 h) 0e2);rw[show (cD (n:Int)).cps.toList=_ from kA h1,PySem.W.KIN.val_back] at e;exact e
def m7(lo hi c:Nat):inR lo hi ⟨#[c]⟩=(decide (lo<=c)&&decide (c<=hi)):=rfl
def xD{lo hi:Nat}{post:IR}(h:Not (λc=>decide (lo<=c)&&decide (c<=hi)) post):inR lo hi ⟨(post.take 1).toArray⟩=false:=by
 cases post with
 |nil=>rfl
 |cons c r=>exact h c rfl
instance memKey (k:Key) (K:List Key):Decidable (k∈K):=decidable_of_iff ((K.any λx=>decide (x=k))=true) 2e0
def cO(acc:PP)(l:List (Key×Int)):List (Key×V):=l.foldl (λacc p=>bZ acc p.1 p.2) acc
def ju(K:No)(k:Key):List Key:=if k∈K then K else K++[k]
def fq(K L:No):List Key:=L.foldl ju K
def sumK(l:List (Key×Int))(j:Key):Int:=(l.map λp=>if p.1=j then p.2 else 0).sum
def dN(D:PP)(k j:Key)(n:Int):aG (putK D k (.int n)) j=if j=k then n else aG D j:=by
 unfold aG;rw[Hv];by_cases h:j=k
 ·rw[if_pos h,if_pos h]
 ·rw[if_neg h,if_neg h]
def lB(D:PP)(k j:Key)(n:Int):aG (bZ D k n) j=aG D j+if k=j then n else 0:=by
 unfold bZ;rw[dN];by_cases h:j=k
 ·rw[if_pos h,if_pos h.symm,h]
 ·rw[if_neg h,if_neg (Ne.symm h),add_zero]
def m8(D:PP)(k:Key)(v:V):(putK D k v).map 1e4=ju (D.map 1e4) k:=by
 unfold ju
 cases e:ck D k with
 |none=>rw[if_neg (mG e),mF v e,map_append];rfl
 |some x=>
  rw[if_pos (qb e)];have ha:(D.any λkv=>decide (kv.1=k))=true:=by rw[eZ,e];rfl
  unfold putK;rw[if_pos ha,map_map];apply map_congr_left;intro p _;simp only [Function.comp];split<;>rfl
theorem kB:∀(l:List (Key×Int)) (acc:PP),(cO acc l).map 1e4=fq (acc.map 1e4) (l.map 1e4)
 | [],_=>rfl
 |p::r,acc=>by
  show (cO (bZ acc p.1 p.2) r).map 1e4=fq (ju (acc.map 1e4) p.1) (r.map 1e4);rw[kB r];unfold bZ;rw[m8]
theorem m9:∀(l:List (Key×Int)) (acc:PP) (j:Key),aG (cO acc l) j=aG acc j+sumK l j
 | [],acc,j=>by show aG acc j=aG acc j+0;rw[add_zero]
 |p::r,acc,j=>by
  show aG (cO (bZ acc p.1 p.2) r) j=aG acc j+((if p.1=j then p.2 else 0)+sumK r j);rw[m9 r,lB,Int.add_assoc]
theorem qo:∀(l:List (Key×Int)) (acc:PP),aY acc->aY (cO acc l)
 | [],_,h=>h
 |_::r,_,h=>qo r _ (h.add _ _)
theorem BZ:∀(l:List (Key×Int)) (acc:PP),(acc.map 1e4).Nodup->((cO acc l).map 1e4).Nodup
 | [],_,h=>h
 |_::r,_,h=>BZ r _ (ma h)
def DD{D:PP}(hI:aY D)(hn:(D.map 1e4).Nodup):D=(D.map 1e4).map λk=>(k,V.int (aG D k)):=by
 rw[map_map];refine(List.map_id D).symm.trans ?_;apply map_congr_left;intro p hp;have e:=gj hn hp;have:=hI.look e;show p=(p.1,V.int (aG D p.1));rw[<-this]
def nh{A B:PP}(hA:aY A)(hB:aY B)(nA:(A.map 1e4).Nodup)(hk:A.map 1e4=B.map 1e4)(hz:∀k,aG A k=aG B k):A=B:=by
 rw[DD hA nA,DD hB (hk▸nA),<-hk];apply map_congr_left;intro k _;rw[hz k]
def IT{K:No}{k j:Key}:j∈ju K k↔j∈K\/j=k:=by
 unfold ju;split
 ·rename_i h
  exact⟨.inl,λz=>z.elim id λe=>e▸h⟩
 ·simp
theorem rT:∀{L K:No} {j:Key},j∈fq K L↔j∈K\/j∈L
 | [],K,j=>by show j∈K↔_;simp
 |x::L,K,j=>by
  show j∈fq (ju K x) L↔_;rw[rT,IT,mem_cons,or_assoc]
def FC(K M:No)(x:Key):fq K (ju M x)=ju (fq K M) x:=by
 unfold ju;by_cases h:x∈M
 ·rw[if_pos h,if_pos (rT.mpr (.inr h))]
 ·rw[if_neg h];unfold fq;rw[foldl_append];rfl
theorem vp(K:No):∀(L M:No),fq K (fq M L)=fq (fq K M) L
 | [],M=>rfl
 |x::L,M=>by
  show fq K (fq (ju M x) L)=fq (ju (fq K M) x) L;rw[vp K L,FC]
theorem xE(f:Key->Int)(j:Key):∀{Ks:No},Ks.Nodup->(Ks.map λk=>if k=j then f k else 0).sum=if j∈Ks then f j else 0
 | [],_=>by simp
 |k::Ks,h=>by
  rw[nodup_cons] at h;rw[map_cons,sum_cons,xE f j h.2];by_cases e:k=j
  ·subst e;rw[if_pos rfl,if_neg h.1,if_pos 1e0,add_zero]
  ·rw[if_neg e,zero_add];have:(j∈k::Ks)↔j∈Ks:=by rw[mem_cons];exact⟨λz=>z.elim (λw=>absurd w.symm e) id, .inr⟩
   by_cases hj:j∈Ks
   ·rw[if_pos hj,if_pos (this.mpr hj)]
   ·rw[if_neg hj,if_neg (λz=>hj (this.mp z))]
def fX{D:PP}{j:Key}(h:¬j∈D.map 1e4):aG D j=0:=by
 cases e:ck D j with
 |none=>exact fj e
 |some x=>exact absurd (qb e) h
theorem zG(c:Int)(j:Key):∀l:List (Key×Int),sumK (l.map λp=>(p.1,p.2*c)) j=sumK l j*c
 | []=>by show (0 :Int)=0*c;rw[zero_mul]
 |p::r=>by
  show (if p.1=j then p.2*c else 0)+sumK (r.map λp=>(p.1,p.2*c)) j=((if p.1=j then p.2 else 0)+sumK r j)*c;rw[zG c j r,add_mul];split
  ·rfl
  ·rw[zero_mul]
def add_dict(c:Int){acc:PP}(hI:aY acc)(hn:(acc.map 1e4).Nodup)(l:List (Key×Int)):
  cO acc ((cO [] l).map λp=>(p.1,aG (cO [] l) p.1*c))=cO acc (l.map λp=>(p.1,p.2*c)):=by
 have hD:aY (cO [] l):=qo l [] λp hp=>by cases hp
 have nD:((cO [] l).map 1e4).Nodup:=BZ l [] nodup_nil;refine nh (qo _ _ hI) (qo _ _ hI) (BZ _ _ hn) ?_ λj=>?_
 ·rw[kB,kB,map_map,map_map];show fq (acc.map 1e4) ((cO [] l).map 1e4)=fq (acc.map 1e4) (l.map 1e4);rw[kB,vp];rfl
 ·rw[m9,m9,zG];congr 1;have e:=xE (λk=>aG (cO [] l) k*c) j nD;rw[map_map] at e
  have e2:sumK ((cO [] l).map λp=>(p.1,aG (cO [] l) p.1*c)) j=if j∈(cO [] l).map 1e4 then aG (cO [] l) j*c else 0:=by
   rw[<-e];unfold sumK;rw[map_map];rfl
  have e3:aG (cO [] l) j=sumK l j:=by
   rw[m9];show (0 :Int)+_=_;rw[zero_add]
  rw[e2];split
  ·rw[e3]
  ·rename_i h
   rw[<-e3,fX h,zero_mul]
theorem qp(t:Int):∀(as:Uf) (acc:PP),aV t acc as=cO acc (as.map λp=>((Sum.inr p.1 :Key),p.2*t))
 | [],_=>rfl
 |p::r,acc=>qp t r _
theorem DE(c:Int)(all:PP):∀(l acc:PP),iJ c acc l all=cO acc (l.map λp=>(p.1,aG all p.1*c))
 | [],_=>rfl
 |p::r,acc=>DE c all r _
def xF(c t:Int)(as:Uf){acc:PP}(hI:aY acc)(hn:(acc.map 1e4).Nodup):iJ c acc (aV t [] as) (aV t [] as)=aV (t*c) acc as:=by
 rw[DE,qp,qp,add_dict c hI hn,map_map];congr 1;apply map_congr_left;intro p _;show ((Sum.inr p.1 :Key),p.2*t*c)=(Sum.inr p.1,p.2*(t*c));rw[mul_assoc]
def ntp:¬(("text" :Str)="place"):=by decide+kernel
def gk(x:Str)(p:Nat):List (Str×V):=cN "place" (.int p) (cN "text" (.str x) [])
def fS(x:Str)(p:Nat):(gk x p).lookup ("text" :Str)=some (.str x):=by
 unfold gk;rw[aD,if_neg ntp,aD,if_pos rfl]
def bA(x:Str)(p:Nat):(gk x p).lookup ("place" :Str)=some (.int p):=by
 unfold gk;rw[aD,if_pos rfl]
def aK(x:Str)(p:Nat){m:Str}(h1:¬m="place" :=by decide+kernel)(h2:¬m="text" :=by decide+kernel):(gk x p).lookup m=none:=by
 unfold gk;rw[aD,if_neg h1,aD,if_neg h2]
 all_goals rfl
def lC(x:Str)(p q:Nat):cN "place" (.int q) (gk x p)=gk x q:=by
 unfold gk;simp only [cN,if_neg ntp,if_true]
def lD(x:Str)(p:Nat):(gk x p).length<1000:=by
 unfold gk;simp only [cN,if_neg ntp];show 2<1000;decide
def dn(R:Py)(H:Hp)(r:Py)(x:Str)(p:Nat):Prop:=∃dx,H r=some (.ins R dx (gk x p))
def Kept(r:Py)(H H':Hp):Prop:=∀b o,H b=some o->b≠r->H' b=some o
def Kept.refl(r:Py)(H:Hp):Kept r H H:=λ_ _ h _=>h
def Kept.trans{r:Py}{H H' cy:Hp}(h:Kept r H H')(h':Kept r H' cy):Kept r H cy:=λb o e n=>h' b o (h b o e n) n
def Kept.of{r:Py}{H H':Hp}(h:au H H'):Kept r H H':=λb o e _=>h b o e
inductive IspR(lo hi:Nat)(vs:List V)(H:Hp)(Q:VK)(E:XK):Prop
 |mk (s:Str) (bM:vs=[.str s]) (bV:s.cps.toList.length<=1) (b8:Q (.bl (inR lo hi s)) H)
def PZ(lo hi:Nat):Sp:=IspR lo hi
inductive IU(R:Addr)(vs:List V)(H:Hp)(Q:VK)(E:XK):Prop
 |mk (r dx:Addr) (x:Str) (bM:vs=[.ref r, .str x]) (bV:H r=some (.ins R dx [])) (b8:∀H',dn R H' r x 0->Kept r H H'->Q .cF H')
def xG(R:Py):Sp:=IU R
inductive MT(R:Addr)(vs:List V)(H:Hp)(Q:VK)(E:XK):Prop
 |mk (r:Addr) (x:Str) (p:Nat) (bM:vs=[.ref r]) (bV:dn R H r x p) (b8:p<=x.length) (cS:x.length<=1000) (eK:Q (.str (eO x p)) H)
def jv(R:Py):Sp:=MT R
inductive MU(R:Addr)(vs:List V)(H:Hp)(Q:VK)(E:XK):Prop
 |mk (r:Addr) (x:Str) (p:Nat) (s:Str) (c:Nat) (t post:List Nat) (bM:vs=[.ref r, .str s]) (bV:s=⟨#[c]⟩) (b8:dn R H r x p) (cS:Here x p (c::t) post) (eK:x.length<=1000) (gS:∀H',dn R H' r x (p+1)->Kept r H H'->Q .cF H')
def me(R:Py):Sp:=MU R
inductive B0(R:Addr)(vs:List V)(H:Hp)(Q:VK)(E:XK):Prop
 |mk (r:Addr) (x:Str) (p:Nat) (s:Str) (post:List Nat) (bM:vs=[.ref r, .str s]) (bV:s.cps.all (· <128)=true) (b8:dn R H r x p) (cS:Here x p s.cps.toList post) (eK:x.length<=1000) (gS:∀H',dn R H' r x (p+s.length)->Kept r H H'->Q .cF H')
def lE(R:Py):Sp:=B0 R
inductive B2(R:Addr)(vs:List V)(H:Hp)(Q:VK)(E:XK):Prop
 |mk (r:Addr) (x:Str) (bM:vs=[.ref r]) (bV:dn R H r x x.length) (b8:x.length<=1000) (cS:Q .cF H)
def vq(R:Py):Sp:=B2 R
inductive FD(R:Addr)(vs:List V)(H:Hp)(Q:VK)(E:XK):Prop
 |mk (r:Addr) (x:Str) (p:Nat) (n lg:Int) (post:List Nat) (bM:vs=[.ref r, .int lg]) (bV:dn R H r x p) (b8:Here x p (aQ n) post) (cS:1<=n) (eK:n<10^12) (gS:((aQ n).length:Int)<=lg) (lR:Not jX post) (rV:x.length<=1000) (yJ:∀H',dn R H' r x (p+(aQ n).length)->Kept r H H'->Q (.int n) H')
def rW(R:Py):Sp:=FD R
inductive FE(R:Addr)(vs:List V)(H:Hp)(Q:VK)(E:XK):Prop
 |mk (r:Addr) (x:Str) (p:Nat) (n:Int) (post:List Nat) (bM:vs=[.ref r]) (bV:dn R H r x p) (b8:Here x p (aQ n) post) (cS:1<=n) (eK:n<=999) (gS:Not jX post) (lR:x.length<=1000) (rV:∀H',dn R H' r x (p+(aQ n).length)->Kept r H H'->Q (.int n) H')
def iX(R:Py):Sp:=FE R
inductive lF(k:List Nat):Prop
 |mk (c r:_) (bM:k=c::r) (bV:zF c=true) (b8:r.all md=true) (cS:r.length<=2)
inductive IV(C R:Addr)(vs:List V)(H:Hp)(Q:VK)(E:XK):Prop
 |mk (r:Addr) (x:Str) (p:Nat) (k:List Nat) (n:Int) (post:List Nat) (bM:vs=[.ref r]) (bV:dn R H r x p) (b8:Here x p (k++aQ n) post) (cS:lF k) (eK:1<=n) (gS:n<=999) (lR:Not jX post) (rV:Not md post) (yJ:x.length<=1000) (LF:∀a H',H a=none->gz C H' a ⟨k.toArray⟩ n->dn R H' r x (p+(k++aQ n).length)->Kept r H H'->Q (.ref a) H')
def xH(C R:Py):Sp:=IV C R
structure ug(K:1e8)(mg:2e1)(C R:Addr)(uK uN:Tok):Prop extends oA K mg C where
 ax:t5 K R
 jw:cG K R "text"
 cw:cG K R "place"
 rX:mg "LONGEST_KIND" =some (.int 3 uK)
 pS:mg "LONGEST_COUNT" =some (.int 3 uN)
section
seal mz PS PE PT PW PA PG U4 PI PC RD
variable {P:Op}{w:World}{K:Uu}{mg:Wp}{base:Heap}{C R G Pc Fo:Py}{uK uN uB uE uM:Tok}
def MV:ay ["sign"] ["sign"] (ao BK):=dE
def MW:ay ["sign"] ["sign"] (ao BL):=dE
def IW:ay ["sign"] ["sign"] (ao xf):=dE
def B3(lo hi:Nat)(s:Str)(h:s.cps.toList.length<=1):(if (!decide (s.cps.toList< [lo]))=true then (!decide ([hi] <s.cps.toList)) else false)=inR lo hi s:=by
 rw[Sq lo s h,Sr hi s h];unfold inR
 match hh:s.cps.toList,h with
 | [],_=>rfl
 | [c],_=>
   show (if decide (lo<=c)=true then decide (c<=hi) else false)=(decide (lo<=c)&&decide (c<=hi));cases decide (lo<=c)<;>rfl
 |_::_::_,h=>simp at h
def IX(D:Def K mg "is_great" "is_great" BK ["sign"]):bp P w K mg base 1 "is_great" ["sign"] (PZ 65 90):=by
 refine D.dk MV 0e6 0e0
 ·obtain⟨n,rfl,_⟩:=h;rfl
 ·obtain⟨x,rfl,hl,q⟩:=h;refine⟨_,(ak (aH (qR gT gT aZ 1e6 aZ))),?_⟩;rw[<-B3 65 90 x hl] at q;have e1:("A" :Str).cps.toList=[65]:=by decide+kernel
  have e2:("Z" :Str).cps.toList=[90]:=by decide+kernel
  refine⟨_,U,_,_,U,U,_,U,?_⟩;rw[e1]
  cases hh:(!decide (x.cps.toList< [65])) with
  |false=>rw[hh] at q;exact d4 q
  |true=>rw[hh] at q;exact je ⟨_,_,rfl,rfl,by rw[e2];exact q⟩
def IY(D:Def K mg "is_small" "is_small" BL ["sign"]):bp P w K mg base 1 "is_small" ["sign"] (PZ 97 122):=by
 refine D.dk MW 0e6 0e0
 ·obtain⟨n,rfl,_⟩:=h;rfl
 ·obtain⟨x,rfl,hl,q⟩:=h;refine⟨_,(ak (aH (qR gT gT aZ 1e6 aZ))),?_⟩;rw[<-B3 97 122 x hl] at q;have e1:("a" :Str).cps.toList=[97]:=by decide+kernel
  have e2:("z" :Str).cps.toList=[122]:=by decide+kernel
  refine⟨_,U,_,_,U,U,_,U,?_⟩;rw[e1]
  cases hh:(!decide (x.cps.toList< [97])) with
  |false=>rw[hh] at q;exact d4 q
  |true=>rw[hh] at q;exact je ⟨_,_,rfl,rfl,by rw[e2];exact q⟩
def FF(D:Def K mg "is_figure" "is_figure" xf ["sign"]):bp P w K mg base 1 "is_figure" ["sign"] (PZ 48 57):=by
 refine D.dk IW 0e6 0e0
 ·obtain⟨n,rfl,_⟩:=h;rfl
 ·obtain⟨x,rfl,hl,q⟩:=h;refine⟨_,(ak (aH (qR gT gT aZ 1e6 aZ))),?_⟩;rw[<-B3 48 57 x hl] at q;have e1:("0" :Str).cps.toList=[48]:=by decide+kernel
  have e2:("9" :Str).cps.toList=[57]:=by decide+kernel
  refine⟨_,U,_,_,U,U,_,U,?_⟩;rw[e1]
  cases hh:(!decide (x.cps.toList< [48])) with
  |false=>rw[hh] at q;exact d4 q
  |true=>rw[hh] at q;exact je ⟨_,_,rfl,rfl,by rw[e2];exact q⟩
def MX:ay ["self","text"] ["self","text"] (ao xh):=dE
def zH(D:j8 K R "Reader.__init__" xh ["self","text"] [])(T:ug K mg C R uK uN):gF P w K mg base 1 R ["self","text"] [] (xG R):=by
 refine D.dk MX 0e6 0e0
 ·obtain⟨r,dx,x,rfl,_⟩:=h;rfl
 ·obtain⟨r,dx,x,rfl,hp,q⟩:=h;refine⟨_,(ai (eN 1e6 (pv 1) rfl) (ak (eN 1e6 aq rfl))),?_⟩;refine⟨_,U,_,U,r,R,dx,[],U,hp,T.ax,T.jw,(by show 0<1000;decide),_,U,r,R,dx,_,U,ag,T.ax,T.cw,(by show 1<1000;decide),?_⟩;refine q _ ⟨dx,ag⟩ λb o e hb=>?_;rw[ah hb,ah hb];exact e
def Ss:ay 1e1 1e1 (ao Dt):=dE
def DF(D:a9 K R "sign" "Reader.sign" Dt 1e1)(T:ug K mg C R uK uN):aJ P w K mg base 1 R "sign" 1e1 (jv R):=by
 refine D.dk Ss 0e6 0e0
 ·obtain⟨r,x,p,rfl,_⟩:=h;rfl
 ·obtain⟨r,x,p,rfl,⟨dx,hR⟩,hp,hx,q⟩:=h;have big:(1000 :Nat)<=sizeLine:=by decide
  refine⟨_,(ak (aH (eF wV 2e4 (cY 2e4) (cY (av bC 2e4 aq))))),?_⟩;rw[<-vo x hp] at q;exact⟨_,U,r,R,dx,_,_,U,hR,T.ax,T.jw,fS _ _,_,U,r,R,dx,_,_,U,hR,T.ax,T.cw,bA _ _,_,U,_,U,r,R,dx,_,_,U,hR,T.ax,T.cw,bA _ _,_,_,U,U,_,U,x,U,by omega,q⟩
def Su:ay ["self","sign"] ["self","sign"] (ao Du):=dE
def DG(D:a9 K R "take" "Reader.take" Du ["self","sign"])(T:ug K mg C R uK uN)(c1:aJ P w K mg base 1 R "sign" 1e1 (jv R)):aJ P w K mg base 2 R "take" ["self","sign"] (me R):=by
 obtain⟨_,_,aw⟩:=c1;refine D.dk Su 0e6 0e0
 ·obtain⟨r,x,p,sg,c,t,post,rfl,_⟩:=h;rfl
 ·obtain⟨r,x,p,sg,c,t,post,rfl,hs,⟨dx,hR⟩,hh,hx,q⟩:=h
  refine⟨_,(ai (bR (aO mD (aM 1e6 T.ax aw.m aw.ok (hr.mono 0e2) aw.b .nil bb) (pv 1) (aT _)) (ak
       fZ)
      aS) (ak (kZ 1e6 aq wF))),?_⟩
  refine⟨_,U,r,dx,_,U,hR,aK _ _,r,x,p,U,⟨dx,hR⟩,hh.1,hx,_,U,U,_,U,Pw (by rw[hh.sg,hs]) ?_⟩;refine⟨_,U,r,R,dx,_,_,U,hR,T.ax,T.cw,bA _ _,_,_,U,U,dx,_,hR,lD _ _,?_⟩;refine q _ ⟨dx,?_⟩ λb o e hb=>?_
  ·rw[ag];exact congrArg (λz=>some (HO.ins R dx z)) (lC x p (p+1))
  ·rw[ah hb];exact e
def vt:ay ["self","signs","sign"] ["self","signs"] (ao mT):=dE
def rY(D:a9 K R "take_all" "Reader.take_all" mT ["self","signs"])(T:ug K mg C R uK uN)(c1:aJ P w K mg base 2 R "take" ["self","sign"] (me R)):aJ P w K mg base 3 R "take_all" ["self","signs"] (lE R):=by
 obtain⟨_,_,bJ⟩:=c1;refine D.dk vt 0e6 0e0
 ·obtain⟨r,x,p,sg,post,rfl,_⟩:=h;rfl
 ·obtain⟨r,x,p,sg,post,rfl,ha,hR,hh,hx,q⟩:=h;refine⟨_,(ak (bF PassesOwn.never rfl (RS (pv 1)) (aF (i:=2) vt.nd rfl 0e3) (ak (a7 (pR bJ hr T.ax 1e6 (aa (pv 2) aj)))))),?_⟩;refine⟨_,U,sg,U,ha,Mv (λi σ H'=>∃v:Option V,σ=[some (.ref r),some (.str sg),v]/\dn R H' r x (p+i)/\Kept r H H') ⟨none,U,hR,Kept.refl r H⟩ ?_ ?_⟩
  ·rintro i c σ H' hc ⟨v,rfl,⟨dx,eL⟩,kk⟩;have CZ:sg.cps.toList[i]? =some c:=by rw[Array.getElem?_toList];exact hc
   have hi:i<sg.cps.toList.length:=(List.getElem?_eq_some_iff.mp CZ).1
   have e:sg.cps.toList=sg.cps.toList.take i++c::sg.cps.toList.drop (i+1):=by
    conv=>lhs;rw[<-take_append_drop i sg.cps.toList]
    congr 1;rw[drop_eq_getElem_cons hi];congr 1;exact(List.getElem?_eq_some_iff.mp CZ).2
   have h2:Here x (p+i) (c::sg.cps.toList.drop (i+1)) post:=by
    have h3:=Here.on (t:=sg.cps.toList.take i) (u:=c::sg.cps.toList.drop (i+1)) (e▸hh)
    rwa [length_take,min_eq_left 0e1] at h3
   refine⟨_,U,r,dx,_,U,eL,aK _ _,_,U,r,x,p+i,_,c,_,post,U,U,⟨dx,eL⟩,h2,hx,λcy hR'' k''=>?_⟩;exact⟨_,U,hR'',kk.trans k''⟩
  ·rintro σ H' ⟨v,rfl,eL,kk⟩;exact q _ eL kk
def FG:ay 1e1 1e1 (ao rH):=dE
def B4(D:a9 K R "take_end" "Reader.take_end" rH 1e1)(T:ug K mg C R uK uN):aJ P w K mg base 1 R "take_end" 1e1 (vq R):=by
 refine D.dk FG 0e6 0e0
 ·obtain⟨r,x,rfl,_⟩:=h;rfl
 ·obtain⟨r,x,rfl,⟨dx,hR⟩,hx,q⟩:=h
  refine⟨_,(ak (bR (aO qQ 2e4 (bG jd rfl T.iD fe (aa 2e4 aj)) (aT _)) (ak
       fZ)
      aS)),?_⟩
  exact⟨_,U,r,R,dx,_,_,U,hR,T.ax,T.cw,bA _ _,_,U,r,R,dx,_,_,U,hR,T.ax,T.jw,fS _ _,x,U,le_trans hx 0e2,_,_,U,U,_,U,rm 0e1 q⟩
def P6{n:Int}(h1:1<=n)(h2:n<10^12):∃m:Nat,n=(m:Int)/\m<10^12/\m≠0:=⟨n.toNat,by omega,by omega,by omega⟩
def oB:ay ["self","longest","begin","written"] ["self","longest"] (ao mV):=dE
def vw(D:a9 K R "read_number" "Reader.read_number" mV ["self","longest"])(T:ug K mg C R uK uN)(c1:aJ P w K mg base 1 R "sign" 1e1 (jv R))(c2:bp P w K mg base 1 "is_figure" ["sign"] (PZ 48 57)):aJ P w K mg base 2 R "read_number" ["self","longest"] (rW R):=by
 obtain⟨_,_,aw⟩:=c1;obtain⟨_,_,zI⟩:=c2;refine D.dk oB 0e6 0e0
 ·obtain⟨r,x,p,n,lg,post,rfl,_⟩:=h;rfl
 ·obtain⟨r,x,p,n,lg,post,rfl,⟨dx,hR⟩,hh,n1,n2,fl,IZ,hx,q⟩:=h;obtain⟨m,rfl,m1,m0⟩:=P6 n1 n2;have big:(1000 :Nat)<=sizeLine:=by decide
  have fa:=m4 m;have fh:=IS m m0;have f1:=MS m
  have fl12:(aQ (m:Int)).length<=12:=by
   have:=lA (k:=12) 0e2 m1;unfold aQ;simpa [Str.length] using this
  have e0:("0" :Str)=⟨#[48]⟩:=by decide+kernel
  have e1:("1" :Str)=⟨#[49]⟩:=by decide+kernel
  refine⟨_,(ai (bR (aO gf (aM 1e6 T.ax aw.m aw.ok (hr.mono 0e2) aw.b .nil bb) aZ (aT _)) (ak
       fZ)
      aS) (ai (aA (i:=2) oB.nd rfl 0e3 2e4) (ai (iR PassesOwn.never (PW.pt (wB (i9 (dR zI hr (aa (aM 1e6 T.ax aw.m aw.ok (hr.mono 0e2) aw.b .nil bb) aj))) (pX (aO qQ (av j3 2e4 (pv 2)) (pv 1) (aT _))))) (ak (kZ 1e6 aq wF))) (ai (aA (i:=3) oB.nd rfl 0e3 (eF wV 2e4 (cY (pv 2)) (cY 2e4))) (ai (bR (aO gf (pv 3) aZ (aT _)) (ak
       fZ)
      aS) (ak (aH (yQ (qU (pv 3) (λ_=>rfl)) (bx Fq rfl T.DC wN (aa (pv 3) aj)) aq)))))))),?_⟩
  have s0:¬V.str (eO x p)=V.str "0" :=by
   rw[e0];intro z;have z:eO x p=⟨#[48]⟩:=by injection z
   cases hf:aQ (m:Int) with
   |nil=>
    rw[hf] at hh;rw[hh.So] at z
    cases post with
    |nil=>have:=congrArg (λs:Str=>s.cps.toList) z;simp at this
    |cons c r=>
     have:c=48:=by have:=congrArg (λs:Str=>s.cps.toList) z;simpa using this
     have:=IZ c rfl
     subst_vars
     simp [jX] at this
   |cons c r=>
    rw[hf] at hh fh;rw[hh.sg] at z;have:c=48:=by have:=congrArg (λs:Str=>s.cps.toList) z;simpa using this
    exact fh (by rw[this];rfl)
  refine⟨_,U,r,dx,_,U,hR,aK _ _,r,x,p,U,⟨dx,hR⟩,hh.1,hx,U,_,U,rm s0 ?_⟩;refine⟨_,U,r,R,dx,_,_,U,hR,T.ax,T.cw,bA _ _,?_⟩;refine⟨λk σ H'=>∃j:Nat,k+j=(aQ (m:Int)).length/\σ=[some (.ref r),some (.int lg),some (.int p),none]/\dn R H' r x (p+j)/\Kept r H H',⟨(aQ (m:Int)).length,0,by omega,U,⟨dx,hR⟩,Kept.refl r H⟩,?_⟩;rintro k σ H' ⟨j,hk,rfl,⟨dC,eL⟩,kk⟩;have hle:=hh.le;refine⟨_,U,r,dC,_,U,eL,aK _ _,r,x,p+j,U,⟨dC,eL⟩,by omega,hx,_,U,mZ _ _,_,U,?_⟩;by_cases hj:j< (aQ (m:Int)).length
  ·have e:aQ (m:Int)=(aQ (m:Int)).take j++(aQ (m:Int))[j]::(aQ (m:Int)).drop (j+1):=by
    conv=>lhs;rw[<-take_append_drop j (aQ (m:Int))]
    congr 1;exact drop_eq_getElem_cons hj
   have h2:Here x (p+j) ((aQ (m:Int))[j]::(aQ (m:Int)).drop (j+1)) post:=by
    have h3:=Here.on (t:=(aQ (m:Int)).take j) (u:=(aQ (m:Int))[j]::(aQ (m:Int)).drop (j+1)) (e▸hh)
    rwa [length_take,min_eq_left 0e1] at h3
   have ev:inR 48 57 (eO x (p+j))=true:=by
    rw[h2.sg,m7];exact all_eq_true.mp fa _ (getElem_mem hj)
   rw[ev];refine je ⟨_,rfl,r,R,dC,_,_,rfl,eL,T.ax,T.cw,bA _ _,_,rfl,_,_,rfl,rfl,_,rfl,_,_,rfl,rfl,_,rfl,wO 0e1 ?_⟩;refine⟨_,fun σ' cy h=>⟨k - 1,by omega,h⟩,?_⟩;refine⟨_,U,r,R,dC,_,_,U,eL,T.ax,T.cw,bA _ _,_,_,U,U,dC,_,eL,lD _ _,?_⟩;refine⟨j+1,by omega,U,⟨dC,?_⟩,λb o z w=>?_⟩
   ·rw[ag];exact congrArg (λz=>some (HO.ins R dC z)) (lC x (p+j) (p+j+1))
   ·rw[ah w];exact kk b o z w
  ·have ej:j=(aQ (m:Int)).length:=by omega
   have h2:Here x (p+j) [] post:=by
    have h3:=Here.on (t:=aQ (m:Int)) (u:=[]) (by rw[append_nil];exact hh)
    rwa [<-ej] at h3
   have ev:inR 48 57 (eO x (p+j))=false:=by
    rw[h2.So];exact xD IZ
   rw[ev];refine d4 (d4 ?_)
   have ec:Txt.slice x (some (p:Int)) (some ((p+j:Nat):Int))=cD (m:Int):=by
    rw[ej,hh.cut];apply ql;simp [aQ]
   refine⟨_,U,r,R,dC,_,_,U,eL,T.ax,T.jw,fS _ _,_,U,_,U,_,U,r,R,dC,_,_,U,eL,T.ax,T.cw,bA _ _,_,U,x,U,by omega,?_⟩;rw[ec]
   have nw:¬V.str (cD (m:Int))=V.str "1" :=by
    rw[e1];intro z;have z:cD (m:Int)=⟨#[49]⟩:=by injection z
    exact f1 (by unfold aQ;rw[z])
   refine⟨_,U,U,_,U,rm nw ?_⟩;rw[ej] at eL;have fin:=q H' ⟨dC,eL⟩ kk;have lf:(cD (m:Int)).length=(aQ (m:Int)).length:=by unfold aQ;simp [Str.length]
   refine⟨_,U,_,⟨by rw[lf];omega,U⟩,?_⟩;by_cases hm:m=1
   ·subst hm;have ez:(((cD ((1 :Nat):Int)).length:Int) != 0)=false:=by decide+kernel
    rw[ez];exact d4 fin
   ·have ez:(((cD (m:Int)).length:Int) != 0)=true:=by
     rw[lf];have:(aQ (m:Int)).length≠0:=λz=>hm (qm m (List.length_eq_zero_iff.mp z));simp only [bne_iff_ne,ne_eq];omega
    rw[ez];exact je ⟨_,rfl,_,_,rfl,xC m m1 hm,by rw[lf];omega,fin⟩
def Ja:ay 1e1 1e1 (ao qi):=dE
def vy(D:a9 K R "read_count" "Reader.read_count" qi 1e1)(T:ug K mg C R uK uN)(c1:aJ P w K mg base 2 R "read_number" ["self","longest"] (rW R)):aJ P w K mg base 3 R "read_count" 1e1 (iX R):=by
 obtain⟨_,_,dU⟩:=c1;refine D.dk Ja 0e6 0e0
 ·obtain⟨r,x,p,n,post,rfl,_⟩:=h;rfl
 ·obtain⟨r,x,p,n,post,rfl,⟨dx,hR⟩,hh,n1,n2,IZ,hx,q⟩:=h;refine⟨_,(ak (aH (pR dU hr T.ax 1e6 (aa (bo (v:= .int 3) rfl T.pS ⟨_,U⟩) aj)))),?_⟩;exact⟨_,U,r,dx,_,U,hR,aK _ _,r,x,p,n,3,post,U,⟨dx,hR⟩,hh,n1,by omega,(by have:=dS n1 n2;unfold aQ;simp [Str.length] at this;simpa using by omega),IZ,hx,q⟩
def aW{r a:Py}{H H':Hp}{o:HO}(k:Kept r H H')(hr:H' r=some o)(h:H' a=none):H a=none:=by
 cases hh:H a with
 |none=>rfl
 |some o'=>
  by_cases e:a=r
  ·rw[e,hr] at h;cases h
  ·rw[k a o' hh e] at h;cases h
def MY{f:Nat->Bool}{l post:IR}(h1:∀c∈l,f c=false)(h2:Not f post):Not f (l++post):=by
 cases l with
 |nil=>exact h2
 |cons c r=>
  intro d hd;have e:c=d:=by simpa using hd
  rw[<-e];exact h1 c 1e0
def Jb{n:Int}(h1:1<=n)(h2:n<=999):∀c∈aQ n,md c=false:=by
 intro c hc;obtain⟨m,rfl,m1,m0⟩:=P6 h1 0e1;have:=all_eq_true.mp (m4 m) c hc;simp only [jX,md,and_eq_true,decide_eq_true_eq] at*;simp;omega
def xI:ay ["self","begin","kind"] 1e1 (ao xi):=dE
def zJ(D:a9 K R "read_atom" "Reader.read_atom" xi 1e1)(T:ug K mg C R uK uN)(c1:aJ P w K mg base 1 R "sign" 1e1 (jv R))(c2:bp P w K mg base 1 "is_great" ["sign"] (PZ 65 90))(c3:bp P w K mg base 1 "is_small" ["sign"] (PZ 97 122))(c4:aJ P w K mg base 3 R "read_count" 1e1 (iX R))
  (c5:gF P w K mg base 1 C ["self","kind","count"] [1] (IK C)):aJ P w K mg base 4 R "read_atom" 1e1 (xH C R):=by
 obtain⟨_,_,aw⟩:=c1;obtain⟨_,_,mf⟩:=c2;obtain⟨_,_,B5⟩:=c3;obtain⟨_,_,aN⟩:=c4;obtain⟨_,_,gA⟩:=c5;obtain⟨_,Jc,Jd⟩:=gA.b 1 0e2;refine D.dk xI 0e6 0e0
 ·obtain⟨r,x,p,k,n,post,rfl,_⟩:=h;rfl
 ·obtain⟨r,x,p,k,n,post,rfl,⟨dx,hR⟩,hh,⟨c,rk,rfl,hc,Va,hl⟩,n1,n2,IZ,t9,hx,q⟩:=h;have big:(1000 :Nat)<=sizeLine:=by decide
  have hle:=hh.le
  refine⟨_,(ai (bR (n5 (i9 (dR mf hr (aa (aM 1e6 T.ax aw.m aw.ok (hr.mono 0e2) aw.b .nil bb) aj)))) (ak
       fZ)
      aS) (ai (aA (i:=1) xI.nd rfl 0e3 2e4) (ai (kZ 1e6 aq wF) (ai (iR PassesOwn.never (PW.pt (wB (i9 (dR B5 hr (aa (aM 1e6 T.ax aw.m aw.ok (hr.mono 0e2) aw.b .nil bb) aj))) (pX (aO qQ (av j3 2e4 (pv 1)) (bo (v:= .int 3) rfl T.rX ⟨_,U⟩) (aT _))))) (ak (kZ 1e6 aq wF))) (ai (aA (i:=2) xI.nd rfl 0e3 (eF wV 2e4 (cY (pv 1)) (cY 2e4))) (ak (aH (eY gA.m gA.ok (hr.mono 0e2) rfl T.Sm Jd Jc bb (aa (pv 2) (aa (aM 1e6 T.ax aN.m aN.ok (hr.mono 0e2) aN.b .nil bb) aj)))))))))),?_⟩
  refine⟨_,U,r,dx,_,U,hR,aK _ _,r,x,p,U,⟨dx,hR⟩,hh.1,hx,_,U,mZ _ _,_,U,?_⟩
  have ev:inR 65 90 (eO x p)=true:=by
   rw[Here.sg (c:=c) (t:=rk++aQ n) hh,m7];exact hc
  rw[ev];refine d4 ?_;refine⟨_,U,r,R,dx,_,_,U,hR,T.ax,T.cw,bA _ _,?_⟩;refine⟨_,U,r,R,dx,_,_,U,hR,T.ax,T.cw,bA _ _,_,_,U,U,dx,_,hR,lD _ _,?_⟩
  have eG:(upd H r (.ins R dx (cN "place" (.int ((p:Int)+1)) (gk x p)))) r=some (.ins R dx (gk x (p+1))):=by
   rw[ag];exact congrArg (λz=>some (HO.ins R dx z)) (lC x p (p+1))
  have k1:Kept r H (upd H r (.ins R dx (cN "place" (.int ((p:Int)+1)) (gk x p)))):=λb o z w=>by rw[ah w];exact z
  generalize upd H r _=H1 at eG k1 |-;have B6:Here x (p+1) (rk++aQ n) post:=Here.on (t:=[c]) (u:=rk++aQ n) hh;refine⟨λm σ H'=>∃j:Nat,m+j=rk.length/\σ=[some (.ref r),some (.int p),none]/\dn R H' r x (p+1+j)/\Kept r H H',⟨rk.length,0,by omega,U,⟨dx,eG⟩,k1⟩,?_⟩;rintro m σ H' ⟨j,hk,rfl,⟨dC,eL⟩,kk⟩;have hle1:=B6.le;rw[length_append] at hle1;refine⟨_,U,r,dC,_,U,eL,aK _ _,r,x,p+1+j,U,⟨dC,eL⟩,by omega,hx,_,U,mZ _ _,_,U,?_⟩;by_cases hj:j<rk.length
  ·have e:rk=rk.take j++rk[j]::rk.drop (j+1):=by
    conv=>lhs;rw[<-take_append_drop j rk]
    congr 1;exact drop_eq_getElem_cons hj
   have h2:Here x (p+1+j) (rk[j]::(rk.drop (j+1)++aQ n)) post:=by
    have e':rk++aQ n=rk.take j++(rk[j]::(rk.drop (j+1)++aQ n)):=by
     conv=>lhs;rw[e]
     rw[append_assoc];rfl
    have h3:=Here.on (t:=rk.take j) (u:=rk[j]::(rk.drop (j+1)++aQ n)) (e'▸B6)
    rwa [length_take,min_eq_left 0e1] at h3
   have ev:inR 97 122 (eO x (p+1+j))=true:=by
    rw[h2.sg,m7];exact all_eq_true.mp Va _ (getElem_mem hj)
   rw[ev];refine je ⟨_,rfl,r,R,dC,_,_,rfl,eL,T.ax,T.cw,bA _ _,_,rfl,_,_,rfl,rfl,_,_,rfl,rfl,_,rfl,wO 0e1 ?_⟩;refine⟨_,fun σ' cy h=>⟨m - 1,by omega,h⟩,?_⟩;refine⟨_,U,r,R,dC,_,_,U,eL,T.ax,T.cw,bA _ _,_,_,U,U,dC,_,eL,lD _ _,?_⟩;refine⟨j+1,by omega,U,⟨dC,?_⟩,λb o z w=>?_⟩
   ·rw[ag];exact congrArg (λz=>some (HO.ins R dC z)) (lC x (p+1+j) (p+1+j+1))
   ·rw[ah w];exact kk b o z w
  ·have ej:j=rk.length:=by omega
   have h2:Here x (p+1+j) (aQ n) post:=by
    have h3:=Here.on (t:=rk) (u:=aQ n) B6
    rwa [<-ej] at h3
   have ev:inR 97 122 (eO x (p+1+j))=false:=by
    have h3:Here x (p+1+j) [] (aQ n++post):=⟨h2.1,by rw[h2.2];rfl⟩;rw[h3.So];exact xD (MY (Jb n1 n2) t9)
   rw[ev];refine d4 (d4 ?_)
   have ec:Txt.slice x (some (p:Int)) (some ((p+1+j:Nat):Int))=⟨(c::rk).toArray⟩:=by
    have h3:Here x p (c::rk) (aQ n++post):=⟨hh.1,by rw[hh.2,append_assoc]⟩;have:=h3.cut;rw[length_cons] at this;rw[show p+1+j=p+(rk.length+1) by omega];exact this
   refine⟨_,U,r,R,dC,_,_,U,eL,T.ax,T.jw,fS _ _,_,U,_,U,_,U,r,R,dC,_,_,U,eL,T.ax,T.cw,bA _ _,_,U,x,U,by omega,?_⟩;rw[ec];refine⟨_,U,_,U,r,dC,_,U,eL,aK _ _,r,x,p+1+j,n,post,U,⟨dC,eL⟩,h2,n1,n2,IZ,hx,λH2 ip k2=>?_⟩;obtain⟨jT,ip⟩:=ip;refine λa da na MZ nea=>⟨a,da,_,n,rfl,ag,λH3 h3 k3=>⟨rfl,?_⟩⟩;have s3:au H2 H3:=λb o z=>k3 b o (by rw[ah (af z na),ah (af z MZ)];exact z) (af z na);have kf:=(kk.trans k2);refine q a H3 (aW kf ip na) ⟨da,h3⟩ ⟨jT,?_⟩ (kf.trans (Kept.of s3));rw[s3 _ _ ip,length_append,length_cons];rw[show p+1+j+(aQ n).length=p+(rk.length+1+(aQ n).length) by omega]
inductive Tr where
 |one (k:List Nat) (n:Int)
 |gr (ts:List Tr) (n:Int)
def bY:Nat->Tr->List Nat
 |_, .one k n=>k++aQ n
 |0, .gr _ _=>[]
 |d+1, .gr ts n=>40::(ts.flatMap (bY d)++41::aQ n)
def jY:Nat->Tr->Prop
 |_, .one k n=>lF k/\1<=n/\n<=999
 |0, .gr _ _=>False
 |d+1, .gr ts n=>ts≠[]/\(∀t∈ts,jY d t)/\1<=n/\n<=999
def eP(C G:Py):Nat->Hp->Addr->Tr->Prop
 |_,H,p, .one k n=>gz C H p ⟨k.toArray⟩ n
 |0,_,_, .gr _ _=>False
 |d+1,H,p, .gr ts n=>∃dx l ps,H p=some (.ins G dx (mX l n))/\H l=some (.lst (ps.map V.ref))/\Paired (eP C G d H) ps ts
def Xm(C G:Py)(d:Nat)(H H':Hp)(a:Py)(t:Tr):Prop:=∀cy,(∀b o,H b=none->H' b=some o->cy b=some o)->eP C G d cy a t
def NewL(C G L:Py)(d:Nat)(H H':Hp)(a:Py)(t:Tr):Prop:=∀cy,(∀b o,H b=none->b≠L->H' b=some o->cy b=some o)->eP C G d cy a t
def Xn(C G:Py)(d:Nat)(H H':Hp)(l:Py)(ts:List Tr):Prop:=H l=none/\∃ps,H' l=some (.lst (ps.map V.ref))/\∀cy,(∀b o,H b=none->H' b=some o->cy b=some o)->Paired (eP C G d cy) ps ts
def Stop(post:IR):Prop:=Not jX post/\Not md post/\Not zF post/\Not (λc=>decide (c=40)) post
inductive Je(C G R:Addr)(d:Nat)(vs:List V)(H:Hp)(Q:VK)(E:XK):Prop
 |mk (r:Addr) (x:Str) (p:Nat) (a:Nat) (t:Tr) (post:List Nat) (bM:vs=[.ref r, .int a]) (bV:dn R H r x p) (b8:Here x p (bY d t) post) (cS:jY d t) (eK:a+d<=4) (gS:Not jX post) (lR:Not md post) (rV:x.length<=1000) (yJ:∀y H',H y=none->Xm C G d H H' y t->dn R H' r x (p+(bY d t).length)->Kept r H H'->Q (.ref y) H')
def DH(C G R:Py)(d:Nat):Sp:=Je C G R d
def rZ(C G R:Py):Nat->Sp
 |0=>λ_ _ _ _=>False
 |d+1=>λvs H Q _=>∃(r:Py) (x:Str) (p:Nat) (a:Nat) (ts:List Tr) (n:Int) (post:IR),vs=[.ref r, .int a]/\dn R H r x p/\Here x p (bY (d+1) (.gr ts n)) post/\jY (d+1) (.gr ts n)/\a+d+1<=4/\Not jX post/\x.length<=1000/\
  ∀y H',H y=none->Xm C G (d+1) H H' y (.gr ts n)->dn R H' r x (p+(bY (d+1) (.gr ts n)).length)->Kept r H H'->Q (.ref y) H'
inductive FH(C G R:Addr)(d:Nat)(vs:List V)(H:Hp)(Q:VK)(E:XK):Prop
 |mk (r:Addr) (x:Str) (p:Nat) (a:Nat) (ts:List Tr) (post:List Nat) (bM:vs=[.ref r, .int a]) (bV:dn R H r x p) (b8:Here x p (ts.flatMap (bY d)) post) (cS:ts≠[]) (eK:(∀t∈ts,jY d t)) (gS:a+d<=4) (lR:Stop post) (rV:x.length<=1000) (yJ:∀l H',Xn C G d H H' l ts->dn R H' r x (p+(ts.flatMap (bY d)).length)->Kept r H H'->Q (.ref l) H')
def ni(C G R:Py)(d:Nat):Sp:=FH C G R d
structure r8(K:1e8)(mg:2e1)(C R G:Addr)(uK uN uB uE uM:Tok):Prop extends ug K mg C R uK uN where
 eM:t5 K G
 oC:cG K G "parts"
 oE:cG K G "count"
 M0:mg "Group" =some (.ref G)
 fY:mg "GROUP_BEGIN" =some (.str "(" uB)
 pj:mg "GROUP_END" =some (.str ")" uE)
 kE:mg "MOST_GROUPS_AROUND" =some (.int 3 uM)
def Vb:("(" :Str)=⟨#[40]⟩:=by decide+kernel
def e41:(")" :Str)=⟨#[41]⟩:=by decide+kernel
def oF{d:Nat}{t:Tr}(h:jY d t):∃c r,bY d t=c::r/\((zF c=true/\∃k n,t= .one k n)\/(c=40/\∃ts n,t= .gr ts n)):=by
 cases t with
 |one k n=>
  have h:lF k/\1<=n/\n<=999:=by cases d<;>exact h
  obtain⟨⟨c,r,rfl,hc,_⟩,_⟩:=h;have e:bY d (.one (c::r) n)=c::(r++aQ n):=by cases d<;>rfl
  exact⟨c,_,e, .inl ⟨hc,_,_,U⟩⟩
 |gr ts n=>
  cases d with
  |zero=>exact h.elim
  |succ d=>exact⟨40,_,U, .inr ⟨U,_,_,U⟩⟩
def M4:ay ["self","around"] ["self","around"] (ao rJ):=dE
def zK(d:Nat)(D:a9 K R "read_part" "Reader.read_part" rJ ["self","around"])(T:r8 K mg C R G uK uN uB uE uM)(c1:aJ P w K mg base 1 R "sign" 1e1 (jv R))(c2:aJ P w K mg base 4 R "read_atom" 1e1 (xH C R))(c3:aJ P w K mg base (3*d+4) R "read_group" ["self","around"] (rZ C G R d)):
  aJ P w K mg base (3*d+5) R "read_part" ["self","around"] (DH C G R d):=by
 obtain⟨_,_,aw⟩:=c1;obtain⟨_,_,eQ⟩:=c2;obtain⟨_,_,lS⟩:=c3;refine D.dk M4 0e6 0e0
 ·obtain⟨r,x,p,a,t,post,rfl,_⟩:=h;rfl
 ·obtain⟨r,x,p,a,t,post,rfl,⟨dx,hR⟩,hh,ok,ha,IZ,t9,hx,q⟩:=h
  refine⟨_,(ai (bR (PW.pt (wB (aO gf (aM 1e6 T.ax aw.m aw.ok (hr.mono 0e1) aw.b .nil bb) (bo (v:= .str "(") rfl T.fY ⟨_,U⟩) (aT _)) (pX (aO Pr (pv 1) (bo (v:= .int 3) rfl T.kE ⟨_,U⟩) (aT _))))) (ak (aH (pR lS hr T.ax 1e6 (aa (pv 1) aj))))
      aS) (ak (aH (aM 1e6 T.ax eQ.m eQ.ok (hr.mono 0e1) eQ.b .nil bb)))),?_⟩
  obtain⟨c,rest,hc,ht⟩:=oF ok;have P7:eO x p=⟨#[c]⟩:=Here.sg (t:=rest) (hc▸hh);refine⟨_,U,r,dx,_,U,hR,aK _ _,r,x,p,U,⟨dx,hR⟩,hh.1,hx,U,_,U,?_⟩;rcases ht with ⟨hg,k,n,rfl⟩ | ⟨rfl,ts,n,rfl⟩
  ·have ne:¬V.str (eO x p)=V.str "(" :=by
    rw[P7,Vb];intro z;have z:(⟨#[c]⟩:Str)=⟨#[40]⟩:=by injection z
    have:c=40:=by have:=congrArg (λs:Str=>s.cps.toList) z;simpa using this
    subst this;simp [zF] at hg
   refine rm ne ?_;have P8:lF k/\1<=n/\n<=999:=by cases d<;>exact ok
   have et:bY d (.one k n)=k++aQ n:=by cases d<;>rfl
   rw[et] at hh q;refine⟨_,U,r,dx,_,U,hR,aK _ _,r,x,p,k,n,post,U,⟨dx,hR⟩,hh,P8.1,P8.2.1,P8.2.2,IZ,t9,hx,λy H' ny hA eL kp=>q y H' ny (λcy ke=>?_) eL kp⟩;obtain⟨dy,hA⟩:=hA;have e:eP C G d cy y (.one k n)=gz C cy y ⟨k.toArray⟩ n:=by cases d<;>rfl
   rw[e];exact⟨dy,ke _ _ ny hA⟩
  ·cases d with
   |zero=>exact ok.elim
   |succ d=>
    refine wO (by rw[P7,Vb]) ?_;refine⟨_,U,_,_,U,U,_,U,wO 0e1 ?_⟩;exact⟨_,U,r,dx,_,U,hR,aK _ _,_,U,r,x,p,a,ts,n,post,U,⟨dx,hR⟩,hh,ok,by omega,IZ,hx,q⟩
inductive Jf(X:Addr)(vs:List V)(H:Hp)(Q:VK)(E:XK):Prop
 |mk (p dx l:Addr) (c:Int) (xs:List V) (bM:vs=[.ref p, .ref l, .int c]) (bV:H p=some (.ins X dx [])) (b8:H l=some (.lst xs)) (cS:∀n H',H n=none->H' p=some (.ins X dx (mX n c))->H' n=some (.lst xs)->(∀b o,H b=some o->b≠p->H' b=some o)->Q .cF H')
def nq(X:Py):Sp:=Jf X
def fT{H:Hp}{a b m:Py}{o o':HO}(h:(upd (upd H a o) b o') m=none):H m=none:=by
 by_cases e:m=b
 ·rw[e,ag] at h;cases h
 ·rw[ah e] at h;by_cases e':m=a
  ·rw[e',ag] at h;cases h
  ·rwa [ah e'] at h
def Sv(l:IR):Stop (41::l):=by
 refine⟨?_,?_,?_,?_⟩<;>(intro c hc;have e:41=c:=by simpa using hc)<;>subst e<;>decide
def sh:ay ["self","around","parts"] ["self","around"] (ao lu):=dE
def B7(D:a9 K R "read_group" "Reader.read_group" lu ["self","around"]):aJ P w K mg base 4 R "read_group" ["self","around"] (rZ C G R 0):=
 D.dk (k:=3) sh (λvs H Q E h=>h.elim) (λf bg A outer s H vs Q E hr h=>h.elim)
def FI(d:Nat)(D:a9 K R "read_group" "Reader.read_group" lu ["self","around"])(T:r8 K mg C R G uK uN uB uE uM)(c1:aJ P w K mg base 2 R "take" ["self","sign"] (me R))(c2:aJ P w K mg base 3 R "read_count" 1e1 (iX R))(c3:aJ P w K mg base (3*d+6) R "read_parts" ["self","around"] (ni C G R d))
  (c4:gF P w K mg base 1 G ["self","parts","count"] [1] (nq G)):aJ P w K mg base (3*d+7) R "read_group" ["self","around"] (rZ C G R (d+1)):=by
 obtain⟨_,_,bJ⟩:=c1;obtain⟨_,_,aN⟩:=c2;obtain⟨_,_,cZ⟩:=c3;obtain⟨_,_,eM⟩:=c4;obtain⟨_,FJ,FK⟩:=eM.b 1 0e2;refine D.dk sh 0e6 0e0
 ·obtain⟨r,x,p,a,ts,n,post,rfl,_⟩:=h;rfl
 ·obtain⟨r,x,p,a,ts,n,post,rfl,⟨dx,hR⟩,hh,⟨m5,aX,n1,n2⟩,ha,IZ,hx,q⟩:=h;refine⟨_,(ai (a7 (pR bJ hr T.ax 1e6 (aa (bo (v:= .str "(") rfl T.fY ⟨_,U⟩) aj))) (ai (aA (i:=2) sh.nd rfl 0e3 (pR cZ hr T.ax 1e6 (aa (av bC (pv 1) aq) aj))) (ai (a7 (pR bJ hr T.ax 1e6 (aa (bo (v:= .str ")") rfl T.pj ⟨_,U⟩) aj))) (ak (aH (eY eM.m eM.ok (hr.mono 0e1) rfl T.M0 FK FJ bb (aa (pv 2) (aa (aM 1e6 T.ax aN.m aN.ok (hr.mono 0e1) aN.b .nil bb) aj)))))))),?_⟩;have Jg:Here x p (40::(ts.flatMap (bY d)++41::aQ n)) post:=hh;have B6:Here x (p+1) (ts.flatMap (bY d)++41::aQ n) post:=Here.on (t:=[40]) Jg;have Sw:Here x (p+1) (ts.flatMap (bY d)) (41::(aQ n++post)):=⟨B6.1,by rw[B6.2,append_assoc];rfl⟩;have GV:Here x (p+1+(ts.flatMap (bY d)).length) (41::aQ n) post:=Here.on (t:=ts.flatMap (bY d)) B6;have hh4:Here x (p+1+(ts.flatMap (bY d)).length+1) (aQ n) post:=Here.on (t:=[41]) GV;refine⟨_,U,r,dx,_,U,hR,aK _ _,r,x,p,_,40,_,post,U,Vb,⟨dx,hR⟩,Jg,hx,λH1 eG k1=>?_⟩;obtain⟨nX,eG⟩:=eG;refine⟨_,U,r,nX,_,U,eG,aK _ _,_,U,_,_,U,U,r,x,p+1,a+1,ts,_,U,⟨nX,eG⟩,Sw,m5,aX,by omega,Sv _,hx,λl H2 hN ip k2=>?_⟩;obtain⟨jT,ip⟩:=ip;obtain⟨uc,ps,pM,Mj⟩:=hN;refine⟨_,U,r,jT,_,U,ip,aK _ _,r,x,p+1+(ts.flatMap (bY d)).length,_,41,_,post,U,e41,⟨jT,ip⟩,GV,hx,λH3 iq k3=>?_⟩;obtain⟨B8,iq⟩:=iq;refine⟨_,U,_,U,r,B8,_,U,iq,aK _ _,r,x,_,n,post,U,⟨B8,iq⟩,hh4,n1,n2,IZ,hx,λH4 vz k4=>?_⟩;obtain⟨LG,vz⟩:=vz;have nlr:l≠r:=λz=>by rw[z,eG] at uc;cases uc
  have DI:=k4 _ _ (k3 _ _ pM nlr) nlr;refine λg dg ng B9 neg=>⟨g,dg,l,n,ps.map V.ref,rfl,ag,?_,λm H5 hm hg Vc kp=>⟨rfl,?_⟩⟩
  ·rw[ah (af DI ng),ah (af DI B9)];exact DI
  have s5:au H4 H5:=λb o z=>kp b o (by rw[ah (af z ng),ah (af z B9)];exact z) (af z ng);have kf:Kept r H H4:=((k1.trans k2).trans k3).trans k4;refine q g H5 (aW kf vz ng) (λcy ke=>?_) ⟨LG,?_⟩ (kf.trans (Kept.of s5))
  ·refine⟨dg,m,ps,ke _ _ (aW kf vz ng) hg,ke _ _ (aW kf vz (fT hm)) Vc,Mj cy λb o z1 z2=>?_⟩;have A2:b≠r:=λz=>by rw[z,eG] at z1;cases z1
   exact ke _ _ (aW k1 eG z1) (s5 _ _ (k4 _ _ (k3 _ _ z2 A2) A2))
  ·rw[s5 _ _ vz];show some (HO.ins R LG (gk x (p+1+(ts.flatMap (bY d)).length+1+(aQ n).length)))=some (HO.ins R LG (gk x (p+(40::(ts.flatMap (bY d)++41::aQ n)).length)));rw[length_cons,length_append,length_cons];rw[show p+1+(ts.flatMap (bY d)).length+1+(aQ n).length=p+((ts.flatMap (bY d)).length+((aQ n).length+1)+1) by omega]
theorem si{d:Nat}:∀{ts:List Tr},(∀t∈ts,jY d t)->ts.length<=(ts.flatMap (bY d)).length
 | [],_=>le_refl _
 |t::ts,h=>by
  obtain⟨c,r,e,_⟩:=oF (h t 1e0);have:=si (d:=d) (ts:=ts) λu hu=>h u (mem_cons_of_mem _ hu);rw[flatMap_cons,length_append,e,length_cons,length_cons];omega
def list_at{α:Type}{l:List α}{i:Nat}(h:i<l.length):l=l.take i++l[i]::l.drop (i+1):=by
 conv=>lhs;rw[<-take_append_drop i l]
 congr 1;exact drop_eq_getElem_cons h
def sj{d:Nat}{ts:List Tr}{post:IR}(h:∀t∈ts,jY d t)(hs:Stop post):Not jX (ts.flatMap (bY d)++post)/\Not md (ts.flatMap (bY d)++post):=by
 cases ts with
 |nil=>exact⟨hs.1,hs.2.1⟩
 |cons t ts=>
  obtain⟨c,r,e,hc⟩:=oF (h t 1e0);have hc:zF c=true\/c=40:=hc.elim (λz=> .inl z.1) λz=> .inr z.1;rw[flatMap_cons,e];refine⟨λb hb=>?_,λb hb=>?_⟩<;>have eb:c=b:=by simpa using hb
  ·subst eb;rcases hc with hc|rfl
   ·simp only [zF,jX,and_eq_true,decide_eq_true_eq] at*;simp;omega
   ·decide
  ·subst eb;rcases hc with hc|rfl
   ·simp only [zF,md,and_eq_true,decide_eq_true_eq] at*;simp;omega
   ·decide
def Ca{d:Nat}{x:Str}{p:Nat}{ts:List Tr}{post:IR}{i:Nat}(h:Here x p (ts.flatMap (bY d)) post)(hi:i<ts.length):Here x (p+((ts.take i).flatMap (bY d)).length) (bY d ts[i]) ((ts.drop (i+1)).flatMap (bY d)++post):=by
 have e:ts.flatMap (bY d)=(ts.take i).flatMap (bY d)++(bY d ts[i]++(ts.drop (i+1)).flatMap (bY d)):=by
  conv=>lhs;rw[list_at hi]
  rw[flatMap_append,flatMap_cons]
 have h1:=Here.on (t:=(ts.take i).flatMap (bY d)) (e▸h);exact⟨h1.1,by rw[h1.2,append_assoc]⟩
def vA{d:Nat}{ts:List Tr}{i:Nat}(hi:i<ts.length):(ts.take (i+1)).flatMap (bY d)=(ts.take i).flatMap (bY d)++bY d ts[i]:=by
 rw[take_add_one,getElem?_eq_getElem hi];show (ts.take i++[ts[i]]).flatMap (bY d)=_;rw[flatMap_append,flatMap_cons,flatMap_nil,append_nil]
theorem aB{α β:Type}{p q:α->β->Prop}(h:∀a b,p a b->q a b):∀{as:List α} {bs:List β},Paired p as bs->Paired q as bs
 |_,_, .nil=> .nil
 |_,_, .cons x t=> .cons (h _ _ x) (aB h t)
theorem bH{α β:Type}{p:α->β->Prop}{a:α}{b:β}(x:p a b):∀{as:List α} {bs:List β},Paired p as bs->Paired p (as++[a]) (bs++[b])
 |_,_, .nil=> .cons x .nil
 |_,_, .cons y t=> .cons y (bH x t)
def zL:ay ["self","around","parts"] ["self","around"] (ao mU):=dE
def vB(d:Nat)(D:a9 K R "read_parts" "Reader.read_parts" mU ["self","around"])(T:r8 K mg C R G uK uN uB uE uM)(c1:aJ P w K mg base 1 R "sign" 1e1 (jv R))(c2:bp P w K mg base 1 "is_great" ["sign"] (PZ 65 90))(c3:aJ P w K mg base (3*d+5) R "read_part" ["self","around"] (DH C G R d)):
  aJ P w K mg base (3*d+6) R "read_parts" ["self","around"] (ni C G R d):=by
 obtain⟨_,_,aw⟩:=c1;obtain⟨_,_,mf⟩:=c2;obtain⟨_,_,gY⟩:=c3;refine D.dk zL 0e6 0e0
 ·obtain⟨r,x,p,a,ts,post,rfl,_⟩:=h;rfl
 ·obtain⟨r,x,p,a,ts,post,rfl,⟨dx,hR⟩,hh,m5,aX,ha,iu,hx,q⟩:=h;have big:=bgL;have hle:=hh.le;have hfl:=si aX;have t0:0<ts.length:=length_pos_iff.mpr m5;refine⟨_,(ai (aA (i:=2) zL.nd rfl 0e3 (bO (aa (pR gY hr T.ax 1e6 (aa (pv 1) aj)) aj))) (ai (iR PassesOwn.never (PW.pt (uO (i9 (dR mf hr (aa (aM 1e6 T.ax aw.m aw.ok (hr.mono 0e1) aw.b .nil bb) aj))) (qM (aO gf (aM 1e6 T.ax aw.m aw.ok (hr.mono 0e1) aw.b .nil bb) (bo (v:= .str "(") rfl T.fY ⟨_,U⟩) (aT _))))) (ak (a7 (eU PySem.F.plainAttrs_list PySem.F.slot_list_append PySem.F.type_list_append cn (pv 2) (aa (pR gY hr T.ax 1e6 (aa (pv 1) aj)) aj))))) (ak (aH (pv 2))))),?_⟩;have LC:∀i,∀t∈ts.drop i,jY d t:=λi t ht=>aX t (mem_of_mem_drop ht);have h0:Here x p (bY d ts[0]) ((ts.drop (0+1)).flatMap (bY d)++post):=Ca hh t0;have n0:=sj (LC (0+1)) iu;refine⟨_,U,r,dx,_,U,hR,aK _ _,_,U,r,x,p,a,ts[0],_,U,⟨dx,hR⟩,h0,aX _ (getElem_mem t0),ha,n0.1,n0.2,hx,λy H1 ny hN eG k1=>⟨(by show 1<=sizeLine;decide),λL hL=>?_⟩⟩;obtain⟨nX,eG⟩:=eG;have Cb:H L=none:=aW k1 eG hL;have zM:L≠r:=λz=>by rw[z,eG] at hL;cases hL
  refine⟨λm σ H'=>∃i:Nat,m+i=ts.length/\σ=[some (.ref r),some (.int a),some (.ref L)]/\dn R H' r x (p+((ts.take i).flatMap (bY d)).length)/\Kept r H H'/\∃ps,H' L=some (.lst (ps.map V.ref))/\ps.length=i/\Paired (NewL C G L d H H') ps (ts.take i),⟨ts.length - 1,1,by omega,U,?_,?_,[y],ag,U,?_⟩,?_⟩
  ·refine⟨nX,?_⟩;rw[ah (Ne.symm zM),eG];have:=vA (d:=d) t0;rw[this];rfl
  ·exact k1.trans (Kept.of (au.new hL))
  ·rw[show ts.take 1=[ts[0]] by
    have:=@take_add_one _ ts 0
    rw[this,getElem?_eq_getElem t0];rfl]
   refine .cons (λcy ke=>hN cy λb o z1 z2=>?_) .nil;have DJ:b≠L:=af z2 hL;exact ke b o z1 DJ (by rw[ah DJ];exact z2)
  rintro m σ H' ⟨i,hm,rfl,⟨dC,eL⟩,kk,ps,tV,fP,hP⟩
  have hpi:p+((ts.take i).flatMap (bY d)).length<=x.length:=by
   have:((ts.take i).flatMap (bY d)).length<=(ts.flatMap (bY d)).length:=by
    conv=>rhs;rw[<-take_append_drop i ts,flatMap_append,length_append]
    omega
   omega
  refine⟨_,U,r,dC,_,U,eL,aK _ _,r,x,_,U,⟨dC,eL⟩,hpi,hx,_,U,mZ _ _,_,U,?_⟩;by_cases hi:i<ts.length
  ·have h2:=Ca hh hi;have Vd:=aX _ (getElem_mem hi);obtain⟨c,rest,hc,ht⟩:=oF Vd;have P7:eO x (p+((ts.take i).flatMap (bY d)).length)=⟨#[c]⟩:=Here.sg (t:=rest) (hc▸h2);have nn:=sj (LC (i+1)) iu;have Mj:ps.length<sizeLine:=by omega
   rcases ht with ⟨hg,_⟩ | ⟨Xo,_⟩
   case' inl=>
    have ev:inR 65 90 (eO x (p+((ts.take i).flatMap (bY d)).length))=true:=by
     rw[P7,m7];exact hg
    rw[ev];refine je (je ?_)
   case' inr=>
    have ev:inR 65 90 (eO x (p+((ts.take i).flatMap (bY d)).length))=false:=by
     rw[P7,m7,Xo];rfl
    rw[ev];refine d4 ⟨_,rfl,r,dC,_,rfl,eL,aK _ _,r,x,_,rfl,⟨dC,eL⟩,hpi,hx,rfl,_,rfl,wO (by rw[P7,Vb,Xo]) ?_⟩
   all_goals
    refine⟨_,fun σ' cy h=>⟨m - 1,by omega,h⟩,?_⟩;refine⟨_,U, .inl ⟨U,_,bh.of tV⟩,_,U,r,dC,_,U,eL,aK _ _,_,U,r,x,_,a,ts[i],_,U,⟨dC,eL⟩,h2,Vd,ha,nn.1,nn.2,hx,λy H2 ny hN ip k2=>?_⟩;obtain⟨jT,ip⟩:=ip;have vC:=k2 _ _ tV zM;refine⟨L,_,_,U,U,vC,by rw[length_map];exact Mj,i+1,by omega,U,⟨jT,?_⟩,λb o z w=>?_,ps++[y],by rw[ag,map_append];rfl,by rw[length_append,fP];rfl,?_⟩
    ·rw[ah (Ne.symm zM),ip,vA hi,length_append,Nat.add_assoc]
    ·rw[ah (af z Cb)];exact k2 _ _ (kk _ _ z w) w
    ·rw[take_add_one,getElem?_eq_getElem hi];refine bH (λcy ke=>hN cy λb o z1 z2=>?_) (aB (λc t h cy ke=>h cy λb o z1 z2 z3=>ke b o z1 z2 ?_) hP)
     ·have DJ:b≠L:=λz=>by rw[z,tV] at z1;cases z1
      exact ke b o (aW kk eL z1) DJ (by rw[ah DJ];exact z2)
     ·have A2:b≠r:=λz=>by rw[z,hR] at z1;cases z1
      rw[ah z2];exact k2 _ _ z3 A2
  ·have ei:i=ts.length:=by omega
   rw[ei,take_length] at eL hP hpi |-;have h3:Here x (p+(ts.flatMap (bY d)).length) [] post:=Here.on (t:=ts.flatMap (bY d)) (u:=[]) (by rw[append_nil];exact hh)
   have ev:inR 65 90 (eO x (p+(ts.flatMap (bY d)).length))=false:=by
    rw[h3.So];exact xD iu.2.2.1
   rw[ev]
   have ne:¬V.str (eO x (p+(ts.flatMap (bY d)).length))=V.str "(" :=by
    rw[h3.So,Vb];intro z;have z:(⟨(post.take 1).toArray⟩:Str)=⟨#[40]⟩:=by injection z
    cases post with
    |nil=>have:=congrArg (λs:Str=>s.cps.toList) z;simp at this
    |cons c _=>
     have e:c=40:=by have:=congrArg (λs:Str=>s.cps.toList) z;simpa using this
     have:=iu.2.2.2 c rfl;simp [e] at this
   refine d4 ⟨_,rfl,r,dC,_,rfl,eL,aK _ _,r,x,_,rfl,⟨dC,eL⟩,hpi,hx,rfl,_,rfl,rm ne ?_⟩;exact⟨_,U,q L H' ⟨Cb,ps,tV,λcy ke=>aB (λc t h=>h cy λb o z1 _ z3=>ke b o z1 z3) hP⟩ ⟨dC,eL⟩ kk⟩
theorem sk(D1:a9 K R "read_group" "Reader.read_group" lu ["self","around"])(D2:a9 K R "read_part" "Reader.read_part" rJ ["self","around"])(D3:a9 K R "read_parts" "Reader.read_parts" mU ["self","around"])(T:r8 K mg C R G uK uN uB uE uM)
  (c1:aJ P w K mg base 1 R "sign" 1e1 (jv R)) (c2:bp P w K mg base 1 "is_great" ["sign"] (PZ 65 90)) (c3:aJ P w K mg base 4 R "read_atom" 1e1 (xH C R)) (c4:aJ P w K mg base 2 R "take" ["self","sign"] (me R)) (c5:aJ P w K mg base 3 R "read_count" 1e1 (iX R))
  (c6:gF P w K mg base 1 G ["self","parts","count"] [1] (nq G)):∀d:Nat,aJ P w K mg base (3*d+6) R "read_parts" ["self","around"] (ni C G R d)
 |0=>vB 0 D3 T c1 c2 (zK 0 D2 T c1 c3 (B7 D1))
 |d+1=>vB (d+1) D3 T c1 c2 (zK (d+1) D2 T c1 c3 (by rw[show 3*(d+1)+4=3*d+7 by omega];exact FI d D1 T c4 c5 (sk D1 D2 D3 T c1 c2 c3 c4 c5 c6 d) c6))
def eh(n:Int):List Nat:=if n=0 then [] else 94::(aQ (if n<0 then -n else n)++[if 0<n then 43 else 45])
def GW(post:IR):Prop:=post=[]\/∃r,post=32::r
def GW.ne{post:IR}(h:GW post){c:Nat}(hc:c≠32):¬V.str (⟨(post.take 1).toArray⟩:Str)=V.str (⟨#[c]⟩:Str):=by
 intro z;have z:(⟨(post.take 1).toArray⟩:Str)=⟨#[c]⟩:=by injection z
 have z:=congrArg (λs:Str=>s.cps.toList) z;rcases h with rfl| ⟨r,rfl⟩
 ·simp at z
 ·have e:32=c:=by simpa using z
  exact hc e.symm
def GW.stop{post:IR}(h:GW post):Stop post:=by
 rcases h with rfl| ⟨r,rfl⟩
 ·refine⟨?_,?_,?_,?_⟩<;>(intro c hc;cases hc)
 ·refine⟨?_,?_,?_,?_⟩<;>(intro c hc;have e:32=c:=by simpa using hc)<;>subst e<;>decide
inductive Cc(R:Addr)(vs:List V)(H:Hp)(Q:VK)(E:XK):Prop
 |mk (r:Addr) (x:Str) (p:Nat) (n:Int) (post:List Nat) (bM:vs=[.ref r]) (bV:dn R H r x p) (b8:Here x p (eh n) post) (cS:GW post) (eK: -999<=n) (gS:n<=999) (lR:x.length<=1000) (rV:∀H',dn R H' r x (p+(eh n).length)->Kept r H H'->Q (.int n) H')
def vD(R:Py):Sp:=Cc R
structure Xp(K:1e8)(mg:2e1)(C R:Addr)(uK uN uC uP uI:Tok):Prop extends ug K mg C R uK uN where
 iL:mg "CHARGE_MARK" =some (.str "^" uC)
 su:mg "PLUS" =some (.str "+" uP)
 xJ:mg "MINUS" =some (.str "-" uI)
def Xq:("^" :Str)=⟨#[94]⟩:=by decide+kernel
def e43:("+" :Str)=⟨#[43]⟩:=by decide+kernel
def M5:("-" :Str)=⟨#[45]⟩:=by decide+kernel
def qt{c b:Nat}(h:c≠b):¬V.str (⟨#[c]⟩:Str)=V.str (⟨#[b]⟩:Str):=by
 intro z;have z:(⟨#[c]⟩:Str)=⟨#[b]⟩:=by injection z
 exact h (by have:=congrArg (λs:Str=>s.cps.toList) z;simpa using this)
def vE:ay ["self","count"] 1e1 (ao mW):=dE
def sv{uC uP uI:Tok}(D:a9 K R "read_charge" "Reader.read_charge" mW 1e1)(T:Xp K mg C R uK uN uC uP uI)(c1:aJ P w K mg base 1 R "sign" 1e1 (jv R))(c2:aJ P w K mg base 2 R "take" ["self","sign"] (me R))(c3:aJ P w K mg base 3 R "read_count" 1e1 (iX R)):
  aJ P w K mg base 4 R "read_charge" 1e1 (vD R):=by
 obtain⟨_,_,aw⟩:=c1;obtain⟨_,_,bJ⟩:=c2;obtain⟨_,_,aN⟩:=c3;refine D.dk vE 0e6 0e0
 ·obtain⟨r,x,p,n,post,rfl,_⟩:=h;rfl
 ·obtain⟨r,x,p,n,post,rfl,⟨dx,hR⟩,hh,LH,n1,n2,hx,q⟩:=h
  refine⟨_,(ai (bR (aO mD (aM 1e6 T.ax aw.m aw.ok (hr.mono 0e2) aw.b .nil bb) (bo (v:= .str "^") rfl T.iL ⟨_,U⟩) (aT _)) (ak (aH aq))
      aS) (ai (a7 (pR bJ hr T.ax 1e6 (aa (bo (v:= .str "^") rfl T.iL ⟨_,U⟩) aj))) (ai (aA (i:=1) vE.nd rfl 0e3 (aM 1e6 T.ax aN.m aN.ok (hr.mono 0e2) aN.b .nil bb)) (ai (bR (aO gf (aM 1e6 T.ax aw.m aw.ok (hr.mono 0e2) aw.b .nil bb) (bo (v:= .str "-") rfl T.xJ ⟨_,U⟩) (aT _)) (ai (a7 (pR bJ hr T.ax 1e6 (aa (bo (v:= .str "-") rfl T.xJ ⟨_,U⟩) aj))) (ak (aH (qP lX (pv 1)))))
      aS) (ai (a7 (pR bJ hr T.ax 1e6 (aa (bo (v:= .str "+") rfl T.su ⟨_,U⟩) aj))) (ak (aH (pv 1)))))))),?_⟩
  refine⟨_,U,r,dx,_,U,hR,aK _ _,r,x,p,U,⟨dx,hR⟩,hh.1,hx,U,_,U,?_⟩;by_cases h0:n=0
  ·subst h0;have hh:Here x p [] post:=hh
   have ne:¬V.str (eO x p)=V.str "^" :=by
    rw[hh.So,Xq];exact LH.ne 0e2
   rw[decide_eq_false ne];exact je (q H ⟨dx,hR⟩ (Kept.refl r H))
  ·have ec:eh n=94::(aQ (if n<0 then -n else n)++[if 0<n then 43 else 45]):=by unfold eh;rw[if_neg h0]
   rw[ec] at hh q;have a1:1<=(if n<0 then -n else n):=by split<;>omega
   have a2:(if n<0 then -n else n)<=999:=by split<;>omega
   have eq:V.str (eO x p)=V.str "^" :=by rw[hh.sg,Xq]
   rw[decide_eq_true eq];refine d4 ?_;have B6:Here x (p+1) (aQ (if n<0 then -n else n)++[if 0<n then 43 else 45]) post:=Here.on (t:=[94]) hh;have Sw:Here x (p+1) (aQ (if n<0 then -n else n)) ((if 0<n then 43 else 45)::post):=⟨B6.1,by rw[B6.2,append_assoc];rfl⟩;have GV:Here x (p+1+(aQ (if n<0 then -n else n)).length) [if 0<n then 43 else 45] post:=Here.on B6;refine⟨_,U,r,dx,_,U,hR,aK _ _,r,x,p,_,94,_,post,U,Xq,⟨dx,hR⟩,hh,hx,λH1 eG k1=>?_⟩;obtain⟨nX,eG⟩:=eG
   have nf:Not jX ((if 0<n then 43 else 45)::post):=by
    intro c hc;have e:(if 0<n then 43 else 45)=c:=by simpa using hc
    rw[<-e];split<;>rfl
   refine⟨_,U,r,nX,_,U,eG,aK _ _,r,x,p+1,_,_,U,⟨nX,eG⟩,Sw,a1,a2,nf,hx,λH2 ip k2=>?_⟩;obtain⟨jT,ip⟩:=ip;have kk:=k1.trans k2;refine⟨_,U,r,jT,_,U,ip,aK _ _,r,x,_,U,⟨jT,ip⟩,GV.1,hx,U,_,U,?_⟩
   have el:p+1+(aQ (if n<0 then -n else n)).length+1=p+(94::(aQ (if n<0 then -n else n)++[if 0<n then 43 else 45])).length:=by
    rw[length_cons,length_append];simp;omega
   by_cases hp:0<n
   ·rw[if_pos hp] at GV
    have ne:¬V.str (eO x (p+1+(aQ (if n<0 then -n else n)).length))=V.str "-" :=by
     rw[GV.sg,M5];exact qt 0e2
    refine rm ne ?_;refine⟨_,U,r,jT,_,U,ip,aK _ _,r,x,_,_,43,_,post,U,e43,⟨jT,ip⟩,GV,hx,λH3 iq k3=>?_⟩;rw[el] at iq;have:=q H3 iq (kk.trans k3);refine⟨_,U,?_⟩;rw[if_neg 0e1];exact this
   ·rw[if_neg hp] at GV;refine wO (by rw[GV.sg,M5]) ?_;refine⟨_,U,r,jT,_,U,ip,aK _ _,r,x,_,_,45,_,post,U,M5,⟨jT,ip⟩,GV,hx,λH3 iq k3=>?_⟩;rw[el] at iq;have:=q H3 iq (kk.trans k3);have e2: -(if n<0 then -n else n)=n:=by rw[if_pos 0e1,Int.neg_neg]
    rw[show V.int n=V.int (-(if n<0 then -n else n)) from by rw[e2]] at this;exact⟨_,U,_,U,this⟩
def npch:¬(("pieces" :Str)="charge"):=by decide+kernel
def pk(l:Py)(n:Int):List (Str×V):=cN "charge" (.int n) (cN "pieces" (.ref l) [])
def jx(l:Py)(n:Int):(pk l n).lookup ("pieces" :Str)=some (.ref l):=by
 unfold pk;rw[aD,if_neg npch,aD,if_pos rfl]
def jy(l:Py)(n:Int):(pk l n).lookup ("charge" :Str)=some (.int n):=by
 unfold pk;rw[aD,if_pos rfl]
def kF(l:Py)(n:Int){m:Str}(h1:¬m="charge")(h2:¬m="pieces"):(pk l n).lookup m=none:=by
 unfold pk;rw[aD,if_neg h1,aD,if_neg h2]
 all_goals rfl
inductive Jh(X:Addr)(vs:List V)(H:Hp)(Q:VK)(E:XK):Prop
 |mk (p dx l:Addr) (c:Int) (xs:List V) (bM:vs=[.ref p, .ref l, .int c]) (bV:H p=some (.ins X dx [])) (b8:H l=some (.lst xs)) (cS:∀n H',H n=none->H' p=some (.ins X dx (pk n c))->H' n=some (.lst xs)->(∀b o,H b=some o->b≠p->H' b=some o)->Q .cF H')
def xK(X:Py):Sp:=Jh X
abbrev ir:=Int×List Tr
inductive jz(C G Pc:Addr)(d:Nat)(H:Hp)(p:Addr)(x:ir):Prop
 |mk (dx l ps:_) (bM:H p=some (.ins Pc dx (mX l x.1))) (bV:H l=some (.lst (ps.map V.ref))) (b8:Paired (eP C G d H) ps x.2)
inductive nu(C G Pc Fo:Addr)(d:Nat)(H:Hp)(f:Addr)(xs:List ir)(n:Int):Prop
 |mk (dx l ps:_) (bM:H f=some (.ins Fo dx (pk l n))) (bV:H l=some (.lst (ps.map V.ref))) (b8:Paired (jz C G Pc d H) ps xs)
def Xr(C G Pc L:Py)(d:Nat)(H H':Hp)(p:Py)(x:ir):Prop:=∀cy,(∀b o,H b=none->b≠L->H' b=some o->cy b=some o)->jz C G Pc d cy p x
def Sx(C G Pc Fo:Py)(d:Nat)(H H':Hp)(f:Py)(xs:List ir)(n:Int):Prop:=∀cy,(∀b o,H b=none->H' b=some o->cy b=some o)->nu C G Pc Fo d cy f xs n
def lG(d:Nat)(x:ir):List Nat:=aQ x.1++x.2.flatMap (bY d)
def b7(d:Nat)(xs:List ir):List Nat:=xs.flatMap λx=>46::lG d x
def wL(d:Nat):List ir->Int->List Nat
 | [],_=>[101,94,45]
 |x::r,n=>x.2.flatMap (bY d)++(b7 d r++eh n)
def Dq(d:Nat)(x:ir):Prop:=x.2≠[]/\(∀t∈x.2,jY d t)/\1<=x.1/\x.1<=999
def Ji(d:Nat):List ir->Int->Prop
 | [],n=>n= -1
 |x::r,n=>x.1=1/\(∀y∈x::r,Dq d y)/\ -999<=n/\n<=999
inductive xM(C G Pc Fo R:Addr)(d:Nat)(vs:List V)(H:Hp)(Q:VK)(E:XK):Prop
 |mk (r:Addr) (x:Str) (p:Nat) (post:List Nat) (bM:vs=[.ref r]) (bV:dn R H r x p) (b8:Here x p [101,94,45] post) (cS:x.length<=1000) (eK:∀f H',H f=none->Sx C G Pc Fo d H H' f [] (-1)->dn R H' r x (p+3)->Kept r H H'->Q (.ref f) H')
def pw(C G Pc Fo R:Py)(d:Nat):Sp:=xM C G Pc Fo R d
inductive FL(C G Pc Fo R:Addr)(d:Nat)(vs:List V)(H:Hp)(Q:VK)(E:XK):Prop
 |mk (r:Addr) (x:Str) (p:Nat) (xs:List ir) (n:Int) (post:List Nat) (bM:vs=[.ref r]) (bV:dn R H r x p) (b8:Here x p (wL d xs n) post) (cS:GW post) (eK:Ji d xs n) (gS:d<=4) (lR:x.length<=1000) (rV:∀f H',H f=none->Sx C G Pc Fo d H H' f xs n->dn R H' r x (p+(wL d xs n).length)->Kept r H H'->Q (.ref f) H')
def sx(C G Pc Fo R:Py)(d:Nat):Sp:=FL C G Pc Fo R d
structure jW(K:1e8)(mg:2e1)(C R G Pc Fo:Addr)(uK uN uB uE uM uC uP uI uD uL uT:Tok):Prop extends r8 K mg C R G uK uN uB uE uM,Xp K mg C R uK uN uC uP uI where
 dq:t5 K Pc
 bz:t5 K Fo
 oG:cG K Pc "parts"
 oH:cG K Pc "count"
 jA:cG K Fo "pieces"
 jB:cG K Fo "charge"
 DK:mg "Piece" =some (.ref Pc)
 vF:mg "Formula" =some (.ref Fo)
 kG:mg "PIECE_DOT" =some (.str "." uD)
 mh:mg "ELECTRON" =some (.str "e^-" uL)
 sA:mg "LONGEST_TEXT" =some (.int 400 uT)
 n_list:mg "list" =none
 Jj:mg "abs" =none
def eE:("e^-" :Str)=⟨#[101,94,45]⟩:=by decide+kernel
def zN{x:Str}{l:IR}(h:x.cps.toList=l):Here x 0 l []:=⟨zero_le _,by rw[drop_zero,h,append_nil]⟩
def zO:ay 1e1 1e1 (ao jk):=dE
variable {uC uP uI uD uL uT:Tok}
def nv(d:Nat)(D:a9 K R "read_electron" "Reader.read_electron" jk 1e1)(T:1e5)(c1:aJ P w K mg base 3 R "take_all" ["self","signs"] (lE R))(c2:gF P w K mg base 1 Fo ["self","pieces","charge"] [0] (xK Fo)):
  aJ P w K mg base 4 R "read_electron" 1e1 (pw C G Pc Fo R d):=by
 obtain⟨_,_,cC⟩:=c1;obtain⟨_,_,bz⟩:=c2;obtain⟨_,kH,kI⟩:=bz.b 1 0e2;refine D.dk zO 0e6 0e0
 ·obtain⟨r,x,p,post,rfl,_⟩:=h;rfl
 ·obtain⟨r,x,p,post,rfl,⟨dx,hR⟩,pT,hx,q⟩:=h;refine⟨_,(ai (a7 (pR cC hr T.ax 1e6 (aa (bo (v:= .str "e^-") rfl T.mh ⟨_,U⟩) aj))) (ak (aH (eY bz.m bz.ok (hr.mono 0e2) rfl T.vF kI kH bb (aa (bO aj) (aa (qP lX aq) aj)))))),?_⟩;have ee:("e^-" :Str).cps.toList=[101,94,45]:=by decide+kernel
  have ea:("e^-" :Str).cps.all (· <128)=true:=by decide+kernel
  have el:("e^-" :Str).length=3:=by decide+kernel
  refine⟨_,U,r,dx,_,U,hR,aK _ _,r,x,p,_,post,U,ea,⟨dx,hR⟩,by rw[ee];exact pT,hx,λH1 eG k1=>?_⟩;obtain⟨nX,eG⟩:=eG;refine⟨(by show 0<=sizeLine;decide),λl hl=>⟨1,U,λg dg ng B9 neg=>⟨g,dg,l, -1,[],U,ag,?_,λm H5 hm hg Vc kp=>⟨U,?_⟩⟩⟩⟩
  ·rw[ah (af ag ng),ah (af ag B9)];exact ag
  have sl:au H1 (upd H1 l (.lst [])):=au.new hl;have s5:au (upd H1 l (.lst [])) H5:=λb o z=>kp b o (by rw[ah (af z ng),ah (af z B9)];exact z) (af z ng);have kf:Kept r H (upd H1 l (.lst [])):=k1.trans (Kept.of sl);have hRl:=sl _ _ eG;refine q g H5 (aW kf hRl ng) (λcy ke=>⟨dg,m,[],ke _ _ (aW kf hRl ng) hg,ke _ _ (aW kf hRl (fT hm)) Vc, .nil⟩) ⟨nX,?_⟩ (kf.trans (Kept.of s5));rw[s5 _ _ hRl,el]
variable {uC uP uI uD uL uT:Tok}
def xN{α:Type}(f:α->List Nat){x:Str}{p:Nat}{ts:List α}{post:IR}{i:Nat}(h:Here x p (ts.flatMap f) post)(hi:i<ts.length):Here x (p+((ts.take i).flatMap f).length) (f ts[i]) ((ts.drop (i+1)).flatMap f++post):=by
 have e:ts.flatMap f=(ts.take i).flatMap f++(f ts[i]++(ts.drop (i+1)).flatMap f):=by
  conv=>lhs;rw[list_at hi]
  rw[flatMap_append,flatMap_cons]
 have h1:=Here.on (t:=(ts.take i).flatMap f) (e▸h);exact⟨h1.1,by rw[h1.2,append_assoc]⟩
def xO{α:Type}(f:α->List Nat){ts:List α}{i:Nat}(hi:i<ts.length):(ts.take (i+1)).flatMap f=(ts.take i).flatMap f++f ts[i]:=by
 rw[take_add_one,getElem?_eq_getElem hi];show (ts.take i++[ts[i]]).flatMap f=_;rw[flatMap_append,flatMap_cons,flatMap_nil,append_nil]
def DL(n:Int):eh n=[]\/∃r,eh n=94::r:=by
 unfold eh;split
 ·exact .inl rfl
 ·exact .inr ⟨_,rfl⟩
def vG{c:Nat}{l:IR}(h:c=46\/c=94):Stop (c::l):=by
 refine⟨?_,?_,?_,?_⟩<;>(intro b hb;have e:c=b:=by simpa using hb)<;>subst e<;>rcases h with rfl|rfl<;>decide
def vH(d:Nat)(xs:List ir)(n:Int){post:IR}(LH:GW post):Stop (b7 d xs++(eh n++post)):=by
 cases xs with
 |nil=>
  show Stop (eh n++post);rcases DL n with e| ⟨r,e⟩
  ·rw[e];exact LH.stop
  ·rw[e];exact vG (.inr rfl)
 |cons x r=>exact vG (.inl rfl)
theorem xP(d:Nat):∀xs:List ir,xs.length<=(b7 d xs).length
 | []=>le_refl _
 |y::r=>by
  have ih:=xP d r;show r.length+1<=(46::lG d y++b7 d r).length;rw[length_append,length_cons];omega
def e46:("." :Str)=⟨#[46]⟩:=by decide+kernel
def sC:ay ["self","pieces","count"] 1e1 (ao qh):=dE
def vI(d:Nat)(D:a9 K R "read_whole" "Reader.read_whole" qh 1e1)(T:1e5)(c1:aJ P w K mg base 1 R "sign" 1e1 (jv R))(c2:aJ P w K mg base 2 R "take" ["self","sign"] (me R))(c3:aJ P w K mg base 3 R "read_count" 1e1 (iX R))(c4:aJ P w K mg base (3*d+6) R "read_parts" ["self","around"] (ni C G R d))
  (c5:aJ P w K mg base 4 R "read_charge" 1e1 (vD R)) (c6:aJ P w K mg base 4 R "read_electron" 1e1 (pw C G Pc Fo R d)) (c7:gF P w K mg base 1 Pc ["self","parts","count"] [1] (nq Pc)) (c8:gF P w K mg base 1 Fo ["self","pieces","charge"] [0] (xK Fo)):
  aJ P w K mg base (3*d+7) R "read_whole" 1e1 (sx C G Pc Fo R d):=by
 obtain⟨_,_,aw⟩:=c1;obtain⟨_,_,bJ⟩:=c2;obtain⟨_,_,aN⟩:=c3;obtain⟨_,_,cZ⟩:=c4;obtain⟨_,_,dW⟩:=c5;obtain⟨_,_,dt⟩:=c6;obtain⟨_,_,dq⟩:=c7;obtain⟨_,_,bz⟩:=c8;obtain⟨_,FN,FO⟩:=dq.b 0 0e2;obtain⟨_,FP,FQ⟩:=dq.b 1 0e2;obtain⟨_,kH,kI⟩:=bz.b 1 0e2;refine D.dk sC 0e6 0e0
 ·obtain⟨r,x,p,xs,n,post,rfl,_⟩:=h;rfl
 ·obtain⟨r,x,p,xs,n,post,rfl,⟨dx,hR⟩,pT,LH,aX,hd4,hx,q⟩:=h;have big:=bgL
  refine⟨_,(ai (bR (aO gf (aM 1e6 T.ax aw.m aw.ok (hr.mono 0e1) aw.b .nil bb) (bq iH (bo (v:= .str "e^-") rfl T.mh ⟨_,U⟩) aq 1e3) (aT _)) (ak (aH (aM 1e6 T.ax dt.m dt.ok (hr.mono 0e1) dt.b .nil bb)))
      aS) (ai (aA (i:=1) sC.nd rfl 0e3 (bO (aa (eY dq.m dq.ok (hr.mono 0e1) rfl T.DK FO FN bb (aa (pR cZ hr T.ax 1e6 (aa aq aj)) aj)) aj))) (ai (iR PassesOwn.never (aO gf (aM 1e6 T.ax aw.m aw.ok (hr.mono 0e1) aw.b .nil bb) (bo (v:= .str ".") rfl T.kG ⟨_,U⟩) (aT _)) (ai (a7 (pR bJ hr T.ax 1e6 (aa (bo (v:= .str ".") rfl T.kG ⟨_,U⟩) aj))) (ai (aA (i:=2) sC.nd rfl 0e3 (aM 1e6 T.ax aN.m aN.ok (hr.mono 0e1) aN.b .nil bb)) (ak (a7 (eU PySem.F.plainAttrs_list PySem.F.slot_list_append PySem.F.type_list_append cn (pv 1) (aa (eY dq.m dq.ok (hr.mono 0e1) rfl T.DK FQ FP bb (aa (pR cZ hr T.ax 1e6 (aa aq aj)) (aa (pv 2) aj))) aj))))))) (ak (aH (eY bz.m bz.ok (hr.mono 0e1) rfl T.vF kI kH bb (aa (pv 1) (aa (aM 1e6 T.ax dW.m dW.ok (hr.mono 0e1) dW.b .nil bb) aj)))))))),?_⟩
  refine⟨_,U,r,dx,_,U,hR,aK _ _,r,x,p,U,⟨dx,hR⟩,pT.1,hx,"e^-",0,101,U,U,0e4,0e4,U,_,U,?_⟩
  cases xs with
  |nil=>
   have hn:n= -1:=aX;subst hn;have pT:Here x p [101,94,45] post:=pT;refine wO (by rw[pT.sg]) ?_;exact⟨_,U,r,dx,_,U,hR,aK _ _,r,x,p,post,U,⟨dx,hR⟩,pT,hx,q⟩
  |cons x0 r0=>
   obtain⟨h01,FR,n1,n2⟩:=aX;have Sy:=FR x0 1e0;have hw:Here x p (x0.2.flatMap (bY d)++(b7 d r0++eh n)) post:=pT;have Jg:Here x p (x0.2.flatMap (bY d)) (b7 d r0++(eh n++post)):=⟨hw.1,by rw[hw.2,append_assoc,append_assoc]⟩;have hb:Here x (p+(x0.2.flatMap (bY d)).length) (b7 d r0++eh n) post:=Here.on hw;have BF:Here x (p+(x0.2.flatMap (bY d)).length) (b7 d r0) (eh n++post):=⟨hb.1,by rw[hb.2,append_assoc]⟩
   have ne:¬V.str (eO x p)=V.str (⟨#[101]⟩:Str):=by
    have t0:0<x0.2.length:=length_pos_iff.mpr Sy.1;obtain⟨c,rest,hc,ht⟩:=oF (Sy.2.1 _ (getElem_mem t0));have h2:=Ca Jg t0;have P7:eO x p=⟨#[c]⟩:=Here.sg (t:=rest) (hc▸h2);rw[P7];refine qt ?_;rcases ht with ⟨hg,_⟩ | ⟨rfl,_⟩
    ·intro z;subst z;simp [zF] at hg
    ·decide
   refine rm ne ?_;refine⟨_,U,r,dx,_,U,hR,aK _ _,r,x,p,0,x0.2,_,U,⟨dx,hR⟩,Jg,Sy.1,Sy.2.1,by omega,vH d r0 n LH,hx,λl H1 hN eG k1=>?_⟩;obtain⟨nX,eG⟩:=eG;obtain⟨hl0,ps0,uc,hps0⟩:=hN;refine λg dg ng B9 neg=>⟨g,dg,l,1,ps0.map V.ref,rfl,ag,?_,λm H2 hm hg Vc kp=>⟨rfl,(by show 1<=sizeLine;decide),λL hL=>?_⟩⟩
   ·rw[ah (af uc ng),ah (af uc B9)];exact uc
   have s2:au H1 H2:=λb o z=>kp b o (by rw[ah (af z ng),ah (af z B9)];exact z) (af z ng);have ip:=s2 _ _ eG;have k2:Kept r H H2:=k1.trans (Kept.of s2);have Cb:H L=none:=aW k2 ip hL;have zM:L≠r:=λz=>by rw[z,ip] at hL;cases hL
   have sL:au H2 (upd H2 L (.lst [V.ref g])):=au.new hL;have ng0:=aW k1 eG ng;have nm0:=aW k1 eG (fT hm)
   have first:Xr C G Pc L d H (upd H2 L (.lst [V.ref g])) g x0:=λcy ke=>by
    refine⟨dg,m,ps0,?_,ke _ _ nm0 (af Vc hL) (sL _ _ Vc),hps0 cy λb o z1 z2=>ke b o z1 (af (s2 _ _ z2) hL) (sL _ _ (s2 _ _ z2))⟩;rw[h01];exact ke _ _ ng0 (af hg hL) (sL _ _ hg)
   refine⟨λk σ H'=>∃i:Nat,k+i=r0.length/\(∃v:Option V,σ=[some (.ref r),some (.ref L),v])/\dn R H' r x (p+(x0.2.flatMap (bY d)).length+(b7 d (r0.take i)).length)/\Kept r H H'/\∃ps,H' L=some (.lst (ps.map V.ref))/\ps.length=i+1/\Paired (Xr C G Pc L d H H') ps (x0::r0.take i),⟨r0.length,0,by omega,⟨none,U⟩,?_,k2.trans (Kept.of sL),[g],ag,U, .cons first .nil⟩,?_⟩
   ·exact⟨nX,sL _ _ ip⟩
   rintro k σ H' ⟨i,hk,⟨v,rfl⟩,⟨dC,eL⟩,kk,ps,tV,fP,hP⟩;have hle:=BF.le
   have zm:(b7 d (r0.take i)).length<=(b7 d r0).length:=by
    unfold b7
    conv=>rhs;rw[<-take_append_drop i r0,flatMap_append,length_append]
    omega
   have hr0:=xP d r0;refine⟨_,U,r,dC,_,U,eL,aK _ _,r,x,_,U,⟨dC,eL⟩,by omega,hx,U,_,U,?_⟩;by_cases hi:i<r0.length
   ·have h2:Here x (p+(x0.2.flatMap (bY d)).length+(b7 d (r0.take i)).length) (46::(aQ r0[i].1++r0[i].2.flatMap (bY d))) (b7 d (r0.drop (i+1))++(eh n++post)):=xN (λx=>46::lG d x) BF hi;have M6:=FR _ (mem_cons_of_mem _ (getElem_mem hi));have h3:Here x (p+(x0.2.flatMap (bY d)).length+(b7 d (r0.take i)).length+1) (aQ r0[i].1++r0[i].2.flatMap (bY d)) (b7 d (r0.drop (i+1))++(eh n++post)):=Here.on (t:=[46]) h2;have h4:Here x (p+(x0.2.flatMap (bY d)).length+(b7 d (r0.take i)).length+1) (aQ r0[i].1) (r0[i].2.flatMap (bY d)++(b7 d (r0.drop (i+1))++(eh n++post))):=⟨h3.1,by rw[h3.2,append_assoc]⟩;have h5:Here x (p+(x0.2.flatMap (bY d)).length+(b7 d (r0.take i)).length+1+(aQ r0[i].1).length) (r0[i].2.flatMap (bY d)) (b7 d (r0.drop (i+1))++(eh n++post)):=Here.on h3;have st:=vH d (r0.drop (i+1)) n LH;have nn:=sj M6.2.1 st;refine wO (by rw[h2.sg,e46]) ?_;refine⟨_,fun σ' cy h=>⟨k - 1,by omega,h⟩,?_⟩;refine⟨_,U,r,dC,_,U,eL,aK _ _,r,x,_,_,46,_,_,U,e46,⟨dC,eL⟩,h2,hx,λH3 iq k3=>?_⟩;obtain⟨B8,iq⟩:=iq;refine⟨_,U,r,B8,_,U,iq,aK _ _,r,x,_,r0[i].1,_,U,⟨B8,iq⟩,h4,M6.2.2.1,M6.2.2.2,nn.1,hx,λH4 vz k4=>?_⟩;obtain⟨LG,vz⟩:=vz;have M7:=k3.trans k4;have FT:=M7 _ _ tV zM;refine⟨_,U, .inl ⟨U,_,bh.of FT⟩,_,U,r,LG,_,U,vz,aK _ _,r,x,_,0,r0[i].2,_,U,⟨LG,vz⟩,h5,M6.1,M6.2.1,by omega,st,hx,λl' H5 hN' Xs k5=>?_⟩;obtain⟨dx5,Xs⟩:=Xs;obtain⟨hl0',Ve,Sz,hps'⟩:=hN';refine⟨_,U,λg' Xt GX Jk neg'=>⟨g',Xt,l',r0[i].1,Ve.map V.ref,U,ag,?_,λm' H6 hm' DM SA kp'=>⟨U,?_⟩⟩⟩
    ·rw[ah (af Sz GX),ah (af Sz Jk)];exact Sz
    have s6:au H5 H6:=λb o z=>kp' b o (by rw[ah (af z GX),ah (af z Jk)];exact z) (af z GX);have k36:Kept r H' H6:=(M7.trans k5).trans (Kept.of s6);have px:=k5 _ _ FT zM;have hL6:=s6 _ _ px;have k45:Kept r H H4:=kk.trans M7;have k55:Kept r H H5:=k45.trans k5;refine⟨L,_,_,U,U,hL6,by rw[length_map];omega,i+1,by omega,⟨_,U⟩,⟨dx5,?_⟩,λb o z w=>?_,ps++[g'],by rw[ag,map_append];rfl,by rw[length_append,fP];rfl,?_⟩
    ·rw[ah (Ne.symm zM),s6 _ _ Xs];have e:=xO (λx=>46::lG d x) hi
     have e':(b7 d (r0.take (i+1))).length=(b7 d (r0.take i)).length+((aQ r0[i].1).length+(r0[i].2.flatMap (bY d)).length+1):=by
      unfold b7;rw[e,length_append,length_cons];unfold lG;rw[length_append]
     rw[e'];congr 3;omega
    ·rw[ah (af z Cb)];exact k36 _ _ (kk _ _ z w) w
    ·rw[take_add_one,getElem?_eq_getElem hi];refine bH (as:=ps) (bs:=x0::r0.take i) (λcy ke=>?_) (aB (λc t h cy ke=>h cy λb o z1 z2 z3=>ke b o z1 z2 ?_) hP)
     ·have u:∀{b o},H6 b=some o->b≠L->(upd H6 L (.lst (ps.map V.ref++[V.ref g']))) b=some o:=fun {b o} z w=>by rw[ah w];exact z
      have ngL:g'≠L:=λz=>by rw[z,px] at GX;cases GX
      have nm5:=fT hm';have nmL:m'≠L:=λz=>by rw[z,px] at nm5;cases nm5
      refine⟨Xt,m',Ve,ke _ _ (aW k55 Xs GX) ngL (u DM ngL),ke _ _ (aW k55 Xs nm5) nmL (u SA nmL),hps' cy λb o z1 z2=>?_⟩;have DJ:b≠L:=λz=>by rw[z,FT] at z1;cases z1
      exact ke b o (aW k45 vz z1) DJ (u (s6 _ _ z2) DJ)
     ·have A2:b≠r:=λz=>by rw[z,hR] at z1;cases z1
      rw[ah z2];exact k36 _ _ z3 A2
   ·have ei:i=r0.length:=by omega
    rw[ei,take_length] at eL hP |-;have h3:Here x (p+(x0.2.flatMap (bY d)).length+(b7 d r0).length) (eh n) post:=Here.on hb
    have ne2:¬V.str (eO x (p+(x0.2.flatMap (bY d)).length+(b7 d r0).length))=V.str "." :=by
     rw[e46];rcases DL n with e| ⟨rr,e⟩
     ·rw[e] at h3;rw[h3.So];exact LH.ne 0e2
     ·rw[e] at h3;rw[h3.sg];exact qt 0e2
    refine rm ne2 ?_;refine⟨_,U,_,U,r,dC,_,U,eL,aK _ _,r,x,_,n,post,U,⟨dC,eL⟩,h3,LH,n1,n2,hx,λH3 iq k3=>?_⟩;obtain⟨B8,iq⟩:=iq;have oI:=k3 _ _ tV zM;have k03:=kk.trans k3;refine λg' Xt GX Jk neg'=>⟨g',Xt,L,n,ps.map V.ref,rfl,ag,?_,λm' H6 hm' DM SA kp'=>⟨rfl,?_⟩⟩
    ·rw[ah (af oI GX),ah (af oI Jk)];exact oI
    have s6:au H3 H6:=λb o z=>kp' b o (by rw[ah (af z GX),ah (af z Jk)];exact z) (af z GX);refine q g' H6 (aW k03 iq GX) (λcy ke=>?_) ⟨B8,?_⟩ (k03.trans (Kept.of s6))
    ·refine⟨Xt,m',ps,ke _ _ (aW k03 iq GX) DM,ke _ _ (aW k03 iq (fT hm')) SA,aB (λc t h=>h cy λb o z1 z2 z3=>ke b o z1 ?_) hP⟩;have A2:b≠r:=λz=>by rw[z,hR] at z1;cases z1
     exact s6 _ _ (k3 _ _ z3 A2)
    ·rw[s6 _ _ iq];rw[show wL d (x0::r0) n=x0.2.flatMap (bY d)++(b7 d r0++eh n) from rfl,length_append,length_append];congr 3;omega
variable {uC uP uI uD uL uT:Tok}
inductive Cd(vs:List V)(H:Hp)(Q:VK)(E:XK):Prop
 |mk (x:Str) (bM:vs=[.str x]) (bV:x.length<=400) (b8:Q .cF H)
def oJ:Sp:=Cd
inductive Jl(C G Pc Fo:Addr)(d:Nat)(vs:List V)(H:Hp)(Q:VK)(E:XK):Prop
 |mk (x:Str) (xs:List ir) (n:Int) (bM:vs=[.str x]) (bV:x.cps.toList=wL d xs n) (b8:Ji d xs n) (cS:d<=4) (eK:x.length<=400) (gS:∀f H',H f=none->Sx C G Pc Fo d H H' f xs n->au H H'->Q (.ref f) H')
def xQ(C G Pc Fo:Py)(d:Nat):Sp:=Jl C G Pc Fo d
def FU:ay ["text"] ["text"] (ao rF):=dE
def Ce(D:Def K mg "refuse_too_long" "refuse_too_long" rF ["text"])(T:1e5):bp P w K mg base 1 "refuse_too_long" ["text"] oJ:=by
 refine D.dk FU 0e6 0e0
 ·obtain⟨x,rfl,_⟩:=h;rfl
 ·obtain⟨x,rfl,hx,q⟩:=h
  refine⟨_,(ak (bR (aO j4 (bG jd rfl T.iD fe (aa 1e6 aj)) (bo (v:= .int 400) rfl T.sA ⟨_,U⟩) (aT _)) (ak
       fZ)
      aS)),?_⟩
  exact⟨_,U,x,U,le_trans hx 0e2,_,_,U,U,_,U,rm 0e1 q⟩
structure Xu(K:1e8)(mg:2e1)(C R G Pc Fo:Addr)(uK uN uB uE uM uC uP uI uD uL uT:Tok):Prop extends jW K mg C R G Pc Fo uK uN uB uE uM uC uP uI uD uL uT where
 Jm:mg "Reader" =some (.ref R)
def mi:ay ["text","reader","formula"] ["text"] (ao oq):=dE
def zP(d:Nat)(D:Def K mg "read_formula" "read_formula" oq ["text"])(T:Xu K mg C R G Pc Fo uK uN uB uE uM uC uP uI uD uL uT)(c1:bp P w K mg base 1 "refuse_too_long" ["text"] oJ)(c2:gF P w K mg base 1 R ["self","text"] [] (xG R))(c3:aJ P w K mg base (3*d+7) R "read_whole" 1e1 (sx C G Pc Fo R d))(c4:aJ P w K mg base 1 R "take_end" 1e1 (vq R)):
  bp P w K mg base (3*d+8) "read_formula" ["text"] (xQ C G Pc Fo d):=by
 obtain⟨_,_,fu⟩:=c1;obtain⟨_,_,ax⟩:=c2;obtain⟨_,_,bP⟩:=c3;obtain⟨_,_,fz⟩:=c4;obtain⟨_,Cf,Cg⟩:=ax.b 0 0e2;refine D.dk mi 0e6 0e0
 ·obtain⟨x,xs,n,rfl,_⟩:=h;rfl
 ·obtain⟨x,xs,n,rfl,pT,aX,hd4,hx,q⟩:=h;refine⟨_,(ai (a7 (dR fu hr (aa 1e6 aj))) (ai (aA (i:=1) mi.nd rfl 0e3 (eY ax.m ax.ok (hr.mono 0e1) rfl T.Jm Cg Cf bb (aa 1e6 aj))) (ai (aA (i:=2) mi.nd rfl 0e3 (aM (pv 1) T.ax bP.m bP.ok (hr.mono 0e1) bP.b .nil bb)) (ai (a7 (aM (pv 1) T.ax fz.m fz.ok (hr.mono 0e1) fz.b .nil bb)) (ak (aH (pv 2))))))),?_⟩;refine⟨_,U,x,U,hx,?_⟩;refine⟨_,U,λr dr nr Xv ner=>⟨r,dr,x,U,ag,λH1 eG k1=>⟨U,?_⟩⟩⟩;obtain⟨nX,eG⟩:=eG;have s1:au H H1:=λb o z=>k1 b o (by rw[ah (af z nr),ah (af z Xv)];exact z) (af z nr);refine⟨_,U,r,nX,_,U,eG,aK _ _,r,x,0,xs,n,[],U,⟨nX,eG⟩,zN pT, .inl rfl,aX,hd4,by omega,λf H2 nf hF ip k2=>?_⟩;obtain⟨jT,ip⟩:=ip;have hxe:0+(wL d xs n).length=x.length:=by rw[<-pT];simp [Str.length]
  rw[hxe] at ip
  have back:∀b,H1 b=none->H b=none:=λb z=>by
   cases hh:H b with
   |none=>rfl
   |some o=>rw[s1 _ _ hh] at z;cases z
  refine⟨_,U,r,jT,_,U,ip,aK _ _,r,x,U,⟨jT,ip⟩,by omega,?_⟩;exact⟨_,U,q f H2 (back f nf) (λcy ke=>hF cy λb o z1 z2=>ke b o (back b z1) z2) λb o z=>k2 b o (s1 _ _ z) (af z nr)⟩
def bu(a b:IR):(⟨a.toArray⟩:Str)++⟨b.toArray⟩=⟨(a++b).toArray⟩:=by
 show (⟨a.toArray++b.toArray⟩:Str)=_;simp
theorem DN(d:Nat):∀ts:List Tr,jn (ts.map λt=>(⟨(bY d t).toArray⟩:Str))=⟨(ts.flatMap (bY d)).toArray⟩
 | []=>rfl
 |t::ts=>by
  rw[map_cons,DB,DN d ts,bu,flatMap_cons]
def aL(a:IR):(⟨a.toArray⟩:Str).length=a.length:=by simp [Str.length]
def bw(n:Int):cD n=⟨(aQ n).toArray⟩:=by
 apply ql;simp [aQ]
def xR{d:Nat}{ts:List Tr}{t:Tr}(h:t∈ts):(bY d t).length<=(ts.flatMap (bY d)).length:=by
 obtain⟨s,r,rfl⟩:=append_of_mem h;rw[flatMap_append,flatMap_cons,length_append,length_append];omega
def oK(C G:Py):Nat->Sp
 |0=>λ_ _ _ _=>False
 |d+1=>λvs H Q _=>∃(g:Py) (ts:List Tr) (n:Int),vs=[.ref g]/\eP C G (d+1) H g (.gr ts n)/\jY (d+1) (.gr ts n)/\(bY (d+1) (.gr ts n)).length<=1000/\∀H',au H H'->Q (.str ⟨(bY (d+1) (.gr ts n)).toArray⟩) H'
inductive Ci(C G:Addr)(d:Nat)(vs:List V)(H:Hp)(Q:VK)(E:XK):Prop
 |mk (l:Addr) (ps:List Addr) (ts:List Tr) (bM:vs=[.ref l]) (bV:H l=some (.lst (ps.map V.ref))) (b8:Paired (eP C G d H) ps ts) (cS:(∀t∈ts,jY d t)) (eK:(ts.flatMap (bY d)).length<=1000) (gS:∀H',au H H'->Q (.str ⟨(ts.flatMap (bY d)).toArray⟩) H')
def lH(C G:Py)(d:Nat):Sp:=Ci C G d
theorem eP.same{C G:Py}:∀{d:Nat} {H H':Hp} {p:Py} {t:Tr},eP C G d H p t->au H H'->eP C G d H' p t
 |0,H,H',p, .one k n,h,e=>gz.same h e
 |d+1,H,H',p, .one k n,h,e=>gz.same (C:=C) (k:=⟨k.toArray⟩) (n:=n) h e
 |0,_,_,_, .gr _ _,h,_=>h.elim
 |d+1,H,H',p, .gr ts n,⟨dx,l,ps,h1,h2,h3⟩,e=>⟨dx,l,ps,e _ _ h1,e _ _ h2,aB (λa b h=>eP.same h e) h3⟩
theorem bc{α β:Type}{p:α->β->Prop}:∀{as:List α} {bs:List β} {i:Nat} {a:α},Paired p as bs->as[i]? =some a->∃b,bs[i]? =some b/\p a b
 |_,_,_,_, .nil,h=>by simp at h
 |_,_,0,_, .cons h _,e=>⟨_,rfl,by have e:=Option.some.inj e;rw[<-e];exact h⟩
 |_,_,i+1,_, .cons _ t,e=>bc (i:=i) t e
def Jn:ay ["parts"] ["parts"] (ao mR):=dE
def M8{k:IR}(h:lF k):(⟨k.toArray⟩:Str).length<=3:=by
 obtain⟨c,r,rfl,_,_,hl⟩:=h;rw[aL,length_cons];omega
def sF(d:Nat)(D:Def K mg "parts_shown" "parts_shown" mR ["parts"])(T:r8 K mg C R G uK uN uB uE uM)(c1:aJ P w K mg base 2 C "shown" 1e1 (xA C))(c2:aJ P w K mg base (2*d+2) G "shown" 1e1 (oK C G d)):bp P w K mg base (2*d+3) "parts_shown" ["parts"] (lH C G d):=by
 obtain⟨_,_,jC⟩:=c1;obtain⟨_,_,iM⟩:=c2;refine D.dk Jn 0e6 0e0
 ·obtain⟨l,ps,ts,rfl,_⟩:=h;rfl
 ·obtain⟨l,ps,ts,rfl,hl,hP,aX,hz,q⟩:=h;have big:(2000 :Nat) <sizeLine:=by decide
  have hfl:=si aX;have lp:ps.length=ts.length:=Paired.length hP;refine⟨_,(ak (aH (eU PySem.F.plainAttrs_str PySem.F.slot_str_join PySem.F.type_str_join mM aZ (aa (fW (sc:=(ao mR)) (NX:=["parts"]) (N:=["part"]) (fr:=[none]) Ds rfl rfl rfl (cA 1e6) (λ_ _ _ _=>(aF (i:=0) (show (["part"]:On).Nodup by decide+kernel) rfl 0e3 (Or.inr rfl))) (λ_ _ _ _=>gJ) (λ_ _ _ _=>(HN (aM 1e6 T.gA jC.m jC.ok (hr.mono 0e1) jC.b .nil bb) (aM 1e6 T.eM iM.m iM.ok (hr.mono 0e1) iM.b .nil bb)))) aj)))),?_⟩
  refine⟨U,_,U,l,U,⟨_,bh.of hl⟩,λD hD=>vg (K:=K) (a:=l) (D:=D) (xs:=ps.map V.ref) (λi σ H'=>∃v:Option V,σ=[v]/\au H H'/\H' D=some (.lst ((ts.take i).map λt=>V.str ⟨(bY d t).toArray⟩)))
   ?_ (λi σ H' _ ⟨_,_,e,_⟩=>bh.of (e _ _ hl)) ?_ ?_⟩
  ·exact⟨none,U,au.new hD,ag⟩
  ·rintro i v σ H' hi ⟨v',rfl,e,xS⟩ N hN;rw[getElem?_map] at hi;obtain⟨p,hp,rfl⟩:=gMp hi;obtain⟨t,ht,hT⟩:=bc hP hp;have hT:=hT.same e;have Vd:=aX t (mem_of_getElem? ht);have lt:=le_trans (xR (d:=d) (mem_of_getElem? ht)) hz
   have fin:∀cy,au H' cy->∃ys,cy D=some (.lst ys)/\ys.length<sizeLine/\N [some (V.ref p)] (upd cy D (.lst (ys++[V.str ⟨(bY d t).toArray⟩]))):=λcy e'=>by
    refine⟨_,e' _ _ xS,?_,hN _ _ ⟨_,U,λb o z=>?_,?_⟩⟩
    ·rw[length_map];have:(ts.take i).length<=ts.length:=length_take_le' _ _;omega
    ·rw[ah (af z hD)];exact e' _ _ (e _ _ z)
    ·rw[ag,take_add_one,ht,map_append];rfl
   cases t with
   |one k n=>
    have P8:lF k/\1<=n/\n<=999:=by cases d<;>exact Vd
    have hA:gz C H' p ⟨k.toArray⟩ n:=by cases d<;>exact hT
    have et:(⟨(bY d (.one k n)).toArray⟩:Str)=⟨k.toArray⟩++cD n:=by
     rw[bw,bu];cases d<;>rfl
    obtain⟨dx,zj⟩:=id hA;have:=fin H' (au.refl _);rw[et] at this;exact Or.inl ⟨_,rfl,p,dx,_,rfl,zj,DA _ _ 0e4 0e4,p,_,n,rfl,hA,M8 P8.1,P8.2.1,P8.2.2,this⟩
   |gr us n=>
    cases d with
    |zero=>exact Vd.elim
    |succ d=>
     obtain⟨dx,l',Ve,h1,h2,h3⟩:=id hT;exact Or.inr ⟨_,rfl,p,dx,_,rfl,h1,mY _ _ 0e4 0e4,p,us,n,rfl,hT,Vd,lt,fin⟩
  ·rintro σ H' ⟨v,rfl,e,xS⟩;rw[length_map,lp,take_length] at xS
   have es:((ts.map λt=>(⟨(bY d t).toArray⟩:Str)).map (·.length)).sum=(ts.flatMap (bY d)).length:=by
    rw[map_map,List.length_flatMap];congr 1
   refine⟨_,D,ts.map (λt=>⟨(bY d t).toArray⟩),U,U,bh.of (by rw[xS,map_map];rfl),?_,?_⟩
   ·have e0:("" :Str).length=0:=by decide+kernel
    rw[es,e0];omega
   ·rw[join_eq,DN];exact q _ e
def zQ:ay 1e1 1e1 (ao mS):=dE
def Cj(D:a9 K G "shown" "Group.shown" mS 1e1):aJ P w K mg base 2 G "shown" 1e1 (oK C G 0):=
 D.dk (k:=1) zQ (λvs H Q E h=>h.elim) (λf bg A outer s H vs Q E hr h=>h.elim)
def Ck(d:Nat)(D:a9 K G "shown" "Group.shown" mS 1e1)(T:r8 K mg C R G uK uN uB uE uM)(c1:bp P w K mg base (2*d+3) "parts_shown" ["parts"] (lH C G d))(c2:bp P w K mg base 1 "count_shown" ["count"] iK):aJ P w K mg base (2*d+4) G "shown" 1e1 (oK C G (d+1)):=by
 obtain⟨_,_,iN⟩:=c1;obtain⟨_,_,cV⟩:=c2;refine D.dk zQ 0e6 0e0
 ·obtain⟨g,ts,n,rfl,_⟩:=h;rfl
 ·obtain⟨g,ts,n,rfl,⟨dx,l,ps,hg,hl,hP⟩,⟨m5,aX,n1,n2⟩,hz,q⟩:=h;have big:=bgL;have hz:(40::(ts.flatMap (bY d)++41::aQ n)).length<=1000:=hz;rw[length_cons,length_append,length_cons] at hz;have e1:("(" :Str).length=1:=by decide+kernel
  have e2:(")" :Str).length=1:=by decide+kernel
  have lf:(cD n).length=(aQ n).length:=by rw[bw,aL]
  have ee:(⟨(bY (d+1) (.gr ts n)).toArray⟩:Str)="(" ++⟨(ts.flatMap (bY d)).toArray⟩++")" ++cD n:=by
   rw[bw,Vb,e41];rw[show (⟨#[40]⟩:Str)=⟨[40].toArray⟩ from rfl,show (⟨#[41]⟩:Str)=⟨[41].toArray⟩ from rfl,bu,bu,bu];simp [bY]
  rw[ee] at q;refine⟨_,(ak (aH (av aE (av aE (av aE (bo (v:= .str "(") rfl T.fY ⟨_,U⟩) (dR iN hr (aa 2e4 aj))) (bo (v:= .str ")") rfl T.pj ⟨_,U⟩)) (dR cV hr (aa 2e4 aj))))),?_⟩;refine⟨_,U,g,G,dx,_,_,U,hg,T.eM,T.oC,iB _ _,l,ps,ts,U,hl,hP,aX,by omega,λH1 s1=>⟨_,_,U,U,?_,_,_,U,U,?_,_,U,g,G,dx,_,_,U,s1 _ _ hg,T.eM,T.oE,iC _ _,n,U,n1,n2,_,_,U,U,?_,q _ s1⟩⟩
  ·rw[e1,aL];omega
  ·rw[az,e1,e2,aL];omega
  ·rw[az,az,e1,e2,aL,lf];omega
theorem vJ(D1:Def K mg "parts_shown" "parts_shown" mR ["parts"])(D2:a9 K G "shown" "Group.shown" mS 1e1)(T:r8 K mg C R G uK uN uB uE uM)(c1:aJ P w K mg base 2 C "shown" 1e1 (xA C))(c2:bp P w K mg base 1 "count_shown" ["count"] iK):∀d:Nat,bp P w K mg base (2*d+3) "parts_shown" ["parts"] (lH C G d)
 |0=>sF 0 D1 T c1 (Cj D2)
 |d+1=>sF (d+1) D1 T c1 (by rw[show 2*(d+1)+2=2*d+4 by omega];exact Ck d D2 T (vJ D1 D2 T c1 c2 d) c2)
variable {uC uP uI uD uL uT:Tok}
inductive sG(C G Pc:Addr)(d:Nat)(vs:List V)(H:Hp)(Q:VK)(E:XK):Prop
 |mk (q:Addr) (x:ir) (bM:vs=[.ref q]) (bV:jz C G Pc d H q x) (b8:Dq d x) (cS:(lG d x).length<=1000) (eK:∀H',au H H'->Q (.str ⟨(lG d x).toArray⟩) H')
def lU(C G Pc:Py)(d:Nat):Sp:=sG C G Pc d
def xT:ay 1e1 1e1 (ao kr):=dE
def sH(d:Nat)(D:a9 K Pc "shown" "Piece.shown" kr 1e1)(T:1e5)(c1:bp P w K mg base (2*d+3) "parts_shown" ["parts"] (lH C G d))(c2:bp P w K mg base 1 "count_shown" ["count"] iK):aJ P w K mg base (2*d+4) Pc "shown" 1e1 (lU C G Pc d):=by
 obtain⟨_,_,iN⟩:=c1;obtain⟨_,_,cV⟩:=c2;refine D.dk xT 0e6 0e0
 ·obtain⟨p,x,rfl,_⟩:=h;rfl
 ·obtain⟨p,x,rfl,⟨dx,l,ps,hp,hl,hP⟩,⟨m5,aX,n1,n2⟩,hz,q⟩:=h;have big:=bgL;have hz':=hz;unfold lG at hz' q;rw[length_append] at hz';have lf:(cD x.1).length=(aQ x.1).length:=by rw[bw,aL]
  rw[<-bu,<-bw] at q;refine⟨_,(ak (aH (av aE (dR cV hr (aa 2e4 aj)) (dR iN hr (aa 2e4 aj))))),?_⟩;refine⟨_,U,p,Pc,dx,_,_,U,hp,T.dq,T.oH,iC _ _,x.1,U,n1,n2,_,U,p,Pc,dx,_,_,U,hp,T.dq,T.oG,iB _ _,l,ps,x.2,U,hl,hP,aX,by omega,λH1 e1=>⟨_,_,U,U,?_,q _ e1⟩⟩;rw[lf,aL];omega
inductive Cm(vs:List V)(H:Hp)(Q:VK)(E:XK):Prop
 |mk (n:Int) (bM:vs=[.int n]) (bV: -999<=n) (b8:n<=999) (cS:Q (.str ⟨(eh n).toArray⟩) H)
def vK:Sp:=Cm
def SD{n:Int}(h1: -999<=n)(h2:n<=999):(eh n).length<=5:=by
 unfold eh;split
 ·exact zero_le _
 ·rename_i h0
  have:=dS (n:=if n<0 then -n else n) (by split<;>omega) (by split<;>omega);rw[bw,aL] at this;rw[length_cons,length_append];simp;omega
def uh:ay ["charge"] ["charge"] (ao jj):=dE
def oM(D:Def K mg "charge_shown" "charge_shown" jj ["charge"])(T:1e5)(c1:bp P w K mg base 1 "count_shown" ["count"] iK):bp P w K mg base 2 "charge_shown" ["charge"] vK:=by
 obtain⟨_,_,cV⟩:=c1;refine D.dk uh 0e6 0e0
 ·obtain⟨n,rfl,_⟩:=h;rfl
 ·obtain⟨n,rfl,h1,h2,q⟩:=h;have big:=bgL
  refine⟨_,(ai (bR (aO gf 1e6 aq (aT _)) (ak (aH aZ))
      aS) (ak (aH (av aE (av aE (bo (v:= .str "^") rfl T.iL ⟨_,U⟩) (dR cV hr (aa (bG yU rfl T.Jj HS (aa 1e6 aj)) aj))) (yQ (aO j4 1e6 aq (aT _)) (bo (v:= .str "+") rfl T.su ⟨_,U⟩) (bo (v:= .str "-") rfl T.xJ ⟨_,U⟩)))))),?_⟩
  refine⟨_,U,U,_,U,fJ (λe=>?_) λe=>?_⟩
  ·have e:n=0:=by simpa using e
   subst e;have e0:(⟨(eh 0).toArray⟩:Str)="" :=by decide+kernel
   rw[e0] at q;exact q
  ·have e:¬n=0:=by simpa using e
   have a1:1<=(if n<0 then -n else n):=by split<;>omega
   have a2:(if n<0 then -n else n)<=999:=by split<;>omega
   have z:=dS a1 a2;have e1:("^" :Str).length=1:=by decide+kernel
   refine⟨_,U,n,U,_,U,a1,a2,_,_,U,U,by rw[e1];omega,_,U,_,_,U,U,?_⟩
   have ec:(⟨(eh n).toArray⟩:Str)="^" ++cD (if n<0 then -n else n)++(if 0<n then ("+" :Str) else ("-" :Str)):=by
    unfold eh;rw[if_neg e,bw,Xq,e43,M5];rw[show (⟨#[94]⟩:Str)=⟨[94].toArray⟩ from rfl,bu];by_cases hp:0<n
    ·rw[if_pos hp,if_pos hp,show (⟨#[43]⟩:Str)=⟨[43].toArray⟩ from rfl,bu];simp
    ·rw[if_neg hp,if_neg hp,show (⟨#[45]⟩:Str)=⟨[45].toArray⟩ from rfl,bu];simp
   rw[ec] at q;refine⟨_,U,fJ (λe=>?_) λe=>?_⟩
   ·have e:0<n:=by simpa using e
    rw[if_pos e] at q;refine⟨_,_,U,U,?_,q⟩;have e2:("+" :Str).length=1:=by decide+kernel
    rw[az,e1,e2];omega
   ·have e:¬0<n:=by simpa using e
    rw[if_neg e] at q;refine⟨_,_,U,U,?_,q⟩;have e2:("-" :Str).length=1:=by decide+kernel
    rw[az,e1,e2];omega
inductive Cn(C G Pc Fo:Addr)(d:Nat)(vs:List V)(H:Hp)(Q:VK)(E:XK):Prop
 |mk (f:Addr) (xs:List ir) (n:Int) (bM:vs=[.ref f]) (bV:nu C G Pc Fo d H f xs n) (b8:Ji d xs n) (cS:(wL d xs n).length<=1000) (eK:∀H',au H H'->Q (.str ⟨(wL d xs n).toArray⟩) H')
def vL(C G Pc Fo:Py)(d:Nat):Sp:=Cn C G Pc Fo d
theorem vM(d:Nat):∀(x:ir) (r:List ir),Str.join "." ((x::r).map λy=>(⟨(lG d y).toArray⟩:Str))=⟨(lG d x++b7 d r).toArray⟩
 |x,[]=>by
  show (⟨(lG d x).toArray⟩:Str)=⟨(lG d x++[]).toArray⟩;rw[append_nil]
 |x,y::r=>by
  show (⟨(lG d x).toArray⟩:Str)++"." ++Str.join "." ((y::r).map λy=>(⟨(lG d y).toArray⟩:Str))=⟨(lG d x++(46::lG d y++b7 d r)).toArray⟩;rw[vM d y r,e46,show (⟨#[46]⟩:Str)=⟨[46].toArray⟩ from rfl,bu,bu];simp
theorem jz.same{C G Pc:Py}{d:Nat}{H H':Hp}{p:Py}{x:ir}(h:jz C G Pc d H p x)(e:au H H'):jz C G Pc d H' p x:=
 let ⟨dx,l,ps,h1,h2,h3⟩:=h;⟨dx,l,ps,e _ _ h1,e _ _ h2,aB (λ_ _ h=>eP.same h e) h3⟩
theorem nu.same{C G Pc Fo:Py}{d:Nat}{H H':Hp}{p:Py}{xs:List ir}{n:Int}(h:nu C G Pc Fo d H p xs n)(e:au H H'):nu C G Pc Fo d H' p xs n:=
 let ⟨dx,l,ps,h1,h2,h3⟩:=h;⟨dx,l,ps,e _ _ h1,e _ _ h2,aB (λ_ _ h=>jz.same h e) h3⟩
def Jo:ay 1e1 1e1 (ao qg):=dE
def Co(d:Nat)(D:a9 K Fo "shown" "Formula.shown" qg 1e1)(T:1e5)(c1:aJ P w K mg base (2*d+4) Pc "shown" 1e1 (lU C G Pc d))(c2:bp P w K mg base 2 "charge_shown" ["charge"] vK):aJ P w K mg base (2*d+5) Fo "shown" 1e1 (vL C G Pc Fo d):=by
 obtain⟨_,_,iO⟩:=c1;obtain⟨_,_,sI⟩:=c2;refine D.dk Jo 0e6 0e0
 ·obtain⟨f,xs,n,rfl,_⟩:=h;rfl
 ·obtain⟨f,xs,n,rfl,⟨dx,l,ps,hf,hl,hP⟩,aX,hz,q⟩:=h;have big:(3000 :Nat) <sizeLine:=by decide
  have lp:ps.length=xs.length:=Paired.length hP
  refine⟨_,(ai (bR (n5 (qU 2e4 (λ_=>rfl))) (ak (aH (bo (v:= .str "e^-") rfl T.mh ⟨_,U⟩)))
      aS) (ak (aH (av aE (eU PySem.F.plainAttrs_str PySem.F.slot_str_join PySem.F.type_str_join mM (bo (v:= .str ".") rfl T.kG ⟨_,U⟩) (aa (fW (sc:=(ao qg)) (NX:=1e1) (N:=["piece"]) (fr:=[none]) Ds rfl rfl rfl (cA 2e4) (λ_ _ _ _=>(aF (i:=0) (show (["piece"]:On).Nodup by decide+kernel) rfl 0e3 (Or.inr rfl))) (λ_ _ _ _=>gJ) (λ_ _ _ _=>(aM 1e6 T.dq iO.m iO.ok (hr.mono 0e1) iO.b .nil bb))) aj)) (dR sI hr (aa 2e4 aj)))))),?_⟩
  refine⟨_,U,f,Fo,dx,_,_,U,hf,T.bz,T.jA,jx _ _,_, .inl ⟨_,bh.of hl,U⟩,?_⟩
  cases xs with
  |nil=>
   have hp:ps=[]:=List.length_eq_zero_iff.mp lp;subst hp;refine je ?_;have e0:(⟨(wL d [] n).toArray⟩:Str)="e^-" :=by rw[eE];rfl
   rw[e0] at q;exact q _ (au.refl _)
  |cons x0 r0=>
   obtain⟨h01,FR,n1,n2⟩:=aX
   have hpe:(!(ps.map V.ref).isEmpty)=true:=by
    cases ps with
    |nil=>simp at lp
    |cons _ _=>rfl
   rw[hpe];refine d4 ?_;have zc:=SD n1 n2
   have ez:wL d (x0::r0) n=(lG d x0++b7 d r0)++eh n:=by
    show x0.2.flatMap (bY d)++(b7 d r0++eh n)=_;unfold lG;rw[h01,show aQ 1=[] from rfl,nil_append,append_assoc]
   rw[ez,length_append,length_append] at hz;have hr0:=xP d r0
   have each:∀y∈x0::r0,(lG d y).length<=1000:=λy hy=>by
    rcases mem_cons.mp hy with rfl|hy
    ·omega
    ·obtain⟨a,b,rfl⟩:=append_of_mem hy
     have:(b7 d (a++y::b)).length=(b7 d a).length+(46::lG d y++b7 d b).length:=by
      unfold b7;rw[flatMap_append,length_append,flatMap_cons]
     rw[this,length_append,length_cons] at hz;omega
   refine⟨U,_,U,f,Fo,dx,_,_,U,hf,T.bz,T.jA,jx _ _,l,U,⟨_,bh.of hl⟩,λD hD=>vg (K:=K) (a:=l) (D:=D) (xs:=ps.map V.ref) (λi σ H'=>∃v:Option V,σ=[v]/\au H H'/\H' D=some (.lst (((x0::r0).take i).map λx=>V.str ⟨(lG d x).toArray⟩)))
    ?_ (λi σ H' _ ⟨_,_,e,_⟩=>bh.of (e _ _ hl)) ?_ ?_⟩
   ·exact⟨none,U,au.new hD,ag⟩
   ·rintro i v σ H' hi ⟨v',rfl,e,xS⟩ N hN;rw[getElem?_map] at hi;obtain⟨p,hp,rfl⟩:=gMp hi;obtain⟨y,hy,hY⟩:=bc hP hp;have hY:=hY.same e;obtain⟨dC,l',Ve,h1,h2⟩:=id hY;have my:=mem_of_getElem? hy;refine⟨_,U,p,dC,_,U,h1,mY _ _ 0e4 0e4,p,y,U,hY,FR y my,each y my,λcy e'=>⟨_,e' _ _ xS,?_,hN _ _ ⟨_,U,λb o z=>?_,?_⟩⟩⟩
    ·rw[length_map];have:((x0::r0).take i).length<=(x0::r0).length:=length_take_le' _ _;rw[length_cons] at this;omega
    ·rw[ah (af z hD)];exact e' _ _ (e _ _ z)
    ·rw[ag,take_add_one,hy,map_append];rfl
   ·rintro σ H' ⟨v,rfl,e,xS⟩;rw[length_map,lp,take_length] at xS
    have ej:Txt.join "." ((x0::r0).map λy=>(⟨(lG d y).toArray⟩:Str))=⟨(lG d x0++b7 d r0).toArray⟩:=by
     have:=PyProof.Rows.join_closes (sep:=".") (sep':=".") (ys:=(x0::r0).map λy=>(⟨(lG d y).toArray⟩:Str)) rfl;rw[<-vM];simpa using this
    have es:(((x0::r0).map λy=>(⟨(lG d y).toArray⟩:Str)).map (·.length)).sum<=(lG d x0).length+(b7 d r0).length:=by
     rw[map_map,map_cons,sum_cons]
     have:∀r:List ir,(r.map ((·.length)∘λy=>(⟨(lG d y).toArray⟩:Str))).sum<=(b7 d r).length:=λr=>by
      induction r with
      |nil=>exact le_refl _
      |cons y r ih=>
       show (⟨(lG d y).toArray⟩:Str).length+(r.map ((·.length)∘λy=>(⟨(lG d y).toArray⟩:Str))).sum<=(46::lG d y++b7 d r).length;rw[aL,length_append,length_cons];omega
     have h2:=this r0;show (⟨(lG d x0).toArray⟩:Str).length+_<=_;rw[aL];omega
    refine⟨_,D,(x0::r0).map (λy=>⟨(lG d y).toArray⟩),U,U,bh.of (by rw[xS,map_map];rfl),?_,?_⟩
    ·have e0:("." :Str).length=1:=by decide+kernel
     rw[e0,length_map,length_cons];omega
    ·rw[ej];refine⟨_,U,f,Fo,dx,_,_,U,e _ _ hf,T.bz,T.jB,jy _ _,n,U,n1,n2,_,_,U,U,?_,?_⟩
     ·rw[aL,aL,length_append];omega
     ·rw[bu,<-ez];exact q _ e
def xU:ay ["count"] ["count"] (ao km):=dE
def sJ(D:Def K mg "count_shown" "count_shown" km ["count"])(T:oA K mg C):bp P w K mg base 1 "count_shown" ["count"] iK:=by
 refine D.dk xU 0e6 0e0
 ·obtain⟨n,rfl,_⟩:=h;rfl
 ·obtain⟨n,rfl,h1,h2,k⟩:=h
  refine⟨_,(ai (bR (aO gf 1e6 aq (aT _)) (ak (aH aZ))
      aS) (ak (aH (bx jb rfl T.IM Bs (aa 1e6 aj))))),?_⟩
  refine⟨_,U,U,_,U,fJ (λe=>?_) λe=>?_⟩
  ·have e:n=1:=by simpa using e
   subst e;exact k
  ·have e:¬n=1:=by simpa using e
   refine⟨_,U,_,U,ve 0e1 0e1,?_⟩;unfold cD at k;rw[if_neg e] at k;exact k
def SE:ay ["self","kind","count"] ["self","kind","count"] (ao IF):=dE
def M9(D:j8 K C "Atom.__init__" IF ["self","kind","count"] [1])(T:oA K mg C):gF P w K mg base 1 C ["self","kind","count"] [1] (IK C):=by
 refine D.dk SE 0e6 0e0
 ·obtain⟨p,dx,k,n,rfl,_⟩:=h;rfl
 ·obtain⟨p,dx,k,n,rfl,hp,q⟩:=h;refine⟨_,(ai (eN 1e6 (pv 1) rfl) (ak (eN 1e6 (pv 2) rfl))),?_⟩;refine⟨_,U,_,U,p,C,dx,[],U,hp,T.gA,T.xB,(by show 0<1000;decide),_,U,_,U,p,C,dx,_,U,ag,T.gA,T.rS,(by show 1<1000;decide),?_⟩;refine q _ ag λb o e hb=>?_;rw[ah hb,ah hb];exact e
def Na:ay 1e1 1e1 (ao BM):=dE
def Jp(D:a9 K C "shown" "Atom.shown" BM 1e1)(T:oA K mg C)(c1:bp P w K mg base 1 "count_shown" ["count"] iK):aJ P w K mg base 2 C "shown" 1e1 (xA C):=by
 obtain⟨_,_,cV⟩:=c1;refine D.dk Na 0e6 0e0
 ·obtain⟨p,k,n,rfl,_⟩:=h;rfl
 ·obtain⟨p,k,n,rfl,⟨dx,hp⟩,hk,h1,h2,q⟩:=h;refine⟨_,(ak (aH (av aE 2e4 (dR cV hr (aa 2e4 aj))))),?_⟩;refine⟨_,U,p,C,dx,_,_,U,hp,T.gA,T.xB,vm _ _,_,U,p,C,dx,_,_,U,hp,T.gA,T.rS,rQ _ _,n,U,h1,h2,_,_,U,U,?_,q⟩;have:=dS h1 h2;have:(100 :Nat)<=sizeLine:=by decide
  omega
abbrev great:Str:="ABCDEFGHIJKLMNOPQRSTUVWXYZ"
abbrev small:Str:="abcdefghijklmnopqrstuvwxyz"
def FV:great.cps.toList.length=26:=by decide+kernel
def FW:small.cps.toList.length=26:=by decide+kernel
def FX:great.cps.toList.all zF=true:=by decide+kernel
def FY:small.cps.toList.all md=true:=by decide+kernel
variable {uC uP uI uD uL uT:Tok}
def Nb:ay ["self","parts","count"] ["self","parts","count"] (ao BN):=dE
def Jq(D:j8 K G "Group.__init__" BN ["self","parts","count"] [1])(T:1e5):gF P w K mg base 1 G ["self","parts","count"] [1] (nq G):=by
 refine D.dk Nb 0e6 0e0
 ·obtain⟨p,dx,l,c,xs,rfl,_⟩:=h;rfl
 ·obtain⟨p,dx,l,c,xs,rfl,hp,hl,q⟩:=h;refine⟨_,(ai (eN 1e6 (bx d3 rfl T.n_list iz (aa (pv 1) aj)) rfl) (ak (eN 1e6 (pv 2) rfl))),?_⟩;refine⟨_,U,l,xs,U, .inl (bh.of hl),λn hn=>?_⟩;have A3:p≠n:=af hp hn;refine⟨_,U,p,G,dx,[],U,(by rw[ah A3];exact hp),T.eM,T.oC,(by show 0<1000;decide),_,U,_,U,p,G,dx,_,U,ag,T.eM,T.oE,(by show 1<1000;decide),?_⟩;refine q n _ hn ag (by rw[ah (Ne.symm A3),ah (Ne.symm A3),ag]) λb o e hb=>?_;rw[ah hb,ah hb,ah (af e hn)];exact e
def Nc:ay ["self","parts","count"] ["self","parts","count"] (ao BO):=dE
def Jr(D:j8 K Pc "Piece.__init__" BO ["self","parts","count"] [1])(T:1e5):gF P w K mg base 1 Pc ["self","parts","count"] [1] (nq Pc):=by
 refine D.dk Nc 0e6 0e0
 ·obtain⟨p,dx,l,c,xs,rfl,_⟩:=h;rfl
 ·obtain⟨p,dx,l,c,xs,rfl,hp,hl,q⟩:=h;refine⟨_,(ai (eN 1e6 (bx d3 rfl T.n_list iz (aa (pv 1) aj)) rfl) (ak (eN 1e6 (pv 2) rfl))),?_⟩;refine⟨_,U,l,xs,U, .inl (bh.of hl),λn hn=>?_⟩;have A3:p≠n:=af hp hn;refine⟨_,U,p,Pc,dx,[],U,(by rw[ah A3];exact hp),T.dq,T.oG,(by show 0<1000;decide),_,U,_,U,p,Pc,dx,_,U,ag,T.dq,T.oH,(by show 1<1000;decide),?_⟩;refine q n _ hn ag (by rw[ah (Ne.symm A3),ah (Ne.symm A3),ag]) λb o e hb=>?_;rw[ah hb,ah hb,ah (af e hn)];exact e
def Nd:ay ["self","pieces","charge"] ["self","pieces","charge"] (ao BP):=dE
def Js(D:j8 K Fo "Formula.__init__" BP ["self","pieces","charge"] [0])(T:1e5):gF P w K mg base 1 Fo ["self","pieces","charge"] [0] (xK Fo):=by
 refine D.dk Nd 0e6 0e0
 ·obtain⟨p,dx,l,c,xs,rfl,_⟩:=h;rfl
 ·obtain⟨p,dx,l,c,xs,rfl,hp,hl,q⟩:=h;refine⟨_,(ai (eN 1e6 (bx d3 rfl T.n_list iz (aa (pv 1) aj)) rfl) (ak (eN 1e6 (pv 2) rfl))),?_⟩;refine⟨_,U,l,xs,U, .inl (bh.of hl),λn hn=>?_⟩;have A3:p≠n:=af hp hn;refine⟨_,U,p,Fo,dx,[],U,(by rw[ah A3];exact hp),T.bz,T.jA,(by show 0<1000;decide),_,U,_,U,p,Fo,dx,_,U,ag,T.bz,T.jB,(by show 1<1000;decide),?_⟩;refine q n _ hn ag (by rw[ah (Ne.symm A3),ah (Ne.symm A3),ag]) λb o e hb=>?_;rw[ah hb,ah hb,ah (af e hn)];exact e
structure TxtP(K:1e8)(mg:2e1)(C:Addr):Prop extends oA K mg C where
 kJ:mg "dict" =none
 Jj:mg "abs" =none
def bI:Nat->Int->Tr->List (Str×Int)
 |_,m, .one k n=>[(⟨k.toArray⟩,n*m)]
 |0,_, .gr _ _=>[]
 |d+1,m, .gr ts n=>ts.flatMap (bI d (n*m))
def bT(d:Nat)(x:ir):List (Str×Int):=x.2.flatMap (bI d x.1)
def cW(d:Nat)(xs:List ir):List (Key×V):=aV 1 [] (xs.flatMap (bT d))
def Xw(ts:List Tr):Prop:=ts≠[]/\(∀t∈ts,jY 2 t)/\(ts.flatMap (bY 2)).length<=23/\(ts.flatMap (bI 2 1)).length<=5
theorem sM:∀(l acc:PP),((acc++l).map 1e4).Nodup->bD acc l=acc++l
 | [],acc,_=>by rw[append_nil];rfl
 |p::r,acc,h=>by
  have hn:ck acc p.1=none:=by
   cases e:ck acc p.1 with
   |none=>rfl
   |some x=>
    rw[map_append,List.nodup_append] at h;exact absurd rfl (h.2.2 _ (qb e) p.1 2e0)
  show bD (putK acc p.1 p.2) r=_;rw[mF _ hn,sM r (acc++[(p.1,p.2)]) (by rw[append_assoc];exact h),append_assoc];rfl
theorem DO(c:Int):∀(as:Uf) (acc:PP),aV 1 acc (as.map λp=>(p.1,p.2*c))=aV c acc as
 | [],_=>rfl
 |p::r,acc=>by
  show aV 1 (bZ acc (Sum.inr p.1) (p.2*c*1)) (r.map λp=>(p.1,p.2*c))=aV c (bZ acc (Sum.inr p.1) (p.2*c)) r;rw[mul_one,DO c r]
abbrev Xx:=List (List Nat×Int)
def nB(as:Xx):List (Str×Int):=as.map λa=>((⟨a.1.toArray⟩:Str),a.2)
def zR{n:Int}(h:1<=n)(h':n<=999):(aQ n).length<=3:=by
 have:=dS h h';rw[bw,aL] at this;exact this
def kK{n:Int}(h:1<=n)(h':n<=99):(aQ n).length<=2:=by
 obtain⟨m,rfl⟩:=eq_ofNat_of_zero_le (show 0<=n by omega);have:=lA (n:=m) (k:=2) 0e2 0e1;rw[bw,aL] at this;exact this
def kL{k:IR}(h:lF k):k.length<=3:=by
 obtain⟨c,r,rfl,_,_,h3⟩:=h;rw[length_cons];omega
def aY.dO{kvs:PP}(h:aY kvs){k:Key}{v:V}(hm:(k,v)∈kvs):ck kvs k=some (.int (aG kvs k)):=by
 cases f:ck kvs k with
 |none=>exact absurd (mem_map_of_mem (f:=1e4) hm) (mG f)
 |some x=>rw[h.look f]
def none_back{H H':Hp}{D:Py}(e:au H H')(h:H' D=none):H D=none:=by
 cases hh:H D with
 |none=>rfl
 |some o=>rw[e _ _ hh] at h;cases h
def take_snoc{α:Type}{l:List α}{i:Nat}{a:α}(h:l[i]? =some a):l.take (i+1)=l.take i++[a]:=by
 rw[take_add_one,h];rfl
abbrev Fm:=List ir×Int
def fL(x:Fm):List Nat:=wL 2 x.1 x.2
def cz(x:Fm):Prop:=Ji 2 x.1 x.2/\(fL x).length<=33/\(x.1.flatMap (bT 2)).length<=7
def SF(n:Int):y8 [V.str "-",V.str "+"] (if decide (n>0)=true then 1 else 0)=some (V.str (if 0<n then ("+" :Str) else ("-" :Str))):=by
 by_cases h:0<n
 ·rw[if_pos (decide_eq_true h),if_pos h];rfl
 ·rw[if_neg (by simpa using h),if_neg h];rfl
def Nf{n:Int}(e:¬n=0):(⟨(eh n).toArray⟩:Str)="^" ++cD (if n<0 then -n else n)++(if 0<n then ("+" :Str) else ("-" :Str)):=by
 unfold eh;rw[if_neg e,bw,Xq,e43,M5];rw[show (⟨#[94]⟩:Str)=⟨[94].toArray⟩ from rfl,bu];by_cases hp:0<n
 ·rw[if_pos hp,if_pos hp,show (⟨#[43]⟩:Str)=⟨[43].toArray⟩ from rfl,bu];simp
 ·rw[if_neg hp,if_neg hp,show (⟨#[45]⟩:Str)=⟨[45].toArray⟩ from rfl,bu];simp
def Xy{xs:List ir}(h:xs≠[])(n:Int):wL 2 xs n=wL 2 xs 0++eh n:=by
 cases xs with
 |nil=>exact absurd rfl h
 |cons x r=>
  show x.2.flatMap (bY 2)++(b7 2 r++eh n)=x.2.flatMap (bY 2)++(b7 2 r++[])++eh n;rw[append_nil,append_assoc]
def Xz(xs:List ir):Prop:=xs≠[]/\(∀n, -999<=n->n<=999->Ji 2 xs n)/\(wL 2 xs 0).length<=29/\(xs.flatMap (bT 2)).length<=7
def fig1:aQ 1=[]:=by decide+kernel
def b1_x(ts:List Tr):wL 2 [(1,ts)] 0=ts.flatMap (bY 2):=by
 show ts.flatMap (bY 2)++([]++[])=_;simp
def P9{ts:List Tr}(h:Xw ts):Xz [(1,ts)]:=by
 obtain⟨h1,h2,h3,h4⟩:=h;refine⟨by simp,λn n1 n2=>⟨U,λx hx=>?_,n1,n2⟩,?_,?_⟩
 ·have e:x=(1,ts):=by simpa using hx
  subst e;exact⟨h1,h2,(by show (1 :Int)<=1;decide),(by show (1 :Int)<=999;decide)⟩
 ·rw[b1_x];omega
 ·show (ts.flatMap (bI 2 1)++[]).length<=7;rw[append_nil];omega
def DP{xs:List ir}(h:Xz xs){n:Int}(n1: -99<=n)(n2:n<=99):cz (xs,n):=by
 obtain⟨h1,h2,h3,h4⟩:=h;refine⟨h2 n 0e1 0e1,?_,h4⟩;show (wL 2 xs n).length<=33;rw[Xy h1,length_append]
 have:(eh n).length<=4:=by
  unfold eh;split
  ·exact zero_le _
  ·have:=kK (n:=if n<0 then -n else n) (by split<;>omega) (by split<;>omega);rw[length_cons,length_append];show _+1+1<=4;omega
 omega
def SH(xs:List ir):aY (cW 2 xs):=jq 1 _ _ λp hp=>by cases hp
def SI{xs:List ir}{m:Nat}(h:(xs.flatMap (bT 2)).length<=m):(cW 2 xs).length<=m:=by
 have:=jr 1 (xs.flatMap (bT 2)) [];rw[length_nil] at this;unfold cW;omega
abbrev Tm:=Int×Fm
abbrev _root_.NE:=List Tm
def gm(B:Int)(x:Tm):Prop:=1<=x.1/\x.1<=B/\cz x.2
theorem pz{α β:Type}{R:α->β->Prop}:∀{as:List α} {bs:List β} (k:Nat),Paired R as bs->Paired R (as.take k) (bs.take k)
 |_,_,0,_=> .nil
 |_,_,_+1, .nil=> .nil
 |_,_,k+1, .cons h t=> .cons h (pz k t)
theorem pA{α β:Type}{R:α->β->Prop}:∀{as:List α} {bs:List β} (k:Nat),Paired R as bs->Paired R (as.drop k) (bs.drop k)
 |_,_,0,h=>h
 |_,_,_+1, .nil=> .nil
 |_,_,k+1, .cons _ t=>pA k t
variable {uC uP uI uD uL uT:Tok}
def DQ{n:Int}(h0:0<=n)(h:n<10^50):(toString n:Str).length<=50:=by
 rw[PySem.ofString_length];obtain⟨m,rfl⟩:=eq_ofNat_of_zero_le h0;show (Nat.repr m).length<=50;rw[Nat.length_repr_le_iff 0e2];omega
def Ng{n:Int}(h0:0<=n)(h:n<10^50):n.natAbs.log2<1920:=by
 by_cases e:n.natAbs=0
 ·rw[e];decide
 ·have:=(log2_lt e (k:=170)).mpr 0e1;omega
def tW(x:Tm):Str:=if x.1=1 then ⟨(fL x.2).toArray⟩ else (toString x.1 :Str)++" " ++⟨(fL x.2).toArray⟩
def tX(xs:NE):Str:=Txt.join " + " (xs.map tW)
def DR{B:Int}(hB:B<=10^40){x:Tm}(h:gm B x):(tW x).length<=100:=by
 obtain⟨h1,h2,_,h3,_⟩:=h;unfold tW;split
 ·rw[aL];omega
 ·have:=DQ (n:=x.1) 0e1 0e1;have l1:(" " :Str).length=1:=by decide+kernel
  rw[az,az,aL,l1];exact le_trans (Nat.add_le_add (Nat.add_le_add_right this 1) h3) 0e2
variable {uC uP uI uD uL uT fG fH fI:Tok}{Ch:Py}
structure Jt(K:1e8)(mg:2e1)(C R G Pc Fo Ch:Addr)(uK uN uB uE uM uC uP uI uD uL uT fG fH fI:Tok):Prop extends jW K mg C R G Pc Fo uK uN uB uE uM uC uP uI uD uL uT,TxtP K mg C where
 cm:t5 K Ch
 gZ:cG K Ch "lefts"
 iY:cG K Ch "rights"
 Ju:mg "Change" =some (.ref Ch)
 Nh:mg "BLANK" =some (.str " " fG)
 DS:mg "JOINT" =some (.str " + " fH)
 DT:mg "ARROW" =some (.str " -> " fI)
inductive jD(C G Pc Fo:Addr)(H:Hp)(t:Addr)(x:Tm):Prop
 |mk (f:_) (bM:H t=some (.tup [.int x.1, .ref f])) (bV:nu C G Pc Fo 2 H f x.2.1 x.2.2)
inductive g7(C G Pc Fo:Addr)(H:Hp)(l:Addr)(xs:List Tm):Prop
 |mk (ts:_) (bM:H l=some (.lst (ts.map V.ref))) (bV:Paired (jD C G Pc Fo H) ts xs)
theorem jD.same{C G Pc Fo:Py}{H H':Hp}{t:Py}{x:Tm}(h:jD C G Pc Fo H t x)(e:au H H'):jD C G Pc Fo H' t x:=let ⟨f,h1,h2⟩:=h;⟨f,e _ _ h1,h2.same e⟩
theorem g7.same{C G Pc Fo:Py}{H H':Hp}{l:Py}{xs:NE}(h:g7 C G Pc Fo H l xs)(e:au H H'):g7 C G Pc Fo H' l xs:=let ⟨ts,h1,h2⟩:=h;⟨ts,e _ _ h1,aB (λ_ _ z=>z.same e) h2⟩
def nlr:¬(("lefts" :Str)="rights"):=by decide+kernel
def pB(l r:Py):List (Str×V):=cN "rights" (.ref r) (cN "lefts" (.ref l) [])
def eV(l r:Py):(pB l r).lookup ("lefts" :Str)=some (.ref l):=by
 unfold pB;rw[aD,if_neg nlr,aD,if_pos rfl]
def gL(l r:Py):(pB l r).lookup ("rights" :Str)=some (.ref r):=by
 unfold pB;rw[aD,if_pos rfl]
def zS(l r:Py){m:Str}(h1:¬m="rights")(h2:¬m="lefts"):(pB l r).lookup m=none:=by
 unfold pB;rw[aD,if_neg h1,aD,if_neg h2]
 all_goals rfl
inductive Jv(Ch:Addr)(vs:List V)(H:Hp)(Q:VK)(E:XK):Prop
 |mk (p dx l r:Addr) (xs ys:List V) (bM:vs=[.ref p, .ref l, .ref r]) (bV:H p=some (.ins Ch dx [])) (b8:H l=some (.lst xs)) (cS:H r=some (.lst ys)) (eK:∀n m H',H n=none->H m=none->n≠m->H' p=some (.ins Ch dx (pB n m))->H' n=some (.lst xs)->H' m=some (.lst ys)->(∀b o,H b=some o->b≠p->H' b=some o)->Q .cF H')
def DU(Ch:Py):Sp:=Jv Ch
def Ni:ay ["self","lefts","rights"] ["self","lefts","rights"] (ao BQ):=dE
def Jw(D:j8 K Ch "Change.__init__" BQ ["self","lefts","rights"] [])(T:Jt K mg C R G Pc Fo Ch uK uN uB uE uM uC uP uI uD uL uT fG fH fI):gF P w K mg base 1 Ch ["self","lefts","rights"] [] (DU Ch):=by
 refine D.dk Ni 0e6 0e0
 ·obtain⟨p,dx,l,r,xs,ys,rfl,_⟩:=h;rfl
 ·obtain⟨p,dx,l,r,xs,ys,rfl,hp,hl,GY,q⟩:=h;refine⟨_,(ai (eN 1e6 (bx d3 rfl T.n_list iz (aa (pv 1) aj)) rfl) (ak (eN 1e6 (bx d3 rfl T.n_list iz (aa (pv 2) aj)) rfl))),?_⟩;refine⟨_,U,l,xs,U, .inl (bh.of hl),λn hn=>?_⟩;have A3:p≠n:=af hp hn;have npr:r≠p:=bj GY hp 0e7;refine⟨_,U,p,Ch,dx,[],U,(by rw[ah A3];exact hp),T.cm,T.gZ,(by show 0<1000;decide),?_⟩;refine⟨_,U,r,ys,U, .inl (bh.of (by rw[ah npr,ah (af GY hn)];exact GY)),λm hm=>?_⟩;have nmp:p≠m:=af ag hm;have XA:n≠m:=λz=>by rw[<-z,ah (Ne.symm A3),ag] at hm;cases hm
  have hm0:H m=none:=by rwa [ah (Ne.symm nmp),ah (Ne.symm XA)] at hm
  refine⟨_,U,p,Ch,dx,_,U,(by rw[ah nmp];exact ag),T.cm,T.iY,(by show 1<1000;decide),?_⟩;refine q n m _ hn hm0 XA ag ?_ ?_ λb o e hb=>?_
  ·rw[ah (Ne.symm A3),ah XA,ah (Ne.symm A3),ag]
  ·rw[ah (Ne.symm nmp),ag]
  ·rw[ah hb,ah (af e hm0),ah hb,ah (af e hn)];exact e
inductive dz(C G Pc Fo Ch:Addr)(H:Hp)(c:Addr)(xs ys:List Tm):Prop
 |mk (dx l r:_) (bM:H c=some (.ins Ch dx (pB l r))) (bV:g7 C G Pc Fo H l xs) (b8:g7 C G Pc Fo H r ys)
theorem dz.same{C G Pc Fo Ch:Py}{H H':Hp}{c:Py}{xs ys:NE}(h:dz C G Pc Fo Ch H c xs ys)(e:au H H'):dz C G Pc Fo Ch H' c xs ys:=let ⟨dx,l,r,h1,h2,h3⟩:=h;⟨dx,l,r,e _ _ h1,h2.same e,h3.same e⟩
def chS(xs ys:NE):Str:=tX xs++" -> " ++tX ys
def vN{xs:NE}(aX:∀x∈xs,gm (10^40) x)(h10:xs.length<=10):(tX xs).length<=2000:=by
 unfold tX;have e:=PyProof.Rows.join_closes (sep:=" + ") (sep':=" + ") (ys:=xs.map tW) rfl;rw[show Txt.join " + " (xs.map tW)=Str.join " + " (xs.map tW) by simpa using e];have l3:(" + " :Str).length=3:=by decide+kernel
 have key:∀ys:List Str,(∀y∈ys,y.length<=100)->(Str.join " + " ys).length<=103*ys.length:=by
  intro ys
  induction ys with
  |nil=>intro _;exact zero_le _
  |cons y r ih=>
   intro h;have h1:=h y 1e0;have h2:=ih λz hz=>h z (mem_cons_of_mem _ hz)
   cases r with
   |nil=>
    show y.length<=103*1;omega
   |cons z r'=>
    show (y++" + " ++Str.join " + " (z::r')).length<=_;rw[az,az,l3,length_cons];omega
 have:=key (xs.map tW) λy hy=>by
  obtain⟨x,hx,rfl⟩:=mem_map.mp hy;exact DR (Int.le_refl _) (aX x hx)
 rw[length_map] at this;omega
variable {uC uP uI uD uL uT:Tok}
theorem sN(c:Int):∀(d:Nat) (m:Int) (t:Tr),bI d (m*c) t=(bI d m t).map λp=>(p.1,p.2*c)
 |d,m, .one k n=>by
  have e1:bI d (m*c) (.one k n)=[(⟨k.toArray⟩,n*(m*c))]:=by cases d<;>rfl
  have e2:bI d m (.one k n)=[(⟨k.toArray⟩,n*m)]:=by cases d<;>rfl
  rw[e1,e2,map_cons,map_nil,mul_assoc]
 |0,_, .gr _ _=>rfl
 |d+1,m, .gr ts n=>by
  show ts.flatMap (bI d (n*(m*c)))=(ts.flatMap (bI d (n*m))).map _;rw[List.map_flatMap,<-mul_assoc];congr 1;funext t;exact sN c d (n*m) t
def DV(t:Int)(acc:PP)(as bs:Uf):aV t acc (as++bs)=aV t (aV t acc as) bs:=by
 unfold aV;rw[foldl_append]
def Jx(t:Int){acc:PP}(hI:aY acc)(hn:(acc.map 1e4).Nodup)(d:Nat)(x:Tr):
  iJ t acc (aV 1 [] (bI d 1 x)) (aV 1 [] (bI d 1 x))=aV 1 acc (bI d t x):=by
 have e:=sN t d 1 x;rw[one_mul] at e;rw[xF t 1 (bI d 1 x) hI hn,one_mul,e,DO]
def Jy:aY []:=λp hp=>by cases hp
theorem mul_int(c:Int)(all:PP):∀(l acc:PP),aY acc->aY (iJ c acc l all)
 | [],_,h=>h
 |_::r,_,h=>mul_int c all r _ (h.add _ _)
theorem xV(c:Int)(all:PP):∀(l acc:PP),(iJ c acc l all).length<=acc.length+l.length
 | [],_=>le_refl _
 |p::r,acc=>by
  have h1:=xV c all r (bZ acc p.1 (aG all p.1*c));have h2:(bZ acc p.1 (aG all p.1*c)).length<=acc.length+1:=cE _ _ _;show (iJ c (bZ acc p.1 (aG all p.1*c)) r all).length<=_;rw[length_cons];omega
def k8{n:Nat}(h:n<=1000):n<sizeLine:=lt_of_le_of_lt h 0e2
def g8{H:Hp}{d e:Py}{A F B E:HO}(m5:d≠e)(he:H e=some E):upd (upd (upd (upd H d A) e F) d B) e E=upd H d B:=by
 funext b;by_cases h1:b=e
 ·subst h1;rw[ag,ah (Ne.symm m5),he]
 ·rw[ah h1];by_cases h2:b=d
  ·subst h2;rw[ag,ag]
  ·rw[ah h2,ah h1,ah h2,ah h2]
def zT(c:Int)(all acc:PP){i:Nat}{p:Key×V}(h:all[i]? =some p):iJ c acc (all.take (i+1)) all=bZ (iJ c acc (all.take i) all) p.1 (aG all p.1*c):=by
 unfold iJ;rw[take_snoc h,foldl_append];rfl
def sO{X:Cx}{D:Ends}{l d e:Py}{t:Int}{v3 v5:Option V}{H:Hp}{acc gv:PP}(hu:X.A.units+1<cLine)(hd:H d=some (.dK acc))(he:H e=some (.dK gv))(m5:d≠e)(hI:aY acc)(Jz:aY gv)(hl:acc.length+gv.length<=1000)(t1:1<=t)(t2:t<=999)
  (fin:∀z:Option V,D.nx [some (.ref l),some (.int t),some (.ref d),v3,some (.ref e),z] (upd H d (.dK (iJ t acc gv gv)))):
  HG X (Rg (HF X (jZ 4)) (bL 5) (Hx (jZ 2) (jZ 5) (Rh (Lz λi j=> .int (i+j)) (Bl (jZ 2) (jZ 5) (tC (.int 0))) (Rh (rI Hm λi j=> .int (i*j)) (Hw (jZ 4) (jZ 5)) (jZ 1))))) D [some (.ref l),some (.int t),some (.ref d),v3,some (.ref e),v5] H:=by
 refine⟨_,U,e,gv,U,he,λo nf=>dw nf (λj σ H'=>∃z:Option V,σ=[some (.ref l),some (.int t),some (.ref d),v3,some (.ref e),z]/\H'=upd H d (.dK (iJ t acc (gv.take j) gv))) ?_ ?_ ?_ ?_⟩
 ·exact⟨v5,U,(cH hd).symm⟩
 ·rintro i σ H' ⟨_,_,rfl⟩;rw[ah (Ne.symm m5)];exact he
 ·rintro i k v σ H' hi ⟨z,rfl,rfl⟩;have nW:∀o',(upd (upd H d (.dK (iJ t acc (gv.take i) gv))) e o') d=some (.dK (iJ t acc (gv.take i) gv)):=λo'=>by rw[ah m5];exact ag
  have hv:=Jz.dO (mem_of_getElem? hi);have JA:aY (iJ t acc (gv.take i) gv):=mul_int t gv _ _ hI;have hli:=xV t gv (gv.take i) acc;have Nj:(gv.take i).length<=gv.length:=length_take_le' _ _;refine⟨_,U,d,U, .inl ⟨_, .inl (nW _)⟩,_,U,_,fQ.k (k:=k) (nW _),_,U,_,U,e,V.int (aG gv k),U, .inl ⟨_,k, .inr ⟨o,ag⟩,U,hv.symm⟩,_,U,_,_,U,U, .inr ⟨by omega,by omega⟩,_,_,JA.at k,U,_,U,_,U,d,_,U,iU.k (k:=k) (nW _) (k8 ?_),?_⟩
  ·omega
  ·refine⟨by rw[ah (Ne.symm m5)];exact ag,some (kV k),U,?_⟩;rw[g8 m5 he,zT t gv acc hi];rfl
 ·rintro σ H' ⟨z,rfl,rfl⟩;rw[take_length];exact fin z
def dF:ay ["parts","times","total","part","inner","kind"] ["parts","times"] (ao ko):=dE
def JB:ay 1e1 1e1 (ao xg):=dE
def FZ(D:a9 K C "counts" "Atom.counts" xg 1e1)(T:oA K mg C):aJ P w K mg base 1 C "counts" 1e1 (rR C):=by
 refine D.dk JB 0e6 0e0
 ·obtain⟨p,k,n,rfl,_⟩:=h;rfl
 ·obtain⟨p,k,n,rfl,⟨dx,hp⟩,q⟩:=h;refine⟨_,(ak (aH (iy (gi 2e4 2e4 ix) rfl rfl 0e7 0e2))),?_⟩;intro d hd;have zj:∀o,(upd H d o) p=some (.ins C dx (xv k n)):=λo=>by rw[ah (af hp hd)];exact hp
  refine⟨_,U,p,C,dx,_,_,U,zj _,T.gA,T.xB,vm _ _,_,U,p,C,dx,_,_,U,zj _,T.gA,T.rS,rQ _ _,ag,[(Sum.inr k, .int n)],U,(by show 1<=15;decide),?_⟩;rw[gI];exact q d hd
def mj(C G:Py):Nat->Sp
 |0=>λ_ _ _ _=>False
 |d+1=>λvs H Q _=>∃(g:Py) (ts:List Tr) (n:Int),vs=[.ref g]/\eP C G (d+1) H g (.gr ts n)/\jY (d+1) (.gr ts n)/\(bI (d+1) 1 (.gr ts n)).length<=400/\∀e H',H e=none->H' e=some (.dK (aV 1 [] (bI (d+1) 1 (.gr ts n))))->au H H'->Q (.ref e) H'
inductive zU(C G:Addr)(d:Nat)(vs:List V)(H:Hp)(Q:VK)(E:XK):Prop
 |mk (l:Addr) (ps:List Addr) (ts:List Tr) (t:Int) (bM:vs=[.ref l, .int t]) (bV:H l=some (.lst (ps.map V.ref))) (b8:Paired (eP C G d H) ps ts) (cS:(∀x∈ts,jY d x)) (eK:1<=t) (gS:t<=999) (lR:(ts.flatMap (bI d t)).length<=400) (rV:∀e H',H e=none->H' e=some (.dK (aV 1 [] (ts.flatMap (bI d t))))->au H H'->Q (.ref e) H')
def jE(C G:Py)(d:Nat):Sp:=zU C G d
def F0(d:Nat)(t:Int)(x:Tr):(bI d t x).length=(bI d 1 x).length:=by
 have e:=sN t d 1 x;rw[one_mul] at e;rw[e,length_map]
def xW{d:Nat}{t:Int}{ts:List Tr}{x:Tr}(h:x∈ts):(bI d 1 x).length<=(ts.flatMap (bI d t)).length:=by
 rw[<-F0 d t x];obtain⟨as,bs,rfl⟩:=append_of_mem h;rw[flatMap_append,flatMap_cons,length_append,length_append];omega
def Nk(k:Str)(n:Int):aV 1 [] [(k,n*1)]=[(Sum.inr k, .int n)]:=by
 show putK [] (Sum.inr k) (.int (aG [] (Sum.inr k)+n*1*1))=_;rw[show aG [] (Sum.inr k:Key)=0 from rfl,zero_add,mul_one,mul_one];rfl
def uk{d:Nat}{t:Int}(ts:List Tr)(i:Nat):((ts.take i).flatMap (bI d t)).length<=(ts.flatMap (bI d t)).length:=by
 conv=>rhs;rw[<-take_append_drop i ts,flatMap_append,length_append]
 omega
def iE(l:Uf):((aV 1 [] l).map 1e4).Nodup:=xw 1 l [] nodup_nil
def cx(l:Uf):aY (aV 1 [] l):=jq 1 l [] Jy
def dA(l:Uf):(aV 1 [] l).length<=l.length:=by
 have:=jr 1 l [];rw[length_nil] at this;omega
def pD(d:Nat)(D:Def K mg "parts_counts" "parts_counts" ko ["parts","times"])(T:r8 K mg C R G uK uN uB uE uM)(c1:aJ P w K mg base 1 C "counts" 1e1 (rR C))(c2:aJ P w K mg base (2*d+1) G "counts" 1e1 (mj C G d)):bp P w K mg base (2*d+2) "parts_counts" ["parts","times"] (jE C G d):=by
 obtain⟨_,_,iP⟩:=c1;obtain⟨_,_,g9⟩:=c2;refine D.dk dF 0e6 0e0
 ·obtain⟨l,ps,ts,t,rfl,_⟩:=h;rfl
 ·obtain⟨l,ps,ts,t,rfl,hl,hP,aX,t1,t2,hz,q⟩:=h;have hu:=di hr;have lp:ps.length=ts.length:=Paired.length hP;refine⟨_,(ai (aA (i:=2) dF.nd rfl 0e3 eC) (ai (bF PassesOwn.never rfl (cA 1e6) (aF (i:=3) dF.nd rfl 0e3) (ai (aA (i:=4) dF.nd rfl 0e3 (HN (aM (pv 3) T.gA iP.m iP.ok (hr.mono 0e1) iP.b .nil bb) (aM (pv 3) T.eM g9.m g9.ok (hr.mono 0e1) g9.b .nil bb))) (ak (dM (bF PassesOwn.never rfl (cQ (pv 4)) (aF (i:=5) dF.nd rfl 0e3) (ak (cP hu (pv 2) (pv 5) (av bC (bS hu (pv 2) (pv 5) aq ⟨U,U,U,U⟩) (av dm (cf hu (pv 4) (pv 5) 1e3) (pv 1))) rfl))))))) (ak (aH (pv 2))))),?_⟩;intro e0 oN;refine⟨_,U,l,U,⟨_,bh.of (au.new oN _ _ hl)⟩,du (K:=K) (a:=l) (xs:=ps.map V.ref) (λi σ H'=>∃v u z:Option V,σ=[some (.ref l),some (.int t),some (.ref e0),v,u,z]/\au H H'/\H' e0=some (.dK (aV 1 [] ((ts.take i).flatMap (bI d t))))) ?_ (λi σ H' _ ⟨_,_,_,_,e,_⟩=>bh.of (e _ _ hl)) ?_ ?_⟩
  ·exact⟨none,none,none,U,au.new oN,ag⟩
  ·rintro i v σ H' hi ⟨v',u,z,rfl,e,gD⟩;rw[getElem?_map] at hi;obtain⟨p,hp,rfl⟩:=gMp hi;obtain⟨x,hx,hT⟩:=bc hP hp;have hT:=hT.same e;have pE:=aX x (mem_of_getElem? hx);have lx:=le_trans (xW (d:=d) (t:=t) (mem_of_getElem? hx)) hz;have li:=le_trans (uk (d:=d) (t:=t) ts i) hz
   have gy:aV 1 [] ((ts.take (i+1)).flatMap (bI d t))=iJ t (aV 1 [] ((ts.take i).flatMap (bI d t))) (aV 1 [] (bI d 1 x)) (aV 1 [] (bI d 1 x)):=by
    rw[Jx t (cx _) (iE _),take_snoc hx,flatMap_append,flatMap_cons,flatMap_nil,append_nil,DV]
   have hlen:(aV 1 [] ((ts.take i).flatMap (bI d t))).length+(aV 1 [] (bI d 1 x)).length<=1000:=by
    have:=dA ((ts.take i).flatMap (bI d t));have:=dA (bI d 1 x);omega
   cases x with
   |one k n=>
    have P8:lF k/\1<=n/\n<=999:=by cases d<;>exact pE
    have hA:gz C H' p ⟨k.toArray⟩ n:=by cases d<;>exact hT
    have ef:bI d 1 (.one k n)=[(⟨k.toArray⟩,n*1)]:=by cases d<;>rfl
    rw[ef,Nk] at gy hlen;obtain⟨dx,zj⟩:=id hA;refine Or.inl ⟨_,rfl,p,dx,_,rfl,zj,DA _ _ 0e4 0e4,p,_,n,rfl,hA,λb hb=>?_⟩;have nb:e0≠b:=af gD hb;refine sO hu (by rw[ah nb];exact gD) ag nb (cx _) (λq hq=>⟨n,by rw[mem_singleton.mp hq]⟩) hlen t1 t2 λz'=>⟨_,_,_,rfl,λb' o w'=>?_,?_⟩
    ·rw[ah (af w' oN),ah (af (e _ _ w') hb)];exact e _ _ w'
    ·rw[ag,gy]
   |gr us n=>
    cases d with
    |zero=>exact pE.elim
    |succ d=>
     obtain⟨dx,l',Ve,h1,h2,h3⟩:=id hT;refine Or.inr ⟨_,rfl,p,dx,_,rfl,h1,mY _ _ 0e4 0e4,p,us,n,rfl,hT,pE,lx,λb cy nb hb e'=>?_⟩;refine sO hu (e' _ _ gD) hb (af gD nb) (cx _) (cx _) hlen t1 t2 λz'=>⟨_,_,_,rfl,λb' o w'=>?_,?_⟩
     ·rw[ah (af w' oN)];exact e' _ _ (e _ _ w')
     ·rw[ag,gy]
  ·rintro σ H' ⟨v,u,z,rfl,e,gD⟩;rw[length_map,lp,take_length] at gD;exact⟨_,U,q e0 H' oN gD e⟩
def vO:ay 1e1 1e1 (ao kq):=dE
def zV(D:a9 K G "counts" "Group.counts" kq 1e1):aJ P w K mg base 1 G "counts" 1e1 (mj C G 0):=
 D.dk (k:=0) vO (λvs H Q E h=>h.elim) (λf bg A outer s H vs Q E hr h=>h.elim)
def zW(d:Nat)(D:a9 K G "counts" "Group.counts" kq 1e1)(T:r8 K mg C R G uK uN uB uE uM)(c1:bp P w K mg base (2*d+2) "parts_counts" ["parts","times"] (jE C G d)):aJ P w K mg base (2*d+3) G "counts" 1e1 (mj C G (d+1)):=by
 obtain⟨_,_,dX⟩:=c1;refine D.dk vO 0e6 0e0
 ·obtain⟨g,ts,n,rfl,_⟩:=h;rfl
 ·obtain⟨g,ts,n,rfl,⟨dx,l,ps,h1,h2,h3⟩,⟨ne,aX,n1,n2⟩,hz,q⟩:=h
  have e:bI (d+1) 1 (.gr ts n)=ts.flatMap (bI d n):=by
   show ts.flatMap (bI d (n*1))=_;rw[mul_one]
  rw[e] at hz q;refine⟨_,(ak (aH (dR dX hr (aa 2e4 (aa 2e4 aj))))),?_⟩;exact⟨_,U,g,G,dx,_,_,U,h1,T.eM,T.oC,iB _ _,_,U,g,G,dx,_,_,U,h1,T.eM,T.oE,iC _ _,l,ps,ts,n,U,h2,h3,aX,n1,n2,hz,q⟩
theorem sP(D1:Def K mg "parts_counts" "parts_counts" ko ["parts","times"])(D2:a9 K G "counts" "Group.counts" kq 1e1)(T:r8 K mg C R G uK uN uB uE uM)(c1:aJ P w K mg base 1 C "counts" 1e1 (rR C)):∀d:Nat,bp P w K mg base (2*d+2) "parts_counts" ["parts","times"] (jE C G d)
 |0=>pD 0 D1 T c1 (zV D2)
 |d+1=>pD (d+1) D1 T c1 (zW d D2 T (sP D1 D2 T c1 d))
inductive pU(C G Pc:Addr)(d:Nat)(vs:List V)(H:Hp)(Q:VK)(E:XK):Prop
 |mk (q:Addr) (x:ir) (bM:vs=[.ref q]) (bV:jz C G Pc d H q x) (b8:Dq d x) (cS:(bT d x).length<=400) (eK:∀e H',H e=none->H' e=some (.dK (aV 1 [] (bT d x)))->au H H'->Q (.ref e) H')
def kM(C G Pc:Py)(d:Nat):Sp:=pU C G Pc d
def um:ay 1e1 1e1 (ao ji):=dE
def pV(d:Nat)(D:a9 K Pc "counts" "Piece.counts" ji 1e1)(T:1e5)(c1:bp P w K mg base (2*d+2) "parts_counts" ["parts","times"] (jE C G d)):aJ P w K mg base (2*d+3) Pc "counts" 1e1 (kM C G Pc d):=by
 obtain⟨_,_,dX⟩:=c1;refine D.dk um 0e6 0e0
 ·obtain⟨q,x,rfl,_⟩:=h;rfl
 ·obtain⟨g,x,rfl,⟨dx,l,ps,h1,h2,h3⟩,⟨ne,aX,n1,n2⟩,hz,q⟩:=h;refine⟨_,(ak (aH (dR dX hr (aa 2e4 (aa 2e4 aj))))),?_⟩;exact⟨_,U,g,Pc,dx,_,_,U,h1,T.dq,T.oG,iB _ _,_,U,g,Pc,dx,_,_,U,h1,T.dq,T.oH,iC _ _,l,ps,x.2,x.1,U,h2,h3,aX,n1,n2,hz,q⟩
inductive zX(C G Pc:Addr)(d:Nat)(vs:List V)(H:Hp)(Q:VK)(E:XK):Prop
 |mk (l:Addr) (ps:List Addr) (xs:List ir) (bM:vs=[.ref l, .int 1]) (bV:H l=some (.lst (ps.map V.ref))) (b8:Paired (jz C G Pc d H) ps xs) (cS:(∀x∈xs,Dq d x)) (eK:(xs.flatMap (bT d)).length<=400) (gS:∀e H',H e=none->H' e=some (.dK (cW d xs))->au H H'->Q (.ref e) H')
def sQ(C G Pc:Py)(d:Nat):Sp:=zX C G Pc d
def zY(d:Nat)(D:Def K mg "parts_counts" "parts_counts" ko ["parts","times"])(T:1e5)(c1:aJ P w K mg base (2*d+3) Pc "counts" 1e1 (kM C G Pc d)):bp P w K mg base (2*d+4) "parts_counts" ["parts","times"] (sQ C G Pc d):=by
 obtain⟨_,_,hW⟩:=c1;refine D.dk dF 0e6 0e0
 ·obtain⟨l,ps,xs,rfl,_⟩:=h;rfl
 ·obtain⟨l,ps,xs,rfl,hl,hP,aX,hz,q⟩:=h;have hu:=di hr;have lp:ps.length=xs.length:=Paired.length hP;refine⟨_,(ai (aA (i:=2) dF.nd rfl 0e3 eC) (ai (bF PassesOwn.never rfl (cA 1e6) (aF (i:=3) dF.nd rfl 0e3) (ai (aA (i:=4) dF.nd rfl 0e3 (aM (pv 3) T.dq hW.m hW.ok (hr.mono 0e1) hW.b .nil bb)) (ak (dM (bF PassesOwn.never rfl (cQ (pv 4)) (aF (i:=5) dF.nd rfl 0e3) (ak (cP hu (pv 2) (pv 5) (av bC (bS hu (pv 2) (pv 5) aq ⟨U,U,U,U⟩) (av dm (cf hu (pv 4) (pv 5) 1e3) (pv 1))) rfl))))))) (ak (aH (pv 2))))),?_⟩;intro e0 oN;refine⟨_,U,l,U,⟨_,bh.of (au.new oN _ _ hl)⟩,du (K:=K) (a:=l) (xs:=ps.map V.ref) (λi σ H'=>∃v u z:Option V,σ=[some (.ref l),some (.int 1),some (.ref e0),v,u,z]/\au H H'/\H' e0=some (.dK (cW d (xs.take i)))) ?_ (λi σ H' _ ⟨_,_,_,_,e,_⟩=>bh.of (e _ _ hl)) ?_ ?_⟩
  ·exact⟨none,none,none,U,au.new oN,ag⟩
  ·rintro i v σ H' hi ⟨v',u,z,rfl,e,gD⟩;rw[getElem?_map] at hi;obtain⟨p,hp,rfl⟩:=gMp hi;obtain⟨x,hx,hT⟩:=bc hP hp;have hT:=hT.same e;have pE:=aX x (mem_of_getElem? hx)
   have lx:(bT d x).length<=400:=by
    refine le_trans ?_ hz;obtain⟨as,bs,rfl⟩:=append_of_mem (mem_of_getElem? hx);rw[flatMap_append,flatMap_cons,length_append,length_append];omega
   have li:((xs.take i).flatMap (bT d)).length<=400:=by
    refine le_trans ?_ hz
    conv=>rhs;rw[<-take_append_drop i xs,flatMap_append,length_append]
    omega
   have gy:cW d (xs.take (i+1))=iJ 1 (cW d (xs.take i)) (aV 1 [] (bT d x)) (aV 1 [] (bT d x)):=by
    unfold cW;rw[xF 1 1 (bT d x) (cx _) (iE _),take_snoc hx,flatMap_append,flatMap_cons,flatMap_nil,append_nil,DV];rfl
   obtain⟨dx,l',Ve,h1,h2,h3⟩:=id hT;refine⟨_,U,p,dx,_,U,h1,mY _ _ 0e4 0e4,p,x,U,hT,pE,lx,λb cy nb hb e'=>?_⟩;refine sO hu (e' _ _ gD) hb (af gD nb) (cx _) (cx _) ?_ 0e2 0e2 λz'=>⟨_,_,_,rfl,λb' o w'=>?_,?_⟩
   ·have z1:(cW d (xs.take i)).length<=((xs.take i).flatMap (bT d)).length:=dA ((xs.take i).flatMap (bT d));have z2:=dA (bT d x);omega
   ·rw[ah (af w' oN)];exact e' _ _ (e _ _ w')
   ·rw[ag,gy]
  ·rintro σ H' ⟨v,u,z,rfl,e,gD⟩;rw[length_map,lp,take_length] at gD;exact⟨_,U,q e0 H' oN gD e⟩
inductive zZ(C G Pc Fo:Addr)(d:Nat)(vs:List V)(H:Hp)(Q:VK)(E:XK):Prop
 |mk (f:Addr) (xs:List ir) (n:Int) (bM:vs=[.ref f]) (bV:nu C G Pc Fo d H f xs n) (b8:Ji d xs n) (cS:(xs.flatMap (bT d)).length<=400) (eK:∀e H',H e=none->H' e=some (.dK (cW d xs))->au H H'->Q (.ref e) H')
def jF(C G Pc Fo:Py)(d:Nat):Sp:=zZ C G Pc Fo d
def qu{d:Nat}{xs:List ir}{n:Int}(h:Ji d xs n):∀x∈xs,Dq d x:=by
 cases xs with
 |nil=>intro x hx;cases hx
 |cons y r=>exact h.2.1
def F1:ay 1e1 1e1 (ao rG):=dE
def z4(d:Nat)(D:a9 K Fo "counts" "Formula.counts" rG 1e1)(T:1e5)(c1:bp P w K mg base (2*d+4) "parts_counts" ["parts","times"] (sQ C G Pc d)):aJ P w K mg base (2*d+5) Fo "counts" 1e1 (jF C G Pc Fo d):=by
 obtain⟨_,_,dX⟩:=c1;refine D.dk F1 0e6 0e0
 ·obtain⟨f,xs,n,rfl,_⟩:=h;rfl
 ·obtain⟨g,xs,n,rfl,⟨dx,l,ps,h1,h2,h3⟩,aX,hz,q⟩:=h;refine⟨_,(ak (aH (dR dX hr (aa 2e4 (aa aq aj))))),?_⟩;exact⟨_,U,g,Fo,dx,_,_,U,h1,T.bz,T.jA,jx _ _,l,ps,xs,U,h2,h3,qu aX,hz,q⟩
variable {uC uP uI uD uL uT fG fH fI uG uS:Tok}{Ch:Py}
structure oO(K:1e8)(mg:2e1)(C R G Pc Fo Ch:Addr)(uK uN uB uE uM uC uP uI uD uL uT fG fH fI uG uS:Tok):Prop extends Jt K mg C R G Pc Fo Ch uK uN uB uE uM uC uP uI uD uL uT fG fH fI where
 kN:mg "LONGEST_TERM_COUNT" =some (.int 12 uG)
 sR:mg "ChangeReader" =some (.ref R)
 xX:mg "MOST_TERMS" =some (.int 8 uS)
def zh(n:Int):List Nat:=if n=1 then [] else [32]
def gM(x:Tm):List Nat:=aQ x.1++(zh x.1++fL x.2)
def NewQ(C G Pc Fo:Py)(H H':Hp)(t:Py)(x:Tm):Prop:=∀cy,(∀b o,H b=none->H' b=some o->cy b=some o)->jD C G Pc Fo cy t x
def P'(C G Pc Fo L:Py)(H H':Hp)(t:Py)(x:Tm):Prop:=∀cy,(∀b o,H b=none->b≠L->H' b=some o->cy b=some o)->jD C G Pc Fo cy t x
def Qa(C G Pc Fo:Py)(H H':Hp)(l:Py)(xs:NE):Prop:=H l=none/\∃ps,H' l=some (.lst (ps.map V.ref))/\∀cy,(∀b o,H b=none->H' b=some o->cy b=some o)->Paired (jD C G Pc Fo cy) ps xs
abbrev fK(x:Tm):Prop:=gm 999999999999 x
inductive JC(C G Pc Fo R:Addr)(vs:List V)(H:Hp)(Q:VK)(E:XK):Prop
 |mk (r:Addr) (x:Str) (p:Nat) (tm:Tm) (post:List Nat) (bM:vs=[.ref r]) (bV:dn R H r x p) (b8:Here x p (gM tm) post) (cS:GW post) (eK:fK tm) (gS:x.length<=1000) (lR:∀t H',H t=none->NewQ C G Pc Fo H H' t tm->dn R H' r x (p+(gM tm).length)->Kept r H H'->Q (.ref t) H')
def xY(C G Pc Fo R:Py):Sp:=JC C G Pc Fo R
def e32:(" " :Str)=⟨#[32]⟩:=by decide+kernel
def SJ{x:Fm}(h:Ji 2 x.1 x.2)(post:IR):Not jX (fL x++post):=by
 obtain⟨xs,n⟩:=x
 cases xs with
 |nil=>
  intro c hc;rw[show fL ([],n)=[101,94,45] from rfl] at hc;have e:101=c:=by simpa using hc
  subst e;rfl
 |cons x0 r0=>
  obtain⟨_,FR,_⟩:=h;have Sy:=FR x0 1e0
  have e:fL (x0::r0,n)++post=x0.2.flatMap (bY 2)++(b7 2 r0++eh n++post):=by
   show x0.2.flatMap (bY 2)++(b7 2 r0++eh n)++post=_;rw[append_assoc]
  rw[e]
  cases hx:x0.2 with
  |nil=>exact absurd hx Sy.1
  |cons t ts=>
   obtain⟨c,rest,hc,ht⟩:=oF (Sy.2.1 t (by rw[hx];exact mem_cons_self ..));intro b hb;rw[flatMap_cons,hc] at hb;have e:c=b:=by simpa using hb
   subst e;rcases ht with ⟨hg,_⟩ | ⟨rfl,_⟩
   ·simp only [zF,jX,and_eq_true,decide_eq_true_eq] at*;simp;omega
   ·rfl
def Nl{x:Tm}(h:Ji 2 x.2.1 x.2.2)(post:IR):Not jX (zh x.1++fL x.2++post):=by
 unfold zh;split
 ·exact SJ h post
 ·intro c hc;have e:32=c:=by simpa using hc
  subst e;rfl
def Qb{n:Int}(h1:1<=n)(h2:n<=999999999999):((aQ n).length:Int)<=12:=by
 obtain⟨m,rfl⟩:=eq_ofNat_of_zero_le (show 0<=n by omega);have:=lA (n:=m) (k:=12) 0e2 0e1;rw[bw,aL] at this;show ((aQ (m:Int)).length:Int)<=12;omega
def DW:ay ["self","count"] 1e1 (ao BS):=dE
def JD(D:a9 K R "read_term" "ChangeReader.read_term" BS 1e1)(T:1e7)(c1:aJ P w K mg base 2 R "read_number" ["self","longest"] (rW R))(c2:aJ P w K mg base 2 R "take" ["self","sign"] (me R))(c3:aJ P w K mg base 13 R "read_whole" 1e1 (sx C G Pc Fo R 2)):
  aJ P w K mg base 14 R "read_term" 1e1 (xY C G Pc Fo R):=by
 obtain⟨_,_,dU⟩:=c1;obtain⟨_,_,bJ⟩:=c2;obtain⟨_,_,bP⟩:=c3;refine D.dk DW 0e6 0e0
 ·obtain⟨r,x,p,tm,post,rfl,_⟩:=h;rfl
 ·obtain⟨r,x,p,tm,post,rfl,⟨dx,hR⟩,hh,LH,⟨n1,n2,F2⟩,hx,q⟩:=h
  refine⟨_,(ai (aA (i:=1) DW.nd rfl 0e3 (pR dU hr T.ax 1e6 (aa (bo (v:= .int 12) rfl T.kN ⟨_,U⟩) aj))) (ai (bR (aO j4 (pv 1) aq (aT _)) (ak (a7 (pR bJ hr T.ax 1e6 (aa (bo (v:= .str " ") rfl T.Nh ⟨_,U⟩) aj))))
      aS) (ak (aH (bW (aa (pv 1) (aa (aM 1e6 T.ax bP.m bP.ok (hr.mono 0e2) bP.b .nil bb) aj))))))),?_⟩
  have B6:Here x p (aQ tm.1) (zh tm.1++fL tm.2++post):=⟨hh.1,by rw[hh.2];unfold gM;rw[append_assoc]⟩;have Sw:Here x (p+(aQ tm.1).length) (zh tm.1++fL tm.2) post:=Here.on hh;have GV:Here x (p+(aQ tm.1).length+(zh tm.1).length) (fL tm.2) post:=Here.on Sw;refine⟨_,U,r,dx,_,U,hR,aK _ _,r,x,p,tm.1,12,_,U,⟨dx,hR⟩,B6,n1,by omega,Qb n1 n2,Nl F2.1 post,hx,λH1 eG k1=>?_⟩;obtain⟨nX,eG⟩:=eG;dsimp only [bL];refine mN (fun σ' H'=>σ'=[some (.ref r),some (.int tm.1)]/\dn R H' r x (p+(aQ tm.1).length+(zh tm.1).length)/\Kept r H H') (λN hN=>?_) ?_
  ·refine⟨_,U,_,_,U,U,_,U,fJ (λe=>?_) λe=>?_⟩
   ·have e:1<tm.1:=by simpa using e
    have eb:zh tm.1=[32]:=if_neg 0e1;rw[eb] at Sw hN;refine⟨_,U,r,nX,_,U,eG,aK _ _,r,x,_,_,32,_,post,U,e32,⟨nX,eG⟩,Sw,hx,λH2 ip k2=>hN _ _ ⟨U,ip,k1.trans k2⟩⟩
   ·have e:¬1<tm.1:=by simpa using e
    have eb:zh tm.1=[]:=if_pos 0e1;rw[eb] at hN;exact hN _ _ ⟨rfl,⟨nX,eG⟩,k1⟩
  rintro σ' H2 ⟨rfl,⟨jT,ip⟩,k2⟩;refine⟨_,U,_,U,r,jT,_,U,ip,aK _ _,r,x,_,tm.2.1,tm.2.2,post,U,⟨jT,ip⟩,GV,LH,F2.1,by decide,hx,λf H3 nf hF iq k3=>⟨1e2,λt ht=>?_⟩⟩;obtain⟨B8,iq⟩:=iq;have Vf:=k2.trans k3;have st:=au.new (o:= .tup [.int tm.1, .ref f]) ht;refine q t _ (aW Vf iq ht) (λcy ke=>⟨f,ke _ _ (aW Vf iq ht) ag,hF cy λb o z1 z2=>ke b o (aW k2 ip z1) (st _ _ z2)⟩) ⟨B8,?_⟩ (Vf.trans (Kept.of st));rw[st _ _ iq]
  have e:(gM tm).length=(aQ tm.1).length+((zh tm.1).length+(wL 2 tm.2.1 tm.2.2).length):=by
   unfold gM;rw[length_append,length_append];rfl
  rw[e];congr 3;omega
variable {uC uP uI uD uL uT fG fH fI uG uS:Tok}{Ch:Py}
def JE(x:Tm):List Nat:=[32,43,32]++gM x
def hX(xs:NE):List Nat:=xs.flatMap JE
def tY:List Tm->List Nat
 | []=>[]
 |x::r=>gM x++hX r
def qv:List Nat:=[32,45,62,32]
inductive F3(C G Pc Fo R:Addr)(vs:List V)(H:Hp)(Q:VK)(E:XK):Prop
 |mk (r:Addr) (x:Str) (p:Nat) (xs:List Tm) (post:List Nat) (bM:vs=[.ref r]) (bV:dn R H r x p) (b8:Here x p (tY xs++qv) post) (cS:xs≠[]) (eK:(∀t∈xs,fK t)) (gS:x.length<=1000) (lR:∀l H',Qa C G Pc Fo H H' l xs->dn R H' r x (p+(tY xs++qv).length)->Kept r H H'->Q (.ref l) H')
def z6(C G Pc Fo R:Py):Sp:=F3 C G Pc Fo R
inductive Cp(C G Pc Fo R:Addr)(vs:List V)(H:Hp)(Q:VK)(E:XK):Prop
 |mk (r:Addr) (x:Str) (p:Nat) (xs:List Tm) (bM:vs=[.ref r]) (bV:dn R H r x p) (b8:Here x p (tY xs) []) (cS:xs≠[]) (eK:(∀t∈xs,fK t)) (gS:x.length<=1000) (lR:∀l H',Qa C G Pc Fo H H' l xs->Kept r H H'->(∃o,H' r=some o)->Q (.ref l) H')
def vP(C G Pc Fo R:Py):Sp:=Cp C G Pc Fo R
def xZ(xs:NE){post:IR}(h:GW post):GW (hX xs++post):=by
 cases xs with
 |nil=>exact h
 |cons x r=>exact .inr ⟨_,rfl⟩
def x6(x:Tm):(JE x).length=3+(gM x).length:=by
 unfold JE;rw[length_append];rfl
theorem x8:∀xs:List Tm,xs.length<=(hX xs).length
 | []=>zero_le _
 |x::r=>by
  have:=x8 r;have h:=x6 x;show r.length+1<=(JE x++hX r).length;rw[length_append];omega
def DX(xs:NE)(i:Nat):(hX (xs.take i)).length<=(hX xs).length:=by
 unfold hX
 conv=>rhs;rw[<-take_append_drop i xs,flatMap_append,length_append]
 omega
def eJ:(" + " :Str).cps.toList=[32,43,32]:=by decide+kernel
def eJa:(" + " :Str).cps.all (· <128)=true:=by decide+kernel
def eJl:(" + " :Str).length=3:=by decide+kernel
def eA:(" -> " :Str).cps.toList=qv:=by decide+kernel
def eAa:(" -> " :Str).cps.all (· <128)=true:=by decide+kernel
def eAl:(" -> " :Str).length=4:=by decide+kernel
def F4(x:Str){p:Nat}(hp:p+1<=x.length):Txt.slice x (some ((p:Int)+1)) (some ((p:Int)+2))=eO x (p+1):=by
 have:=vo x hp;have e:(((p+1 :Nat):Int))+1=(p:Int)+2:=by omega
 rw[e] at this;exact this
def z7:ay ["self","terms"] 1e1 (ao xj):=dE
def F5(D:a9 K R "read_lefts" "ChangeReader.read_lefts" xj 1e1)(T:1e7)(c1:aJ P w K mg base 14 R "read_term" 1e1 (xY C G Pc Fo R))(c2:aJ P w K mg base 3 R "take_all" ["self","signs"] (lE R)):
  aJ P w K mg base 15 R "read_lefts" 1e1 (z6 C G Pc Fo R):=by
 obtain⟨_,_,aR⟩:=c1;obtain⟨_,_,cC⟩:=c2;refine D.dk z7 0e6 0e0
 ·obtain⟨r,x,p,xs,post,rfl,_⟩:=h;rfl
 ·obtain⟨r,x,p,xs,post,rfl,⟨dx,hR⟩,hh,m5,aX,hx,q⟩:=h;have big:=bgL
  obtain⟨x0,r0,rfl⟩:∃x0 r0,xs=x0::r0:=by
   cases xs with
   |nil=>exact absurd rfl m5
   |cons a b=>exact⟨a,b,U⟩
  refine⟨_,(ai (aA (i:=1) z7.nd rfl 0e3 (bO (aa (aM 1e6 T.ax aR.m aR.ok (hr.mono 0e2) aR.b .nil bb) aj))) (ai (iR PassesOwn.never (aO mD (eF wV 2e4 (cY (av bC 2e4 aq)) (cY (av bC 2e4 aq))) (bq iH (bo (v:= .str " -> ") rfl T.DT ⟨_,U⟩) aq 1e3) (aT _)) (ai (a7 (pR cC hr T.ax 1e6 (aa (bo (v:= .str " + ") rfl T.DS ⟨_,U⟩) aj))) (ak (a7 (eU PySem.F.plainAttrs_list PySem.F.slot_list_append PySem.F.type_list_append cn (pv 1) (aa (aM 1e6 T.ax aR.m aR.ok (hr.mono 0e2) aR.b .nil bb) aj)))))) (ai (a7 (pR cC hr T.ax 1e6 (aa (bo (v:= .str " -> ") rfl T.DT ⟨_,U⟩) aj))) (ak (aH (pv 1)))))),?_⟩;have hw:Here x p (gM x0++(hX r0++qv)) post:=⟨hh.1,by rw[hh.2];show (gM x0++hX r0)++qv++post=_;simp only [append_assoc]⟩;have Jg:Here x p (gM x0) (hX r0++(qv++post)):=⟨hw.1,by rw[hw.2];simp only [append_assoc]⟩;have hb:Here x (p+(gM x0).length) (hX r0++qv) post:=Here.on hw;have BF:Here x (p+(gM x0).length) (hX r0) (qv++post):=⟨hb.1,by rw[hb.2];simp only [append_assoc]⟩;have SK:Here x (p+(gM x0).length+(hX r0).length) qv post:=Here.on hb;have ea:GW (qv++post):= .inr ⟨_,rfl⟩;refine⟨_,U,r,dx,_,U,hR,aK _ _,r,x,p,x0,_,U,⟨dx,hR⟩,Jg,xZ r0 ea,aX x0 1e0,hx,λt0 H1 nt0 hN eG k1=>⟨(by show 1<=sizeLine;decide),λL hL=>?_⟩⟩;obtain⟨nX,eG⟩:=eG;have Cb:H L=none:=aW k1 eG hL;have zM:L≠r:=λz=>by rw[z,eG] at hL;cases hL
  have sL:au H1 (upd H1 L (.lst [V.ref t0])):=au.new hL;refine⟨λk σ H'=>∃i:Nat,k+i=r0.length/\σ=[some (.ref r),some (.ref L)]/\dn R H' r x (p+(gM x0).length+(hX (r0.take i)).length)/\Kept r H H'/\∃ps,H' L=some (.lst (ps.map V.ref))/\ps.length=i+1/\Paired (P' C G Pc Fo L H H') ps (x0::r0.take i),⟨r0.length,0,by omega,U,⟨nX,sL _ _ eG⟩,k1.trans (Kept.of sL),[t0],ag,U, .cons (λcy ke=>hN cy λb o z1 z2=>ke b o z1 (af z2 hL) (sL _ _ z2)) .nil⟩,?_⟩;rintro k σ H' ⟨i,hk,rfl,⟨dC,eL⟩,kk,ps,tV,fP,hP⟩;have hle:=SK.le;have zm:=DX r0 i;have hr0:=x8 r0;have a4:qv.length=4:=rfl;refine⟨_,U,r,R,dC,_,_,U,eL,T.ax,T.jw,fS _ _,_,U,r,R,dC,_,_,U,eL,T.ax,T.cw,bA _ _,_,_,U,U,_,U,_,U,r,R,dC,_,_,U,eL,T.ax,T.cw,bA _ _,_,_,U,U,_,U,x,U,by omega," -> ",1,45,U,U,0e4,0e4,U,_,U,?_⟩;rw[F4 x 0e1];by_cases hi:i<r0.length
  ·have h2:Here x (p+(gM x0).length+(hX (r0.take i)).length) (JE r0[i]) (hX (r0.drop (i+1))++(qv++post)):=xN JE BF hi;have M6:=aX _ (mem_cons_of_mem _ (getElem_mem hi));have h3:Here x (p+(gM x0).length+(hX (r0.take i)).length) [32,43,32] (gM r0[i]++(hX (r0.drop (i+1))++(qv++post))):=⟨h2.1,by rw[h2.2];rfl⟩;have h4:Here x (p+(gM x0).length+(hX (r0.take i)).length+3) (gM r0[i]) (hX (r0.drop (i+1))++(qv++post)):=Here.on (t:=[32,43,32]) h2;have h5:eO x (p+(gM x0).length+(hX (r0.take i)).length+1)=⟨#[43]⟩:=(Here.on (t:=[32]) (u:=[43,32]) h3).sg;rw[h5,decide_eq_false (qt 0e2)];refine je ⟨_,fun σ' cy h=>⟨k - 1,by omega,h⟩,?_⟩;refine⟨_,U,r,dC,_,U,eL,aK _ _,r,x,_,_,_,U,eJa,⟨dC,eL⟩,(by rw[eJ];exact h3),hx,λH3 iq k3=>?_⟩;rw[eJl] at iq;obtain⟨B8,iq⟩:=iq;have oI:=k3 _ _ tV zM;have kk3:=kk.trans k3;refine⟨_,U, .inl ⟨U,_,bh.of oI⟩,_,U,r,B8,_,U,iq,aK _ _,r,x,_,r0[i],_,U,⟨B8,iq⟩,h4,xZ _ ea,M6,hx,λt H4 nt hN4 vz k4=>?_⟩;obtain⟨LG,vz⟩:=vz;have FT:=k4 _ _ oI zM;have M7:=k3.trans k4;refine⟨L,_,_,U,U,FT,by rw[length_map];omega,i+1,by omega,U,⟨LG,?_⟩,λb o z w=>?_,ps++[t],by rw[ag,map_append];rfl,by rw[length_append,fP];rfl,?_⟩
   ·rw[ah (Ne.symm zM),vz];have e:=xO JE hi
    have e':(hX (r0.take (i+1))).length=(hX (r0.take i)).length+(3+(gM r0[i]).length):=by
     unfold hX;rw[e,length_append,x6]
    rw[e'];congr 3;omega
   ·rw[ah (af z Cb)];exact M7 _ _ (kk _ _ z w) w
   ·rw[take_add_one,getElem?_eq_getElem hi];refine bH (as:=ps) (bs:=x0::r0.take i) (λcy ke=>hN4 cy λb o z1 z2=>?_) (aB (λc t h cy ke=>h cy λb o z1 z2 z3=>ke b o z1 z2 ?_) hP)
    ·have DJ:b≠L:=λz=>by rw[z,oI] at z1;cases z1
     exact ke b o (aW kk3 iq z1) DJ (by rw[ah DJ];exact z2)
    ·have A2:b≠r:=λz=>by rw[z,hR] at z1;cases z1
     rw[ah z2];exact M7 _ _ z3 A2
  ·have ei:i=r0.length:=by omega
   rw[ei,take_length] at eL hP |-;have h5:eO x (p+(gM x0).length+(hX r0).length+1)=⟨#[45]⟩:=(Here.on (t:=[32]) (u:=[45,62,32]) SK).sg;rw[h5,decide_eq_true rfl];refine d4 ?_;refine⟨_,U,r,dC,_,U,eL,aK _ _,r,x,_,_,post,U,eAa,⟨dC,eL⟩,(by rw[eA];exact SK),hx,λH3 iq k3=>?_⟩;rw[eAl] at iq;have oI:=k3 _ _ tV zM
   have el:p+(gM x0).length+(hX r0).length+4=p+(tY (x0::r0)++qv).length:=by
    rw[length_append];show _=p+((gM x0++hX r0).length+4);rw[length_append];omega
   rw[el] at iq;refine⟨_,U,q L H3 ⟨Cb,ps,oI,λcy ke=>aB (λc t h=>h cy λb o z1 z2 z3=>ke b o z1 ?_) hP⟩ iq (kk.trans k3)⟩;have A2:b≠r:=λz=>by rw[z,hR] at z1;cases z1
   exact k3 _ _ z3 A2
variable {uC uP uI uD uL uT fG fH fI uG uS:Tok}{Ch:Py}
def vQ:ay ["self","terms"] 1e1 (ao rL):=dE
def Cq(D:a9 K R "read_rights" "ChangeReader.read_rights" rL 1e1)(T:1e7)(c1:aJ P w K mg base 14 R "read_term" 1e1 (xY C G Pc Fo R))(c2:aJ P w K mg base 3 R "take_all" ["self","signs"] (lE R)):
  aJ P w K mg base 15 R "read_rights" 1e1 (vP C G Pc Fo R):=by
 obtain⟨_,_,aR⟩:=c1;obtain⟨_,_,cC⟩:=c2;refine D.dk vQ 0e6 0e0
 ·obtain⟨r,x,p,xs,rfl,_⟩:=h;rfl
 ·obtain⟨r,x,p,xs,rfl,⟨dx,hR⟩,hh,m5,aX,hx,q⟩:=h;have big:=bgL
  obtain⟨x0,r0,rfl⟩:∃x0 r0,xs=x0::r0:=by
   cases xs with
   |nil=>exact absurd rfl m5
   |cons a b=>exact⟨a,b,U⟩
  refine⟨_,(ai (aA (i:=1) vQ.nd rfl 0e3 (bO (aa (aM 1e6 T.ax aR.m aR.ok (hr.mono 0e2) aR.b .nil bb) aj))) (ai (iR PassesOwn.never (aO qQ 2e4 (bG jd rfl T.iD fe (aa 2e4 aj)) (aT _)) (ai (a7 (pR cC hr T.ax 1e6 (aa (bo (v:= .str " + ") rfl T.DS ⟨_,U⟩) aj))) (ak (a7 (eU PySem.F.plainAttrs_list PySem.F.slot_list_append PySem.F.type_list_append cn (pv 1) (aa (aM 1e6 T.ax aR.m aR.ok (hr.mono 0e2) aR.b .nil bb) aj)))))) (ak (aH (pv 1))))),?_⟩;have hw:Here x p (gM x0++hX r0) []:=hh;have Jg:Here x p (gM x0) (hX r0++[]):=⟨hw.1,by rw[hw.2];simp only [append_assoc]⟩;have BF:Here x (p+(gM x0).length) (hX r0) []:=Here.on hw
  have pT:x.length=p+(gM x0).length+(hX r0).length:=by
   have:=congrArg List.length hw.2;have h1:=hw.1;have hl:x.cps.toList.length=x.length:=by simp [Str.length]
   rw[length_drop,length_append,length_append,hl] at this;simp at this;omega
  have ea:GW []:= .inl rfl;refine⟨_,U,r,dx,_,U,hR,aK _ _,r,x,p,x0,_,U,⟨dx,hR⟩,Jg,xZ r0 ea,aX x0 1e0,hx,λt0 H1 nt0 hN eG k1=>⟨(by show 1<=sizeLine;decide),λL hL=>?_⟩⟩;obtain⟨nX,eG⟩:=eG;have Cb:H L=none:=aW k1 eG hL;have zM:L≠r:=λz=>by rw[z,eG] at hL;cases hL
  have sL:au H1 (upd H1 L (.lst [V.ref t0])):=au.new hL;refine⟨λk σ H'=>∃i:Nat,k+i=r0.length/\σ=[some (.ref r),some (.ref L)]/\dn R H' r x (p+(gM x0).length+(hX (r0.take i)).length)/\Kept r H H'/\∃ps,H' L=some (.lst (ps.map V.ref))/\ps.length=i+1/\Paired (P' C G Pc Fo L H H') ps (x0::r0.take i),⟨r0.length,0,by omega,U,⟨nX,sL _ _ eG⟩,k1.trans (Kept.of sL),[t0],ag,U, .cons (λcy ke=>hN cy λb o z1 z2=>ke b o z1 (af z2 hL) (sL _ _ z2)) .nil⟩,?_⟩;rintro k σ H' ⟨i,hk,rfl,⟨dC,eL⟩,kk,ps,tV,fP,hP⟩;have zm:=DX r0 i;have hr0:=x8 r0;refine⟨_,U,r,R,dC,_,_,U,eL,T.ax,T.cw,bA _ _,_,U,r,R,dC,_,_,U,eL,T.ax,T.jw,fS _ _,x,U,le_trans hx 0e2,_,_,U,U,_,U,?_⟩;by_cases hi:i<r0.length
  ·have h2:Here x (p+(gM x0).length+(hX (r0.take i)).length) (JE r0[i]) (hX (r0.drop (i+1))++[]):=xN JE BF hi;have M6:=aX _ (mem_cons_of_mem _ (getElem_mem hi));have h3:Here x (p+(gM x0).length+(hX (r0.take i)).length) [32,43,32] (gM r0[i]++(hX (r0.drop (i+1))++[])):=⟨h2.1,by rw[h2.2];rfl⟩;have h4:Here x (p+(gM x0).length+(hX (r0.take i)).length+3) (gM r0[i]) (hX (r0.drop (i+1))++[]):=Here.on (t:=[32,43,32]) h2
   have lT:p+(gM x0).length+(hX (r0.take i)).length<x.length:=by
    have:=h3.le;have e:[32,43,32].length=3:=rfl;omega
   refine wO 0e1 ?_;refine⟨_,fun σ' cy h=>⟨k - 1,by omega,h⟩,?_⟩;refine⟨_,U,r,dC,_,U,eL,aK _ _,r,x,_,_,_,U,eJa,⟨dC,eL⟩,(by rw[eJ];exact h3),hx,λH3 iq k3=>?_⟩;rw[eJl] at iq;obtain⟨B8,iq⟩:=iq;have oI:=k3 _ _ tV zM;have kk3:=kk.trans k3;refine⟨_,U, .inl ⟨U,_,bh.of oI⟩,_,U,r,B8,_,U,iq,aK _ _,r,x,_,r0[i],_,U,⟨B8,iq⟩,h4,xZ _ ea,M6,hx,λt H4 nt hN4 vz k4=>?_⟩;obtain⟨LG,vz⟩:=vz;have FT:=k4 _ _ oI zM;have M7:=k3.trans k4;refine⟨L,_,_,U,U,FT,by rw[length_map];omega,i+1,by omega,U,⟨LG,?_⟩,λb o z w=>?_,ps++[t],by rw[ag,map_append];rfl,by rw[length_append,fP];rfl,?_⟩
   ·rw[ah (Ne.symm zM),vz];have e:=xO JE hi
    have e':(hX (r0.take (i+1))).length=(hX (r0.take i)).length+(3+(gM r0[i]).length):=by
     unfold hX;rw[e,length_append,x6]
    rw[e'];congr 3;omega
   ·rw[ah (af z Cb)];exact M7 _ _ (kk _ _ z w) w
   ·rw[take_add_one,getElem?_eq_getElem hi];refine bH (as:=ps) (bs:=x0::r0.take i) (λcy ke=>hN4 cy λb o z1 z2=>?_) (aB (λc t h cy ke=>h cy λb o z1 z2 z3=>ke b o z1 z2 ?_) hP)
    ·have DJ:b≠L:=λz=>by rw[z,oI] at z1;cases z1
     exact ke b o (aW kk3 iq z1) DJ (by rw[ah DJ];exact z2)
    ·have A2:b≠r:=λz=>by rw[z,hR] at z1;cases z1
     rw[ah z2];exact M7 _ _ z3 A2
  ·have ei:i=r0.length:=by omega
   rw[ei,take_length] at eL hP |-;refine rm 0e1 ?_;exact⟨_,U,q L H' ⟨Cb,ps,tV,λcy ke=>aB (λc t h=>h cy λb o z1 z2 z3=>ke b o z1 z3) hP⟩ kk ⟨_,eL⟩⟩
variable {uC uP uI uD uL uT fG fH fI uG uS:Tok}{Ch:Py}
def SM(C G Pc Fo Ch:Py)(H H':Hp)(c:Py)(xs ys:NE):Prop:=∀cy,(∀b o,H b=none->H' b=some o->cy b=some o)->dz C G Pc Fo Ch cy c xs ys
inductive F6(C G Pc Fo Ch R:Addr)(vs:List V)(H:Hp)(Q:VK)(E:XK):Prop
 |mk (r:Addr) (x:Str) (xs ys:List Tm) (bM:vs=[.ref r]) (bV:dn R H r x 0) (b8:x.cps.toList=tY xs++qv++tY ys) (cS:xs≠[]) (eK:ys≠[]) (gS:(∀t∈xs,fK t)) (lR:(∀t∈ys,fK t)) (rV:x.length<=1000) (yJ:∀c H',H c=none->SM C G Pc Fo Ch H H' c xs ys->Kept r H H'->Q (.ref c) H')
def z8(C G Pc Fo Ch R:Py):Sp:=F6 C G Pc Fo Ch R
inductive Cr(C G Pc Fo Ch:Addr)(vs:List V)(H:Hp)(Q:VK)(E:XK):Prop
 |mk (x:Str) (xs ys:List Tm) (bM:vs=[.str x]) (bV:x.cps.toList=tY xs++qv++tY ys) (b8:xs≠[]) (cS:ys≠[]) (eK:(∀t∈xs,fK t)) (gS:(∀t∈ys,fK t)) (lR:x.length<=400) (rV:xs.length+ys.length<=8) (yJ:∀c H',H c=none->SM C G Pc Fo Ch H H' c xs ys->au H H'->Q (.ref c) H')
def vR(C G Pc Fo Ch:Py):Sp:=Cr C G Pc Fo Ch
def Aa:ay ["self","lefts"] 1e1 (ao xk):=dE
def F7(D:a9 K R "read_sides" "ChangeReader.read_sides" xk 1e1)(T:1e7)(c1:aJ P w K mg base 15 R "read_lefts" 1e1 (z6 C G Pc Fo R))(c2:aJ P w K mg base 15 R "read_rights" 1e1 (vP C G Pc Fo R))(c3:gF P w K mg base 1 Ch ["self","lefts","rights"] [] (DU Ch)):
  aJ P w K mg base 16 R "read_sides" 1e1 (z8 C G Pc Fo Ch R):=by
 obtain⟨_,_,d7⟩:=c1;obtain⟨_,_,dY⟩:=c2;obtain⟨_,_,cm⟩:=c3;obtain⟨_,Cs,Ct⟩:=cm.b 0 0e2;refine D.dk Aa 0e6 0e0
 ·obtain⟨r,x,xs,ys,rfl,_⟩:=h;rfl
 ·obtain⟨r,x,xs,ys,rfl,⟨dx,hR⟩,pT,nx,ny,pE,uo,hx,q⟩:=h;refine⟨_,(ai (aA (i:=1) Aa.nd rfl 0e3 (aM 1e6 T.ax d7.m d7.ok (hr.mono 0e2) d7.b .nil bb)) (ak (aH (eY cm.m cm.ok (hr.mono 0e2) rfl T.Ju Ct Cs bb (aa (pv 1) (aa (aM 1e6 T.ax dY.m dY.ok (hr.mono 0e2) dY.b .nil bb) aj)))))),?_⟩;have hw:Here x 0 (tY xs++qv++tY ys) []:=zN pT;have Jg:Here x 0 (tY xs++qv) (tY ys):=⟨hw.1,by rw[hw.2,append_nil]⟩;have B6:Here x (0+(tY xs++qv).length) (tY ys) []:=Here.on hw;refine⟨_,U,r,dx,_,U,hR,aK _ _,r,x,0,xs,_,U,⟨dx,hR⟩,Jg,nx,pE,hx,λl H1 hN1 eG k1=>?_⟩;obtain⟨nX,eG⟩:=eG;refine⟨_,U,_,U,r,nX,_,U,eG,aK _ _,r,x,_,ys,U,⟨nX,eG⟩,B6,ny,uo,hx,λm H2 hN2 k2 ip=>?_⟩;obtain⟨o2,ip⟩:=ip;obtain⟨hl0,ps,uc,Mj⟩:=hN1;obtain⟨hm0,us,hm1,PV⟩:=hN2;have nlr':l≠r:=λz=>by rw[z,hR] at hl0;cases hl0
  have pM:=k2 _ _ uc nlr';have XB:=k1.trans k2;refine λc dc nc ndc nec=>⟨c,dc,l,m,ps.map V.ref,us.map V.ref,rfl,ag,?_,?_,λn1 n2 H3 hn1 C6 n12 hc3 hn13 hn23 kp=>⟨rfl,?_⟩⟩
  ·rw[ah (af pM nc),ah (af pM ndc)];exact pM
  ·rw[ah (af hm1 nc),ah (af hm1 ndc)];exact hm1
  have s3:au H2 H3:=λb o z=>kp b o (by rw[ah (af z nc),ah (af z ndc)];exact z) (af z nc);have back:∀b,H2 b=none->H b=none:=λb z=>aW XB ip z;refine q c H3 (back c nc) (λcy ke=>⟨dc,n1,n2,ke _ _ (back c nc) hc3,⟨ps,ke _ _ (back n1 (fT hn1)) hn13,Mj cy λb o z1 z2=>?_⟩,⟨us,ke _ _ (back n2 (fT C6)) hn23,PV cy λb o z1 z2=>?_⟩⟩) (XB.trans (Kept.of s3))
  ·have A2:b≠r:=λz=>by rw[z,hR] at z1;cases z1
   exact ke b o z1 (s3 _ _ (k2 _ _ z2 A2))
  ·exact ke b o (aW k1 eG z1) (s3 _ _ z2)
def oP:ay ["text","change","many"] ["text"] (ao rM):=dE
def Cu(D:Def K mg "read_change" "read_change" rM ["text"])(T:1e7)(c1:bp P w K mg base 1 "refuse_too_long" ["text"] oJ)(c2:gF P w K mg base 1 R ["self","text"] [] (xG R))(c3:aJ P w K mg base 16 R "read_sides" 1e1 (z8 C G Pc Fo Ch R)):
  bp P w K mg base 17 "read_change" ["text"] (vR C G Pc Fo Ch):=by
 obtain⟨_,_,fu⟩:=c1;obtain⟨_,_,hZ⟩:=c2;obtain⟨_,_,d8⟩:=c3;obtain⟨_,oQ,oR⟩:=hZ.b 0 0e2;refine D.dk oP 0e6 0e0
 ·obtain⟨x,xs,ys,rfl,_⟩:=h;rfl
 ·obtain⟨x,xs,ys,rfl,pT,nx,ny,pE,uo,hx,h8,q⟩:=h
  refine⟨_,(ai (a7 (dR fu hr (aa 1e6 aj))) (ai (RT (λ_ _ z=>z) (ak (aA (i:=1) oP.nd rfl 0e3 (aM (eY hZ.m hZ.ok (hr.mono 0e2) rfl T.sR oR oQ bb (aa 1e6 aj)) T.ax d8.m d8.ok (hr.mono 0e2) d8.b .nil bb)))) (ai (aA (i:=2) oP.nd rfl 0e3 (av bC (bG cp rfl T.iD fe (aa (aU (pv 1) rfl) aj)) (bG cp rfl T.iD fe (aa (aU (pv 1) rfl) aj)))) (ai (bR (aO j4 (pv 2) (bo (v:= .int 8) rfl T.xX ⟨_,U⟩) (aT _)) (ak
       fZ)
      aS) (ak (aH (pv 1))))))),?_⟩
  refine⟨_,U,x,U,hx,?_⟩;refine⟨_,U,λr dr nr Xv ner=>⟨r,dr,x,U,ag,λH1 eG k1=>⟨U,?_⟩⟩⟩;obtain⟨nX,eG⟩:=eG;have s1:au H H1:=λb o z=>k1 b o (by rw[ah (af z nr),ah (af z Xv)];exact z) (af z nr);refine⟨r,nX,_,U,eG,aK _ _,r,x,xs,ys,U,⟨nX,eG⟩,pT,nx,ny,pE,uo,by omega,λc H2 nc hC k2=>?_⟩
  have back:∀b,H1 b=none->H b=none:=λb z=>by
   cases hh:H b with
   |none=>rfl
   |some o=>rw[s1 _ _ hh] at z;cases z
  have hC2:=hC H2 λb o _ z=>z;obtain⟨dc,l,m,hc,⟨ps,hl,hP⟩,⟨us,hm,hU⟩⟩:=hC2;have e1:=Paired.length hP;have e2:=Paired.length hU;refine⟨_,U,c,Ch,dc,_,_,U,hc,T.cm,T.gZ,eV _ _,l,_,U, .inl (bh.of hl),_,U,c,Ch,dc,_,_,U,hc,T.cm,T.iY,gL _ _,m,_,U, .inl (bh.of hm),_,_,U,U,?_⟩;refine⟨_,U,_,_,U,U,_,U,rm (by rw[length_map,length_map];omega) ?_⟩;exact⟨_,U,q c H2 (back c nc) (λcy ke=>hC cy λb o z1 z2=>ke b o (back b z1) z2) λb o z=>k2 b o (s1 _ _ z) (af z nr)⟩
variable {uC uP uI uD uL uT fG fH fI uG uS:Tok}{Ch:Py}
def dQ(xs:NE):List (Str×Int):=xs.map λx=>((⟨(fL x.2).toArray⟩:Str),x.1)
inductive uq(C G Pc Fo:Addr)(vs:List V)(H:Hp)(Q:VK)(E:XK):Prop
 |mk (l:Addr) (xs:List Tm) (bM:vs=[.ref l]) (bV:g7 C G Pc Fo H l xs) (b8:(∀x∈xs,cz x.2)) (cS:xs.length<=20) (eK:∀e H',H e=none->H' e=some (.dK (aV 1 [] (dQ xs)))->au H H'->Q (.ref e) H')
def gN(C G Pc Fo:Py):Sp:=uq C G Pc Fo
def JF{xs:NE}{i:Nat}{y:Tm}(h:xs[i]? =some y):aV 1 [] (dQ (xs.take (i+1)))=bZ (aV 1 [] (dQ (xs.take i))) (Sum.inr ⟨(fL y.2).toArray⟩) y.1:=by
 unfold dQ aV;rw[take_snoc h,map_append,foldl_append];show bZ _ _ (y.1*1)=_;rw[mul_one]
def fA:ay ["terms","total","count","formula","text"] ["terms"] (ao ku):=dE
def ur(D:Def K mg "side_counts" "side_counts" ku ["terms"])(T:1e7)(c1:aJ P w K mg base 9 Fo "shown" 1e1 (vL C G Pc Fo 2)):bp P w K mg base 10 "side_counts" ["terms"] (gN C G Pc Fo):=by
 obtain⟨_,_,gB⟩:=c1;refine D.dk fA 0e6 0e0
 ·obtain⟨l,xs,rfl,_⟩:=h;rfl
 ·obtain⟨l,xs,rfl,⟨ts,hl,hP⟩,aX,h20,q⟩:=h;have hu:=di hr;have big:(2000 :Nat) <sizeLine:=by decide
  have fP:=Paired.length hP;refine⟨_,(ai (aA (i:=1) fA.nd rfl 0e3 eC) (ai (bF PassesOwn.never rfl (cA 1e6) (eX rfl (aP (aF (i:=2) fA.nd rfl 0e3) (aP (aF (i:=3) fA.nd rfl 0e3) cL))) (ai (aA (i:=4) fA.nd rfl 0e3 (aM (pv 3) T.bz gB.m gB.ok (hr.mono 0e2) gB.b .nil bb)) (ak (cP hu (pv 1) (pv 4) (av bC (bS hu (pv 1) (pv 4) aq ⟨U,U,U,U⟩) (pv 2)) rfl)))) (ak (aH (pv 1))))),?_⟩;refine λd hd=>?_;have sD:=au.new (o:= .dK []) hd;refine⟨_,U,l,U,⟨_,bh.of (sD _ _ hl)⟩,du (K:=K) (a:=l) (xs:=ts.map V.ref) (λi σ H'=>∃v2 v3 v4:Option V,σ=[some (.ref l),some (.ref d),v2,v3,v4]/\H' d=some (.dK (aV 1 [] (dQ (xs.take i))))/\au H H') ?_ (λi σ H' _ ⟨_,_,_,_,_,e⟩=>bh.of (e _ _ hl)) ?_ ?_⟩
  ·exact⟨none,none,none,U,ag,sD⟩
  ·rintro i v σ H' hi ⟨v2,v3,v4,rfl,gD,e⟩;rw[getElem?_map] at hi;obtain⟨t,ht,rfl⟩:=gMp hi;obtain⟨y,hy,fo,h1,h2⟩:=bc hP ht;obtain⟨dx,fl,fps,hfo,_⟩:=id h2;have pE:=aX y (mem_of_getElem? hy);have zl:(wL 2 y.2.1 y.2.2).length<=1000:=le_trans pE.2.1 0e2;have hI:aY (aV 1 [] (dQ (xs.take i))):=jq 1 _ _ λp hp=>by cases hp
   have nC:=jr 1 (dQ (xs.take i)) [];have hal:(dQ (xs.take i)).length<=20:=by unfold dQ;rw[length_map,length_take];omega
   rw[length_nil] at nC;refine⟨t,_,U,gE.of (e _ _ h1),U,_,_,U,_,_,U,U,?_⟩;refine⟨_,U,fo,dx,_,U,e _ _ hfo,kF _ _ 0e4 0e4,fo,_,_,U,h2.same e,pE.1,zl,λH2 e2=>?_⟩;have hd2:=e2 _ _ gD;refine⟨_,U,d,U, .inl ⟨_, .inl hd2⟩,_,U,_,fQ.k (k:=Sum.inr ⟨(fL y.2).toArray⟩) hd2,_,U,_,_,hI.at _,U,_,U,_,U,d,_,U,iU.k (k:=Sum.inr ⟨(fL y.2).toArray⟩) hd2 0e1,?_⟩;refine⟨_,_,_,U,?_,λb o z=>?_⟩
   ·rw[ag,JF hy];rfl
   ·rw[ah (af z hd)];exact e2 _ _ (e _ _ z)
  ·rintro σ H' ⟨v2,v3,v4,rfl,gD,e⟩;rw[length_map,fP,take_length] at gD;exact⟨_,U,q d H' hd gD e⟩
variable {uC uP uI uD uL uT fG fH fI uG uS:Tok}{Ch:Py}
def pF(KV L:PP):List (Key×V):=(L.filter λp=>decide (¬aG KV p.1=0)).map λp=>(p.1,V.int (aG KV p.1))
def F8{KV L:PP}{i:Nat}{p:Key×V}(h:L[i]? =some p)(z:aG KV p.1=0):pF KV (L.take (i+1))=pF KV (L.take i):=by
 unfold pF;rw[take_snoc h,filter_append,show [p].filter (λp=>decide (¬aG KV p.1=0))=[] by simp [z],append_nil]
def F9{KV L:PP}{i:Nat}{p:Key×V}(h:L[i]? =some p)(z:¬aG KV p.1=0):pF KV (L.take (i+1))=pF KV (L.take i)++[(p.1,V.int (aG KV p.1))]:=by
 unfold pF;rw[take_snoc h,filter_append,show [p].filter (λp=>decide (¬aG KV p.1=0))=[p] by simp [z],map_append];rfl
def Ab(KV L:PP):List.Sublist ((pF KV L).map 1e4) (L.map 1e4):=by
 unfold pF;rw[map_map];exact(filter_sublist (l:=L)).map _
def JG(KV:PP){L:PP}(h:(L.map 1e4).Nodup):((pF KV L).map 1e4).Nodup:=(Ab KV L).nodup h
def DY(KV L:PP):aY (pF KV L):=by
 intro p hp;obtain⟨q,_,rfl⟩:=mem_map.mp hp;exact⟨_,U⟩
def x9(KV L:PP):(pF KV L).length<=L.length:=by
 unfold pF;rw[length_map];exact List.length_filter_le _ _
def vS(xs ys:NE):List (Key×V):=aV (-1) (aV 1 [] (dQ ys)) (dQ xs)
def gO(xs ys:NE):List (Key×V):=pF (vS xs ys) (vS xs ys)
def ya(xs ys:NE):aY (vS xs ys):=jq _ _ _ (cx _)
def Cv(xs ys:NE):((vS xs ys).map 1e4).Nodup:=xw _ _ _ (iE _)
def yb(xs ys:NE):(vS xs ys).length<=xs.length+ys.length:=by
 have h1:=jr (-1) (dQ xs) (aV 1 [] (dQ ys));have h2:=dA (dQ ys);have e:∀zs:List Tm,(dQ zs).length=zs.length:=λzs=>by unfold dQ;rw[length_map]
 rw[e] at h1 h2;show (aV _ _ _).length<=_;omega
inductive JH(C G Pc Fo Ch:Addr)(vs:List V)(H:Hp)(Q:VK)(E:XK):Prop
 |mk (c:Addr) (xs ys:List Tm) (bM:vs=[.ref c]) (bV:dz C G Pc Fo Ch H c xs ys) (b8:(∀x∈xs,cz x.2)) (cS:(∀y∈ys,cz y.2)) (eK:xs.length<=20) (gS:ys.length<=20) (lR:∀e H',H e=none->H' e=some (.dK (gO xs ys))->au H H'->Q (.ref e) H')
def yc(C G Pc Fo Ch:Py):Sp:=JH C G Pc Fo Ch
def JI{X:Cx}{D:Ends}{c d e:Py}{v3:Option V}{H:Hp}{acc gv:PP}(hu:X.A.units+1<cLine)(hd:H d=some (.dK acc))(he:H e=some (.dK gv))(m5:d≠e)(hI:aY acc)(Jz:aY gv)(hl:acc.length+gv.length<=1000)
  (fin:∀z:Option V,D.nx [some (.ref c),some (.ref d),some (.ref e),z] (upd H d (.dK (iJ (-1) acc gv gv)))):
  HG X (Rg (HF X (jZ 2)) (bL 3) (Hx (jZ 1) (jZ 3) (Rh (Lz λi j=> .int (i - j)) (Bl (jZ 1) (jZ 3) (tC (.int 0))) (Hw (jZ 2) (jZ 3))))) D [some (.ref c),some (.ref d),some (.ref e),v3] H:=by
 refine⟨_,U,e,gv,U,he,λo nf=>dw nf (λj σ H'=>∃z:Option V,σ=[some (.ref c),some (.ref d),some (.ref e),z]/\H'=upd H d (.dK (iJ (-1) acc (gv.take j) gv))) ?_ ?_ ?_ ?_⟩
 ·exact⟨v3,U,(cH hd).symm⟩
 ·rintro i σ H' ⟨_,_,rfl⟩;rw[ah (Ne.symm m5)];exact he
 ·rintro i k v σ H' hi ⟨z,rfl,rfl⟩;have nW:∀o',(upd (upd H d (.dK (iJ (-1) acc (gv.take i) gv))) e o') d=some (.dK (iJ (-1) acc (gv.take i) gv)):=λo'=>by rw[ah m5];exact ag
  have hv:=Jz.dO (mem_of_getElem? hi);have JA:aY (iJ (-1) acc (gv.take i) gv):=mul_int (-1) gv _ _ hI;have hli:=xV (-1) gv (gv.take i) acc;have Nj:(gv.take i).length<=gv.length:=length_take_le' _ _;refine⟨_,U,d,U, .inl ⟨_, .inl (nW _)⟩,_,U,_,fQ.k (k:=k) (nW _),_,U,_,U,e,V.int (aG gv k),U, .inl ⟨_,k, .inr ⟨o,ag⟩,U,hv.symm⟩,_,_,JA.at k,U,_,U,_,U,d,_,U,iU.k (k:=k) (nW _) (k8 ?_),?_⟩
  ·omega
  ·refine⟨by rw[ah (Ne.symm m5)];exact ag,some (kV k),U,?_⟩;have ez:∀a b:Int,a - b=a+b*(-1):=λa b=>by omega
   rw[g8 m5 he,zT (-1) gv acc hi];unfold bZ;rw[<-ez]
 ·rintro σ H' ⟨z,rfl,rfl⟩;rw[take_length];exact fin z
def Pvg(o:Obj)(KV:PP)(d D2:Py)(H2:Hp):Nat->St->Hp->Prop:=λi σ H'=>∃(v:Option V) (ps:List (Addr×Key×V)),σ=[v,some (.ref d)]/\H' d=some (.eI o (.dK KV))/\H' D2=some (.lst (ps.map λp=> .ref p.1))/\(∀p∈ps,H' p.1=some (.tup [kV p.2.1,p.2.2]))/\ps.map (·.2)=pF KV (KV.take i)/\∀b o',H2 b=some o'->b≠d->H' b=some o'
def qw:ay ["change","more","taken","text"] ["change"] (ao xm):=dE
def JJ(D:Def K mg "gains" "gains" xm ["change"])(T:1e7)(c1:bp P w K mg base 10 "side_counts" ["terms"] (gN C G Pc Fo)):bp P w K mg base 11 "gains" ["change"] (yc C G Pc Fo Ch):=by
 obtain⟨_,_,dG⟩:=c1;refine D.dk qw 0e6 0e0
 ·obtain⟨c,xs,ys,rfl,_⟩:=h;rfl
 ·obtain⟨c,xs,ys,rfl,⟨dc,l,r,hc,hl,GY⟩,pE,uo,lx,ly,q⟩:=h;have hu:=di hr;have big:(2000 :Nat) <sizeLine:=by decide
  refine⟨_,(ai (aA (i:=1) qw.nd rfl (Or.inr rfl) (dR dG hr (aa 2e4 aj))) (ai (aA (i:=2) qw.nd rfl 0e3 (dR dG hr (aa 2e4 aj))) (ai (dM (bF PassesOwn.never rfl (cQ (pv 2)) (aF (i:=3) qw.nd rfl 0e3) (ak (cP hu (pv 1) (pv 3) (av j3 (bS hu (pv 1) (pv 3) aq ⟨U,U,U,U⟩) (cf hu (pv 2) (pv 3) 1e3)) rfl)))) (ak (aH (bx (rj rfl) rfl T.kJ jf (aa (mH (fW (sc:=(ao xm)) (NX:=["change","more","taken","text"]) (N:=["text","more"]) (fr:=[none,some 1]) Ds rfl rfl rfl (cQ (pv 1)) (λ_ _ _ _=>(aF (i:=0) (show (["text","more"]:On).Nodup by decide+kernel) rfl 0e3 (Or.inr rfl))) (λ_ _ _ _=>(mI (aO mD (cf hu (pv 1) 1e6 1e3) aq (aT _)))) (λ_ _ _ _=>(bW (aa 1e6 (aa (cf hu (pv 1) 1e6 1e3) aj)))))) aj))))))),?_⟩;refine⟨_,U,c,Ch,dc,_,_,U,hc,T.cm,T.iY,gL _ _,r,ys,U,GY,uo,ly,λd H1 nd hd e1=>?_⟩;refine⟨_,U,c,Ch,dc,_,_,U,e1 _ _ hc,T.cm,T.gZ,eV _ _,l,xs,U,hl.same e1,pE,lx,λe H2 ne he e2=>?_⟩;have m5:d≠e:=af hd ne;have hd2:=e2 _ _ hd;have PL:=dA (dQ xs);have GZ:=dA (dQ ys);have lt:∀zs:List Tm,(dQ zs).length=zs.length:=λzs=>by unfold dQ;rw[length_map]
  rw[lt] at PL GZ;refine JI hu hd2 he m5 (cx _) (cx _) 0e1 λz=>?_;rw[xF (-1) 1 (dQ xs) (cx _) (iE _),one_mul];have hI:=ya xs ys;have hn:=Cv xs ys;have nC:=yb xs ys;have hq:gO xs ys=pF (vS xs ys) (vS xs ys):=rfl;show _;generalize hK:vS xs ys=KV at hI hn nC hq;rw[show aV (-1) (aV 1 [] (dQ ys)) (dQ xs)=KV from hK]
  have e02:∀b o',H b=some o'->(upd H2 d (.dK KV)) b=some o':=λb o' z=>by
   rw[ah (af z nd)];exact e2 _ _ (e1 _ _ z)
  have hd3:(upd H2 d (.dK KV)) d=some (.dK KV):=ag;generalize upd H2 d (.dK KV)=H3 at e02 hd3 |-;refine⟨_,U,d,_,U,hd3,λo nf D2 SQ=>?_⟩;have Nm:D2≠d:=λz=>by rw[z,ag] at SQ;cases SQ
  have XC:H3 D2=none:=by rwa [ah Nm] at SQ
  have gen:∀i σ H',Pvg o KV d D2 H3 i σ H'->H' d=some (.eI o (.dK KV)):=λi σ H' ⟨_,_,_,z,_⟩=>z;refine oj (a:=d) (D:=D2) (kvs:=KV) (Pvg o KV d D2 H3) ?_ gen ?_ ?_
  ·exact⟨none,[],U,by rw[ah (Ne.symm Nm),ag],ag,(λp hp=>by cases hp),U,λb o' z hb=>by rw[ah (af z XC),ah hb];exact z⟩
  ·rintro i k v σ H' hi ⟨v',ps,rfl,f1,f2,f3,f4,f5⟩ N hN;have hv:=hI.dO (mem_of_getElem? hi)
   have fP:ps.length<=40:=by
    have h1:=congrArg List.length f4;have h2:=x9 KV (KV.take i);rw[length_map] at h1;rw[length_take] at h2;omega
   refine⟨_,U,_,U,d,V.int (aG KV k),U, .inl ⟨_,k, .inr ⟨o,f1⟩,U,hv.symm⟩,U,_,U,fJ (λec=>?_) λec=>?_⟩
   ·have ec:¬aG KV k=0:=by simpa using ec
    refine⟨_,U,_,U,_,U,d,V.int (aG KV k),U, .inl ⟨_,k, .inr ⟨o,f1⟩,U,hv.symm⟩,1e2,λt ht=>?_⟩;have nDt:D2≠t:=af f2 ht;have DZ:d≠t:=af f1 ht;refine⟨_,by rw[ah nDt];exact f2,by rw[length_map];omega,hN _ _ ⟨_,ps++[(t,k,V.int (aG KV k))],U,?_,?_,?_,?_,?_⟩⟩
    ·rw[ah (Ne.symm Nm),ah DZ];exact f1
    ·rw[ag,map_append];rfl
    ·intro p hp;rcases mem_append.mp hp with hp|hp
     ·have p1:=f3 p hp;rw[ah (bj p1 f2 0e7),ah (af p1 ht)];exact p1
     ·have e':p=(t,k,V.int (aG KV k)):=by simpa using hp
      subst e';rw[ah (Ne.symm nDt)];exact ag
    ·rw[map_append,f4,F9 hi ec];rfl
    ·intro b o' e' hb;rw[ah (af e' XC),ah (af (f5 b o' e' hb) ht)];exact f5 b o' e' hb
   ·have ec:aG KV k=0:=by simpa using ec
    exact hN _ _ ⟨_,ps,rfl,f1,f2,f3,by rw[f4,F8 hi ec],f5⟩
  rintro σ H' ⟨v',ps,rfl,f1,f2,f3,f4,f5⟩;rw[take_length] at f4;refine⟨d,o,KV,f1,nf,D2,ps,U,by rw[ah Nm];exact f2,λp hp=>by rw[ah (bj (f3 p hp) f1 0e7)];exact f3 p hp,λw hw=>?_⟩
  have e8:bD [] (ps.map (·.2))=pF KV KV:=by
   rw[f4,sM _ [] (by rw[nil_append];exact JG KV hn),nil_append]
  have s8':au H (upd H' d (.dK KV)):=λb o' z=>by
   have zd:b≠d:=af z nd;rw[ah zd];exact f5 b o' (e02 b o' z) zd
  rw[e8];exact q w _ (none_back s8' hw) (by rw[ag,hq]) (s8'.trans (au.new hw))
variable {uC uP uI uD uL uT fG fH fI:Tok}{Ch:Py}
structure Nn(K:1e8)(mg:2e1)(C R G Pc Fo Ch:Addr)(uK uN uB uE uM uC uP uI uD uL uT fG fH fI:Tok):Prop extends Jt K mg C R G Pc Fo Ch uK uN uB uE uM uC uP uI uD uL uT fG fH fI where
 JK:mg "sorted" =none
 n_all:mg "all" =none
def jG(x:Fm):List (Key×V):=putK (cW 2 x.1) (Sum.inr "+") (.int x.2)
def D4{x:Fm}(h:cz x):(cW 2 x.1).length<=7:=SI h.2.2
def Np(x:Fm):aY (jG x):=(SH x.1).put _ _
inductive Cw(C G Pc Fo:Addr)(vs:List V)(H:Hp)(Q:VK)(E:XK):Prop
 |mk (f:Addr) (x:Fm) (bM:vs=[.ref f]) (bV:nu C G Pc Fo 2 H f x.1 x.2) (b8:cz x) (cS:∀e H',H e=none->H' e=some (.dK (jG x))->au H H'->Q (.ref e) H')
def vT(C G Pc Fo:Py):Sp:=Cw C G Pc Fo
def vU:ay ["formula","amounts"] ["formula"] (ao rK):=dE
def Cy(D:Def K mg "formula_amounts" "formula_amounts" rK ["formula"])(T:Jt K mg C R G Pc Fo Ch uK uN uB uE uM uC uP uI uD uL uT fG fH fI)(c1:aJ P w K mg base 9 Fo "counts" 1e1 (jF C G Pc Fo 2)):bp P w K mg base 10 "formula_amounts" ["formula"] (vT C G Pc Fo):=by
 obtain⟨_,_,br⟩:=c1;refine D.dk vU 0e6 0e0
 ·obtain⟨f,x,rfl,_⟩:=h;rfl
 ·obtain⟨fo,x,rfl,hF,aX,q⟩:=h;have hu:=di hr;have big:=bgL;obtain⟨dx,l,ps,hf,_⟩:=id hF;have hz:(x.1.flatMap (bT 2)).length<=400:=le_trans aX.2.2 0e2;refine⟨_,(ai (aA (i:=1) vU.nd rfl 0e3 (aM 1e6 T.bz br.m br.ok (hr.mono 0e2) br.b .nil bb)) (ai (cP hu (pv 1) (bo (v:= .str "+") rfl T.su ⟨_,U⟩) 2e4 rfl) (ak (aH (pv 1))))),?_⟩;refine⟨_,U,fo,dx,_,U,hf,kF _ _ 0e4 0e4,fo,x.1,x.2,U,hF,aX.1,hz,λe H' ne he es=>?_⟩;have hl:=D4 aX;refine⟨_,U,fo,Fo,dx,_,_,U,es _ _ hf,T.bz,T.jB,jy _ _,_,U,e,_,U,iU.k (k:=Sum.inr "+") he 0e1,?_⟩;exact⟨_,U,q e _ ne ag λb o z=>by rw[ah (af z ne)];exact es _ _ z⟩
def Qc(zs:NE):List Key:=zs.foldl (λks z=>fq ks ((cW 2 z.2.1).map 1e4)) []
def Nq:Key->Option Str
 | .inr s=>some s
 | .inl _=>none
def XD(zs:NE):List Str:=(Qc zs).filterMap Nq
def Ac(ks:No):Prop:=∀k∈ks,∃s:Str,k=Sum.inr s
def Nr{ks:No}(h:Ac ks):(ks.filterMap Nq).map Sum.inr=ks:=by
 induction ks with
 |nil=>rfl
 |cons k r ih=>
  obtain⟨s,rfl⟩:=h k 1e0;show (s::r.filterMap Nq).map Sum.inr=_;rw[map_cons,ih λk hk=>h k (mem_cons_of_mem _ hk)]
def Ad{ks ls:No}(h1:Ac ks)(h2:Ac ls):Ac (fq ks ls):=λk hk=>by
 rcases rT.mp hk with h|h
 ·exact h1 k h
 ·exact h2 k h
def Nt(xs:List ir):(cW 2 xs).map 1e4=fq [] ((xs.flatMap (bT 2)).map λp=>(Sum.inr p.1 :Key)):=by
 unfold cW;rw[qp,kB,map_map];rfl
def Nu(xs:List ir):Ac ((cW 2 xs).map 1e4):=by
 rw[Nt];refine Ad (λk hk=>by cases hk) λk hk=>?_;obtain⟨p,_,rfl⟩:=mem_map.mp hk;exact⟨_,U⟩
def JL{zs:NE}{i:Nat}{z:Tm}(h:zs[i]? =some z):Qc (zs.take (i+1))=fq (Qc (zs.take i)) ((cW 2 z.2.1).map 1e4):=by
 unfold Qc;rw[take_snoc h,foldl_append];rfl
def JM(zs:NE):Ac (Qc zs):=by
 have:∀(zs:NE) (ks:No),Ac ks->Ac (zs.foldl (λks z=>fq ks ((cW 2 z.2.1).map 1e4)) ks):=by
  intro zs
  induction zs with
  |nil=>intro ks h;exact h
  |cons z r ih=>intro ks h;exact ih _ (Ad h (Nu _))
 exact this zs [] λk hk=>by cases hk
def yd(zs:NE):Qc zs=(XD zs).map Sum.inr:=(Nr (JM zs)).symm
theorem sS:∀(more acc:PP),(bD acc more).map 1e4=fq (acc.map 1e4) (more.map 1e4)
 | [],_=>rfl
 |p::r,acc=>by
  show (bD (putK acc p.1 p.2) r).map 1e4=fq (ju (acc.map 1e4) p.1) (r.map 1e4);rw[sS r,m8]
def D5(zs:NE)(ms:On):Prop:=ms.Perm (XD zs)/\PyProof.Rows.sortedS ms=true
def Ae(zs:NE):Nat:=(zs.map λz=>(z.2.1.flatMap (bT 2)).length).sum
def JN{zs:NE}{i:Nat}{z:Tm}(h:zs[i]? =some z):Ae (zs.take (i+1))=Ae (zs.take i)+(z.2.1.flatMap (bT 2)).length:=by
 unfold Ae;rw[take_snoc h,map_append,sum_append];simp
def JO(zs:NE)(i:Nat):Ae (zs.take i)<=Ae zs:=by
 unfold Ae
 conv=>rhs;rw[<-take_append_drop i zs,map_append,sum_append]
 omega
theorem jH{α β:Type}{p q:α->β->Prop}:∀{as:List α} {bs:List β},(∀a b,a∈as->p a b->q a b)->Paired p as bs->Paired q as bs
 |_,_,_, .nil=> .nil
 |_,_,h, .cons x t=> .cons (h _ _ 1e0 x) (jH (λa b ha=>h a b (mem_cons_of_mem _ ha)) t)
theorem Af:∀(ls ks:No),(fq ks ls).length<=ks.length+ls.length
 | [],_=>le_refl _
 |k::r,ks=>by
  have h1:=Af r (ju ks k)
  have h2:(ju ks k).length<=ks.length+1:=by
   unfold ju;split
   ·omega
   ·rw[length_append];exact le_refl _
  show (fq (ju ks k) r).length<=_;rw[length_cons];omega
inductive JP(C G Pc Fo Ch:Addr)(vs:List V)(H:Hp)(Q:VK)(E:XK):Prop
 |mk (c:Addr) (xs ys:List Tm) (bM:vs=[.ref c]) (bV:dz C G Pc Fo Ch H c xs ys) (b8:(∀z∈xs++ys,cz z.2)) (cS:(xs++ys).length<=20) (eK:Ae (xs++ys)<=60) (gS:∀l ms H',D5 (xs++ys) ms->H l=none->H' l=some (.lst ((ms++[("+" :Str)]).map V.str))->au H H'->Q (.ref l) H')
def D6(C G Pc Fo Ch:Py):Sp:=JP C G Pc Fo Ch
def qx:ay ["self","found","count","formula"] 1e1 (ao BR):=dE
theorem jI{α β:Type}{p:α->β->Prop}:∀{as:List α} {bs:List β} {cs:List α} {ds:List β},Paired p as bs->Paired p cs ds->Paired p (as++cs) (bs++ds)
 |_,_,_,_, .nil,h=>h
 |_,_,_,_, .cons h t,h2=> .cons h (jI t h2)
def JQ(D:a9 K Ch "kinds" "Change.kinds" BR 1e1)(T:Nn K mg C R G Pc Fo Ch uK uN uB uE uM uC uP uI uD uL uT fG fH fI)(c1:aJ P w K mg base 9 Fo "counts" 1e1 (jF C G Pc Fo 2)):aJ P w K mg base 10 Ch "kinds" 1e1 (D6 C G Pc Fo Ch):=by
 obtain⟨_,_,br⟩:=c1;refine D.dk qx 0e6 0e0
 ·obtain⟨c,xs,ys,rfl,_⟩:=h;rfl
 ·obtain⟨c,xs,ys,rfl,⟨dx,l,r,hc,⟨ts,hl,hT⟩,⟨us,GY,hU⟩⟩,aX,h8,h60,q⟩:=h;have hu:=di hr;have big:=bgL;have hP:=jI hT hU;have lp:=Paired.length hP;refine⟨_,(ai (aA (i:=1) qx.nd rfl 0e3 eC) (ai (bF PassesOwn.never rfl (cA (av l5 2e4 2e4)) (eX rfl (aP (aF (i:=2) qx.nd rfl 0e3) (aP (aF (i:=3) qx.nd rfl 0e3) cL))) (ak (a7 (Dl (pv 1) (aM (pv 3) T.bz br.m br.ok (hr.mono 0e2) br.b .nil bb) ⟨U,U,U,U⟩)))) (ak (aH (av l5 (bG (wW rfl) rfl T.JK Fp (aa (pv 1) aj)) (bO (aa (bo (v:= .str "+") rfl T.su ⟨_,U⟩) aj))))))),?_⟩;refine λe0 oN=>?_;have s0:=au.new (o:= .dK []) oN;have hc0:=s0 _ _ hc;refine⟨_,U,c,Ch,dx,_,_,U,hc0,T.cm,T.gZ,eV _ _,_,U,c,Ch,dx,_,_,U,hc0,T.cm,T.iY,gL _ _,l,r,_,_,U,U,s0 _ _ hl,s0 _ _ GY,?_,λL hL=>?_⟩
  ·rw[length_map,length_map,<-length_append,lp];omega
  have s1:=s0.trans (au.new (o:= .lst (ts.map V.ref++us.map V.ref)) hL);have VM:e0≠L:=af ag hL;refine⟨L,U,⟨_,bh.of ag⟩,du (K:=K) (a:=L) (xs:=(ts++us).map V.ref) (λi σ H'=>∃(kvs:PP) (v2 v3:Option V),σ=[some (.ref c),some (.ref e0),v2,v3]/\H' e0=some 2e2/\kvs.map 1e4=Qc ((xs++ys).take i)/\kvs.length<=Ae ((xs++ys).take i)/\au H H'/\H' L=some (.lst ((ts++us).map V.ref))) ?_ (λi σ H' _ ⟨_,_,_,_,_,_,_,_,z⟩=>bh.of z) ?_ ?_⟩
  ·exact⟨[],none,none,U,by rw[ah VM,ag],U,zero_le _,s1,by rw[ag,map_append]⟩
  ·rintro i v σ H' hi ⟨kvs,v2,v3,rfl,he,hk,nC,e,tV⟩;rw[getElem?_map] at hi;obtain⟨t,ht,rfl⟩:=gMp hi;obtain⟨z,hz,fo,h1,h2⟩:=bc hP ht;have Nv:=aX z (mem_of_getElem? hz);have zm:i< (xs++ys).length:=(List.getElem?_eq_some_iff.mp hz).1;obtain⟨dy,fl,fps,hfo,_⟩:=id h2;refine⟨t,_,U,gE.of (e _ _ h1),U,_,_,U,_,_,U,U,?_⟩;refine⟨_,U,e0,U, .inl ⟨_, .inl he⟩,_,U,fo,dy,_,U,e _ _ hfo,kF _ _ 0e4 0e4,fo,z.2.1,z.2.2,U,h2.same e,Nv.1,le_trans Nv.2.2 0e2,λb cy nb hb e'=>?_⟩;have Nw:(cW 2 z.2.1).length<=(z.2.1.flatMap (bT 2)).length:=dA _;have hml:=eD (cW 2 z.2.1) kvs;have hfs:=JN hz;have hfl:=JO (xs++ys) i;have hz7:=Nv.2.2;have neb:e0≠b:=af he nb;refine⟨b,kvs,_,U,e' _ _ he,hb,neb,by omega,bD kvs (cW 2 z.2.1),_,_,U,ag,?_,by omega,λb' o w=>?_,?_⟩
   ·rw[sS,hk,JL hz]
   ·rw[ah (af w oN)];exact e' _ _ (e _ _ w)
   ·rw[ah (Ne.symm VM)];exact e' _ _ tV
  ·rintro σ H' ⟨kvs,v2,v3,rfl,he,hk,nC,e,tV⟩;rw[length_map,lp] at hk nC;rw[take_length] at hk nC
   have jg:(XD (xs++ys)).length<64:=by
    have:=congrArg List.length hk;rw[yd,length_map,length_map] at this;omega
   refine⟨_,U,e0,kvs,XD (xs++ys),U, .inl he,by rw[hk,yd],jg,λm ms pm sm hm=>⟨(by show 1<=sizeLine;decide),λn hn=>?_⟩⟩;have XA:m≠n:=af ag hn;refine⟨m,n,ms.map V.str,[V.str "+"],U,U,by rw[ah XA,ag],ag,?_,λp hp=>?_⟩
   ·rw[length_map,pm.length_eq];show _+1<=sizeLine;omega
   have s2:=(au.new (o:= .lst (ms.map V.str)) hm).trans (au.new (o:= .lst [V.str "+"]) hn);have hpH:H p=none:=none_back (e.trans s2) hp;refine q p ms _ ⟨pm,sm⟩ hpH ?_ ((e.trans s2).trans (au.new hp));rw[ag,map_append];rfl
variable {uC uP uI uD uL uT fG fH fI:Tok}{Ch:Py}
def cX(c:Int)(acc l all:PP):List (Key×V):=l.foldl (λacc p=>bZ acc p.1 (c*aG all p.1)) acc
theorem Ag(c:Int)(all:PP):∀(l acc:PP),cX c acc l all=cO acc (l.map λp=>(p.1,c*aG all p.1))
 | [],_=>rfl
 |p::r,acc=>Ag c all r _
theorem cI(c:Int)(all:PP):∀(l acc:PP),aY acc->aY (cX c acc l all)
 | [],_,h=>h
 |_::r,_,h=>cI c all r _ (h.add _ _)
theorem gq(c:Int)(all:PP):∀(l acc:PP),(cX c acc l all).length<=acc.length+l.length
 | [],_=>le_refl _
 |p::r,acc=>by
  have h1:=gq c all r (bZ acc p.1 (c*aG all p.1));have h2:(bZ acc p.1 (c*aG all p.1)).length<=acc.length+1:=cE _ _ _;show (cX c (bZ acc p.1 (c*aG all p.1)) r all).length<=_;rw[length_cons];omega
def oS(c:Int){D:PP}(hn:(D.map 1e4).Nodup)(acc:PP)(j:Key):aG (cX c acc D D) j=aG acc j+c*aG D j:=by
 rw[Ag,m9];congr 1;have e:=xE (λk=>c*aG D k) j hn;rw[map_map] at e
 have e2:sumK (D.map λp=>(p.1,c*aG D p.1)) j=if j∈D.map 1e4 then c*aG D j else 0:=by
  rw[<-e];unfold sumK;rw[map_map];rfl
 rw[e2];split
 ·rfl
 ·rename_i h
  rw[fX h,mul_zero]
def sumZ(zs:NE)(k:Key):Int:=(zs.map λz=>z.1*aG (jG z.2) k).sum
def sumZ_snoc{zs:NE}{i:Nat}{z:Tm}(h:zs[i]? =some z)(k:Key):sumZ (zs.take (i+1)) k=sumZ (zs.take i) k+z.1*aG (jG z.2) k:=by
 unfold sumZ;rw[take_snoc h,map_append,sum_append];simp
def SR(x:Fm):((jG x).map 1e4).Nodup:=ma (iE _)
def Nx{x:Fm}(h:cz x):(jG x).length<=8:=by
 have h1:=D4 h;have h2:(jG x).length<=(cW 2 x.1).length+1:=cE _ _ _;omega
theorem sT:∀(d:Nat) (m:Int) (t:Tr),jY d t->0<=m->∀p∈bI d m t,0<=p.2/\p.2<=999*(999^d*m)
 |d,m, .one k n,h,hm,p,hp=>by
  have e:bI d m (.one k n)=[(⟨k.toArray⟩,n*m)]:=by cases d<;>rfl
  rw[e] at hp;have h:lF k/\1<=n/\n<=999:=by cases d<;>exact h
  have ep:p=(⟨k.toArray⟩,n*m):=by simpa using hp
  rw[ep];have p1:(1 :Int)<=999^d:=Int.pow_pos 0e2
  have p2:m<=999^d*m:=by
   have:=Int.mul_le_mul_of_nonneg_right p1 hm
   rwa [one_mul] at this
  refine⟨mul_nonneg 0e1 hm,?_⟩;exact Int.le_trans (Int.mul_le_mul_of_nonneg_right h.2.2 hm) (Int.mul_le_mul_of_nonneg_left p2 0e2)
 |0,_, .gr _ _,h,_,_,_=>h.elim
 |d+1,m, .gr ts n,h,hm,p,hp=>by
  obtain⟨t,ht,hp⟩:=mem_flatMap.mp hp;obtain⟨_,h1,n1,n2⟩:=h;have nm:0<=n*m:=mul_nonneg 0e1 hm;obtain⟨q1,q2⟩:=sT d (n*m) t (h1 t ht) nm p hp;refine⟨q1,Int.le_trans q2 ?_⟩;have p0:(0 :Int)<=999^d:=Int.le_of_lt (Int.pow_pos 0e2);have e:(999 :Int) ^(d+1)*m=999^d*(999*m):=by rw[Int.pow_succ,mul_assoc]
  rw[e];exact Int.mul_le_mul_of_nonneg_left (Int.mul_le_mul_of_nonneg_left (Int.mul_le_mul_of_nonneg_right n2 hm) p0) 0e2
def Ny{x:Fm}(h:cz x):Fz (2^60) (cW 2 x.1):=by
 have hb:=xx (t:=1) (b:=1000000000000) 0e2 (x.1.flatMap (bT 2)) [] 0 (Int.le_refl _) (λp hp=>by cases hp) λp hp=>by
  obtain⟨y,hy,hp⟩:=mem_flatMap.mp hp;obtain⟨_,h1,n1,n2⟩:=qu h.1 y hy;obtain⟨t,ht,hp⟩:=mem_flatMap.mp hp;obtain⟨q1,q2⟩:=sT 2 y.1 t (h1 t ht) 0e1 p hp;rw[mul_one];refine⟨q1,?_⟩
  have:(999 :Int) ^2*y.1<=998001*999:=by
   rw[show (999 :Int) ^2=998001 from rfl];exact Int.mul_le_mul_of_nonneg_left n2 0e2
  omega
 intro p hp;obtain⟨i,e,b0,b1⟩:=hb p hp;refine⟨i,e,b0,?_⟩;have:=h.2.2;have:(2 :Int) ^60=1152921504606846976:=by decide
 have e7:((x.1.flatMap (bT 2)).length:Int)*1000000000000<=7*1000000000000:=Int.mul_le_mul_of_nonneg_right 0e1 0e2;omega
def NA{x:Fm}(h:cz x): -999<=x.2/\x.2<=999:=by
 obtain⟨h,_,_⟩:=h;obtain⟨xs,n⟩:=x
 cases xs with
 |nil=>
  have:n= -1:=h;subst this;exact⟨by decide,by decide⟩
 |cons y r=>exact⟨h.2.2.1,h.2.2.2⟩
def vV{x:Fm}(h:cz x)(k:Key): -(2^64) <aG (jG x) k/\aG (jG x) k<2^64:=by
 unfold jG;rw[dN];split
 ·have:=NA h;omega
 ·have:=(Ny h).MO 0e2 k;omega
inductive sU(C G Pc Fo:Addr)(vs:List V)(H:Hp)(Q:VK)(E:XK):Prop
 |mk (l:Addr) (xs:List Tm) (bM:vs=[.ref l]) (bV:g7 C G Pc Fo H l xs) (b8:(∀x∈xs,cz x.2)) (cS:xs.length<=20) (eK:∀e kvs H',H e=none->H' e=some 2e2->aY kvs->(∀k,aG kvs k=sumZ xs k)->au H H'->Q (.ref e) H')
def lV(C G Pc Fo:Py):Sp:=sU C G Pc Fo
def dH:ay ["terms","total","count","formula","amounts","kind"] ["terms"] (ao jm):=dE
def sV(D:Def K mg "side_amounts" "side_amounts" jm ["terms"])(T:Nn K mg C R G Pc Fo Ch uK uN uB uE uM uC uP uI uD uL uT fG fH fI)(c1:bp P w K mg base 10 "formula_amounts" ["formula"] (vT C G Pc Fo)):bp P w K mg base 11 "side_amounts" ["terms"] (lV C G Pc Fo):=by
 obtain⟨_,_,nE⟩:=c1;refine D.dk dH 0e6 0e0
 ·obtain⟨l,xs,rfl,_⟩:=h;rfl
 ·obtain⟨l,xs,rfl,⟨ts,hl,hP⟩,aX,h20,q⟩:=h;have hu:=di hr;have big:=bgL;have lp:=Paired.length hP;refine⟨_,(ai (aA (i:=1) dH.nd rfl 0e3 eC) (ai (bF PassesOwn.never rfl (cA 1e6) (eX rfl (aP (aF (i:=2) dH.nd rfl 0e3) (aP (aF (i:=3) dH.nd rfl 0e3) cL))) (ai (aA (i:=4) dH.nd rfl 0e3 (dR nE hr (aa (pv 3) aj))) (ak (dM (bF PassesOwn.never rfl (cQ (pv 4)) (aF (i:=5) dH.nd rfl 0e3) (ak (cP hu (pv 1) (pv 5) (av bC (bS hu (pv 1) (pv 5) aq ⟨U,U,U,U⟩) (av dm (pv 2) (cf hu (pv 4) (pv 5) 1e3))) rfl))))))) (ak (aH (pv 1))))),?_⟩;refine λe0 oN=>?_;have s0:=au.new (o:= .dK []) oN;refine⟨_,U,l,U,⟨_,bh.of (s0 _ _ hl)⟩,du (K:=K) (a:=l) (xs:=ts.map V.ref) (λi σ H'=>∃(kvs:PP) (v2 v3 v4 v5:Option V),σ=[some (.ref l),some (.ref e0),v2,v3,v4,v5]/\H' e0=some 2e2/\aY kvs/\(∀k,aG kvs k=sumZ (xs.take i) k)/\kvs.length<=8*i/\au H H') ?_ (λi σ H' _ ⟨_,_,_,_,_,_,_,_,_,_,z⟩=>bh.of (z _ _ hl)) ?_ ?_⟩
  ·exact⟨[],none,none,none,none,U,ag,Jy,λ_=>rfl,zero_le _,s0⟩
  ·rintro i v σ H' hi ⟨kvs,v2,v3,v4,v5,rfl,he,hI,hz,nC,e⟩;rw[getElem?_map] at hi;obtain⟨t,ht,rfl⟩:=gMp hi;obtain⟨z,XE,fo,h1,h2⟩:=bc hP ht;have Nv:=aX z (mem_of_getElem? XE);have zm:i<xs.length:=(List.getElem?_eq_some_iff.mp XE).1;have hal:=Nx Nv;refine⟨t,_,U,gE.of (e _ _ h1),U,_,_,U,_,_,U,U,?_⟩;refine⟨_,U,fo,z.2,U,h2.same e,Nv,λd H2 nd hd e2=>?_⟩;have NB:e0≠d:=af he nd;have he2:=e2 _ _ he;dsimp only [bL];refine⟨_,U,d,jG z.2,U,hd,λo nf=>dw nf (λj σ H3=>∃w:Option V,σ=[some (.ref l),some (.ref e0),some (.int z.1),some (.ref fo),some (.ref d),w]/\H3=upd H2 e0 (.dK (cX z.1 kvs ((jG z.2).take j) (jG z.2)))) ?_ ?_ ?_ ?_⟩
   ·exact⟨v5,U,(cH he2).symm⟩
   ·rintro j σ H3 ⟨_,_,rfl⟩;rw[ah (Ne.symm NB)];exact hd
   ·rintro j k v σ H3 hj ⟨w,rfl,rfl⟩;have nW:∀o',(upd (upd H2 e0 (.dK (cX z.1 kvs ((jG z.2).take j) (jG z.2)))) d o') e0=some (.dK (cX z.1 kvs ((jG z.2).take j) (jG z.2))):=λo'=>by rw[ah NB];exact ag
    have NC:=gq z.1 (jG z.2) ((jG z.2).take j) kvs;have Nj:((jG z.2).take j).length<=(jG z.2).length:=length_take_le' _ _;have JA:=cI z.1 (jG z.2) ((jG z.2).take j) kvs hI;have hv:=(Np z.2).dO (mem_of_getElem? hj);have Va:=vV Nv k;refine⟨_,U,e0,U, .inl ⟨_, .inl (nW _)⟩,_,U,_,fQ.k (k:=k) (nW _),_,U,_,U,_,U,d,V.int (aG (jG z.2) k),U, .inl ⟨_,k, .inr ⟨o,ag⟩,U,hv.symm⟩,_,_,U,U, .inr Va,_,_,JA.at k,U,_,U,_,U,e0,_,U,iU.k (k:=k) (nW _) 0e1,?_⟩;refine⟨by rw[ah (Ne.symm NB)];exact ag,some (kV k),U,?_⟩;rw[g8 NB hd];unfold cX;rw[take_snoc hj,foldl_append];rfl
   ·rintro σ H3 ⟨w,rfl,rfl⟩;rw[take_length];have NC:=gq z.1 (jG z.2) (jG z.2) kvs;refine⟨_,_,_,_,_,U,ag,cI z.1 (jG z.2) (jG z.2) kvs hI,λk=>?_,by omega,λb o' w'=>?_⟩
    ·rw[oS z.1 (SR _),hz k,sumZ_snoc XE]
    ·rw[ah (af w' oN)];exact e2 _ _ (e _ _ w')
  ·rintro σ H' ⟨kvs,v2,v3,v4,v5,rfl,he,hI,hz,nC,e⟩;rw[length_map,lp,take_length] at hz;exact⟨_,U,q e0 kvs H' oN he hI hz e⟩
variable {uC uP uI uD uL uT fG fH fI:Tok}{Ch:Py}
abbrev Tri:=Str×Int×Int
def XF{c A B:Prop}[Decidable c](hc:¬c)(h:A):if (!decide c)=true then A else B:=by
 rw[decide_eq_false hc];exact h
def JR(H:Hp)(t:Py)(p:Tri):Prop:=H t=some (.tup [.str p.1, .int p.2.1, .int p.2.2])
def Ah(ms:On)(xs ys:NE):List Tri:=ms.map λk=>(k,sumZ xs (Sum.inr k),sumZ ys (Sum.inr k))
def JS(ms:On)(xs ys:NE):List Tri:=(Ah ms xs ys).filter λp=>!decide (p.2.1=p.2.2)
inductive ND(C G Pc Fo Ch:Addr)(vs:List V)(H:Hp)(Q:VK)(E:XK):Prop
 |mk (c:Addr) (xs ys:List Tm) (bM:vs=[.ref c]) (bV:dz C G Pc Fo Ch H c xs ys) (b8:(∀z∈xs++ys,cz z.2)) (cS:(xs++ys).length<=20) (eK:Ae (xs++ys)<=60) (gS:∀L ts ms H',D5 (xs++ys) ms->H L=none->H' L=some (.lst (ts.map V.ref))->Paired (JR H') ts (JS (ms++[("+" :Str)]) xs ys)->au H H'->Q (.ref L) H')
def JT(C G Pc Fo Ch:Py):Sp:=ND C G Pc Fo Ch
def ye:ay ["self","lefts","rights","told"] 1e1 (ao zE):=dE
def JU{zs:NE}:(XD zs).length<=Ae zs:=by
 have key:∀(zs:NE) (ks:No),(zs.foldl (λks z=>fq ks ((cW 2 z.2.1).map 1e4)) ks).length<=ks.length+Ae zs:=by
  intro zs
  induction zs with
  |nil=>intro ks;exact le_refl _
  |cons z r ih=>
   intro ks;have h1:=ih (fq ks ((cW 2 z.2.1).map 1e4));have h2:(fq ks ((cW 2 z.2.1).map 1e4)).length<=ks.length+((cW 2 z.2.1).map 1e4).length:=Af _ _;have h3:(cW 2 z.2.1).length<=(z.2.1.flatMap (bT 2)).length:=dA _;have h4:Ae (z::r)=(z.2.1.flatMap (bT 2)).length+Ae r:=rfl;rw[length_map] at h2;rw[List.foldl_cons];omega
 have h:=key zs [];have e:=congrArg List.length (yd zs);rw[length_map] at e;rw[<-e];have h:(Qc zs).length<=0+Ae zs:=h;omega
def NG(D:a9 K Ch "lost" "Change.lost" zE 1e1)(T:Nn K mg C R G Pc Fo Ch uK uN uB uE uM uC uP uI uD uL uT fG fH fI)(c1:bp P w K mg base 11 "side_amounts" ["terms"] (lV C G Pc Fo))(c2:aJ P w K mg base 10 Ch "kinds" 1e1 (D6 C G Pc Fo Ch)):aJ P w K mg base 12 Ch "lost" 1e1 (JT C G Pc Fo Ch):=by
 obtain⟨_,_,kO⟩:=c1;obtain⟨_,_,ia⟩:=c2;refine D.dk ye 0e6 0e0
 ·obtain⟨c,xs,ys,rfl,_⟩:=h;rfl
 ·obtain⟨c,xs,ys,rfl,hC,aX,h20,h60,q⟩:=h;have hu:=di hr;have big:=bgL;obtain⟨dx,l,r,hc,hl,GY⟩:=id hC;have hla:=length_append (as:=xs) (bs:=ys);refine⟨_,(ai (aA (i:=1) ye.nd rfl (Or.inr rfl) (dR kO hr (aa 2e4 aj))) (ai (aA (i:=2) ye.nd rfl (Or.inr rfl) (dR kO hr (aa 2e4 aj))) (ai (qc (i:=3) ye.nd rfl 0e3 (sc:=(ao zE)) (NX:=["self","lefts","rights","told"]) (N:=["kind","lefts","rights"]) (fr:=[none,some 1,some 2]) Ds rfl rfl rfl (cA (aM 1e6 T.cm ia.m ia.ok (hr.mono 0e2) ia.b .nil bb)) (λ_ _ _ _=>(aF (i:=0) (show (["kind","lefts","rights"]:On).Nodup by decide+kernel) rfl 0e3 (Or.inr rfl))) (λ_ _ _ _=>gJ) (λ_ _ _ _=>(bW (aa 1e6 (aa (bS hu (pv 1) 1e6 aq ⟨U,U,U,U⟩) (aa (bS hu (pv 2) 1e6 aq ⟨U,U,U,U⟩) aj)))))) (ak (aH (fW (sc:=(ao zE)) (NX:=["self","lefts","rights","told"]) (N:=["each"]) (fr:=[none]) Ds rfl rfl rfl (cA (pv 3)) (λ_ _ _ _=>(aF (i:=0) (show (["each"]:On).Nodup by decide+kernel) rfl 0e3 (Or.inr rfl))) (λ_ _ _ _=>(mI (aO mD (bq (Dk K rfl) 1e6 aq 1e3) (bq (Dk K rfl) 1e6 aq 1e3) (aT _)))) (λ_ _ _ _=>1e6))))))),?_⟩;refine⟨_,U,c,Ch,dx,_,_,U,hc,T.cm,T.gZ,eV _ _,l,xs,U,hl,λx hx=>aX x (mem_append_left _ hx),by omega,λd1 k1 H1 nd1 Ml SS RK e1=>?_⟩;refine⟨_,U,c,Ch,dx,_,_,U,e1 _ _ hc,T.cm,T.iY,gL _ _,r,ys,U,GY.same e1,λx hx=>aX x (mem_append_right _ hx),by omega,λd2 k2 H2 nd2 hd2 Jz PK e2=>?_⟩;have Cz:=e1.trans e2;have NH:=e2 _ _ Ml;dsimp only [bL];refine⟨_,U,c,dx,_,U,Cz _ _ hc,zS _ _ 0e4 0e4,c,xs,ys,U,hC.same Cz,aX,h20,h60,λk ms H3 hK nk hk e3=>?_⟩;have NI:=Cz.trans e3;have NJ:=e3 _ _ NH;have hd23:=e3 _ _ hd2
  have hml:(ms++[("+" :Str)]).length<=100:=by
   have h1:=hK.1.length_eq;have h2:=JU (zs:=xs++ys);rw[length_append];show _+1<=100;omega
  generalize hms:ms++[("+" :Str)]=mp at hk hml;refine⟨k,U,⟨_,bh.of hk⟩,λL hL=>lh (K:=K) (a:=k) (L:=L) (xs:=mp.map V.str) H3 (fun σ=>∃v:Option V,σ=[v,some (.ref d1),some (.ref d2)]) (λi zs cy=>∃ts:List Addr,zs=ts.map V.ref/\ts.length=i/\(∀a∈ts,a≠L)/\Paired (JR cy) ts ((Ah mp xs ys).take i)) (bh.of hk) ?_ hL ⟨none,U⟩ (au.new hL) ag ⟨[],U,U,(λa ha=>by cases ha), .nil⟩ (by rw[length_map];omega) (λi ys _ ⟨ps,e1,e2,_⟩=>by rw[e1,length_map,e2];exact le_refl _) ?_ ?_⟩
  ·rintro i ys Ha Hb hb ⟨ds,h1,h2,h3,h4⟩;exact⟨ds,h1,h2,h3,jH (λa x ha z=>hb _ _ z (h3 a ha)) h4⟩
  ·rintro j w σ' H5 vs hj ⟨w1,rfl⟩ e5 px ⟨ts,rfl,Vg,hnL,XG⟩ N M hN;rw[getElem?_map] at hj;obtain⟨kk,hkk,rfl⟩:=gMp hj;have h1:=e5 _ _ NJ;have h2:=e5 _ _ hd23;have a1:=SS.at (Sum.inr kk);have a2:=Jz.at (Sum.inr kk);rw[RK] at a1;rw[PK] at a2;refine⟨_,U,_,U,d1,U, .inl ⟨_, .inl h1⟩,_,U,_,fQ.k (k:=Sum.inr kk) h1,_,U,d2,U, .inl ⟨_, .inl h2⟩,_,U,_,fQ.k (k:=Sum.inr kk) h2,(by show 3<=sizeLine;decide),λt ht=>?_⟩;have st:=au.new (o:= .tup [.str kk,(ck k1 (Sum.inr kk)).getD (.int 0),(ck k2 (Sum.inr kk)).getD (.int 0)]) ht;refine hN _ _ _ ⟨_,rfl⟩ (e5.trans st) (st _ _ px) ⟨ts++[t],by rw[map_append];rfl,by rw[length_append,Vg];rfl,λa ha=>?_,?_⟩
   ·rcases mem_append.mp ha with ha|ha
    ·exact hnL a ha
    ·have ea:a=t:=by simpa using ha
     subst ea;exact λz=>by rw[z,px] at ht;cases ht
   have Qd:(Ah mp xs ys)[j]? =some (kk,sumZ xs (Sum.inr kk),sumZ ys (Sum.inr kk)):=by unfold Ah;rw[getElem?_map,hkk];rfl
   rw[take_snoc Qd];refine bH ?_ (aB (λ_ _ z=>st _ _ z) XG);show (upd H5 t _) t=_;rw[ag,a1,a2]
  rintro H4 vs e4 FT ⟨ts,rfl,Vg,_,XG⟩;have ltr:(Ah mp xs ys).length=mp.length:=by unfold Ah;rw[length_map]
  rw[length_map] at Vg;rw[length_map,<-ltr,take_length] at XG;dsimp only [bL];refine⟨_,U,L,U,⟨_,bh.of FT⟩,λL2 vC=>vi (K:=K) (a:=L) (L:=L2) (xs:=ts.map V.ref) H4 (fun σ=>∃v:Option V,σ=[v]) (λi zs=>∃us:List Addr,zs=us.map V.ref/\us.length<=i/\Paired (JR H4) us (((Ah mp xs ys).take i).filter λp=>!decide (p.2.1=p.2.2))) (bh.of FT) vC ⟨none,U⟩ (au.new vC) ag ⟨[],U,le_refl _, .nil⟩ (by rw[length_map];omega) (λi ys ⟨ps,e1,e2,_⟩=>by rw[e1,length_map];exact e2) ?_ ?_⟩
  ·rintro j w σ' H5 vs hj ⟨w1,rfl⟩ e5 px ⟨us,rfl,NK,Ai⟩ N M hN hM;rw[getElem?_map] at hj;obtain⟨t,ht,rfl⟩:=gMp hj;obtain⟨p,hp,MK⟩:=bc XG ht;have MK:H4 t=some (.tup [.str p.1, .int p.2.1, .int p.2.2]):=MK;refine⟨_,U,t,_,_,V.int p.2.1,U,U,gE.of (e5 _ _ MK),U,_,U,t,_,_,V.int p.2.2,U,U,gE.of (e5 _ _ MK),U,U,_,U,?_⟩;by_cases hd:p.2.1=p.2.2
   ·refine Pw (by rw[hd]) ?_;refine hM _ _ ⟨_,rfl⟩ e5 px ⟨us,rfl,by omega,?_⟩;rw[take_snoc hp,filter_append];have:[p].filter (λp=>!decide (p.2.1=p.2.2))=[]:=by simp [hd]
    rw[this,append_nil];exact Ai
   ·refine XF (by intro z;injection z with z;exact hd z) ?_;refine⟨_,U,hN _ _ _ ⟨_,U⟩ e5 px ⟨us++[t],by rw[map_append];rfl,by rw[length_append];show _+1<=_;omega,?_⟩⟩;rw[take_snoc hp,filter_append];have:[p].filter (λp=>!decide (p.2.1=p.2.2))=[p]:=by simp [hd]
    rw[this];refine bH ?_ ?_
    ·exact MK
    ·exact Ai
  rintro H5 vs e5 px ⟨us,rfl,NK,Ai⟩;have lts:=Paired.length XG;rw[length_map,lts,take_length] at Ai;have XH:=(NI.trans e4);rw[<-hms] at Ai;exact q L2 us ms H5 hK (none_back XH vC) px (aB (λ_ _ z=>e5 _ _ z) Ai) (XH.trans e5)
variable {uC uP uI uD uL uT:Tok}
def CA(n:Nat)(kvs:PP):Prop:=∀k,PD n (aG kvs k)
def yf{i:Int}(h0: -(2^128) <i)(h1:i<2^128):PD 128 i:=by
 show i.natAbs<2^128;omega
def NL{kvs:PP}(h:Fz (2^127) kvs):CA 128 kvs:=λk=>by
 obtain⟨z0,z1⟩:=h.MO 0e2 k;exact yf 0e1 0e1
def NM(kc kw l:PP):Int:=(l.map λp=>aG kc p.1*aG kw p.1).sum
def JV(kc kw:PP){l:PP}{i:Nat}{p:Key×V}(h:l[i]? =some p):NM kc kw (l.take (i+1))=NM kc kw (l.take i)+aG kc p.1*aG kw p.1:=by
 unfold NM;rw[take_snoc h,map_append,sum_append];simp
def JW{i j:Int}(h:PD 128 i)(h':PD 128 j):Dh i j:= .inr ⟨128,128,h,h',by decide⟩
inductive XI(vs:List V)(H:Hp)(Q:VK)(E:XK):Prop
 |mk (c w:Addr) (kc kw:List (Key×V)) (bM:vs=[.ref c, .ref w]) (bV:H c=some (.dK kc)) (b8:H w=some (.dK kw)) (cS:c≠w) (eK:aY kw) (gS:aY kc) (lR:CA 128 kw) (rV:CA 128 kc) (yJ:Q (.int (NM kc kw kc)) H)
def XJ:Sp:=XI
def NN:ay ["counts","weights","total","kind"] ["counts","weights"] (ao sCW):=dE
def XM(D:Def K mg "counts_weight" "counts_weight" sCW ["counts","weights"]):bp P w K mg base 1 "counts_weight" ["counts","weights"] XJ:=by
 refine D.dk NN 0e6 0e0
 ·obtain⟨c,w,kc,kw,rfl,_⟩:=h;rfl
 ·obtain⟨c,w,kc,kw,rfl,hc,hw,ncw,hI,hJ,fw,fc,q⟩:=h;have hu:=di hr;refine⟨_,(ai (aA (i:=2) NN.nd rfl 0e3 aq) (ai (dM (bF PassesOwn.never rfl (cQ 1e6) (aF (i:=3) NN.nd rfl 0e3) (ak (Q9 (i:=2) NN.nd rfl 0e3 (av Di (cf hu 1e6 (pv 3) 1e3) (bS hu (pv 1) (pv 3) aq ⟨U,U,U,U⟩)) Ra)))) (ak (aH (pv 2))))),?_⟩;refine⟨_,U,c,_,U,hc,λo nf=>dw nf (λi σ H'=>∃v:Option V,σ=[some (.ref c),some (.ref w),some (.int (NM kc kw (kc.take i))),v]/\H'=H) ?_ (λi σ H' ⟨_,_,e⟩=>by rw[e];exact hc) ?_ ?_⟩
  ·exact⟨none,U,U⟩
  ·rintro i k v σ H' hi ⟨u,rfl,rfl⟩;have hw':(upd H' c (.eI o (.dK kc))) w=some (.dK kw):=by rw[ah (Ne.symm ncw)];exact hw
   have hv:=hJ.dO (mem_of_getElem? hi);refine⟨_,U,_,U,_,U,c,V.int (aG kc k),U, .inl ⟨_,k, .inr ⟨o,ag⟩,U,hv.symm⟩,_,U,w,U, .inl ⟨_, .inl hw'⟩,_,U,_,fQ.k (k:=k) hw',_,_,U,hI.at k,JW (fc k) (fw k),_,_,U,U,?_⟩;refine⟨ag,some (kV k),?_,by rw[gI,cH hc]⟩;rw[JV kc kw hi];rfl
  ·rintro σ H' ⟨v,rfl,rfl⟩;rw[take_length];exact⟨_,U,q⟩
inductive Aj(C G Pc Fo:Addr)(d:Nat)(vs:List V)(H:Hp)(Q:VK)(E:XK):Prop
 |mk (f u:Addr) (xs:List ir) (n:Int) (kw:List (Key×V)) (bM:vs=[.ref f, .ref u]) (bV:nu C G Pc Fo d H f xs n) (b8:Ji d xs n) (cS: -999<=n) (eK:n<=999) (gS:(xs.flatMap (bT d)).length<=400) (lR:CA 128 (cW d xs)) (rV:H u=some (.dK kw)) (yJ:aY kw) (LF:CA 128 kw) (CB:∀H',au H H'->Q (.int (NM (cW d xs) kw (cW d xs)+n*aG kw (Sum.inr "+"))) H')
def sW(C G Pc Fo:Py)(d:Nat):Sp:=Aj C G Pc Fo d
def F':ay ["self","weights"] ["self","weights"] (ao rO):=dE
def Ak(d:Nat)(D:a9 K Fo "weight" "Formula.weight" rO ["self","weights"])(T:1e5)(c1:bp P w K mg base 1 "counts_weight" ["counts","weights"] XJ)(c2:aJ P w K mg base (2*d+5) Fo "counts" 1e1 (jF C G Pc Fo d)):aJ P w K mg base (2*d+6) Fo "weight" ["self","weights"] (sW C G Pc Fo d):=by
 obtain⟨_,_,pW⟩:=c1;obtain⟨_,_,br⟩:=c2;refine D.dk F' 0e6 0e0
 ·obtain⟨f,u,xs,n,kw,rfl,_⟩:=h;rfl
 ·obtain⟨f,u,xs,n,kw,rfl,hF,F2,n1,n2,hz,fc,hw,hI,fw,q⟩:=h;have hu:=di hr;obtain⟨dx,l,ps,hf,_⟩:=id hF;refine⟨_,(ak (aH (av bC (dR pW hr (aa (aM 1e6 T.bz br.m br.ok (hr.mono 0e1) br.b .nil bb) (aa (pv 1) aj))) (av Di 2e4 (bS hu (pv 1) (bo (v:= .str "+") rfl T.su ⟨_,U⟩) aq ⟨U,U,U,U⟩))))),?_⟩;refine⟨_,U,f,dx,_,U,hf,kF _ _ 0e4 0e4,f,xs,n,U,hF,F2,hz,λd H1 nd hd e1=>?_⟩;have hw1:=e1 _ _ hw;refine⟨_,U,d,u,_,kw,U,hd,hw1,Ne.symm (af hw nd),hI,cx _,fw,fc,?_⟩;exact⟨_,U,f,Fo,dx,_,_,U,e1 _ _ hf,T.bz,T.jB,jy _ _,_,U,u,U, .inl ⟨_, .inl hw1⟩,_,fQ.k (k:=Sum.inr "+") hw1,_,_,U,hI.at _,JW (yf 0e1 0e1) (fw _),_,_,U,U,q _ e1⟩
variable {uC uP uI uD uL uT:Tok}{St:Py}
structure sX(K:1e8)(mg:2e1)(C R G Pc Fo St:Addr)(uK uN uB uE uM uC uP uI uD uL uT:Tok):Prop extends jW K mg C R G Pc Fo uK uN uB uE uM uC uP uI uD uL uT where
 kJ:mg "dict" =none
 Al:mg "sum" =none
 bB:t5 K St
 dZ:cG K St "amounts"
 qy:cG K St "gone"
 D7:mg "Store" =some (.ref St)
def nag:¬(("amounts" :Str)="gone"):=by decide+kernel
def A4(d g:Py):List (Str×V):=cN "gone" (.ref g) (cN "amounts" (.ref d) [])
def gu(d g:Py):(A4 d g).lookup ("amounts" :Str)=some (.ref d):=by
 unfold A4;rw[aD,if_neg nag,aD,if_pos rfl]
def Am(d g:Py):(A4 d g).lookup ("gone" :Str)=some (.ref g):=by
 unfold A4;rw[aD,if_pos rfl]
def fU(d g:Py){m:Str}(h1:¬m="gone")(h2:¬m="amounts"):(A4 d g).lookup m=none:=by
 unfold A4;rw[aD,if_neg h1,aD,if_neg h2]
 all_goals rfl
def kQ(St:Py)(H:Hp)(st d g:Py):Prop:=∃dx,H st=some (.ins St dx (A4 d g))
inductive D8(x:Str):Prop
 |mk (fm:Fm) (bM:cz fm) (bV:x=⟨(fL fm).toArray⟩)
inductive NO(St:Addr)(vs:List V)(H:Hp)(Q:VK)(E:XK):Prop
 |mk (st d g:Addr) (x:Str) (kvs:List (Key×V)) (bM:vs=[.ref st, .str x]) (bV:kQ St H st d g) (b8:H d=some (.dK kvs)) (cS:aY kvs) (eK:D8 x) (gS:∀H',au H H'->Q (.int (aG kvs (Sum.inr x))) H')
def CC(St:Py):Sp:=NO St
inductive SU(St:Addr)(vs:List V)(H:Hp)(Q:VK)(E:XK):Prop
 |mk (st d g:Addr) (x:Str) (m:Int) (kvs:List (Key×V)) (bM:vs=[.ref st, .str x, .int m]) (bV:kQ St H st d g) (b8:H d=some (.dK kvs)) (cS:aY kvs) (eK:kvs.length<=1000) (gS:D8 x) (lR:∀H',Kept d H H'->H' d=some (.dK (bZ kvs (Sum.inr x) m))->Q .cF H')
def Qe(St:Py):Sp:=SU St
def SV:ay ["self","text"] ["self","text"] (ao IG):=dE
def NP(D:a9 K St "have" "Store.have" IG ["self","text"])(T:sX K mg C R G Pc Fo St uK uN uB uE uM uC uP uI uD uL uT)(c1:bp P w K mg base 14 "read_formula" ["text"] (xQ C G Pc Fo 2)):aJ P w K mg base 15 St "have" ["self","text"] (CC St):=by
 obtain⟨_,_,ib⟩:=c1;refine D.dk SV 0e6 0e0
 ·obtain⟨st,d,g,x,kvs,rfl,_⟩:=h;rfl
 ·obtain⟨st,d,g,x,kvs,rfl,⟨dx,iu⟩,hd,hI,⟨fm,F2,ex⟩,q⟩:=h;have hu:=di hr;have pT:x.cps.toList=wL 2 fm.1 fm.2:=by rw[ex];rfl
  have hx4:x.length<=400:=by
   have:=F2.2.1;rw[ex,aL];omega
  refine⟨_,(ai (a7 (dR ib hr (aa (pv 1) aj))) (ak (aH (bS hu 2e4 (pv 1) aq ⟨U,U,U,U⟩)))),?_⟩;refine⟨_,U,x,fm.1,fm.2,U,pT,F2.1,by decide,hx4,λf H1 nf hF e1=>?_⟩;refine⟨_,U,st,St,dx,_,_,U,e1 _ _ iu,T.bB,T.dZ,gu _ _,d,U, .inl ⟨_, .inl (e1 _ _ hd)⟩,_,U,_,fQ.k (k:=Sum.inr x) (e1 _ _ hd),?_⟩;have e:=hI.at (Sum.inr x);rw[e];exact q _ e1
def XN:ay ["self","text","many"] ["self","text","many"] (ao Sk):=dE
def SW(D:a9 K St "put" "Store.put" Sk ["self","text","many"])(T:sX K mg C R G Pc Fo St uK uN uB uE uM uC uP uI uD uL uT)(c1:aJ P w K mg base 15 St "have" ["self","text"] (CC St)):aJ P w K mg base 16 St "put" ["self","text","many"] (Qe St):=by
 obtain⟨_,_,jJ⟩:=c1;refine D.dk XN 0e6 0e0
 ·obtain⟨st,d,g,x,m,kvs,rfl,_⟩:=h;rfl
 ·obtain⟨st,d,g,x,m,kvs,rfl,⟨dx,iu⟩,hd,hI,hl,hx,q⟩:=h;have hu:=di hr;refine⟨_,(ak (cP hu 2e4 (pv 1) (av bC (pR jJ hr T.bB 1e6 (aa (pv 1) aj)) (pv 2)) rfl)),?_⟩;refine⟨_,U,st,dx,_,U,iu,fU _ _ 0e4 0e4,_,U,st,d,g,x,kvs,U,⟨dx,iu⟩,hd,hI,hx,λH1 e1=>?_⟩;refine⟨_,U,_,_,U,U,_,U,st,St,dx,_,_,U,e1 _ _ iu,T.bB,T.dZ,gu _ _,_,U,d,_,U,iU.k (k:=Sum.inr x) (e1 _ _ hd) (k8 hl),?_⟩;refine q _ (λb o z n=>?_) ag;rw[ah n];exact e1 _ _ z
variable {uC uP uI uD uL uT:Tok}{St:Py}
def nF{kvs:PP}{k:Key}(h:¬k∈kvs.map 1e4):ck kvs k=none:=by
 cases e:ck kvs k with
 |none=>rfl
 |some v=>exact absurd (qb e) h
def JX{kvs:PP}{k:Key}(h:¬k∈kvs.map 1e4)(n:Int):bZ kvs k n=kvs++[(k, .int n)]:=by
 unfold bZ;rw[mF _ (nF h),fj (nF h),zero_add]
def NQ{kvs:PP}(hn:(kvs.map 1e4).Nodup){k:Key}{z:Int}(h:(k,V.int z)∈kvs):aG kvs k=z:=fk (gj hn h)
def take_out{kvs:PP}(hn:(kvs.map 1e4).Nodup){i:Nat}{p:Key×V}(h:kvs[i]? =some p):¬p.1∈(kvs.take i).map 1e4:=by
 intro m;have e:kvs.take (i+1)=kvs.take i++[p]:=take_snoc h;have hs:((kvs.take (i+1)).map 1e4).Nodup:=hn.sublist ((List.take_sublist _ _).map _);rw[e,map_append,List.nodup_append] at hs;exact hs.2.2 _ m p.1 2e0 rfl
inductive JY(St:Addr)(vs:List V)(H:Hp)(Q:VK)(E:XK):Prop
 |mk (p dx:Addr) (v:V) (kvs:List (Key×V)) (bM:vs=[.ref p,v]) (bV:H p=some (.ins St dx [])) (b8:((v= .cF/\kvs=[])\/∃a,v= .ref a/\H a=some 2e2)) (cS:aY kvs) (eK:(kvs.map (·.1)).Nodup) (gS:(∀q∈kvs,∃x,q.1=Sum.inr x/\D8 x)) (lR:kvs.length<=900) (rV:∀d g H',H d=none->H g=none->d≠g->kQ St H' p d g->H' d=some 2e2->H' g=some (.lst [])->(∀b o,H b=some o->b≠p->H' b=some o)->Q .cF H')
def D9(St:Py):Sp:=JY St
def Ea:ay ["self","amounts","text"] ["self","amounts"] (ao BU):=dE
def JZ(D:Iy K St "Store.__init__" BU ["self","amounts"])(T:sX K mg C R G Pc Fo St uK uN uB uE uM uC uP uI uD uL uT)(c1:aJ P w K mg base 16 St "put" ["self","text","many"] (Qe St)):Iz P w K mg base q5 17 St ["self","amounts"] (D9 St):=by
 obtain⟨_,_,An⟩:=c1;refine D.dk Ea 0e6 0e0
 ·obtain⟨p,dx,v,kvs,rfl,_⟩:=h;rfl
 ·obtain⟨p,dx,v,kvs,rfl,hp,hv,hI,hn,hg,hl,q⟩:=h;have hu:=di hr
  refine⟨_,(ai (eN 1e6 eC rfl) (ai (eN 1e6 (bO aj) rfl) (ak (bR (qL (wA (pv 1))) (ak (dM (bF PassesOwn.never rfl (cQ (pv 1)) (aF (i:=2) Ea.nd rfl 0e3) (ak (a7 (pR An hr T.bB 1e6 (aa (pv 2) (aa (cf hu (pv 1) (pv 2) 1e3) aj))))))))
      aS)))),?_⟩
  refine λd hd=>?_;have XO:p≠d:=af hp hd;refine⟨_,U,p,St,dx,[],U,(by rw[ah XO];exact hp),T.bB,T.dZ,(by show 0<1000;decide),(by show 0<=sizeLine;decide),λg DM=>?_⟩;have npg:p≠g:=λz=>by rw[z,ag] at DM;cases DM
  rw[ah (Ne.symm npg)] at DM;have B9:d≠g:=λz=>by rw[z,ag] at DM;cases DM
  rw[ah (Ne.symm B9)] at DM;refine⟨_,U,p,St,dx,_,U,(by rw[ah npg,ag]),T.bB,T.qy,(by show 1<1000;decide),?_⟩;generalize hH1:upd (upd (upd (upd H d (.dK [])) p (.ins St dx (cN "amounts" (.ref d) []))) g (.lst [])) p (.ins St dx (cN "gone" (.ref g) (cN "amounts" (.ref d) [])))=H1;have h1p:H1 p=some (.ins St dx (A4 d g)):=by rw[<-hH1,ag];rfl
  have h1d:H1 d=some (.dK []):=by rw[<-hH1,ah (Ne.symm XO),ah B9,ah (Ne.symm XO),ag]
  have h1g:H1 g=some (.lst []):=by rw[<-hH1,ah (Ne.symm npg),ag]
  have h1o:∀b o,H b=some o->b≠p->H1 b=some o:=λb o z n=>by
   rw[<-hH1,ah n,ah (af z DM),ah n,ah (af z hd)];exact z
  rcases hv with ⟨rfl,rfl⟩ | ⟨a,rfl,ha⟩
  ·exact⟨_,U,_,U,d4 (q d g H1 hd DM B9 ⟨dx,h1p⟩ h1d h1g h1o)⟩
  ·have nap:a≠p:=bj ha hp 0e7;have G2:=h1o a _ ha nap;have nad:a≠d:=af ha hd;have nag:a≠g:=af ha DM;refine⟨_,U,_,U,je ?_⟩;refine⟨_,U,a,kvs,U,G2,λo nf=>dw nf (λi σ H'=>∃v2:Option V,σ=[some (.ref p),some (.ref a),v2]/\H' d=some (.dK (kvs.take i))/\∀b o',H1 b=some o'->b≠d->H' b=some o') ?_ (λi σ H' ⟨_,_,_,e⟩=>e _ _ G2 nad) ?_ ?_⟩
   ·exact⟨none,U,h1d,λb o' z _=>z⟩
   ·rintro i k v σ H' hi ⟨v2,rfl,gD,e⟩;obtain⟨x,ex,gx⟩:=hg _ (mem_of_getElem? hi);have ex:k=Sum.inr x:=ex;subst ex;have hv:=hI.dO (mem_of_getElem? hi);obtain⟨z,ez⟩:=hI _ (mem_of_getElem? hi);have ez:v=V.int z:=ez;subst ez
    have XE:aG kvs (Sum.inr x)=z:=by
     have m:=mem_of_getElem? hi;exact fk (by rw[hv];exact congrArg some (by rw[NQ hn m]))
    have zj:(upd H' a (.eI o 2e2)) p=some (.ins St dx (A4 d g)):=by rw[ah (Ne.symm nap)];exact e _ _ h1p XO
    have hdd:(upd H' a (.eI o 2e2)) d=some (.dK (kvs.take i)):=by rw[ah (Ne.symm nad)];exact gD
    refine⟨_,U,p,dx,_,U,zj,fU _ _ 0e4 0e4,_,U,_,U,_,U,a,V.int z,U, .inl ⟨_,Sum.inr x, .inr ⟨o,ag⟩,U,(by rw[hv,XE])⟩,p,d,g,x,z,kvs.take i,U,⟨dx,zj⟩,hdd,λq hq=>hI q (mem_of_mem_take hq),?_,gx,λH2 kp hd2=>?_⟩
    ·rw[length_take];omega
    ·refine⟨kp _ _ ag nad,some (.str x),U,?_,λb o' z' nb=>?_⟩
     ·rw[ah (Ne.symm nad),hd2,JX (take_out hn hi),take_snoc hi]
     ·by_cases ba:b=a
      ·subst ba;rw[ag];rw[G2] at z';exact z'
      ·rw[ah ba];refine kp _ _ ?_ nb;rw[ah ba];exact e _ _ z' nb
   ·rintro σ H' ⟨v2,rfl,gD,e⟩;rw[take_length] at gD;exact q d g H' hd DM B9 ⟨dx,e _ _ h1p XO⟩ gD (e _ _ h1g (Ne.symm B9)) λb o' z nb=>e _ _ (h1o b o' z nb) (af z hd)
variable {uC uP uI uD uL uT:Tok}{St:Py}
def uu(x:Fm)(k:Str):Int:=NM (cW 2 x.1) [(Sum.inr k, .int 1)] (cW 2 x.1)+x.2*aG [(Sum.inr k, .int 1)] (Sum.inr "+")
def zv:V->Int
 | .int i=>i
 |_=>0
def Eb(q:Key×V)(x:Fm):Prop:=q.1=Sum.inr (⟨(fL x).toArray⟩:Str)/\cz x/\CA 128 (cW 2 x.1)/\∀k, -(2^60) <uu x k/\uu x k<2^60
def uv(kvs:PP)(fs:List Fm)(k:Str):List Int:=List.zipWith (λq x=>zv q.2*uu x k) kvs fs
inductive J0(St:Addr)(vs:List V)(H:Hp)(Q:VK)(E:XK):Prop
 |mk (st d g:Addr) (k:Str) (kvs:List (Key×V)) (fs:List Fm) (bM:vs=[.ref st, .str k]) (bV:kQ St H st d g) (b8:H d=some (.dK kvs)) (cS:aY kvs) (eK:kvs.length<=900) (gS:Paired Eb kvs fs) (lR:∀H',au H H'->Q (.int (uv kvs fs k).sum) H')
def Ec(St:Py):Sp:=J0 St
def J1{xs:List ir}{n:Int}(h:Ji 2 xs n): -999<=n/\n<=999:=by
 cases xs with
 |nil=>
  have h:n= -1:=h;omega
 |cons x r=>
  obtain⟨_,_,h1,h2⟩:=h;exact⟨h1,h2⟩
def NR(k:Str):CA 128 [(Sum.inr k, .int 1)]:=λk'=>by
 have e:aG [(Sum.inr k, .int 1)] k'=if k'=Sum.inr k then 1 else 0:=by
  have:=dN [] (Sum.inr k) k' 1;exact this
 rw[e];split
 ·exact yf 0e2 0e2
 ·exact yf 0e2 0e2
def NS(k:Str):aY [(Sum.inr k,V.int 1)]:=λp hp=>by
 have e:p=(Sum.inr k,V.int 1):=by simpa using hp
 exact⟨1,by rw[e]⟩
def NT:ay ["self","kind"] ["self","kind"] (ao xq):=dE
def J2(D:a9 K St "total" "Store.total" xq ["self","kind"])(T:sX K mg C R G Pc Fo St uK uN uB uE uM uC uP uI uD uL uT)(c1:bp P w K mg base 14 "read_formula" ["text"] (xQ C G Pc Fo 2))(c2:aJ P w K mg base 10 Fo "weight" ["self","weights"] (sW C G Pc Fo 2)):aJ P w K mg base 15 St "total" ["self","kind"] (Ec St):=by
 obtain⟨_,_,ib⟩:=c1;obtain⟨_,_,oU⟩:=c2;refine D.dk NT 0e6 0e0
 ·obtain⟨st,d,g,k,kvs,fs,rfl,_⟩:=h;rfl
 ·obtain⟨st,d,g,k,kvs,fs,rfl,⟨dx,iu⟩,hd,hI,hl,hP,q⟩:=h;have hu:=di hr;have big:=bgL;have fP:=Paired.length hP;refine⟨_,(ak (aH (bG (rn rfl) rfl T.Al Bt (aa (mH (fW (sc:=(ao xq)) (NX:=["self","kind"]) (N:=["text","many","kind"]) (fr:=[none,none,some 1]) Ds rfl rfl rfl (zC 2e4) (λ_ _ _ _=>(mL K 2 rfl rfl (aP (aF (i:=0) (show (["text","many","kind"]:On).Nodup by decide+kernel) rfl 0e3 (Or.inr rfl)) (aP (aF (i:=1) (show (["text","many","kind"]:On).Nodup by decide+kernel) rfl 0e3 (Or.inr rfl)) cL)))) (λ_ _ _ _=>gJ) (λ_ _ _ _=>(av dm (pv 1) (pR oU hr T.bz (dR ib hr (aa 1e6 aj)) (aa (iy (gi (pv 2) aq ix) rfl rfl 0e7 0e2) aj)))))) aj)))),?_⟩;refine⟨_,U,st,St,dx,_,_,U,iu,T.bB,T.dZ,gu _ _,d,kvs,U,hd,λo nf L hL=>?_⟩;have nLd:L≠d:=λz=>by rw[z,ag] at hL;cases hL
  have hz:(upd H d (.eI o 2e2)) d=some (.eI o 2e2):=ag;refine Dj (J:=U' d o kvs) (L:=L) kvs.length (upd H d (.eI o 2e2)) (fun σ=>∃v u:Option V,σ=[v,u,some (.str k)]) (λi ys=>ys=((uv kvs fs k).take i).map V.int) (items_go hz) (rE hz) hL ⟨none,none,rfl⟩ (au.new hL) ag rfl 0e1 ?_ ?_ ?_
  ·rintro i ys rfl;rw[length_map,length_take];omega
  ·rintro i σ H2 ys hi ⟨v,u,rfl⟩ hs vC rfl N M hN y H3 ⟨t,kk,vv,pO,ht,rfl,rfl⟩;obtain⟨x,hx,ek,F2,fc,wb⟩:=bc hP pO;have ek:kk=Sum.inr (⟨(fL x).toArray⟩:Str):=ek;subst ek;obtain⟨z,ez⟩:=hI _ (mem_of_getElem? pO);have ez:vv=V.int z:=ez;subst ez;have hzw:(uv kvs fs k)[i]? =some (z*uu x k):=by unfold uv;rw[List.getElem?_zipWith,pO,hx];rfl
   have hx4:(⟨(fL x).toArray⟩:Str).length<=400:=by
    have:=F2.2.1;rw[aL];omega
   obtain⟨n1,n2⟩:=J1 F2.1;have s3:=hs.trans (au.new (o:= .tup [.str ⟨(fL x).toArray⟩, .int z]) ht);refine⟨t,_,U,gE.of ag,U,_,_,U,_,_,U,U,_,U,_,U,_,x.1,x.2,U,U,F2.1,by decide,hx4,λf4 H4 nf4 hF e4=>?_⟩;have hF4:=hF H4 λb o' _ z2=>z2;obtain⟨df,lf,pf,hf4,_⟩:=id hF4;refine⟨f4,df,_,U,hf4,kF _ _ 0e4 0e4,λw5 hw5=>⟨_,U,ag,[(Sum.inr k, .int 1)],U,(by show 1<=15;decide),?_⟩⟩
   have s5:au H4 (upd (upd H4 w5 (.dK [])) w5 (.dK (bD [] [(Sum.inr k, .int 1)]))):=λb o' z'=>by
    rw[ah (af z' hw5),ah (af z' hw5)];exact z'
   have XQ:(x.1.flatMap (bT 2)).length<=400:=le_trans F2.2.2 0e2;refine⟨f4,w5,x.1,x.2,[(Sum.inr k, .int 1)],U,hF4.same s5,F2.1,n1,n2,XQ,fc,by rw[ag];rfl,NS k,NR k,λH6 e6=>?_⟩;have s6:=((e4.trans s5).trans e6);refine⟨_,_,U,U, .inr ⟨by have:=(wb k).1;show -(2^64) <uu x k;omega,by have:=(wb k).2;show uu x k<2^64;omega⟩,hN _ _ _ ⟨_,_,U⟩ (s3.trans s6) ?_ ?_⟩
   ·exact s6 _ _ (by rw[ah (af vC ht)];exact vC)
   ·rw[Fn hzw,map_append];rfl
  ·rintro H2 ys hs vC rfl;have lT:(uv kvs fs k).length<=kvs.length:=by unfold uv;rw[List.length_zipWith];omega
   refine⟨d,o,kvs,hs _ _ hz,nf,L,uv kvs fs k,U,bh.of ?_,q _ λb o' z'=>?_⟩
   ·rw[ah nLd,vC,take_of_length_le lT]
   ·by_cases bd:b=d
    ·subst bd;rw[ag];rw[hd] at z';exact z'
    ·rw[ah bd];exact hs _ _ (by rw[ah bd];exact z')
def jK(kvs:PP):List (Key×V):=kvs.filter λq=>decide (0<zv q.2)
inductive Ga(St:Addr)(vs:List V)(H:Hp)(Q:VK)(E:XK):Prop
 |mk (st d g:Addr) (kvs:List (Key×V)) (bM:vs=[.ref st]) (bV:kQ St H st d g) (b8:H d=some (.dK kvs)) (cS:aY kvs) (eK:(kvs.map (·.1)).Nodup) (gS:kvs.length<=900) (lR:∀e H',H e=none->H' e=some (.dK (jK kvs))->au H H'->Q (.ref e) H')
def sY(St:Py):Sp:=Ga St
def J3:ay 1e1 1e1 (ao qj):=dE
def PvS(L:Py)(kvs:PP)(H0:Hp):Nat->List V->Hp->Prop:=λi ys H'=>∃ps:List (Addr×Key×V),ys=ps.map (λp=>V.ref p.1)/\(∀p∈ps,H' p.1=some (.tup [kV p.2.1,p.2.2])/\p.1≠L)/\ps.map (·.2)=jK (kvs.take i)
def NU(kvs:PP):(jK kvs).length<=kvs.length:=List.length_filter_le _ _
def Gb(D:a9 K St "stocks" "Store.stocks" qj 1e1)(T:sX K mg C R G Pc Fo St uK uN uB uE uM uC uP uI uD uL uT):aJ P w K mg base 1 St "stocks" 1e1 (sY St):=by
 refine D.dk J3 0e6 0e0
 ·obtain⟨st,d,g,kvs,rfl,_⟩:=h;rfl
 ·obtain⟨st,d,g,kvs,rfl,⟨dx,iu⟩,hd,hI,hn,hl,q⟩:=h;have hu:=di hr;have big:=bgL;refine⟨_,(ak (aH (bx (rj rfl) rfl T.kJ jf (aa (mH (fW (sc:=(ao qj)) (NX:=1e1) (N:=["text","many"]) (fr:=[none,none]) Ds rfl rfl rfl (zC 2e4) (λ_ _ _ _=>(mL K 2 rfl rfl (aP (aF (i:=0) (show (["text","many"]:On).Nodup by decide+kernel) rfl 0e3 (Or.inr rfl)) (aP (aF (i:=1) (show (["text","many"]:On).Nodup by decide+kernel) rfl 0e3 (Or.inr rfl)) cL)))) (λ_ _ _ _=>(mI (aO j4 (pv 1) aq (aT _)))) (λ_ _ _ _=>(bW (aa 1e6 (aa (pv 1) aj)))))) aj)))),?_⟩;refine⟨_,U,st,St,dx,_,_,U,iu,T.bB,T.dZ,gu _ _,d,kvs,U,hd,λo nf L hL=>?_⟩;have nLd:L≠d:=λz=>by rw[z,ag] at hL;cases hL
  have hz:(upd H d (.eI o 2e2)) d=some (.eI o 2e2):=ag;refine Fw (J:=U' d o kvs) (L:=L) kvs.length (upd H d (.eI o 2e2)) (fun σ=>∃v u:Option V,σ=[v,u]) (PvS L kvs H) (items_go hz) (rE hz) ?_ hL ⟨none,none,rfl⟩ (au.new hL) ag ⟨[],rfl,(λp hp=>by cases hp),rfl⟩ 0e1 ?_ ?_ ?_
  ·rintro i ys H1 H2 e ⟨ps,e1,e2,e3⟩;exact⟨ps,e1,λp hp=>⟨e _ _ (e2 p hp).1 (e2 p hp).2,(e2 p hp).2⟩,e3⟩
  ·rintro i ys H1 ⟨ps,e1,_,e3⟩;have h1:=congrArg List.length e3;have h2:=NU (kvs.take i);rw[length_map] at h1;rw[length_take] at h2;rw[e1,length_map];omega
  ·rintro i σ H2 ys hi ⟨v,u,rfl⟩ hs vC ⟨ps,rfl,e2,e3⟩ N M hN hM y H3 ⟨t,kk,vv,pO,ht,rfl,rfl⟩;obtain⟨z,ez⟩:=hI _ (mem_of_getElem? pO);have ez:vv=V.int z:=ez;subst ez;have s3:=hs.trans (au.new (o:= .tup [kV kk, .int z]) ht);have oI:(upd H2 t (.tup [kV kk, .int z])) L=some (.lst (ps.map λp=>V.ref p.1)):=by rw[ah (af vC ht)];exact vC
   refine⟨t,_,U,gE.of ag,U,_,_,U,_,_,U,U,_,U,_,_,U,U,_,U,fJ (λec=>?_) λec=>?_⟩
   ·have ec:0<z:=by simpa using ec
    refine⟨_,U,_,U,1e2,λt2 ht2=>?_⟩;have s4:=au.new (o:= .tup [kV kk, .int z]) ht2;have Vh:L≠t2:=af oI ht2;refine hN _ _ _ ⟨_,_,rfl⟩ (s3.trans s4) (s4 _ _ oI) ⟨ps++[(t2,kk, .int z)],by rw[map_append];rfl,λp hp=>?_,?_⟩
    ·rcases mem_append.mp hp with hp|hp
     ·exact⟨s4 _ _ (au.new ht _ _ (e2 p hp).1),(e2 p hp).2⟩
     ·have e':p=(t2,kk, .int z):=by simpa using hp
      subst e';exact⟨ag,Ne.symm Vh⟩
    ·unfold jK at e3 |-;rw[map_append,e3,take_snoc pO,filter_append,show [(kk,V.int z)].filter (λq=>decide (0<zv q.2))=[(kk,V.int z)] by simp [zv,ec]];rfl
   ·have ec:¬0<z:=by simpa using ec
    refine hM _ _ ⟨_,_,rfl⟩ s3 oI ⟨ps,rfl,λp hp=>⟨au.new ht _ _ (e2 p hp).1,(e2 p hp).2⟩,?_⟩;unfold jK at e3 |-;rw[e3,take_snoc pO,filter_append,show [(kk,V.int z)].filter (λq=>decide (0<zv q.2))=[] by simp [zv,ec],append_nil]
  ·rintro H2 ys hs vC ⟨ps,rfl,e2,e3⟩;rw[take_length] at e3
   have s2:au H (upd H2 d 2e2):=λb o' z'=>by
    by_cases bd:b=d
    ·subst bd;rw[ag];rw[hd] at z';exact z'
    ·rw[ah bd];exact hs _ _ (by rw[ah bd];exact z')
   refine⟨d,o,kvs,hs _ _ hz,nf,L,ps,U,by rw[ah nLd];exact vC,λp hp=>?_,λe he=>?_⟩
   ·have p1:=(e2 p hp).1;rw[ah (bj p1 (hs _ _ hz) 0e7)];exact p1
   ·have e8:bD [] (ps.map (·.2))=jK kvs:=by
     rw[e3,sM _ [] (by rw[nil_append];exact(filter_sublist.map _).nodup hn),nil_append]
    rw[e8];exact q e _ (none_back s2 he) ag (s2.trans (au.new he))
variable {uC uP uI uD uL uT:Tok}{St:Py}
theorem vW:∀(d:Nat) (m:Int) (t:Tr),jY d t->∀p∈bI d m t,∃k,lF k/\p.1=⟨k.toArray⟩
 |d,m, .one k n,h,p,hp=>by
  have e:bI d m (.one k n)=[(⟨k.toArray⟩,n*m)]:=by cases d<;>rfl
  rw[e] at hp;have h:lF k/\1<=n/\n<=999:=by cases d<;>exact h
  have ep:p=(⟨k.toArray⟩,n*m):=by simpa using hp
  exact⟨k,h.1,by rw[ep]⟩
 |0,_, .gr _ _,h,_,_=>h.elim
 |d+1,m, .gr ts n,h,p,hp=>by
  obtain⟨t,ht,hp⟩:=mem_flatMap.mp hp;exact vW d (n*m) t (h.2.1 t ht) p hp
def ic{k:IR}(h:lF k):(⟨k.toArray⟩:Str)≠"+" :=by
 obtain⟨c,rr,rfl,hc,_⟩:=h;rw[e43];intro z';have:=congrArg (λs:Str=>s.cps.toList) z'
 have e2:c=43:=by
  have h3:(c::rr)=[43]:=by simpa using this
  exact(List.cons.inj h3).1
 subst e2;simp [zF] at hc
def SX{k:IR}(hk:lF k){n:Int}(n1:1<=n)(n2:n<=999):Xw [.one k n]:=by
 refine⟨by simp,λt ht=>?_,?_,(by show 1<=5;decide)⟩
 ·have e:t= .one k n:=by simpa using ht
  subst e;exact⟨hk,n1,n2⟩
 ·have h1:=kL hk;have h2:=zR n1 n2;show ((k++aQ n)++[]).length<=23;rw[append_nil,length_append];omega
def NV{k:IR}(hk:lF k):cz ([(1,[.one k 1])],0):=DP (P9 (SX hk 0e2 0e2)) 0e2 0e2
def SY(k:IR):fL ([(1,[.one k 1])],0)=k:=by
 show (k++aQ 1++[])++([]++eh 0)=_;rw[fig1,show eh 0=[] from rfl];simp
def XR:cz ([], -1):=⟨rfl,(by show 3<=33;decide),(by show 0<=7;decide)⟩
def fE_x:(⟨(fL ([], -1)).toArray⟩:Str)="e^-" :=by decide+kernel
def qz{kvs:PP}{k:Key}{v:V}{q:Key×V}(h:q∈putK kvs k v):q∈kvs\/q=(k,v):=by
 unfold putK at h;split at h
 ·obtain⟨r,hr,e⟩:=mem_map.mp h;subst e;split
  ·rename_i e
   exact .inr (by rw[e])
  ·exact .inl hr
 ·rcases mem_append.mp h with h|h
  ·exact .inl h
  ·exact .inr (by simpa using h)
def NW{kvs:PP}{k:Key}{v:V}{j:Key}(h:j∈(putK kvs k v).map 1e4):j∈kvs.map 1e4\/j=k:=by
 obtain⟨q,hq,rfl⟩:=mem_map.mp h;rcases qz hq with hq|hq
 ·exact .inl (mem_map_of_mem hq)
 ·exact .inr (by rw[hq])
theorem jL{Pk:Key->Prop}(t:Int):∀(as:Uf) (acc:PP),(∀q∈acc,Pk q.1)->(∀p∈as,Pk (Sum.inr p.1))->∀q∈aV t acc as,Pk q.1
 | [],_,h,_,q,hq=>h q hq
 |p::r,acc,h,h',q,hq=>by
  refine jL t r (bZ acc (Sum.inr p.1) (p.2*t)) (λq hq=>?_) (λp hp=>h' p (mem_cons_of_mem _ hp)) q hq;rcases qz hq with hq|hq
  ·exact h q hq
  ·rw[hq];exact h' p 1e0
def S0{x:Fm}(h:cz x):∀q∈cW 2 x.1,∃k,lF k/\q.1=Sum.inr (⟨k.toArray⟩:Str):=by
 refine jL (Pk:=λj=>∃k,lF k/\j=Sum.inr (⟨k.toArray⟩:Str)) 1 _ [] (λq hq=>by cases hq) λp hp=>?_;obtain⟨y,hy,hp⟩:=mem_flatMap.mp hp;have uo:=qu h.1 y hy;obtain⟨t,ht,hp⟩:=mem_flatMap.mp hp;obtain⟨k,hk,e⟩:=vW 2 y.1 t (uo.2.1 t ht) p hp;exact⟨k,hk,by rw[e]⟩
def J4{x:Fm}(h:cz x):Fz (2^50) (cW 2 x.1):=by
 have hb:=xx (t:=1) (b:=1000000000000) 0e2 (x.1.flatMap (bT 2)) [] 0 (Int.le_refl _) (λp hp=>by cases hp) λp hp=>by
  obtain⟨y,hy,hp⟩:=mem_flatMap.mp hp;obtain⟨_,h1,n1,n2⟩:=qu h.1 y hy;obtain⟨t,ht,hp⟩:=mem_flatMap.mp hp;obtain⟨q1,q2⟩:=sT 2 y.1 t (h1 t ht) 0e1 p hp;rw[mul_one];refine⟨q1,?_⟩
  have:(999 :Int) ^2*y.1<=998001*999:=by
   rw[show (999 :Int) ^2=998001 from rfl];exact Int.mul_le_mul_of_nonneg_left n2 0e2
  omega
 intro p hp;obtain⟨i,e,b0,b1⟩:=hb p hp;refine⟨i,e,b0,?_⟩;have:=h.2.2;have:(2 :Int) ^50=1125899906842624:=by decide
 have e7:((x.1.flatMap (bT 2)).length:Int)*1000000000000<=7*1000000000000:=Int.mul_le_mul_of_nonneg_right 0e1 0e2;omega
def XS(x:Fm):((cW 2 x.1).map 1e4).Nodup:=iE _
theorem Ao(f:Key->Int)(j:Key):∀{l:PP},(l.map 1e4).Nodup->(l.map λp=>f p.1*(if p.1=j then 1 else 0)).sum=if j∈l.map 1e4 then f j else 0
 | [],_=>rfl
 |p::r,hn=>by
  rw[map_cons,nodup_cons] at hn;rw[map_cons,sum_cons,Ao f j hn.2,map_cons];by_cases e:p.1=j
  ·subst e;rw[if_pos rfl,if_neg hn.1,if_pos 1e0,mul_one,add_zero]
  ·rw[if_neg e,mul_zero,zero_add];by_cases m:j∈r.map 1e4
   ·rw[if_pos m,if_pos (mem_cons_of_mem _ m)]
   ·rw[if_neg m,if_neg (λz=>by rcases mem_cons.mp z with z|z;exact e z.symm;exact m z)]
def qA(k:Str)(k':Key):aG [(Sum.inr k, .int 1)] k'=if k'=Sum.inr k then 1 else 0:=dN [] (Sum.inr k) k' 1
def NY{D:PP}(hn:(D.map 1e4).Nodup)(k:Str):NM D [(Sum.inr k, .int 1)] D=aG D (Sum.inr k):=by
 have h:=Ao (aG D) (Sum.inr k) hn;unfold NM;have e:(D.map λp=>aG D p.1*aG [(Sum.inr k,V.int 1)] p.1)=D.map λp=>aG D p.1*(if p.1=Sum.inr k then 1 else 0):=map_congr_left λp _=>by rw[qA]
 rw[e,h];split
 ·rfl
 ·rename_i m
  rw[fj (nF m)]
def NZ{x:Fm}(h:cz x):¬(Sum.inr "+" :Key)∈(cW 2 x.1).map 1e4:=λm=>by
 obtain⟨q,hq,e⟩:=mem_map.mp m;obtain⟨k,hk,e'⟩:=S0 h q hq;rw[e] at e';injection e' with e';exact ic hk e'.symm
def kD(x:Fm):List (Key×V):=putK (cW 2 x.1) (Sum.inr "+") (.int x.2)
def J6{x:Fm}(h:cz x)(k:Str):uu x k=aG (kD x) (Sum.inr k):=by
 unfold uu kD;rw[NY (XS x),dN,qA];by_cases e:k="+"
 ·subst e;rw[if_pos rfl,if_pos rfl,fj (nF (NZ h)),zero_add,mul_one]
 ·rw[if_neg (λz=>e (by injection z with z;exact z.symm)),if_neg (λz=>e (by injection z)),mul_zero,add_zero]
def S3{x:Fm}(h:cz x)(k:Str): -(2^60) <uu x k/\uu x k<2^60:=by
 rw[J6 h];unfold kD;rw[dN];split
 ·have:=J1 h.1;omega
 ·have:=(J4 h).MO 0e2 (Sum.inr k);omega
def S6{x:Fm}(h:cz x)(v:V):Eb (Sum.inr (⟨(fL x).toArray⟩:Str),v) x:=⟨rfl,h,NL λp hp=>by
 obtain⟨i,e,b0,b1⟩:=J4 h p hp;have:(2 :Int) ^50<=2^127:=by decide
 exact⟨i,e,b0,by omega⟩,S3 h⟩
variable {HE Sh:Py}
def sZ{n:Int}(h0:0<=n)(h:n<10^60):(toString n:Str).length<=60:=by
 rw[PySem.ofString_length];obtain⟨m,rfl⟩:=eq_ofNat_of_zero_le h0;show (Nat.repr m).length<=60;rw[Nat.length_repr_le_iff 0e2];omega
def tf{n:Int}(h0:0<=n)(h:n<10^60):n.natAbs.log2<1920:=by
 by_cases e:n.natAbs=0
 ·rw[e];decide
 ·have:=(log2_lt e (k:=200)).mpr 0e1;omega
structure N0(K:1e8)(mg:2e1)(HE Sh:Addr):Prop where
 pG:mg "HallError" =some (.ref HE)
 yg:PX K HE
 yh:PySem.W.MF K HE
 N3:mg "Short" =some (.ref Sh)
 S7:PySem.W.takerIn K Sh "step" =some none
 S8:PySem.W.takerIn K Sh "turn" =some none
 Gd:PySem.W.takerIn K Sh "formula" =some none
 S9:PySem.W.takerIn K Sh "lack" =some none
 S':PySem.W.findIn K (.ref Sh) "step" =some none
 Ta:PySem.W.findIn K (.ref Sh) "turn" =some none
 Ge:PySem.W.findIn K (.ref Sh) "formula" =some none
 Tb:PySem.W.findIn K (.ref Sh) "lack" =some none
 J7:XIs K Sh
 J8:PySem.W.mroIn K Sh (.ref HE)=some true
def G3(st tn:Int)(x:Str)(lk:Int):List (Str×V):=cN "lack" (.int lk) (cN "formula" (.str x) (cN "turn" (.int tn) [("step", .int st)]))
inductive J9(Sh:Addr)(vs:List V)(H:Hp)(Q:VK)(E:XK):Prop
 |mk (e:Addr) (st tn:Int) (x:Str) (lk:Int) (bM:vs=[.ref e, .int st, .int tn, .str x, .int lk]) (bV:H e=some (vj e Sh none)) (b8:0<=st) (cS:st<10^60) (eK:0<=tn) (gS:tn<10^60) (lR:x.length<=100) (rV:0<=lk) (yJ:lk<10^60) (LF:∀dx H',H dx=none->dx≠e->H' e=some (vj e Sh (some dx))->H' dx=some (AY dx (G3 st tn x lk))->(∀b o,H b=some o->b≠e->H' b=some o)->Q .cF H')
def Ed(Sh:Py):Sp:=J9 Sh
def N4:ay ["self","step","turn","formula","lack"] ["self","step","turn","formula","lack"] (ao BV):=dE
def Ka(D:ID K mg "Short" Sh HE "Short.__init__" BV ["self","step","turn","formula","lack"])(T:N0 K mg HE Sh):BJ P w K mg base 1 "Short" Sh HE ["self","step","turn","formula","lack"] (Ed Sh):=by
 obtain⟨f0,_,_,Z,_⟩:=id D;refine D.dk N4 0e6 0e0
 ·obtain⟨e,st,tn,x,lk,rfl,_⟩:=h;rfl
 ·obtain⟨e,st,tn,x,lk,rfl,he,s0,s1,t0,t1,hx,l0,l1,q⟩:=h;have big:=bgL;have z1:=sZ s0 s1;have z2:=sZ t0 t1;have z3:=sZ l0 l1;refine⟨_,(ai (a7 (Iv rfl T.pG T.yg 1e6 (ME (iA aZ (iA (xb (pv 1)) (iA aZ (iA (xb (pv 2)) (iA aZ (iA (xb (pv 3)) (iA aZ (iA (xb (pv 4)) R9))))))))))) (ai (qd 1e6 (pv 1) rfl) (ai (qd 1e6 (pv 2) rfl) (ai (qd 1e6 (pv 3) rfl) (ak (qd 1e6 (pv 4) rfl)))))),?_⟩;have y1:("step " :Str).length=5:=by decide+kernel
  have y2:(", turn " :Str).length=7:=by decide+kernel
  have y3:(": of " :Str).length=5:=by decide+kernel
  have y4:(" there lacks " :Str).length=13:=by decide+kernel
  have y0:(Str.empty).length=0:=rfl;refine⟨_,U,_,U,?_,_,U, .inl ⟨_,U,tf s0 s1,_,U,?_,_,U,?_,_,U, .inl ⟨_,U,tf t0 t1,_,U,?_,_,U,?_,_,U, .inr ⟨_,U,by omega,_,U,?_,_,U,?_,_,U, .inl ⟨_,U,tf l0 l1,_,U,?_,?_,e,Sh,HE,f0,none,U,Z,he,?_⟩⟩⟩⟩⟩
  any_goals (simp only [az,y0,y1,y2,y3,y4];omega)
  refine⟨_,U,_,U,e,Sh,HE,f0,U,Z,T.S7, .inl ⟨he,λdx LI LJ=>?_⟩⟩;have h1:(upd (upd H dx (AY dx [("step", .int st)])) e (vj e Sh (some dx))) e=some (vj e Sh (some dx)):=ag;have h2:(upd (upd H dx (AY dx [("step", .int st)])) e (vj e Sh (some dx))) dx=some (AY dx [("step", .int st)]):=by rw[ah LJ,ag]
  refine⟨_,U,_,U,e,Sh,HE,f0,U,Z,T.S8, .inr ⟨dx,_,h1,h2,(by show 1<1000;decide),?_⟩⟩;refine⟨_,U,_,U,e,Sh,HE,f0,U,Z,T.Gd, .inr ⟨dx,_,by rw[ah (Ne.symm LJ)];exact h1,ag,lt_of_le_of_lt (gg _ _ _) (by show 1+1<1000;decide),?_⟩⟩;refine⟨_,U,_,U,e,Sh,HE,f0,U,Z,T.S9, .inr ⟨dx,_,by rw[ah (Ne.symm LJ),ah (Ne.symm LJ)];exact h1,ag,lt_of_le_of_lt (gg _ _ _) (lt_of_le_of_lt (Nat.add_le_add_right (gg _ _ _) 1) (by show 1+1+1<1000;decide)),?_⟩⟩;refine q dx _ LI LJ (by rw[ah (Ne.symm LJ),ah (Ne.symm LJ),ah (Ne.symm LJ)];exact h1) ag λb o z nb=>?_;have nbd:=af z LI;rw[ah nbd,ah nbd,ah nbd,ah nb,ah nbd];exact z
variable {uC uP uI uD uL uT fG fH fI uG uS:Tok}{Ch HE Sh:Py}
def yK(a t g:Int):Option Int:=if a<t then some 0 else if 0<=g then none else some ((a - t) /(-g)+1)
def eR:List (Option Int)->Option Int
 | []=>none
 |none::r=>eR r
 |some i::r=>match eR r with
  |none=>some i
  |some j=>some (if j<i then j else i)
def aI(xs:NE):List (Key×V):=aV 1 [] (dQ xs)
def vX(am:PP)(xs ys:NE):Option Int:=eR ((aI xs).map λq=>yK (aG am q.1) (aG (aI xs) q.1) (aG (gO xs ys) q.1))
def cM(am:PP)(xs ys:NE)(m:Int):List (Key×V):=cX m am (gO xs ys) (gO xs ys)
def dj(th tk:PP):List (Key×V)->Option (Key×Int)
 | []=>none
 |q::r=>if 0<aG tk q.1 - aG th q.1 then some (q.1,aG tk q.1 - aG th q.1) else dj th tk r
def eS(th tk:PP)(q:Key×V)(r:PP):dj th tk (q::r)=if 0<aG tk q.1 - aG th q.1 then some (q.1,aG tk q.1 - aG th q.1) else dj th tk r:=rfl
def oV:Option Int->V
 |none=> .cF
 |some i=> .int i
def smG(xs ys:NE):Prop:=∀k, -(2^62) <aG (gO xs ys) k/\aG (gO xs ys) k<2^62
inductive N5(C G Pc Fo Ch:Addr)(vs:List V)(H:Hp)(Q:VK)(E:XK):Prop
 |mk (c am:Addr) (xs ys:List Tm) (kvs:List (Key×V)) (bM:vs=[.ref c, .ref am]) (bV:dz C G Pc Fo Ch H c xs ys) (b8:(∀x∈xs,cz x.2)) (cS:(∀y∈ys,cz y.2)) (eK:xs.length<=20) (gS:ys.length<=20) (lR:smG xs ys) (rV:H am=some (.dK kvs)) (yJ:aY kvs) (LF:∀H',au H H'->Q (oV (vX kvs xs ys)) H')
def Kb(C G Pc Fo Ch:Py):Sp:=N5 C G Pc Fo Ch
inductive Gf(C G Pc Fo Ch:Addr)(vs:List V)(H:Hp)(Q:VK)(E:XK):Prop
 |mk (c am:Addr) (m:Int) (xs ys:List Tm) (kvs:List (Key×V)) (bM:vs=[.ref c, .int m, .ref am]) (bV:dz C G Pc Fo Ch H c xs ys) (b8:(∀x∈xs,cz x.2)) (cS:(∀y∈ys,cz y.2)) (eK:xs.length<=20) (gS:ys.length<=20) (lR:smG xs ys) (rV:H am=some (.dK kvs)) (yJ:aY kvs) (LF:kvs.length<=900) (CB:∀e H',H e=none->H' e=some (.dK (cM kvs xs ys m))->au H H'->Q (.ref e) H')
def tj(C G Pc Fo Ch:Py):Sp:=Gf C G Pc Fo Ch
def cg(am:PP)(xs ys:NE)(m:Int):Option (Int×Key×Int):=match vX am xs ys with
 |none=>none
 |some t=>if m<=t then none else (dj (cM am xs ys t) (aI xs) (aI xs)).map λp=>(t,p.1,p.2)
inductive Gg(C G Pc Fo Ch Sh:Addr)(vs:List V)(H:Hp)(Q:VK)(E:XK):Prop
 |mk (c am:Addr) (m st:Int) (xs ys:List Tm) (kvs:List (Key×V)) (bM:vs=[.ref c, .int m, .ref am, .int st]) (bV:dz C G Pc Fo Ch H c xs ys) (b8:(∀x∈xs,cz x.2)) (cS:(∀y∈ys,cz y.2)) (eK:xs.length<=20) (gS:ys.length<=20) (lR:smG xs ys) (rV:H am=some (.dK kvs)) (yJ:aY kvs) (LF:kvs.length<=900) (CB:0<=st) (N6:st<10^60) (N7:(∀t k l,cg kvs xs ys m=some (t,k,l)->0<=t+1/\t+1<10^60/\0<=l/\l<10^60)) (N8:(cg kvs xs ys m=none->∀H',au H H'->Q .cF H')) (Tc:(∀t (x:Str) l e dx H',cg kvs xs ys m=some (t,Sum.inr x,l)->H' e=some (AZ e Sh (some dx))->H' dx=some (AY dx (G3 st (t+1) x l))->H e=none->H dx=none->au H H'->E (.ref Sh) (some dx) H'))
def Ap(C G Pc Fo Ch Sh:Py):Sp:=Gg C G Pc Fo Ch Sh
def dI:ay ["change","times","amounts","step","turns","there","taken","text","lack"] ["change","times","amounts","step"] (ao jo):=dE
def Gh(D:Def K mg "refuse_short" "refuse_short" jo ["change","times","amounts","step"])(T:1e7)(TE:N0 K mg HE Sh)(c1:bp P w K mg base 12 "most_turns" ["change","amounts"] (Kb C G Pc Fo Ch))(c2:bp P w K mg base 12 "turned" ["change","times","amounts"] (tj C G Pc Fo Ch))(c3:bp P w K mg base 10 "side_counts" ["terms"] (gN C G Pc Fo))(c4:BJ P w K mg base 1 "Short" Sh HE ["self","step","turn","formula","lack"] (Ed Sh)):
  IC P w K mg base 13 "refuse_short" ["change","times","amounts","step"] (Ap C G Pc Fo Ch Sh):=by
 obtain⟨_,_,yi⟩:=c1;obtain⟨_,_,tq⟩:=c2;obtain⟨_,_,dG⟩:=c3;obtain⟨_,_,lI⟩:=c4;refine D.Se dI 0e6 0e0
 ·obtain⟨c,am,m,st,xs,ys,kvs,rfl,_⟩:=h;rfl
 ·obtain⟨c,am,m,st,xs,ys,kvs,rfl,hC,hx,hy,lx,ly,hG,tD,hI,hl,st0,st1,hb,q,qE⟩:=h;have hu:=di hr;have big:=bgL
  refine⟨_,(ai (aA (i:=4) dI.nd rfl 0e3 (dR yi hr (aa 1e6 (aa (pv 2) aj)))) (ai (bR (PW.pt (uO (qL (A9 (pv 4))) (qM (aO Pr (pv 1) (pv 4) (aT _))))) (ak
       LU)
      aS) (ai (aA (i:=5) dI.nd rfl 0e3 (dR tq hr (aa 1e6 (aa (pv 4) (aa (pv 2) aj))))) (ai (aA (i:=6) dI.nd rfl 0e3 (dR dG hr (aa 2e4 aj))) (ak (dM (bF Io rfl (cQ (pv 6)) (aF (i:=7) dI.nd rfl 0e3) (ai (aA (i:=8) dI.nd rfl 0e3 (av j3 (cf hu (pv 6) (pv 7) 1e3) (bS hu (pv 5) (pv 7) aq ⟨U,U,U,U⟩))) (ak (bR (aO j4 (pv 8) aq (aT _)) (ak (Iu rfl Dn (Ir lI.z lI.ok (hr.mono 0e2) rfl lI.g lI.kp lI.b (aa (pv 3) (aa (av bC (pv 4) aq) (aa (pv 7) (aa (pv 8) aj)))))))
        aS)))))))))),?_⟩
  refine⟨_,U,_,U,c,am,xs,ys,kvs,U,hC,hx,hy,lx,ly,hG,tD,hI,λH1 e1=>?_⟩
  cases hm:vX kvs xs ys with
  |none=>
   have hs:cg kvs xs ys m=none:=by unfold cg;rw[hm]
   refine⟨_,U,_,U,je ?_⟩;exact q hs _ e1
  |some t=>
   refine⟨_,U,_,U,d4 ⟨_,U,_,U,_,_,U,U,_,U,fJ (λem=>?_) λem=>?_⟩⟩
   ·have em:m<=t:=by simpa using em
    have hs:cg kvs xs ys m=none:=by unfold cg;rw[hm];simp [em]
    exact q hs _ e1
   have em:¬m<=t:=by simpa using em
   have hs:cg kvs xs ys m=(dj (cM kvs xs ys t) (aI xs) (aI xs)).map λp=>(t,p.1,p.2):=by unfold cg;rw[hm];simp [em]
   refine⟨_,U,_,U,_,U,c,am,t,xs,ys,kvs,U,hC.same e1,hx,hy,lx,ly,hG,e1 _ _ tD,hI,hl,λth H2 nth Td e2=>?_⟩;have Cz:=e1.trans e2;obtain⟨dx,l,r,hc,A5,jU⟩:=id hC;refine⟨_,U,c,Ch,dx,_,_,U,Cz _ _ hc,T.cm,T.gZ,eV _ _,l,xs,U,A5.same Cz,hx,lx,λtk H3 XT uU e3=>?_⟩;have uU:H3 tk=some (.dK (aI xs)):=uU;have NI:=Cz.trans e3;have hth3:=e3 _ _ Td;have hIt:aY (cM kvs xs ys t):=cI _ _ _ _ hI;have Vi:aY (aI xs):=cx _;have htH:H tk=none:=none_back Cz XT;have nht:th≠tk:=af Td XT
   have hinr:∀p∈aI xs,∃s:Str,p.1=Sum.inr s/\s.length<=100:=by
    refine jL (Pk:=λj=>∃s:Str,j=Sum.inr s/\s.length<=100) 1 _ [] (λq hq=>by cases hq) λp hp=>?_;obtain⟨z,hz,rfl⟩:=mem_map.mp hp;have:=(hx z hz).2.1;exact⟨_,U,by rw[aL];omega⟩
   dsimp only [bL];refine⟨_,U,tk,aI xs,U,uU,λo nf=>dw nf (λi σ H'=>∃v7 v8:Option V,σ=[some (.ref c),some (.int m),some (.ref am),some (.int st),some (.int t),some (.ref th),some (.ref tk),v7,v8]/\H'=H3/\dj (cM kvs xs ys t) (aI xs) ((aI xs).drop i)=dj (cM kvs xs ys t) (aI xs) (aI xs)) ⟨none,none,U,U,U⟩ (λi σ H' ⟨_,_,_,z,_⟩=>by rw[z];exact uU) ?_ ?_⟩
   ·rintro i k v σ H' hi ⟨v7,v8,rfl,rfl,vY⟩;have hv:=Vi.dO (mem_of_getElem? hi);have XU:(upd H' tk (.eI o (.dK (aI xs)))) th=some (.dK (cM kvs xs ys t)):=by rw[ah nht];exact hth3
    have zm:=(List.getElem?_eq_some_iff.mp hi).1
    have LC:(aI xs).drop i=(k,v)::(aI xs).drop (i+1):=by
     rw[drop_eq_getElem_cons zm];congr 1;exact(List.getElem?_eq_some_iff.mp hi).2
    refine⟨_,U,_,U,tk,V.int (aG (aI xs) k),U, .inl ⟨_,k, .inr ⟨o,ag⟩,U,hv.symm⟩,_,U,th,U, .inl ⟨_, .inl XU⟩,_,U,_,fQ.k (k:=k) XU,?_⟩;rw[hIt.at k];refine⟨_,_,U,U,?_⟩;refine⟨_,U,_,_,U,U,_,U,fJ (λec=>?_) λec=>?_⟩
    ·have ec:0<aG (aI xs) k - aG (cM kvs xs ys t) k:=by simpa using ec
     rw[LC,eS,if_pos ec] at vY;obtain⟨x,ex,pT⟩:=hinr _ (mem_of_getElem? hi);have ex:k=Sum.inr x:=ex;subst ex;have yI:cg kvs xs ys m=some (t,Sum.inr x,aG (aI xs) (Sum.inr x) - aG (cM kvs xs ys t) (Sum.inr x)):=by rw[hs,<-vY];rfl
     obtain⟨b1,b2,b3,b4⟩:=hb _ _ _ yI;refine⟨_,U,_,U,_,_,U,U,_,U,_,U,(by show 4<=100;decide),λe he=>?_⟩;have s4:au H (upd H' tk (.eI o (.dK (aI xs)))):=λb o' z=>by rw[ah (af z htH)];exact NI _ _ z
     have s5:=s4.trans (au.new (o:=vj e Sh none) he);refine⟨e,st,t+1,x,_,U,ag,st0,st1,b1,b2,pT,b3,b4,λdC H5 LI LJ h5e h5d k5=>⟨U,?_⟩⟩;refine⟨e,Sh,HE,_,some dC,U,lI.z,h5e,?_⟩;refine qE t x _ e dC _ yI ag (by rw[ah LJ];exact h5d) (none_back s4 he) (none_back s5 LI) λb o' z=>?_;have nbe:b≠e:=af (s4 _ _ z) he;rw[ah nbe];exact k5 _ _ (s5 _ _ z) nbe
    ·have ec:¬0<aG (aI xs) k - aG (cM kvs xs ys t) k:=by simpa using ec
     refine⟨ag,_,_,U,by rw[gI,cH uU],?_⟩;rw[<-vY,LC,eS,if_neg ec]
   ·rintro σ H' ⟨v7,v8,rfl,rfl,vY⟩;rw[drop_length] at vY;refine q ?_ _ NI;rw[hs,<-vY];rfl
variable {uC uP uI uD uL uT fG fH fI uG uS:Tok}{Ch HE Sh St:Py}
structure XW(K:1e8)(mg:2e1)(C R G Pc Fo Ch St:Addr)(uK uN uB uE uM uC uP uI uD uL uT fG fH fI uG uS:Tok):Prop extends oO K mg C R G Pc Fo Ch uK uN uB uE uM uC uP uI uD uL uT fG fH fI uG uS where
 Aq:mg "enumerate" =none
 bB:t5 K St
 dZ:cG K St "amounts"
 qy:cG K St "gone"
def Gi(x:Str)(xs ys:NE):Prop:=x.cps.toList=tY xs++qv++tY ys/\xs≠[]/\ys≠[]/\(∀t∈xs,fK t)/\(∀t∈ys,fK t)/\x.length<=400/\xs.length+ys.length<=8/\Ae (xs++ys)<=60/\(∀t∈xs,cz t.2)/\(∀t∈ys,cz t.2)/\∀k,sumZ xs k=sumZ ys k
theorem qB(t b:Int)(k:Key)(hb:0<=b):∀(as:Uf) (acc:PP) (B:Int),(∀p∈as, -b<=p.2*t/\p.2*t<=b)-> -B<=aG acc k->aG acc k<=B-> -(B+as.length*b)<=aG (aV t acc as) k/\aG (aV t acc as) k<=B+as.length*b
 | [],acc,B,_,h1,h2=>by
   show -(B+((0 :Nat):Int)*b)<=aG acc k/\aG acc k<=B+((0 :Nat):Int)*b;simp;exact⟨h1,h2⟩
 |p::r,acc,B,h,h1,h2=>by
  have hp:=h p 1e0;have e:aG (bZ acc (Sum.inr p.1) (p.2*t)) k=if k=Sum.inr p.1 then aG acc (Sum.inr p.1)+p.2*t else aG acc k:=dN _ _ _ _
  have BF: -(B+b)<=aG (bZ acc (Sum.inr p.1) (p.2*t)) k/\aG (bZ acc (Sum.inr p.1) (p.2*t)) k<=B+b:=by
   rw[e];split
   ·rename_i ek
    rw[<-ek];omega
   ·omega
  have ih:=qB t b k hb r (bZ acc (Sum.inr p.1) (p.2*t)) (B+b) (λq hq=>h q (mem_cons_of_mem _ hq)) BF.1 BF.2;have el:((p::r).length:Int)*b=b+(r.length:Int)*b:=by rw[length_cons];push_cast;rw[add_mul];omega
  rw[el];show -(B+(b+(r.length:Int)*b))<=aG (aV t (bZ acc (Sum.inr p.1) (p.2*t)) r) k/\aG (aV t (bZ acc (Sum.inr p.1) (p.2*t)) r) k<=B+(b+(r.length:Int)*b);omega
def N9{KV:PP}{B:Int}(hB:0<=B)(h:∀k, -B<=aG KV k/\aG KV k<=B)(L:PP)(k:Key): -B<=aG (pF KV L) k/\aG (pF KV L) k<=B:=by
 cases e:ck (pF KV L) k with
 |none=>rw[fj e];omega
 |some v=>
  have hm:=iW e;obtain⟨q,_,XX⟩:=mem_map.mp hm;injection XX with e1 e2;rw[<-e2] at e;rw[fk e];exact h _
def Ee{x:Str}{xs ys:NE}(h:Gi x xs ys):smG xs ys:=λk=>by
 obtain⟨_,_,_,h1,h2,_,hl,_⟩:=h
 have hy:∀p∈dQ ys, -(10^12)<=p.2*1/\p.2*1<=10^12:=λp hp=>by
  obtain⟨z,hz,rfl⟩:=mem_map.mp hp;have:=h2 z hz;have b1:=this.1;have b2:=this.2.1;show -(10^12)<=z.1*1/\z.1*1<=10^12;omega
 have hx:∀p∈dQ xs, -(10^12)<=p.2*(-1)/\p.2*(-1)<=10^12:=λp hp=>by
  obtain⟨z,hz,rfl⟩:=mem_map.mp hp;have:=h1 z hz;have b1:=this.1;have b2:=this.2.1;show -(10^12)<=z.1*(-1)/\z.1*(-1)<=10^12;omega
 have e:∀zs:List Tm,(dQ zs).length=zs.length:=λzs=>by unfold dQ;rw[length_map]
 have key:∀k, -(10^13)<=aG (vS xs ys) k/\aG (vS xs ys) k<=10^13:=λk=>by
  have a1:=qB 1 (10^12) k 0e2 (dQ ys) [] 0 hy (Int.le_refl _) (Int.le_refl _);have a2:=qB (-1) (10^12) k 0e2 (dQ xs) (aV 1 [] (dQ ys)) (0+(dQ ys).length*10^12) hx a1.1 a1.2;rw[e,e] at a2;show -(10^13)<=aG (aV (-1) (aV 1 [] (dQ ys)) (dQ xs)) k/\aG (aV (-1) (aV 1 [] (dQ ys)) (dQ xs)) k<=10^13;omega
 have:=N9 0e2 key (vS xs ys) k;show -(2^62) <aG (pF (vS xs ys) (vS xs ys)) k/\aG (pF (vS xs ys) (vS xs ys)) k<2^62;omega
inductive Oa(C G Pc Fo Ch:Addr)(vs:List V)(H:Hp)(Q:VK)(E:XK):Prop
 |mk (x:Str) (xs ys:List Tm) (bM:vs=[.str x]) (bV:Gi x xs ys) (b8:∀c H',H c=none->SM C G Pc Fo Ch H H' c xs ys->au H H'->Q (.ref c) H')
def Kc(C G Pc Fo Ch:Py):Sp:=Oa C G Pc Fo Ch
structure cJ where
 xs:List Tm
 ys:List Tm
 x:Str
 m:Int
def cj(H:Hp)(t:Py)(r:cJ):Prop:=H t=some (.tup [.str r.x, .int r.m])
def cK(am:PP)(rs:List cJ):List (Key×V):=rs.foldl (λa r=>cM a r.xs r.ys r.m) am
inductive Kd(C G Pc Fo Ch Sh St:Addr)(vs:List V)(H:Hp)(Q:VK)(E:XK):Prop
 |mk (st d g rl:Addr) (kvs:List (Key×V)) (gs:List V) (ts:List Addr) (rs:List cJ) (bM:vs=[.ref st, .ref rl]) (bV:kQ St H st d g) (b8:H d=some (.dK kvs)) (cS:H g=some (.lst gs)) (eK:g≠rl) (gS:aY kvs) (lR:kvs.length<=400) (rV:H rl=some (.lst (ts.map V.ref))) (yJ:Paired (cj H) ts rs) (LF:rs.length<=12) (CB:gs.length<=1000) (N6:(∀r∈rs,Gi r.x r.xs r.ys)) (N7:(∀i r t k l,rs[i]? =some r->cg (cK kvs (rs.take i)) r.xs r.ys r.m=some (t,k,l)->0<=t+1/\t+1<10^60/\0<=l/\l<10^60)) (N8:((∀i r,rs[i]? =some r->cg (cK kvs (rs.take i)) r.xs r.ys r.m=none)->∀d' H',(d'=d\/H d'=none)->kQ St H' st d' g->H' d'=some (.dK (cK kvs rs))->H' g=some (.lst (gs++ts.map V.ref))->(∀b o,H b=some o->b≠st->b≠g->H' b=some o)->Q .cF H')) (Tc:(∀(i:Nat) r t (x:Str) l e dx H',rs[i]? =some r->(∀j r,j<i->rs[j]? =some r->cg (cK kvs (rs.take j)) r.xs r.ys r.m=none)->cg (cK kvs (rs.take i)) r.xs r.ys r.m=some (t,Sum.inr x,l)->H' e=some (AZ e Sh (some dx))->H' dx=some (AY dx (G3 (i:Nat) (t+1) x l))->H e=none->H dx=none->au H H'->E (.ref Sh) (some dx) H'))
def Ef(C G Pc Fo Ch Sh St:Py):Sp:=Kd C G Pc Fo Ch Sh St
def tE{kvs:PP}(rs:List cJ)(i:Nat)(h:aY kvs):aY (cK kvs (rs.take i)):=by
 generalize rs.take i=l
 induction l generalizing kvs with
 |nil=>exact h
 |cons r l ih=>exact ih (cI _ _ _ _ h)
def Tf{kvs:PP}:∀{rs:List cJ},(∀r∈rs,r.xs.length+r.ys.length<=8)->(cK kvs rs).length<=kvs.length+8*rs.length:=by
 intro rs
 induction rs generalizing kvs with
 |nil=>intro _;exact le_refl _
 |cons r l ih=>
  intro h;have h1:=ih (kvs:=cM kvs r.xs r.ys r.m) λq hq=>h q (mem_cons_of_mem _ hq);have h2:(cM kvs r.xs r.ys r.m).length<=kvs.length+(gO r.xs r.ys).length:=gq _ _ _ _;have h3:(gO r.xs r.ys).length<=(vS r.xs r.ys).length:=x9 _ _;have h4:=yb r.xs r.ys;have h5:=h r 1e0;rw[length_cons];show (cK (cM kvs r.xs r.ys r.m) l).length<=_;omega
def Eg(d g a:Py):cN "amounts" (.ref a) (A4 d g)=A4 a g:=by
 unfold A4;simp [cN,nag]
def jM:ay ["self","rows","changes","amounts","step","change","times"] ["self","rows"] (ao xo):=dE
def PvG(C G Pc Fo Ch L:Py)(H:Hp)(rs:List cJ):Nat->List V->Hp->Prop:=λi ys H'=>∃cs:List Addr,ys=cs.map V.ref/\cs.length=i/\Paired (λc (r:cJ)=>∀cy:Hp,(∀b o,H b=none->b≠L->H' b=some o->cy b=some o)->dz C G Pc Fo Ch cy c r.xs r.ys) cs (rs.take i)
def Ke(D:a9 K St "go_all" "Store.go_all" xo ["self","rows"])(T:XW K mg C R G Pc Fo Ch St uK uN uB uE uM uC uP uI uD uL uT fG fH fI uG uS)(c1:bp P w K mg base 18 "read_even" ["text"] (Kc C G Pc Fo Ch))(c2:IC P w K mg base 13 "refuse_short" ["change","times","amounts","step"] (Ap C G Pc Fo Ch Sh))(c3:bp P w K mg base 12 "turned" ["change","times","amounts"] (tj C G Pc Fo Ch)):
  BI P w K mg base 20 St "go_all" ["self","rows"] (Ef C G Pc Fo Ch Sh St):=by
 obtain⟨_,_,As⟩:=c1;obtain⟨_,_,fB⟩:=c2;obtain⟨_,_,tq⟩:=c3;refine D.Se jM 0e6 0e0
 ·obtain⟨st,d,g,rl,kvs,gs,ts,rs,rfl,_⟩:=h;rfl
 ·obtain⟨st,d,g,rl,kvs,gs,ts,rs,rfl,⟨dx,iu⟩,hd,hg,ngr,hI,nC,Au,hP,hr20,hg1,aX,hb,q,qE⟩:=h;have hu:=di hr;have big:=bgL;refine⟨_,(ai (qc (i:=2) jM.nd rfl 0e3 (sc:=(ao xo)) (NX:=["self","rows","changes","amounts","step","change","times"]) (N:=["text","times"]) (fr:=[none,none]) Ds rfl rfl rfl (cA (pv 1)) (λ_ _ _ _=>(mL K 2 rfl rfl (aP (aF (i:=0) (show (["text","times"]:On).Nodup by decide+kernel) rfl 0e3 (Or.inr rfl)) (aP (aF (i:=1) (show (["text","times"]:On).Nodup by decide+kernel) rfl 0e3 (Or.inr rfl)) cL)))) (λ_ _ _ _=>gJ) (λ_ _ _ _=>(dR As hr (aa 1e6 aj)))) (ai (aA (i:=3) jM.nd rfl 0e3 2e4) (ai (bF Io rfl (Mr rfl T.Aq (aa (pv 2) aj)) (eX rfl (aP (aF (i:=4) jM.nd rfl 0e3) (aP (aF (i:=5) jM.nd rfl 0e3) cL))) (ai (aA (i:=6) jM.nd rfl 0e3 (bq j6 (bq a8 (pv 1) (pv 4) 1e3) aq 1e3)) (ai (a7 (Ip fB.ok (hr.mono 0e2) rfl fB.g fB.kp fB.b .nil Dn (aa (pv 5) (aa (pv 6) (aa (pv 3) (aa (pv 4) aj)))))) (ak (aA (i:=3) jM.nd rfl 0e3 (dR tq hr (aa (pv 5) (aa (pv 6) (aa (pv 3) aj))))))))) (ai (eN 1e6 (pv 3) rfl) (ak (a7 (eU PySem.F.plainAttrs_list PySem.F.slot_list_extend PySem.F.type_list_extend E9 2e4 (aa (pv 1) aj)))))))),?_⟩;have fP:=Paired.length hP;refine⟨_,U,rl,U,⟨_,bh.of Au⟩,λL hL=>lh (K:=K) (a:=rl) (L:=L) (xs:=ts.map V.ref) H (fun σ=>∃v u:Option V,σ=[v,u]) (PvG C G Pc Fo Ch L H rs) (bh.of Au) ?_ hL ⟨none,none,U⟩ (au.new hL) ag ⟨[],U,U, .nil⟩ (by rw[length_map];omega) ?_ ?_ ?_⟩
  ·rintro i ys Ha Hb zu ⟨cs,h1,h2,h3⟩;exact⟨cs,h1,h2,aB (λc r z cy k=>z cy λb o z1 z2 z3=>k b o z1 z2 (zu _ _ z3 z2)) h3⟩
  ·rintro i ys H' ⟨cs,rfl,h2,_⟩;rw[length_map,h2];exact le_refl _
  ·rintro j w σ' H5 vs hj ⟨w1,w2,rfl⟩ e5 px ⟨cs,rfl,Nw,hcP⟩ N M hN;rw[getElem?_map] at hj;obtain⟨t,ht,rfl⟩:=gMp hj;obtain⟨r,jU,yL⟩:=bc hP ht;have yL:H t=some (.tup [.str r.x, .int r.m]):=yL;refine⟨t,_,U,gE.of (e5 _ _ yL),U,_,_,U,_,_,U,U,?_⟩;refine⟨_,U,r.x,r.xs,r.ys,U,aX r (mem_of_getElem? jU),λc H6 nc hN6 e6=>?_⟩;refine hN _ _ _ ⟨_,_,rfl⟩ (e5.trans e6) (e6 _ _ px) ⟨cs++[c],by rw[map_append];rfl,by rw[length_append,Nw];rfl,?_⟩;rw[take_snoc jU];refine bH (λcy k=>hN6 cy λb o z1 z2=>k b o (none_back e5 z1) (λz=>by rw[z,px] at z1;cases z1) z2) (aB (λc r z cy k=>z cy λb o z1 z2 z3=>k b o z1 z2 (e6 _ _ z3)) hcP)
  rintro H2 ys e2 vC ⟨cs,rfl,Nw,hcP⟩;rw[length_map] at Nw;have yL:rs.take ts.length=rs:=by rw[fP,take_length]
  rw[length_map,yL] at hcP;refine⟨_,U,st,St,dx,_,_,U,e2 _ _ iu,T.bB,T.dZ,gu _ _,?_⟩;dsimp only [bL];have XY:cs.length=rs.length:=by rw[Nw,fP]
  have hCh:∀{i:Nat} {c:Py} {r:cJ} {H':Hp},cs[i]? =some c->rs[i]? =some r->au H2 H'->dz C G Pc Fo Ch H' c r.xs r.ys:=fun {i c r H'} h1 h2 e=>by
   obtain⟨r',jU,z⟩:=bc hcP h1;rw[h2] at jU;cases jU;exact z H' λb o _ _ z3=>e _ _ z3
  have hLH:H L=none:=hL;refine⟨_,U,L,U,⟨_,bh.of vC⟩,HX (K:=K) (a:=L) (xs:=cs.map V.ref) (λi σ H'=>∃(a:Py) (v4 v5 v6:Option V),σ=[some (.ref st),some (.ref rl),some (.ref L),some (.ref a),v4,v5,v6]/\H' a=some (.dK (cK kvs (rs.take i)))/\(a=d\/H a=none)/\(∀j r,j<i->rs[j]? =some r->cg (cK kvs (rs.take j)) r.xs r.ys r.m=none)/\au H2 H') ?_ (λi σ H' ⟨_,_,_,_,_,_,_,_,z⟩=>bh.of (z _ _ vC)) ?_ ?_⟩
  ·exact⟨d,none,none,none,U,e2 _ _ hd, .inl rfl,(λj r hj=>absurd hj (Nat.not_lt_zero _)),au.refl _⟩
  ·rintro i v p σ H' hi hp ⟨a,v4,v5,v6,rfl,ha,gy,Kf,e3⟩;rw[getElem?_map] at hi;obtain⟨c,hc,rfl⟩:=gMp hi;have zm:i<rs.length:=by have:=(List.getElem?_eq_some_iff.mp hc).1;omega
   have A6:=getElem?_eq_getElem zm;have Nj:ts[i]? =some ts[i]:=getElem?_eq_getElem 0e1;obtain⟨r',jU,yL⟩:=bc hP Nj;generalize ts[i]=t at Nj yL;generalize rs[i]=r at A6;have er:r=r':=Option.some.inj (A6.symm.trans jU);subst er;have yL:H t=some (.tup [.str r.x, .int r.m]):=yL;have LK:=aX r (mem_of_getElem? A6);have s4:=e3.trans (au.new (o:= .tup [.int (i:Nat), .ref c]) hp);have Vj:=e2.trans s4;have Tg:=au.new (o:= .tup [.int (i:Nat), .ref c]) hp _ _ ha;refine⟨p,_,U,gE.of ag,U,_,_,U,_,_,U,U,?_⟩;refine⟨_,U,_,U,rl,_,_, .ref t,U,U,bh.of (Vj _ _ Au),qa (by rw[getElem?_map,Nj];rfl),t,_,_, .int r.m,U,U,gE.of (Vj _ _ yL),U,?_⟩;have hIa:=tE rs i hI;have hla:=Tf (kvs:=kvs) (rs:=rs.take i) λr hr=>(aX r (mem_of_mem_take hr)).2.2.2.2.2.2.1;have lT:(rs.take i).length<=12:=by rw[length_take];omega
   dsimp only [bL];refine⟨_,U,_,U,_,U,_,U,c,a,r.m,(i:Nat),r.xs,r.ys,cK kvs (rs.take i),U,hCh hc A6 s4,LK.2.2.2.2.2.2.2.2.1,LK.2.2.2.2.2.2.2.2.2.1,by have:=LK.2.2.2.2.2.2.1;omega,by have:=LK.2.2.2.2.2.2.1;omega,Ee LK,Tg,hIa,by omega,by omega,by omega,λt k l z=>hb i r t k l A6 z,λhs H5 e5=>?_,λt' x l e dC H5 hs he LI ne XZ e5=>?_⟩
   ·refine⟨_,U,_,U,_,U,c,a,r.m,r.xs,r.ys,cK kvs (rs.take i),U,hCh hc A6 (s4.trans e5),LK.2.2.2.2.2.2.2.2.1,LK.2.2.2.2.2.2.2.2.2.1,by have:=LK.2.2.2.2.2.2.1;omega,by have:=LK.2.2.2.2.2.2.1;omega,Ee LK,e5 _ _ Tg,hIa,by omega,λa' H6 na' Ti e6=>?_⟩;refine⟨a',_,_,_,U,?_, .inr (none_back (Vj.trans e5) na'),λj r2 hj Qf=>?_,(s4.trans e5).trans e6⟩
    ·rw[Ti,take_snoc A6];unfold cK;rw[foldl_append];rfl
    ·rcases Nat.lt_succ_iff_lt_or_eq.mp hj with hj|hj
     ·exact Kf j r2 hj Qf
     ·subst hj;have er:=Option.some.inj (A6.symm.trans Qf);rw[<-er];exact hs
   ·exact qE i r t' x l e dC H5 A6 Kf hs he LI (none_back Vj ne) (none_back Vj XZ) (Vj.trans e5)
  ·rintro σ H' ⟨a,v4,v5,v6,rfl,ha,gy,Kf,e3⟩;rw[length_map,XY,take_length] at ha;have Vk:=e2.trans e3;have X0:=Vk _ _ iu;have hlf:(A4 d g).length<1000:=by unfold A4;simp [cN,nag]
   refine⟨_,U,_,U,st,St,dx,_,U,X0,T.bB,T.dZ,hlf,?_⟩;have nsg:st≠g:=bj iu hg 0e7;have nsr:st≠rl:=bj iu Au 0e7;have nsa:st≠a:=bj X0 ha 0e7;have nga:g≠a:=bj (Vk _ _ hg) ha 0e7;refine⟨_,U,st,St,dx,_,_,U,ag,T.bB,T.qy,(by rw[Eg];exact Am _ _),?_⟩;have hg3:(upd H' st (.ins St dx (cN "amounts" (.ref a) (A4 d g)))) g=some (.lst gs):=by rw[ah (Ne.symm nsg)];exact Vk _ _ hg
   refine⟨.inl ⟨U,_,bh.of hg3⟩,_,U,g,rl,gs,ts.map V.ref,U,U,by rw[ah (Ne.symm nsg)];exact Vk _ _ hg,by rw[ah (Ne.symm nsr)];exact Vk _ _ Au,by rw[length_map];omega,?_⟩;refine q (λi r hi=>Kf i r (by rw[length_map];have:=(List.getElem?_eq_some_iff.mp hi).1;omega) hi) a _ gy ⟨dx,by rw[ah nsg,ag,Eg]⟩ (by rw[ah (Ne.symm nga),ah (Ne.symm nsa)];exact ha) ag λb o z n1 n2=>?_;rw[ah n2,ah n1];exact Vk _ _ z
variable {uC uP uI uD uL uT fG fH fI uG uS:Tok}{Ch HE Sh St:Py}
inductive CD(vs:List V)(H:Hp)(Q:VK)(E:XK):Prop
 |mk (a t g:Int) (bM:vs=[.int a, .int t, .int g]) (bV: -(2^62) <g) (b8:Q (oV (yK a t g)) H)
def vZ:Sp:=CD
def Gj:ay ["amount","taken","gain"] ["amount","taken","gain"] (ao rN):=dE
def CF(D:Def K mg "turns_of" "turns_of" rN ["amount","taken","gain"]):bp P w K mg base 1 "turns_of" ["amount","taken","gain"] vZ:=by
 refine D.dk Gj 0e6 0e0
 ·obtain⟨a,t,g,rfl,_⟩:=h;rfl
 ·obtain⟨a,t,g,rfl,hg,q⟩:=h
  refine⟨_,(ai (bR (aO qQ 1e6 (pv 1) (aT _)) (ak (aH aq))
      aS) (ai (bR (aO V1 (pv 2) aq (aT _)) (ak (aH qK))
      aS) (ak (aH (av bC (av gW (av j3 1e6 (pv 1)) (qP lX (pv 2))) aq))))),?_⟩
  unfold yK at q;refine⟨_,U,_,U,_,_,U,U,_,U,fJ (λe=>?_) λe=>?_⟩
  ·have e:a<t:=by simpa using e
   rw[if_pos e] at q;exact q
  have e:¬a<t:=by simpa using e
  rw[if_neg e] at q;refine⟨_,U,_,_,U,U,_,U,fJ (λe=>?_) λe=>?_⟩
  ·have e:0<=g:=by simpa using e
   rw[if_pos e] at q;exact q
  have e:¬0<=g:=by simpa using e
  rw[if_neg e] at q;exact⟨_,U,_,U,_,_,U,U,_,U,_,U,_,_,U,U,⟨by omega,by omega⟩,_,_,U,U,q⟩
def nG:ay ["change","times","amounts","gained","told","text"] ["change","times","amounts"] (ao xn):=dE
def Gk(D:Def K mg "turned" "turned" xn ["change","times","amounts"])(T:1e7)(c1:bp P w K mg base 11 "gains" ["change"] (yc C G Pc Fo Ch)):bp P w K mg base 12 "turned" ["change","times","amounts"] (tj C G Pc Fo Ch):=by
 obtain⟨_,_,yj⟩:=c1;refine D.dk nG 0e6 0e0
 ·obtain⟨c,am,m,xs,ys,kvs,rfl,_⟩:=h;rfl
 ·obtain⟨c,am,m,xs,ys,kvs,rfl,hC,hx,hy,lx,ly,hG,tD,hI,hl,q⟩:=h;have hu:=di hr;have big:=bgL;refine⟨_,(ai (aA (i:=3) nG.nd rfl 0e3 (dR yj hr (aa 1e6 aj))) (ai (aA (i:=4) nG.nd rfl 0e3 (bx gU rfl T.kJ jf (aa (pv 2) aj))) (ai (dM (bF PassesOwn.never rfl (cQ (pv 3)) (aF (i:=5) nG.nd rfl 0e3) (ak (cP hu (pv 4) (pv 5) (av bC (bS hu (pv 4) (pv 5) aq ⟨U,U,U,U⟩) (av dm (pv 1) (cf hu (pv 3) (pv 5) 1e3))) rfl)))) (ak (aH (pv 4)))))),?_⟩;refine⟨_,U,c,xs,ys,U,hC,hx,hy,lx,ly,λd H1 nd hd e1=>?_⟩;refine⟨_,U,am,_,U, .inl (e1 _ _ tD),λe0 oN=>?_⟩;have X2:H e0=none:=none_back e1 oN;have NB:e0≠d:=λz=>by rw[z,hd] at oN;cases oN
  have s2:=au.new (o:= .dK kvs) oN;have hd2:=s2 _ _ hd;have he2:(upd H1 e0 2e2) e0=some 2e2:=ag;have e2:=e1.trans s2;generalize upd H1 e0 2e2=H2 at hd2 he2 e2
  have hgl:(gO xs ys).length<=40:=by
   have h3:(gO xs ys).length<=(vS xs ys).length:=x9 _ _;have h4:=yb xs ys;omega
  have hIg:aY (gO xs ys):=DY _ _;dsimp only [bL];refine⟨_,U,d,gO xs ys,U,hd2,λo nf=>dw nf (λj σ H3=>∃w:Option V,σ=[some (.ref c),some (.int m),some (.ref am),some (.ref d),some (.ref e0),w]/\H3=upd H2 e0 (.dK (cX m kvs ((gO xs ys).take j) (gO xs ys)))) ?_ ?_ ?_ ?_⟩
  ·exact⟨none,U,(cH he2).symm⟩
  ·rintro j σ H3 ⟨_,_,rfl⟩;rw[ah (Ne.symm NB)];exact hd2
  ·rintro j k v σ H3 hj ⟨w,rfl,rfl⟩;have nW:∀o',(upd (upd H2 e0 (.dK (cX m kvs ((gO xs ys).take j) (gO xs ys)))) d o') e0=some (.dK (cX m kvs ((gO xs ys).take j) (gO xs ys))):=λo'=>by rw[ah NB];exact ag
   have NC:=gq m (gO xs ys) ((gO xs ys).take j) kvs;have Nj:((gO xs ys).take j).length<=(gO xs ys).length:=length_take_le' _ _;have JA:=cI m (gO xs ys) ((gO xs ys).take j) kvs hI;have hv:=hIg.dO (mem_of_getElem? hj);have Va:=hG k;refine⟨_,U,e0,U, .inl ⟨_, .inl (nW _)⟩,_,U,_,fQ.k (k:=k) (nW _),_,U,_,U,_,U,d,V.int (aG (gO xs ys) k),U, .inl ⟨_,k, .inr ⟨o,ag⟩,U,hv.symm⟩,_,_,U,U, .inr ⟨by omega,by omega⟩,_,_,JA.at k,U,_,U,_,U,e0,_,U,iU.k (k:=k) (nW _) 0e1,?_⟩;refine⟨by rw[ah (Ne.symm NB)];exact ag,some (kV k),U,?_⟩;rw[g8 NB hd2];unfold cX;rw[take_snoc hj,foldl_append];rfl
  ·rintro σ H3 ⟨w,rfl,rfl⟩;rw[take_length];exact⟨_,U,q e0 _ X2 ag λb o' w'=>by rw[ah (af w' X2)];exact e2 _ _ w'⟩
variable {uC uP uI uD uL uT fG fH fI uG uS:Tok}{Ch HE Sh St:Py}
def ml:ay ["text","change","lost"] ["text"] (ao ou):=dE
def Gm{xs ys:NE}(h:∀k,sumZ xs k=sumZ ys k)(ms:On):JS ms xs ys=[]:=by
 unfold JS Ah;rw[List.filter_map,map_eq_nil_iff,List.filter_eq_nil_iff];intro k _;simp [Function.comp,h]
def Av(D:Def K mg "read_even" "read_even" ou ["text"])(T:1e7)(c1:bp P w K mg base 17 "read_change" ["text"] (vR C G Pc Fo Ch))(c2:aJ P w K mg base 12 Ch "lost" 1e1 (JT C G Pc Fo Ch)):bp P w K mg base 18 "read_even" ["text"] (Kc C G Pc Fo Ch):=by
 obtain⟨_,_,uw⟩:=c1;obtain⟨_,_,iQ⟩:=c2;refine D.dk ml 0e6 0e0
 ·obtain⟨x,xs,ys,rfl,_⟩:=h;rfl
 ·obtain⟨x,xs,ys,rfl,hev,q⟩:=h;obtain⟨h1,h2,h3,h4,h5,h6,h7,h8,h9,h10,h11⟩:=id hev
  refine⟨_,(ai (aA (i:=1) ml.nd rfl 0e3 (dR uw hr (aa 1e6 aj))) (ai (aA (i:=2) ml.nd rfl 0e3 (aM (pv 1) T.cm iQ.m iQ.ok (hr.mono 0e2) iQ.b .nil bb)) (ai (bR (qU (pv 2) (λ_=>rfl)) (ak
       fZ)
      aS) (ak (aH (pv 1)))))),?_⟩
  refine⟨_,U,x,xs,ys,U,h1,h2,h3,h4,h5,h6,h7,λc H1 nc hN e1=>?_⟩;have hC:=hN H1 λb o _ z=>z;obtain⟨dx,l,r,hc,_⟩:=id hC;refine⟨_,U,c,dx,_,U,hc,zS _ _ 0e4 0e4,c,xs,ys,U,hC,λz hz=>?_,by rw[length_append];omega,h8,λL ts ms H2 hK nL hL hP e2=>?_⟩
  ·rcases mem_append.mp hz with z'|z'
   ·exact h9 z z'
   ·exact h10 z z'
  rw[Gm h11] at hP;cases hP;have Cb:H2 L=some (.lst []):=hL;refine⟨_,U,false, .inl ⟨_,bh.of Cb,U⟩,d4 ⟨_,U,q c H2 nc (λcy k=>hN cy λb o z1 z2=>k b o z1 (e2 _ _ z2)) (e1.trans e2)⟩⟩
variable {uC uP uI uD uL uT fG fH fI uG uS:Tok}{Ch HE Sh St:Py}
structure X3(K:1e8)(mg:2e1)(C R G Pc Fo Ch:Addr)(uK uN uB uE uM uC uP uI uD uL uT fG fH fI uG uS:Tok):Prop extends oO K mg C R G Pc Fo Ch uK uN uB uE uM uC uP uI uD uL uT fG fH fI uG uS where
 X4:mg "min" =none
theorem tF:∀{l:List Int},l≠[]->∃b∈l,∀a∈l,b<=a
 | [],h=>absurd rfl h
 | [x],_=>⟨x,by simp,λa ha=>by simp at ha;omega⟩
 |x::y::r,_=>by
  obtain⟨b,hb,hle⟩:=tF (l:=y::r) 2e0;by_cases c:x<=b
  ·exact⟨x,by simp,λa ha=>by
    rcases mem_cons.mp ha with z|z
    ·omega
    ·have:=hle a z;omega⟩
  ·exact⟨b,mem_cons_of_mem _ hb,λa ha=>by
    rcases mem_cons.mp ha with z|z
    ·omega
    ·exact hle a z⟩
theorem oW:∀{l:List (Option Int)},l.filterMap id=[]->eR l=none
 | [],_=>rfl
 |none::r,h=>oW (l:=r) (by simpa using h)
 |some i::r,h=>by simp at h
theorem jN:∀{l:List (Option Int)} {m:Int},m∈l.filterMap id->(∀a∈l.filterMap id,m<=a)->eR l=some m
 | [],m,h,_=>by simp at h
 |none::r,m,h,h'=>jN (l:=r) (by simpa using h) (λa ha=>h' a (by simpa using ha))
 |some i::r,m,h,h'=>by
  have hi:m<=i:=h' i 2e0
  cases e:eR r with
  |none=>
   have er:r.filterMap id=[]:=by
    cases f:r.filterMap id with
    |nil=>rfl
    |cons a as=>
     obtain⟨b,hb,hle⟩:∃b∈r.filterMap id,∀a∈r.filterMap id,b<=a:=tF (by rw[f];simp);rw[jN hb hle] at e;cases e
   have hm:m=i:=by
    simp [er] at h;rcases h with h| ⟨h,_⟩<;>omega
   show (match eR r with|none=>some i|some j=>some (if j<i then j else i))=some m;rw[e,hm]
  |some j=>
   have hj:∃b∈r.filterMap id,∀a∈r.filterMap id,b<=a:=by
    apply tF;intro z;rw[oW z] at e;cases e
   obtain⟨b,hb,hle⟩:=hj
   have eb:j=b:=by
    have:=jN hb hle;rw[e] at this;exact Option.some.inj this
   subst eb;have hmj:m<=j:=h' j (by rw[filterMap_cons];simp;exact .inr (by simpa using hb));show (match eR r with|none=>some i|some j=>some (if j<i then j else i))=some m;rw[e]
   have RE:m=i\/m∈r.filterMap id:=by
    rw[filterMap_cons] at h;simpa using h
   rcases RE with RE|RE
   ·subst RE;dsimp only;rw[if_neg 0e1]
   ·have:=hle m RE;dsimp only;split
    ·congr 1;omega
    ·congr 1;omega
def iF:ay ["change","amounts","taken","gained","told"] ["change","amounts"] (ao gX):=dE
def Ob(D:Def K mg "most_turns" "most_turns" gX ["change","amounts"])(T:X3 K mg C R G Pc Fo Ch uK uN uB uE uM uC uP uI uD uL uT fG fH fI uG uS)(c1:bp P w K mg base 10 "side_counts" ["terms"] (gN C G Pc Fo))(c2:bp P w K mg base 11 "gains" ["change"] (yc C G Pc Fo Ch))(c3:bp P w K mg base 1 "turns_of" ["amount","taken","gain"] vZ):bp P w K mg base 12 "most_turns" ["change","amounts"] (Kb C G Pc Fo Ch):=by
 obtain⟨_,_,dG⟩:=c1;obtain⟨_,_,yj⟩:=c2;obtain⟨_,_,CG⟩:=c3;refine D.dk iF 0e6 0e0
 ·obtain⟨c,am,xs,ys,kvs,rfl,_⟩:=h;rfl
 ·obtain⟨c,am,xs,ys,kvs,rfl,hC,hx,hy,lx,ly,hG,tD,hI,q⟩:=h;have hu:=di hr;have big:=bgL;obtain⟨dx,l,r,hc,hl,GY⟩:=id hC;refine⟨_,(ai (aA (i:=2) iF.nd rfl (Or.inr rfl) (dR dG hr (aa 2e4 aj))) (ai (aA (i:=3) iF.nd rfl (Or.inr rfl) (dR yj hr (aa 1e6 aj))) (ai (dM (qc (i:=4) iF.nd rfl 0e3 (sc:=(ao gX)) (NX:=["change","amounts","taken","gained","told"]) (N:=["text","taken","amounts","gained"]) (fr:=[none,some 2,some 1,some 3]) Ds rfl rfl rfl (cQ (pv 2)) (λ_ _ _ _=>(aF (i:=0) (show (["text","taken","amounts","gained"]:On).Nodup by decide+kernel) rfl 0e3 (Or.inr rfl))) (λ_ _ _ _=>gJ) (λ_ _ _ _=>(dR CG hr (aa (bS hu (pv 2) 1e6 aq ⟨U,U,U,U⟩) (aa (cf hu (pv 1) 1e6 1e3) (aa (bS hu (pv 3) 1e6 aq ⟨U,U,U,U⟩) aj))))))) (ak (aH (MN rfl rfl T.X4 (aa (fW (sc:=(ao gX)) (NX:=["change","amounts","taken","gained","told"]) (N:=["turns"]) (fr:=[none]) Ds rfl rfl rfl (cA (pv 4)) (λ_ _ _ _=>(aF (i:=0) (show (["turns"]:On).Nodup by decide+kernel) rfl 0e3 (Or.inr rfl))) (λ_ _ _ _=>(mI (qL (wA 1e6)))) (λ_ _ _ _=>1e6)) aj))))))),?_⟩;refine⟨_,U,c,Ch,dx,_,_,U,hc,T.cm,T.gZ,eV _ _,l,xs,U,hl,hx,lx,λtk H1 XT uU e1=>?_⟩;refine⟨_,U,c,xs,ys,U,hC.same e1,hx,hy,lx,ly,λgn H2 ngn hgn e2=>?_⟩;have Cz:=e1.trans e2;have htk2:H2 tk=some (.dK (aI xs)):=e2 _ _ uU;have Vi:aY (aI xs):=cx _;have hIg:aY (gO xs ys):=DY _ _
  have Vg:(aI xs).length<=20:=by
   have:=dA (dQ xs);have e:(dQ xs).length=xs.length:=by unfold dQ;rw[length_map]
   unfold aI;omega
  have Tj:=Cz _ _ tD;have nat:am≠tk:=af tD XT;have ngt:gn≠tk:=Ne.symm (af uU ngn);refine⟨_,U,tk,aI xs,U,htk2,λo nf L hL=>?_⟩;have Vh:L≠tk:=λz=>by rw[z,ag] at hL;cases hL
  have Cb:H2 L=none:=by rwa [ah Vh] at hL
  refine oj (a:=tk) (D:=L) (kvs:=aI xs) (λi σ H'=>∃v:Option V,σ=[v,some (.ref tk),some (.ref am),some (.ref gn)]/\H' tk=some (.eI o (.dK (aI xs)))/\H' L=some (.lst (((aI xs).take i).map λq=>oV (yK (aG kvs q.1) (aG (aI xs) q.1) (aG (gO xs ys) q.1))))/\∀b o',H2 b=some o'->b≠tk->H' b=some o') ?_ (λi σ H' ⟨_,_,z,_⟩=>z) ?_ ?_
  ·exact⟨none,U,by rw[ah (Ne.symm Vh),ag],ag,λb o' z hb=>by rw[ah (af z Cb),ah hb];exact z⟩
  ·rintro i k v σ H' hi ⟨v',rfl,f1,f2,f3⟩ N hN;have hv:=Vi.dO (mem_of_getElem? hi);have ha:=f3 _ _ Tj nat;have hg:=f3 _ _ hgn ngt;have zm:=(List.getElem?_eq_some_iff.mp hi).1;refine⟨_,U,am,U, .inl ⟨_, .inl ha⟩,_,U,_,fQ.k (k:=k) ha,_,U,_,U,tk,V.int (aG (aI xs) k),U, .inl ⟨_,k, .inr ⟨o,f1⟩,U,hv.symm⟩,_,U,gn,U, .inl ⟨_, .inl hg⟩,_,U,_,fQ.k (k:=k) hg,?_⟩;rw[hI.at k,hIg.at k];refine⟨aG kvs k,aG (aI xs) k,aG (gO xs ys) k,U,(hG k).1,_,f2,by rw[length_map,length_take];omega,hN _ _ ⟨_,U,by rw[ah (Ne.symm Vh)];exact f1,?_,λb o' z hb=>by rw[ah (af z Cb)];exact f3 b o' z hb⟩⟩;rw[ag,take_snoc hi,map_append];rfl
  rintro σ H' ⟨v',rfl,f1,f2,f3⟩;rw[take_length] at f2;refine⟨tk,o,aI xs,f1,nf,?_⟩
  have s3:au H (upd H' tk (.dK (aI xs))):=λb o' z=>by
   have nb:b≠tk:=af z XT;rw[ah nb];exact f3 _ _ (Cz _ _ z) nb
  have oI:(upd H' tk (.dK (aI xs))) L=some (.lst ((aI xs).map λq=>oV (yK (aG kvs q.1) (aG (aI xs) q.1) (aG (gO xs ys) q.1)))):=by rw[ah Vh];exact f2
  have em:vX kvs xs ys=eR ((aI xs).map λq=>yK (aG kvs q.1) (aG (aI xs) q.1) (aG (gO xs ys) q.1)):=rfl;have eo:((aI xs).map λq=>oV (yK (aG kvs q.1) (aG (aI xs) q.1) (aG (gO xs ys) q.1)))=((aI xs).map λq=>yK (aG kvs q.1) (aG (aI xs) q.1) (aG (gO xs ys) q.1)).map oV:=by rw[map_map];rfl
  rw[eo] at oI;have hol:((aI xs).map λq=>yK (aG kvs q.1) (aG (aI xs) q.1) (aG (gO xs ys) q.1)).length<=20:=by rw[length_map];exact Vg
  rw[em] at q;generalize ((aI xs).map λq=>yK (aG kvs q.1) (aG (aI xs) q.1) (aG (gO xs ys) q.1))=os at oI hol q;generalize upd H' tk (.dK (aI xs))=H3 at s3 oI |-;have hlen:∀i,((os.take i).filterMap id).length<=i:=λi=>le_trans (List.length_filterMap_le _ _) (by rw[length_take];omega);refine⟨_,U,L,U,⟨_,bh.of oI⟩,λM hM=>vi (K:=K) (a:=L) (L:=M) (xs:=os.map oV) H3 (fun σ=>∃v:Option V,σ=[v]) (λi ys=>ys=((os.take i).filterMap id).map V.int) (bh.of oI) hM ⟨none,U⟩ (au.new hM) ag rfl (by rw[length_map];omega) ?_ ?_ ?_⟩
  ·rintro i ys rfl;rw[length_map];exact hlen i
  ·rintro i v σ H5 ys hi ⟨w,rfl⟩ e5 X5 rfl N M' hN hM';rw[getElem?_map] at hi
   obtain⟨z,hz,rfl⟩:∃z,os[i]? =some z/\v=oV z:=by
    cases hh:os[i]? with
    |none=>rw[hh] at hi;cases hi
    |some z=>rw[hh] at hi;exact⟨z,U,(Option.some.inj hi).symm⟩
   cases z with
   |none=>
    refine⟨_,U,_,U,d4 (hM' _ _ ⟨_,U⟩ e5 X5 ?_)⟩;rw[take_snoc hz,List.filterMap_append];simp
   |some j=>
    refine⟨_,U,_,U,je ⟨_,U,hN _ _ _ ⟨_,U⟩ e5 X5 ?_⟩⟩;rw[take_snoc hz,List.filterMap_append,map_append];rfl
  ·rintro H5 ys e5 X5 rfl;rw[length_map,take_length] at X5;refine⟨M,os.filterMap id,U,bh.of X5,λh0=>?_,λm hm hle=>?_⟩
   ·have:=q H5 (s3.trans e5);rw[oW h0] at this;exact this
   ·have:=q H5 (s3.trans e5);rw[jN hm hle] at this;exact this
variable {uC uP uI uD uL uT fG fH fI uG uS:Tok}{Ch HE Sh St:Py}
inductive Kg(St:Addr)(vs:List V)(H:Hp)(Q:VK)(E:XK):Prop
 |mk (st d g:Addr) (ts:List Addr) (rs:List cJ) (bM:vs=[.ref st]) (bV:kQ St H st d g) (b8:H g=some (.lst (ts.map V.ref))) (cS:Paired (cj H) ts rs) (eK:rs.length<=100) (gS:∀L us H',H L=none->H' L=some (.lst (us.map V.ref))->Paired (cj H') us rs->au H H'->Q (.ref L) H')
def yk(St:Py):Sp:=Kg St
def PvW(L:Py)(rs:List cJ):Nat->List V->Hp->Prop:=λi ys H'=>∃us:List Addr,ys=us.map V.ref/\us.length=i/\(∀u∈us,u≠L)/\Paired (cj H') us (rs.take i)
def Tn:ay 1e1 1e1 (ao Dw):=dE
def Kh(D:a9 K St "went" "Store.went" Dw 1e1)(T:sX K mg C R G Pc Fo St uK uN uB uE uM uC uP uI uD uL uT):aJ P w K mg base 1 St "went" 1e1 (yk St):=by
 refine D.dk Tn 0e6 0e0
 ·obtain⟨st,d,g,ts,rs,rfl,_⟩:=h;rfl
 ·obtain⟨st,d,g,ts,rs,rfl,⟨dx,iu⟩,hg,hP,hl,q⟩:=h;have big:=bgL;have fP:=Paired.length hP;refine⟨_,(ak (aH (fW (sc:=(ao Dw)) (NX:=1e1) (N:=["text","times"]) (fr:=[none,none]) Ds rfl rfl rfl (cA 2e4) (λ_ _ _ _=>(mL K 2 rfl rfl (aP (aF (i:=0) (show (["text","times"]:On).Nodup by decide+kernel) rfl 0e3 (Or.inr rfl)) (aP (aF (i:=1) (show (["text","times"]:On).Nodup by decide+kernel) rfl 0e3 (Or.inr rfl)) cL)))) (λ_ _ _ _=>gJ) (λ_ _ _ _=>(bW (aa 1e6 (aa (pv 1) aj))))))),?_⟩;refine⟨_,U,st,St,dx,_,_,U,iu,T.bB,T.qy,Am _ _,g,U,⟨_,bh.of hg⟩,λL hL=>?_⟩;refine lh (K:=K) (a:=g) (L:=L) (xs:=ts.map V.ref) H (fun σ=>∃v u:Option V,σ=[v,u]) (PvW L rs) (bh.of hg) ?_ hL ⟨none,none,rfl⟩ (au.new hL) ag ⟨[],rfl,rfl,(λu hu=>by cases hu), .nil⟩ (by rw[length_map];omega) ?_ ?_ ?_
  ·rintro i ys Ha Hb hb ⟨us,h1,h2,h3,h4⟩;exact⟨us,h1,h2,h3,jH (λu r hu z=>hb _ _ z (h3 u hu)) h4⟩
  ·rintro i ys H' ⟨us,rfl,h2,_⟩;rw[length_map,h2];exact le_refl _
  ·rintro j w σ' H5 vs hj ⟨w1,w2,rfl⟩ e5 px ⟨us,rfl,NK,X6,Ai⟩ N M hN;rw[getElem?_map] at hj;obtain⟨t,ht,rfl⟩:=gMp hj;obtain⟨r,jU,yL⟩:=bc hP ht;have yL:H t=some (.tup [.str r.x, .int r.m]):=yL;refine⟨t,_,U,gE.of (e5 _ _ yL),U,_,_,U,_,_,U,U,?_⟩;refine⟨_,U,_,U,1e2,λu hu=>?_⟩;have s6:=au.new (o:= .tup [.str r.x, .int r.m]) hu;refine hN _ _ _ ⟨_,_,rfl⟩ (e5.trans s6) (s6 _ _ px) ⟨us++[u],by rw[map_append];rfl,by rw[length_append,NK];rfl,λa ha=>?_,?_⟩
   ·rcases mem_append.mp ha with z|z
    ·exact X6 a z
    ·have ea:a=u:=by simpa using z
     rw[ea];exact λz=>by rw[z,px] at hu;cases hu
   ·rw[take_snoc jU];have Ki:cj (upd H5 u (.tup [.str r.x, .int r.m])) u r:=ag;exact bH Ki (aB (λa b (z:cj H5 a b)=>(s6 _ _ z:cj _ a b)) Ai)
  ·rintro H5 ys e5 px ⟨us,rfl,NK,X6,Ai⟩;rw[length_map,fP,take_length] at Ai;exact q L us H5 hL px Ai e5
def dP(am:PP)(xs ys:NE):Nat->List (Key×V)
 |0=>am
 |t+1=>cX 1 (cX (-1) (dP am xs ys t) (aI xs) (aI xs)) (aI ys) (aI ys)
theorem tG{am:PP}(xs ys:NE)(h:aY am):∀t,aY (dP am xs ys t)
 |0=>h
 |t+1=>cI _ _ _ _ (cI _ _ _ _ (tG xs ys h t))
theorem oX{th tk:PP}:∀{l:PP},dj th tk l=none->∀q∈l,aG tk q.1<=aG th q.1
 | [],_,q,hq=>by cases hq
 |p::r,h,q,hq=>by
  rw[eS] at h;split at h
  ·cases h
  ·rcases mem_cons.mp hq with rfl|hq
   ·omega
   ·exact oX h q hq
def aY.qC{kvs:PP}(h:aY kvs){k:Key}(hm:k∈kvs.map 1e4):ck kvs k=some (.int (aG kvs k)):=by
 obtain⟨⟨k',v⟩,hp,e⟩:=mem_map.mp hm;have e:k'=k:=e;subst e;exact h.dO hp
def Eh(x:Tm):tW x=⟨(gM x).toArray⟩:=by
 unfold tW gM zh;by_cases h:x.1=1
 ·rw[if_pos h,if_pos h,h,jt];rfl
 ·have e:(toString x.1 :Str)=⟨(aQ x.1).toArray⟩:=by
   rw[<-bw];unfold cD;rw[if_neg h]
  rw[if_neg h,if_neg h,e,e32,show (⟨#[32]⟩:Str)=⟨[32].toArray⟩ from rfl,bu,bu,append_assoc]
theorem Ei:∀xs:List Tm,Str.join " + " (xs.map tW)=⟨(tY xs).toArray⟩
 | []=>rfl
 | [x]=>by
   show tW x=_;rw[Eh];show _=(⟨(gM x++[]).toArray⟩:Str);rw[append_nil]
 |x::y::r=>by
  have ih:=Ei (y::r);show tW x++" + " ++Str.join " + " ((y::r).map tW)=_;have ej:(" + " :Str)=⟨[32,43,32].toArray⟩:=by decide+kernel
  rw[ih,Eh,ej,bu,bu];congr 2;show gM x++[32,43,32]++(gM y++hX r)=gM x++(([32,43,32]++gM y)++hX r);simp only [append_assoc]
def Aw(xs:NE):tX xs=⟨(tY xs).toArray⟩:=by
 unfold tX;have e:=PyProof.Rows.join_closes (sep:=" + ") (sep':=" + ") (ys:=xs.map tW) rfl;rw[show Txt.join " + " (xs.map tW)=Str.join " + " (xs.map tW) by simpa using e];exact Ei xs
def Ax(xs ys:NE):chS xs ys=⟨(tY xs++qv++tY ys).toArray⟩:=by
 unfold chS;have ea:(" -> " :Str)=⟨qv.toArray⟩:=by decide+kernel
 rw[Aw,Aw,ea,bu,bu]
def Ej{x:Tm}(h:fK x):(gM x).length<=46:=by
 obtain⟨h1,h2,_,h3,_⟩:=h;have:=Qb h1 h2
 have:(zh x.1).length<=1:=by
  unfold zh;split
  ·exact zero_le _
  ·exact le_refl _
 unfold gM;rw[length_append,length_append];omega
def Oc{xs:NE}(h:∀x∈xs,fK x):(hX xs).length<=49*xs.length:=by
 induction xs with
 |nil=>exact zero_le _
 |cons x r ih=>
  have h1:=Ej (h x 1e0);have h2:=ih λy hy=>h y (mem_cons_of_mem _ hy);have h3:=x6 x;show (JE x++hX r).length<=_;rw[length_append,length_cons];omega
def Ek{xs:NE}(h:∀x∈xs,fK x)(hn:xs≠[]):(tY xs).length+3<=49*xs.length:=by
 cases xs with
 |nil=>exact absurd rfl hn
 |cons x r=>
  have h1:=Ej (h x 1e0);have h2:=Oc λy hy=>h y (mem_cons_of_mem _ hy);show (gM x++hX r).length+3<=_;rw[length_append,length_cons];omega
def Od{xs ys:NE}(hx:∀x∈xs,fK x)(hy:∀x∈ys,fK x)(nx:xs≠[])(ny:ys≠[])(h:xs.length+ys.length<=8):(chS xs ys).length<=400:=by
 have h1:=Ek hx nx;have h2:=Ek hy ny;have h3:qv.length=4:=rfl;rw[Ax,aL,length_append,length_append];omega
def yl(kvs:PP)(k:Key)(v:V):k∈(putK kvs k v).map 1e4:=by
 unfold putK;split
 ·rename_i h
  obtain⟨q,hq,e⟩:=any_eq_true.mp h;have e:q.1=k:=by simpa using e
  exact mem_map.mpr ⟨(q.1,v),mem_map.mpr ⟨q,hq,by rw[if_pos e]⟩,e⟩
 ·rw[map_append];exact mem_append_right _ 2e0
def nH{kvs:PP}{k j:Key}{v:V}(h:j∈kvs.map 1e4):j∈(putK kvs k v).map 1e4:=by
 obtain⟨q,hq,rfl⟩:=mem_map.mp h;unfold putK;split
 ·refine mem_map.mpr ⟨if q.1=k then (q.1,v) else q,mem_map.mpr ⟨q,hq,rfl⟩,?_⟩;split<;>rfl
 ·rw[map_append];exact mem_append_left _ (mem_map_of_mem hq)
def Kj(a b:Str):Txt.join " -> " [a,b]=a++" -> " ++b:=by
 have e:=PyProof.Rows.join_closes (sep:=" -> ") (sep':=" -> ") (ys:=[a,b]) rfl;rw[show Txt.join " -> " [a,b]=Str.join " -> " [a,b] by simpa using e];rfl
def Pos(kvs:PP):Prop:=∀q∈kvs,∃i,q.2=V.int i/\1<=i
def Pos.nonneg{kvs:PP}(h:Pos kvs)(k:Key):0<=aG kvs k:=by
 cases e:ck kvs k with
 |none=>rw[fj e];exact Int.le_refl _
 |some v=>
  obtain⟨i,ei,hi⟩:=h _ (iW e);have ei:v=V.int i:=ei;rw[ei] at e;rw[fk e];omega
theorem El:∀(as:Uf) (acc:PP),Pos acc->(∀p∈as,1<=p.2)->Pos (aV 1 acc as)
 | [],_,h,_=>h
 |p::r,acc,h,hp=>by
  have h1:=hp p 1e0;refine El r (bZ acc (Sum.inr p.1) (p.2*1)) (λq hq=>?_) λq hq=>hp q (mem_cons_of_mem _ hq);rcases qz hq with hq|hq
  ·exact h q hq
  ·rw[hq];refine⟨_,U,?_⟩;have:=h.nonneg (Sum.inr p.1);omega
theorem Em(t:Int){j:Key}:∀(as:Uf) (acc:PP),j∈acc.map 1e4->j∈(aV t acc as).map 1e4
 | [],_,h=>h
 |p::r,acc,h=>Em t r (bZ acc (Sum.inr p.1) (p.2*t)) (nH h)
theorem ym(t:Int){p:Str×Int}:∀(as:Uf) (acc:PP),p∈as->(Sum.inr p.1 :Key)∈(aV t acc as).map 1e4
 | [],_,h=>by cases h
 |q::r,acc,h=>by
  rcases mem_cons.mp h with rfl|h
  ·exact Em t r _ (yl _ _ _)
  ·exact ym t r _ h
def Oe(s:Str):Fm:=([(1,[.one s.cps.toList 1])],0)
def LL:Fm:=([], -1)
def Kk(s:Str):(⟨(fL (Oe s)).toArray⟩:Str)=s:=by
 unfold Oe;rw[SY]
def To(s:Str):cW 2 (Oe s).1=[(Sum.inr s, .int 1)]:=by
 show bZ [] (Sum.inr (⟨s.cps.toList.toArray⟩:Str)) (1*1*1)=_;rw[Array.toArray_toList];rfl
def Tp{s:Str}(h:lF s.cps.toList):cz (Oe s):=NV h
def Qg(s:Str)(k:Key):aG (jG (Oe s)) k=if k=Sum.inr ("+" :Str) then 0 else if k=Sum.inr s then 1 else 0:=by
 unfold jG;rw[To,dN,qA];rfl
def Qh(k:Key):aG (jG LL) k=if k=Sum.inr ("+" :Str) then -1 else 0:=by
 show aG (putK [] (Sum.inr ("+" :Str)) (.int (-1))) k=_;rw[dN];rfl
def tH(a b:NE)(k:Key):sumZ (a++b) k=sumZ a k+sumZ b k:=by
 unfold sumZ;rw[map_append,sum_append]
def iZ(z:Tm)(a:NE)(k:Key):sumZ (z::a) k=z.1*aG (jG z.2) k+sumZ a k:=by
 unfold sumZ;rw[map_cons,sum_cons]
def kS(k:Key):sumZ [] k=0:=rfl
def Of(n:Nat)(xs ys:NE):Prop:=xs≠[]/\ys≠[]/\(∀x∈xs,gm 100000000000 x)/\(∀y∈ys,gm 100000000000 y)/\xs.length+ys.length<=n/\∀k,sumZ xs k=sumZ ys k
def Of.swap{n:Nat}{xs ys:NE}(h:Of n xs ys):Of n ys xs:=by
 obtain⟨h1,h2,h3,h4,h5,h6⟩:=h;exact⟨h2,h1,h4,h3,by omega,λk=>(h6 k).symm⟩
def Of.ev{xs ys:NE}(h:Of 8 xs ys):Gi (Txt.join " -> " [tX xs,tX ys]) xs ys:=by
 obtain⟨h1,h2,h3,h4,h5,h6⟩:=h;have tw:∀{z:Tm},gm 100000000000 z->fK z:=fun {z} h=>⟨h.1,Int.le_trans h.2.1 0e2,h.2.2⟩;have ox:∀t∈xs,fK t:=λt ht=>tw (h3 t ht);have oy:∀t∈ys,fK t:=λt ht=>tw (h4 t ht);have et:Txt.join " -> " [tX xs,tX ys]=chS xs ys:=Kj _ _
 have fl:∀zs:List Tm,(∀t∈zs,fK t)->Ae zs<=7*zs.length:=λzs=>by
  induction zs with
  |nil=>intro _;exact le_refl _
  |cons z r ih=>
   intro h;have h1:=(h z 1e0).2.2.2.2;have h2:=ih λt ht=>h t (mem_cons_of_mem _ ht);unfold Ae at h2 |-;rw[map_cons,sum_cons,length_cons];omega
 have hf:=fl (xs++ys) λt ht=>by
  rcases mem_append.mp ht with z|z
  ·exact ox t z
  ·exact oy t z
 rw[length_append] at hf;rw[et];exact⟨by rw[Ax],h1,h2,ox,oy,Od ox oy h1 h2 h5,h5,by omega,λt ht=>(ox t ht).2.2,λt ht=>(oy t ht).2.2,h6⟩
theorem fV(c:Int)(all:PP):∀(l acc:PP),(∀q∈l,q.1∈acc.map 1e4)->(cX c acc l all).map 1e4=acc.map 1e4
 | [],_,_=>rfl
 |p::r,acc,h=>by
  have e:(bZ acc p.1 (c*aG all p.1)).map 1e4=acc.map 1e4:=by
   unfold bZ;rw[m8];unfold ju;rw[if_pos (h p 1e0)]
  have:=fV c all r (bZ acc p.1 (c*aG all p.1)) λq hq=>by rw[e];exact h q (mem_cons_of_mem _ hq)
  rw[e] at this;exact this
def Kl(t:Int)(k:Key):∀(as:Uf) (acc:PP),aG (aV t acc as) k=aG acc k+t*aG (aV 1 [] as) k:=by
 have key:∀(t:Int) (as:Uf) (acc:PP),aG (aV t acc as) k=aG acc k+t*(as.map λp=>if (Sum.inr p.1 :Key)=k then p.2 else 0).sum:=by
  intro t as
  induction as with
  |nil=>intro acc;show aG acc k=_;simp
  |cons p r ih=>
   intro acc;show aG (aV t (bZ acc (Sum.inr p.1) (p.2*t)) r) k=_;rw[ih,lB,map_cons,sum_cons,mul_add,Int.add_assoc];congr 2;split
   ·rw[Int.mul_comm]
   ·rw[mul_zero]
 intro as acc;rw[key t as acc,key 1 as []];show _=_+t*(0+1*_);rw[zero_add,one_mul]
def X7{KV:PP}(hI:aY KV)(k:Key):aG (pF KV KV) k=aG KV k:=by
 cases e:ck (pF KV KV) k with
 |some v=>
  have hm:=iW e;obtain⟨q,_,XX⟩:=mem_map.mp hm;injection XX with e1 e2;rw[<-e2] at e;rw[fk e,e1]
 |none=>
  rw[fj e];refine Classical.byContradiction λz=>?_;have PY:k∈KV.map 1e4:=Classical.byContradiction λh=>z (fX h).symm;obtain⟨q,hq,rfl⟩:=mem_map.mp PY;refine mG e (mem_map.mpr ⟨(q.1,V.int (aG KV q.1)),mem_map.mpr ⟨q,mem_filter.mpr ⟨hq,decide_eq_true λh=>z h.symm⟩,rfl⟩,rfl⟩)
def Ay(xs ys:NE)(k:Key):aG (gO xs ys) k=aG (aI ys) k - aG (aI xs) k:=by
 have e:aG (gO xs ys) k=aG (vS xs ys) k:=X7 (ya xs ys) k;rw[e];show aG (aV (-1) (aI ys) (dQ xs)) k=_;rw[Kl];show _+ -1*aG (aI xs) k=_;omega
def InK(am:PP)(xs ys:NE):Prop:=(∀q∈aI xs,q.1∈am.map 1e4)/\∀q∈aI ys,q.1∈am.map 1e4
theorem oY{am:PP}{xs ys:NE}(h:InK am xs ys):∀t,(dP am xs ys t).map 1e4=am.map 1e4
 |0=>rfl
 |t+1=>by
  have ih:=oY h t;have e1:=fV (-1) (aI xs) (aI xs) (dP am xs ys t) (by rw[ih];exact h.1);have e2:=fV 1 (aI ys) (aI ys) (cX (-1) (dP am xs ys t) (aI xs) (aI xs)) (by rw[e1,ih];exact h.2);show (cX 1 _ _ _).map _=_;rw[e2,e1,ih]
def CH(xs:NE):((aI xs).map 1e4).Nodup:=iE _
theorem walk_z(am:PP)(xs ys:NE)(k:Key):∀t:Nat,aG (dP am xs ys t) k=aG am k+t*(aG (aI ys) k - aG (aI xs) k)
 |0=>by show aG am k=_;simp
 |t+1=>by
  show aG (cX 1 _ _ _) k=_;rw[oS 1 (CH ys),oS (-1) (CH xs),walk_z am xs ys k t];push_cast;rw[add_mul];omega
def Qi{am:PP}{xs ys:NE}(h:InK am xs ys):∀q∈gO xs ys,q.1∈am.map 1e4:=λq hq=>by
 have h1:=(Ab (vS xs ys) (vS xs ys)).mem (mem_map_of_mem (f:=1e4) hq);obtain⟨q',yG,e⟩:=mem_map.mp h1;rw[<-e];refine jL (Pk:=λj=>j∈am.map 1e4) (-1) (dQ xs) (aI ys) h.2 (λp hp=>?_) q' yG;have:=ym 1 (dQ xs) [] hp;obtain⟨q2,h2,e2⟩:=mem_map.mp this;rw[<-e2];exact h.1 q2 h2
def Qj(xs ys:NE):((gO xs ys).map 1e4).Nodup:=JG _ (Cv xs ys)
def yn(am:PP)(xs ys:NE)(T:Int)(k:Key):aG (cM am xs ys T) k=aG am k+T*aG (gO xs ys) k:=oS T (Qj xs ys) am k
def wa{am:PP}{xs ys:NE}(hI:aY am)(hn:(am.map 1e4).Nodup)(h:InK am xs ys)(t:Nat):dP am xs ys t=cM am xs ys t:=by
 have k1:=oY h t;have k2:(cM am xs ys t).map 1e4=am.map 1e4:=fV _ _ _ _ (Qi h);refine nh (tG xs ys hI t) (cI _ _ _ _ hI) (by rw[k1];exact hn) (by rw[k1,k2]) λk=>?_;rw[walk_z];rw[yn,Ay]
theorem yo{th tk:PP}:∀{l:PP},(∀q∈l,aG tk q.1<=aG th q.1)->dj th tk l=none
 | [],_=>rfl
 |p::r,h=>by
  rw[eS,if_neg (by have:=h p 1e0;omega)];exact yo λq hq=>h q (mem_cons_of_mem _ hq)
theorem oZ{th tk:PP}{k:Key}{l':Int}:∀{l:PP},dj th tk l=some (k,l')->∃q∈l,q.1=k/\l'=aG tk k - aG th k/\0<l'
 | [],h=>by cases h
 |p::r,h=>by
  rw[eS] at h;split at h
  ·rename_i c
   injection h with h;injection h with h1 h2;refine⟨p,mem_cons_self ..,h1,by rw[<-h1,<-h2],by rw[<-h2];exact c⟩
  ·obtain⟨q,hq,z⟩:=oZ h;exact⟨q,mem_cons_of_mem _ hq,z⟩
def tI{a t g:Int}(h:yK a t g=none)(j:Nat):t<=a+j*g:=by
 unfold yK at h;split at h
 ·cases h
 ·split at h
  ·rename_i h1 h2
   have:=mul_nonneg (Int.natCast_nonneg j) h2;omega
  ·cases h
def nI{a t g T:Int}(h:yK a t g=some T):0<=T/\(∀j:Int,0<=j->j<T->t<=a+j*g)/\a+T*g<t:=by
 unfold yK at h;split at h
 ·injection h with h;subst h;exact⟨Int.le_refl _,λj h1 h2=>by omega,by omega⟩
 ·split at h
  ·cases h
  ·rename_i h1 h2
   injection h with h;have gp:0< -g:=by omega
   have q0:0<=(a - t) /(-g):=Int.ediv_nonneg 0e1 0e1;refine⟨by omega,λj j0 j1=>?_,?_⟩
   ·have e1:=Int.ediv_mul_le (a - t) (b:= -g) 0e1;have e2:j*(-g)<=(a - t) /(-g)*(-g):=Int.mul_le_mul_of_nonneg_right 0e1 0e1;rw[Int.mul_neg] at e2;omega
   ·have e1:=Int.lt_ediv_add_one_mul_self (a - t) gp;rw[h,Int.mul_neg] at e1;omega
theorem kU:∀{l:List (Option Int)},eR l=none->∀o∈l,o=none
 | [],_,o,ho=>by cases ho
 |none::r,h,o,ho=>by
  rcases mem_cons.mp ho with z|z
  ·exact z
  ·exact kU (l:=r) h o z
 |some i::r,h,o,ho=>by
  have h:(match eR r with|none=>some i|some j=>some (if j<i then j else i))=none:=h
  cases e:eR r with
  |none=>rw[e] at h;cases h
  |some j=>rw[e] at h;cases h
theorem iG:∀{l:List (Option Int)} {T:Int},eR l=some T->some T∈l/\∀i,some i∈l->T<=i
 | [],_,h=>by cases h
 |none::r,T,h=>by
  obtain⟨h1,h2⟩:=iG (l:=r) h;refine⟨mem_cons_of_mem _ h1,λi hi=>?_⟩;rcases mem_cons.mp hi with z|z
  ·cases z
  ·exact h2 i z
 |some i::r,T,h=>by
  have h:(match eR r with|none=>some i|some j=>some (if j<i then j else i))=some T:=h
  cases e:eR r with
  |none=>
   rw[e] at h;injection h with h;subst h;refine⟨mem_cons_self ..,λj hj=>?_⟩;rcases mem_cons.mp hj with z|z
   ·injection z with z;omega
   ·have:=kU e _ z;cases this
  |some j=>
   rw[e] at h;injection h with h;obtain⟨h1,h2⟩:=iG e;refine⟨?_,λk hk=>?_⟩
   ·rw[<-h];split
    ·exact mem_cons_of_mem _ h1
    ·exact mem_cons_self ..
   ·rw[<-h];rcases mem_cons.mp hk with z|z
    ·injection z with z;split<;>omega
    ·have:=h2 k z;split<;>omega
def tK{am:PP}{xs ys:NE}{n:Nat}(h:cg am xs ys n=none)(j:Nat)(hj:j<n):dj (dP am xs ys j) (aI xs) (aI xs)=none:=by
 refine yo λq hq=>?_;rw[walk_z];unfold cg at h
 cases e:vX am xs ys with
 |none=>
  have:=kU e _ (mem_map_of_mem hq);have:=tI this j;rw[Ay] at this;exact this
 |some T=>
  rw[e] at h;obtain⟨h1,h2⟩:=iG e;dsimp only at h;by_cases c:(n:Int)<=T
  ·cases e2:yK (aG am q.1) (aG (aI xs) q.1) (aG (gO xs ys) q.1) with
   |none=>
    have:=tI e2 j;rw[Ay] at this;exact this
   |some i=>
    have hi:=h2 i (by rw[<-e2];exact mem_map_of_mem (f:=λq=>yK (aG am q.1) (aG (aI xs) q.1) (aG (gO xs ys) q.1)) hq);have:=(nI e2).2.1 j 0e1 0e1;rw[Ay] at this;exact this
  ·rw[if_neg c] at h;exfalso;obtain⟨q',yG,e3⟩:=mem_map.mp h1;have hT:=nI e3
   have hl:dj (cM am xs ys T) (aI xs) (aI xs)=none:=by
    cases e4:dj (cM am xs ys T) (aI xs) (aI xs) with
    |none=>rfl
    |some p=>rw[e4] at h;cases h
   have:=oX hl q' yG;rw[yn] at this;omega
def jO{am:PP}{xs ys:NE}(hI:aY am)(hn:(am.map 1e4).Nodup)(hk:InK am xs ys){n:Nat}{t:Int}{k:Key}{l:Int}(h:cg am xs ys n=some (t,k,l)):
  ∃t':Nat,t=t'/\t'<n/\(∀j,j<t'->dj (dP am xs ys j) (aI xs) (aI xs)=none)/\dj (dP am xs ys t') (aI xs) (aI xs)=some (k,l):=by
 unfold cg at h
 cases e:vX am xs ys with
 |none=>rw[e] at h;cases h
 |some T=>
  rw[e] at h;obtain⟨h1,h2⟩:=iG e;dsimp only at h;by_cases c:(n:Int)<=T
  ·rw[if_pos c] at h;cases h
  rw[if_neg c] at h;obtain⟨q',yG,e3⟩:=mem_map.mp h1;have hT:=nI e3;obtain⟨t',rfl⟩:=eq_ofNat_of_zero_le hT.1
  cases e4:dj (cM am xs ys t') (aI xs) (aI xs) with
  |none=>rw[e4] at h;cases h
  |some p=>
   rw[e4] at h;injection h with h;injection h with h3 h4;injection h4 with h5 h6;refine⟨t',h3.symm,by omega,λj hj=>yo λq hq=>?_,?_⟩
   ·rw[walk_z]
    cases e2:yK (aG am q.1) (aG (aI xs) q.1) (aG (gO xs ys) q.1) with
    |none=>
     have:=tI e2 j;rw[Ay] at this;exact this
    |some i=>
     have hi:=h2 i (by rw[<-e2];exact mem_map_of_mem (f:=λq=>yK (aG am q.1) (aG (aI xs) q.1) (aG (gO xs ys) q.1)) hq);have:=(nI e2).2.1 j 0e1 0e1;rw[Ay] at this;exact this
   ·rw[wa hI hn hk t',e4,<-h5,<-h6]
structure Tq(K:1e8)(mg:2e1)(C:Addr):Prop extends oA K mg C where
 Al:mg "sum" =none
def Ts{n i:Nat}(h:i<n):LA n (i:Int)=some i:=by
 unfold LA;rw[if_pos 0e1,if_pos 0e1];rfl
inductive Og(K:1e8)(vs:List V)(H:Hp)(Q:VK)(E:XK):Prop
 |mk (a:Addr) (ns:List Int) (p:Int) (bM:vs=[.ref a, .int p]) (bV:bh K H a (ns.map V.int)) (b8:∀n H',au H H'->Q (.int n) H')
def Km(K:Uu):Sp:=Og K
def Tt:ay ["_law_script","_law_place"] ["_law_script","_law_place"] (ao IH):=dE
def Oh(D:Def K mg "_law_here" "_law_here" IH ["_law_script","_law_place"])(T:Tq K mg C):bp P w K mg base 1 "_law_here" ["_law_script","_law_place"] (Km K):=by
 refine D.dk Tt 0e6 0e0
 ·obtain⟨a,ns,p,rfl,_⟩:=h;rfl
 ·obtain⟨a,ns,p,rfl,hS,q⟩:=h;obtain⟨ms,hm,_⟩:=zw ns (some p) (some (p+1));refine⟨_,(ak (aH (bG (rn rfl) rfl T.Al Bt (aa (eF k7 1e6 (cY (pv 1)) (cY (av bC (pv 1) aq))) aj)))),?_⟩;exact⟨_,U,_,U,_,U,_,U,_,_,U,U,_,U,a,_,U,hS,λt ht=>⟨t,ms,U,bh.of (by rw[ag,hm]),q _ _ (au.new ht)⟩⟩
def Tu(x:Int):Prop:=0<=x/\x<1999999973
def CI(n:Int):Tu (n%1999999973):=⟨emod_nonneg _ 0e2,emod_lt_of_pos _ 0e2⟩
inductive Gn(vs:List V)(H:Hp)(Q:VK)(E:XK):Prop
 |mk (c m:Int) (bM:vs=[.int c, .int m]) (bV:0<=m) (b8:m<=63) (cS:∀(l:Addr) (xs:List Int) H',(xs.length:Int)=m->(∀x∈xs,Tu x)->H l=none->H' l=some (.lst (xs.map V.int))->au H H'->Q (.ref l) H')
def nJ:Sp:=Gn
def dB:ay ["_law_cell","_law_many","_law_rest","_law_one","_law_two","_law_found","_law_turn","_law_more","_law_k"] ["_law_cell","_law_many"] (ao xr):=dE
def Gp(D:Def K mg "_law_shaken" "_law_shaken" xr ["_law_cell","_law_many"])(T:Tq K mg C):bp P w K mg base 1 "_law_shaken" ["_law_cell","_law_many"] nJ:=by
 refine D.dk dB 0e6 0e0
 ·obtain⟨c,m,rfl,_⟩:=h;rfl
 ·obtain⟨c,m,rfl,m0,m1,q⟩:=h;have big:(2000 :Nat) <sizeLine:=by decide
  refine⟨_,(ai (aA (i:=2) dB.nd rfl 0e3 (av gW 1e6 aq)) (ai (aA (i:=3) dB.nd rfl 0e3 (av bN (pv 2) aq)) (ai (aA (i:=4) dB.nd rfl 0e3 (av bN (av gW (pv 2) aq) aq)) (ai (aA (i:=5) dB.nd rfl 0e3 (bO aj)) (ai (bF PassesOwn.never rfl (gQ rfl T.lz (aa (av bC (pv 1) aq) aj)) (aF (i:=6) dB.nd rfl 0e3) (ai (aA (i:=7) dB.nd rfl 0e3 (av bC (av bC (av bC (av dm (pv 3) aq) (av dm (pv 4) (pv 4))) (av dm aq (pv 6))) aq)) (ai (aA (i:=3) dB.nd rfl 0e3 (pv 4)) (ai (aA (i:=4) dB.nd rfl 0e3 (av bN (pv 7) aq)) (ak (a7 (eU PySem.F.plainAttrs_list PySem.F.slot_list_append PySem.F.type_list_append cn (pv 5) (aa (pv 4) aj)))))))) (ai (aA (i:=5) dB.nd rfl 0e3 (eF k7 (pv 5) (cY aq) p9)) (ai (bR (aO gf (av bN 1e6 aq) aq (aT _)) (ak (aH (pv 5)))
      aS) (ai (bF PassesOwn.never rfl (gQ rfl T.lz (aa (pv 1) aj)) (aF (i:=8) dB.nd rfl 0e3) (ak (bR (aO j4 (pv 2) aq (aT _)) (ai (wC (av bN (pv 2) aq) (Q8 (pv 5) (pv 8) set_list)) (ak (aA (i:=2) dB.nd rfl 0e3 (av gW (pv 2) aq))))
        aS))) (ak (aH (pv 5))))))))))),?_⟩
  have o1:=CI (c/2);have t0:0<=c/2/1999999973%1999999943:=emod_nonneg _ 0e2;have t1:c/2/1999999973%1999999943<1999999943:=emod_lt_of_pos _ 0e2;refine⟨_,U,_,_,U,U,⟨by decide,by decide⟩,_,U,_,_,U,U,(by show (0 :Int) <1999999973;decide),_,U,_,_,U,U,⟨by decide,by decide⟩,_,_,U,U,(by show (0 :Int) <1999999943;decide),(by show 0<=sizeLine;decide),λD1 X8=>?_⟩;refine⟨_,U,_,_,U,U,_,U,by omega,by omega,gR (λi σ H'=>∃(one two:Int) (xs:List Int) (v6 v7:Option V),σ=[some (.int c),some (.int m),some (.int (c/2)),some (.int one),some (.int two),some (.ref D1),v6,v7,none]/\Tu one/\Tu two/\H' D1=some (.lst (xs.map V.int))/\xs.length=i/\(∀x∈xs,Tu x)/\au H H') ?_ ?_ ?_⟩
  ·exact⟨_,_,[],none,none,U,o1,⟨t0,by omega⟩,ag,U,(λx hx=>by cases hx),au.new X8⟩
  ·rintro i σ H' hi ⟨one,two,xs,v6,v7,rfl,h1,h2,xS,hl,hx,e⟩;obtain⟨a0,a1⟩:=h1;obtain⟨b0,b1⟩:=id h2;refine⟨_,U,_,_,U,U, .inr ⟨by decide,by decide⟩,_,U,_,U,_,_,U,U, .inl ⟨by omega,by omega⟩,_,_,U,U,_,U,_,_,U,U, .inl ⟨by decide,by decide⟩,_,_,U,U,_,_,U,U,?_⟩;refine⟨_,U,_,U,_,_,U,U,(by show (0 :Int) <1999999973;decide),_,U, .inl ⟨U,_,bh.of xS⟩,_,U,D1,_,_,U,U,xS,by rw[length_map];omega,?_⟩;have hn:=CI (one*1664525+two*two+97*(0+(i:Int))+40503);refine⟨two,_,xs++[(one*1664525+two*two+97*(0+(i:Int))+40503) %1999999973],_,_,U,h2,hn,?_,?_,?_,λb o z=>by rw[ah (af z X8)];exact e _ _ z⟩
   ·rw[ag,map_append];rfl
   ·rw[length_append,hl];rfl
   ·intro x LB;rcases mem_append.mp LB with z|z
    ·exact hx x z
    ·have ez:x=(one*1664525+two*two+97*(0+(i:Int))+40503) %1999999973:=by simpa using z
     rw[ez];exact hn
  ·rintro σ H' ⟨one,two,xs,v6,v7,rfl,_,_,xS,hl,hx,e⟩;refine⟨_,U,_,U,D1,_,U,bh.of xS,λp hp=>?_⟩
   have ec:j5 (xs.map V.int) (some (2 :Int)) none=(xs.drop 2).map V.int:=by
    rw[show (2 :Int)=((2 :Nat):Int) from rfl,HV,List.map_drop]
   have np:H p=none:=none_back e hp;have sp:=e.trans (au.new (o:= .lst (j5 (xs.map V.int) (some (2 :Int)) none)) hp);have Vl:(upd H' p (.lst (j5 (xs.map V.int) (some (2 :Int)) none))) p=some (.lst ((xs.drop 2).map V.int)):=by rw[ag,ec]
   have lx:((xs.drop 2).length:Int)=m:=by rw[length_drop];omega
   have hx2:∀x∈xs.drop 2,Tu x:=λx z=>hx x (mem_of_mem_drop z);generalize upd H' p (.lst (j5 (xs.map V.int) (some (2 :Int)) none))=H2 at sp Vl |-;generalize xs.drop 2=zs at Vl lx hx2;dsimp only [bL];refine⟨_,U,_,_,U,U,(by show (0 :Int) <2;decide),U,_,U,fJ (λ_=>?_) λ_=>?_⟩
   ·exact⟨_,U,q p zs H2 lx hx2 np Vl sp⟩
   ·refine⟨_,U,_,U,by omega,by omega,gR (λi σ H'=>∃(rest:Int) (ys:List Int) (v8:Option V),σ=[some (.int c),some (.int m),some (.int rest),some (.int one),some (.int two),some (.ref p),v6,v7,v8]/\H' p=some (.lst (ys.map V.int))/\(ys.length:Int)=m/\(∀x∈ys,Tu x)/\au H H') ?_ ?_ ?_⟩
    ·exact⟨_,zs,none,U,Vl,lx,hx2,sp⟩
    ·rintro i σ H3 hi ⟨rest,ys,v8,rfl,hp3,ly,hy,e3⟩;refine⟨_,U,_,_,U,U,_,U,fJ (λ_=>?_) λ_=>?_⟩
     ·have zm:i<ys.length:=by omega
      have hix:LA (ys.map V.int).length (0+(i:Int))=some i:=by rw[length_map,zero_add];exact Ts zm
      refine⟨_,U,_,_,U,U,(by show (0 :Int) <1999999973;decide),_,U,_,U,p,_,_,i,U,U,hp3,hix,?_⟩;refine⟨_,U,_,_,U,U,⟨by decide,by decide⟩,_,ys.set i (rest%1999999973),_,U,?_,?_,?_,λb o z=>by rw[ah (af z np)];exact e3 _ _ z⟩
      ·rw[ag,List.map_set]
      ·rw[List.length_set];exact ly
      ·intro x LB;rcases List.mem_or_eq_of_mem_set LB with z|z
       ·exact hy x z
       ·rw[z];exact CI rest
     ·exact⟨rest,ys,_,U,hp3,ly,hy,e3⟩
    ·rintro σ H3 ⟨rest,ys,v8,rfl,hp3,ly,hy,e3⟩;exact⟨_,U,q p ys H3 ly hy np hp3 e3⟩
variable {uC uP uI uD uL uT fG fH fI uG uS:Tok}{Ch HE Sh St:Py}
def X9:ay ["_law_many"] ["_law_many"] (ao Sl):=dE
def Tv(D:Def K mg "_law_num" "_law_num" Sl ["_law_many"])(T:oA K mg C):bp P w K mg base 1 "_law_num" ["_law_many"] iK:=by
 refine D.dk X9 0e6 0e0
 ·obtain⟨n,rfl,_⟩:=h;rfl
 ·obtain⟨n,rfl,h1,h2,k⟩:=h
  refine⟨_,(ai (bR (aO gf 1e6 aq (aT _)) (ak (aH aZ))
      aS) (ak (aH (bx jb rfl T.IM Bs (aa 1e6 aj))))),?_⟩
  refine⟨_,U,U,_,U,fJ (λe=>?_) λe=>?_⟩
  ·have e:n=1:=by simpa using e
   subst e;exact k
  ·have e:¬n=1:=by simpa using e
   refine⟨_,U,_,U,ve 0e1 0e1,?_⟩;unfold cD at k;rw[if_neg e] at k;exact k
inductive Oi(vs:List V)(H:Hp)(Q:VK)(E:XK):Prop
 |mk (n:Int) (bM:vs=[.int n]) (bV: -999<=n) (b8:n<=999) (cS:∀H',au H H'->Q (.str ⟨(eh n).toArray⟩) H')
def CJ:Sp:=Oi
def Gq:ay ["_law_charge_here"] ["_law_charge_here"] (ao rP):=dE
def CK(D:Def K mg "_law_charge" "_law_charge" rP ["_law_charge_here"])(T:1e5)(c1:bp P w K mg base 1 "_law_num" ["_law_many"] iK):bp P w K mg base 2 "_law_charge" ["_law_charge_here"] CJ:=by
 obtain⟨_,_,cR⟩:=c1;refine D.dk Gq 0e6 0e0
 ·obtain⟨n,rfl,_⟩:=h;rfl
 ·obtain⟨n,rfl,n1,n2,q⟩:=h;have big:=bgL
  refine⟨_,(ai (bR (aO gf 1e6 aq (aT _)) (ak (aH aZ))
      aS) (ak (aH (av aE (av aE aZ (dR cR hr (aa (bG yU rfl T.Jj HS (aa 1e6 aj)) aj))) (bq a8 (bO (aa aZ (aa aZ aj))) (bx uQ rfl T.DC wN (aa (pZ j4 1e6 aq (aT _)) aj)) 1e3))))),?_⟩
  refine⟨_,U,U,_,U,fJ (λe=>?_) λe=>?_⟩
  ·have e:n=0:=by simpa using e
   subst e;exact q _ (au.refl _)
  ·have e:¬n=0:=by simpa using e
   have a1:1<=(if n<0 then -n else n):=by split<;>omega
   have a2:(if n<0 then -n else n)<=999:=by split<;>omega
   have z:=dS a1 a2;have g1:("^" :Str).length=1:=by decide+kernel
   have g2:(if 0<n then ("+" :Str) else ("-" :Str)).length=1:=by split<;>decide+kernel
   rw[Nf e] at q;refine⟨_,U,n,U,_,U,a1,a2,_,_,U,U,by rw[g1];omega,1e2,λy hy=>⟨_,U,_,_,U,U, .inr ⟨_,U,y,_,_,V.str _,U,U,bh.of ag,SF n,_,_,U,U,?_,q _ (au.new hy)⟩⟩⟩;rw[az,g1,g2];omega
inductive o5(ks:List (List Nat)):Prop
 |mk (a b c:List Nat) (n:Nat) (bM:lF a) (bV:lF b) (b8:lF c) (cS:a.length=1) (eK:b.length=2) (gS:c.length=3) (lR:1<=n) (rV:n<=3) (yJ:ks=[a,b,c].take n)
def d9(k:IR):V:= .str ⟨k.toArray⟩
inductive Gs(vs:List V)(H:Hp)(Q:VK)(E:XK):Prop
 |mk (c:Int) (bM:vs=[.int c]) (bV:∀(l:Addr) (ks:List (List Nat)) H',o5 ks->H l=none->H' l=some (.lst (ks.map d9))->au H H'->Q (.ref l) H')
def Az:Sp:=Gs
def Kn{xs:List Int}(h:(xs.length:Int)=6):∃a b c d e f,xs=[a,b,c,d,e,f]:=by
 match xs,h with
 | [a,b,c,d,e,f],_=>exact⟨a,b,c,d,e,f,U⟩
 | [],h=>cases h
 | [_],h=>cases h
 | [_,_],h=>cases h
 | [_,_,_],h=>cases h
 | [_,_,_,_],h=>cases h
 | [_,_,_,_,_],h=>cases h
 |_::_::_::_::_::_::_::_,h=>simp only [length_cons] at h;omega
def Ko(n:Int):∃c,zF c=true/\y8 great.cps.toList (n%26)=some c:=by
 obtain⟨c,hc,yp⟩:=l7 (xs:=great.cps.toList) (emod_nonneg n (b:=26) 0e2) (by rw[FV];exact emod_lt_of_pos _ 0e2);exact⟨c,all_eq_true.mp FX c hc,yp⟩
def En(n:Int):∃c,md c=true/\y8 small.cps.toList (n%26)=some c:=by
 obtain⟨c,hc,yp⟩:=l7 (xs:=small.cps.toList) (emod_nonneg n (b:=26) 0e2) (by rw[FW];exact emod_lt_of_pos _ 0e2);exact⟨c,all_eq_true.mp FY c hc,yp⟩
def fD:ay ["_law_cell","_law_great","_law_small","_law_xs","_law_one","_law_two","_law_three"] ["_law_cell"] (ao xt):=dE
def Gu(D:Def K mg "_law_kinds" "_law_kinds" xt ["_law_cell"])(T:oA K mg C)(c1:bp P w K mg base 1 "_law_shaken" ["_law_cell","_law_many"] nJ):bp P w K mg base 2 "_law_kinds" ["_law_cell"] Az:=by
 obtain⟨_,_,ie⟩:=c1;refine D.dk fD 0e6 0e0
 ·obtain⟨c,rfl,_⟩:=h;rfl
 ·obtain⟨c,rfl,q⟩:=h
  refine⟨_,(ai (aA (i:=1) fD.nd rfl 0e3 aZ) (ai (aA (i:=2) fD.nd rfl 0e3 aZ) (ai (aA (i:=3) fD.nd rfl 0e3 (dR ie hr (aa 1e6 (aa aq aj)))) (ai (aA (i:=4) fD.nd rfl 0e3 (bq iH (pv 1) (av bN (bq a8 (pv 3) aq 1e3) aq) 1e3)) (ai (aA (i:=5) fD.nd rfl 0e3 (av aE (bq iH (pv 1) (av bN (bq a8 (pv 3) aq 1e3) aq) 1e3) (bq iH (pv 2) (av bN (bq a8 (pv 3) aq 1e3) aq) 1e3))) (ai (bR (aO gf (av bN (bq a8 (pv 3) aq 1e3) aq) aq (aT _)) (ak (aA (i:=5) fD.nd rfl 0e3 (av aE (pv 4) (bq iH (pv 2) (av bN (bq a8 (pv 3) aq 1e3) aq) 1e3))))
      aS) (ai (aA (i:=6) fD.nd rfl 0e3 (av aE (pv 5) (bq iH (pv 2) (av bN (bq a8 (pv 3) aq 1e3) aq) 1e3))) (ai (bR (aO gf (av bN (av iw (bq a8 (pv 3) aq 1e3) aq) aq) aq (aT _)) (ak (aA (i:=6) fD.nd rfl 0e3 (av aE (av aE (bq iH (pv 1) (av bN (bq a8 (pv 3) aq 1e3) aq) 1e3) (bq iH (pv 2) (av bN (bq a8 (pv 3) aq 1e3) aq) 1e3)) (bq iH (pv 2) (av bN (bq a8 (pv 3) aq 1e3) aq) 1e3))))
      aS) (ak (aH (eF k7 (bO (aa (pv 4) (aa (pv 5) (aa (pv 6) aj)))) p9 (cY (av bC aq (av bN (bq a8 (pv 3) aq 1e3) aq)))))))))))))),?_⟩
  refine⟨_,U,c,6,U,by decide,by decide,λl xs H1 lx _ nl hl e1=>?_⟩;obtain⟨x0,x1,x2,x3,x4,x5,rfl⟩:=Kn lx;clear lx;dsimp only [bL];obtain⟨g0,G0,h0⟩:=Ko x0;obtain⟨g1,G1,h1⟩:=Ko x1;obtain⟨g4,G4,h4⟩:=Ko x4;obtain⟨s2,S2,k2⟩:=En x2;obtain⟨s4,S4,k4⟩:=En x4;obtain⟨s5,S5,k5⟩:=En x5;obtain⟨s1,S1,k1⟩:=En x1;refine⟨_,U,_,U,l,_,_,V.int x0,U,U,bh.of hl,U,_,_,U,U,(by show (0 :Int) <26;decide),great,_,g0,U,U,0e4,h0,?_⟩;refine⟨_,U,_,U,l,_,_,V.int x1,U,U,bh.of hl,U,_,_,U,U,(by show (0 :Int) <26;decide),great,_,g1,U,U,0e4,h1,_,U,_,U,l,_,_,V.int x2,U,U,bh.of hl,U,_,_,U,U,(by show (0 :Int) <26;decide),small,_,s2,U,U,0e4,k2,_,_,U,U,(by show 1+1<=sizeLine;decide),?_⟩;dsimp only [bL];refine mN (fun σ' H'=>∃a b,zF a=true/\md b=true/\σ'=[some (.int c),some (.str great),some (.str small),some (.ref l),some (.str ⟨#[g0]⟩),some (.str ⟨#[a,b]⟩),none]/\H'=H1) (λN hN=>?_) ?_
  ·refine⟨_,U,l,_,_,V.int x3,U,U,bh.of hl,U,_,_,U,U,(by show (0 :Int) <2;decide),U,_,U,fJ (λ_=>?_) λ_=>hN _ _ ⟨g1,s2,G1,S2,U,U⟩⟩;exact⟨_,U,_,U,_,U,l,_,_,V.int x2,U,U,bh.of hl,U,_,_,U,U,(by show (0 :Int) <26;decide),small,_,s2,U,U,0e4,k2,_,_,U,U,(by show 1+1<=sizeLine;decide),hN _ _ ⟨g0,s2,G0,S2,U,U⟩⟩
  rintro σ' H2 ⟨a,b,A1,B1,rfl,rfl⟩;refine⟨_,U,_,U,_,U,l,_,_,V.int x4,U,U,bh.of hl,U,_,_,U,U,(by show (0 :Int) <26;decide),small,_,s4,U,U,0e4,k4,_,_,U,U,(by show 2+1<=sizeLine;decide),?_⟩;dsimp only [bL];refine mN (fun σ' H'=>∃x y z,zF x=true/\md y=true/\md z=true/\σ'=[some (.int c),some (.str great),some (.str small),some (.ref l),some (.str ⟨#[g0]⟩),some (.str ⟨#[a,b]⟩),some (.str ⟨#[x,y,z]⟩)]/\H'=H2) (λN hN=>?_) ?_
  ·refine⟨_,U,l,_,_,V.int x3,U,U,bh.of hl,U,_,_,U,U,⟨by decide,by decide⟩,_,_,U,U,(by show (0 :Int) <2;decide),U,_,U,fJ (λ_=>?_) λ_=>hN _ _ ⟨a,b,s4,A1,B1,S4,U,U⟩⟩;exact⟨_,U,_,U,l,_,_,V.int x4,U,U,bh.of hl,U,_,_,U,U,(by show (0 :Int) <26;decide),great,_,g4,U,U,0e4,h4,_,U,_,U,l,_,_,V.int x5,U,U,bh.of hl,U,_,_,U,U,(by show (0 :Int) <26;decide),small,_,s5,U,U,0e4,k5,_,_,U,U,(by show 1+1<=sizeLine;decide),_,U,_,U,l,_,_,V.int x1,U,U,bh.of hl,U,_,_,U,U,(by show (0 :Int) <26;decide),small,_,s1,U,U,0e4,k1,_,_,U,U,(by show 2+1<=sizeLine;decide),hN _ _ ⟨g4,s5,s1,G4,S5,S1,U,U⟩⟩
  rintro σ' H3 ⟨x,y,z,X1,Y1,Z1,rfl,rfl⟩;refine⟨_,U,_,U,_,U,(by show 3<=sizeLine;decide),λy1 hy=>?_⟩;have sy:=au.new (o:= .lst [V.str ⟨#[g0]⟩,V.str ⟨#[a,b]⟩,V.str ⟨#[x,y,z]⟩]) hy;have DI:=sy _ _ hl;refine⟨_,U,l,_,_,V.int x5,U,U,bh.of DI,U,_,_,U,U,(by show (0 :Int) <3;decide),_,_,U,U,_,U,y1,_,U,bh.of ag,λp hp=>?_⟩;have m0:0<=x5%3:=emod_nonneg _ 0e2;have m1:x5%3<3:=emod_lt_of_pos _ 0e2;have en:(1 :Int)+x5%3=((1+(x5%3).toNat:Nat):Int):=by omega
  refine q p (([[g0],[a,b],[x,y,z]]:List (List Nat)).take (1+(x5%3).toNat)) _ ⟨[g0],[a,b],[x,y,z],1+(x5%3).toNat,⟨g0,[],rfl,G0,rfl,by decide⟩,⟨a,[b],rfl,A1,by simpa using B1,(by show 1<=2;decide)⟩,⟨x,[y,z],rfl,X1,by simp [Y1,Z1],(by show 2<=2;decide)⟩,rfl,rfl,rfl,by omega,by omega,rfl⟩ (none_back (e1.trans sy) hp) ?_ ((e1.trans sy).trans (au.new hp));rw[ag];rw[en,HU,map_take];rfl
def i3(a b:IR)(p q r:Int):Nat->List ir
 |0=>[(1,[.one a p])]
 |1=>[(1,[.one a p, .one b q])]
 |2=>[(1,[.gr [.one a p, .one b 1] r])]
 |3=>[(1,[.one a 1, .gr [.one b q] r])]
 |4=>[(1,[.one a p]),(r,[.one b q])]
 |_=>[(1,[.gr [.gr [.one a p] q, .one b 1] r])]
def gP(a b:IR)(p q r:Int):Nat->Xx
 |0=>[(a,p)]
 |1=>[(a,p),(b,q)]
 |2=>[(a,p*r),(b,r)]
 |3=>[(a,1),(b,q*r)]
 |4=>[(a,p),(b,q*r)]
 |_=>[(a,p*q*r),(b,r)]
def bQ(a b:IR)(p q r:Int):Nat->Str
 |0=>⟨a.toArray⟩++cD p
 |1=>⟨a.toArray⟩++cD p++⟨b.toArray⟩++cD q
 |2=>"(" ++⟨a.toArray⟩++cD p++⟨b.toArray⟩++")" ++cD r
 |3=>⟨a.toArray⟩++"(" ++⟨b.toArray⟩++cD q++")" ++cD r
 |4=>⟨a.toArray⟩++cD p++"." ++cD r++⟨b.toArray⟩++cD q
 |_=>"((" ++⟨a.toArray⟩++cD p++")" ++cD q++⟨b.toArray⟩++")" ++cD r
def s40:("(" :Str)=⟨[40].toArray⟩:=by decide+kernel
def Qk:("((" :Str)=⟨[40,40].toArray⟩:=by decide+kernel
def Vm:(")" :Str)=⟨[41].toArray⟩:=by decide+kernel
def s46:("." :Str)=⟨[46].toArray⟩:=by decide+kernel
def yq(a b:IR)(p q r:Int):∀n,bQ a b p q r n=⟨(wL 2 (i3 a b p q r n) 0).toArray⟩
 |0=>by simp only [bQ,i3,wL,bw,bu,flatMap_cons,flatMap_nil,bY,b7];simp [eh]
 |1=>by simp only [bQ,i3,wL,bw,bu,flatMap_cons,flatMap_nil,bY,b7];simp [eh]
 |2=>by simp only [bQ,i3,wL,bw,s40,Vm,bu,flatMap_cons,flatMap_nil,bY,b7,jt];simp [eh]
 |3=>by simp only [bQ,i3,wL,bw,s40,Vm,bu,flatMap_cons,flatMap_nil,bY,b7,jt];simp [eh]
 |4=>by simp only [bQ,i3,wL,bw,s46,bu,flatMap_cons,flatMap_nil,bY,b7,lG];simp [eh]
 |n+5=>by simp only [bQ,i3,wL,bw,Qk,Vm,bu,flatMap_cons,flatMap_nil,bY,b7,jt];simp [eh]
def Kp(a b:IR)(p q r:Int):∀n,(i3 a b p q r n).flatMap (bT 2)=nB (gP a b p q r n)
 |0=>by simp [i3,gP,bT,bI,nB]
 |1=>by simp [i3,gP,bT,bI,nB]
 |2=>by simp [i3,gP,bT,bI,nB]
 |3=>by simp [i3,gP,bT,bI,nB]
 |4=>by simp [i3,gP,bT,bI,nB]
 |n+5=>by simp [i3,gP,bT,bI,nB,mul_assoc]
def AA(a b:IR)(p q r:Int):∀n,(gP a b p q r n).length<=2
 |0=>le_succ _
 |1=>le_refl _
 |2=>le_refl _
 |3=>le_refl _
 |4=>le_refl _
 |_+5=>le_refl _
def Oj(a b:IR)(p q r:Int):∀n,gP a b p q r n≠[]
 |0=>cons_ne_nil _ _
 |1=>cons_ne_nil _ _
 |2=>cons_ne_nil _ _
 |3=>cons_ne_nil _ _
 |4=>cons_ne_nil _ _
 |_+5=>cons_ne_nil _ _
structure Pqr(p q r:Int):Prop where
 p1:1<=p
 p2:p<=4
 q1:1<=q
 q2:q<=3
 r1:1<=r
 r2:r<=3
def lJ{x y a b:Int}(x1:1<=x)(x2:x<=a)(y1:1<=y)(y2:y<=b):1<=x*y/\x*y<=a*b:=
 ⟨Int.le_trans 0e2 (mul_le_mul x1 y1 0e2 0e1),mul_le_mul x2 y2 0e1 0e1⟩
def Ol{a b:IR}{p q r:Int}(Z:Pqr p q r)(n:Nat):∀u∈gP a b p q r n,(u.1=a\/u.1=b)/\1<=u.2/\u.2<=36:=by
 obtain⟨p1,p2,q1,q2,r1,r2⟩:=Z;have pr:=lJ p1 p2 r1 r2;have qr:=lJ q1 q2 r1 r2;have pq:=lJ p1 p2 q1 q2;have pqr:=lJ pq.1 pq.2 r1 r2;intro u hu
 match n,hu with
 |0,hu=>
  rcases mem_singleton.mp hu with rfl;exact⟨.inl rfl,p1,(by show p<=36;omega)⟩
 |1,hu=>
  rcases mem_cons.mp hu with rfl|hu
  ·exact⟨.inl rfl,p1,(by show p<=36;omega)⟩
  ·rcases mem_singleton.mp hu with rfl;exact⟨.inr rfl,q1,(by show q<=36;omega)⟩
 |2,hu=>
  rcases mem_cons.mp hu with rfl|hu
  ·exact⟨.inl rfl,pr.1,(by show p*r<=36;omega)⟩
  ·rcases mem_singleton.mp hu with rfl;exact⟨.inr rfl,r1,(by show r<=36;omega)⟩
 |3,hu=>
  rcases mem_cons.mp hu with rfl|hu
  ·exact⟨.inl rfl,(by show (1 :Int)<=1;decide),(by show (1 :Int)<=36;decide)⟩
  ·rcases mem_singleton.mp hu with rfl;exact⟨.inr rfl,qr.1,(by show q*r<=36;omega)⟩
 |4,hu=>
  rcases mem_cons.mp hu with rfl|hu
  ·exact⟨.inl rfl,p1,(by show p<=36;omega)⟩
  ·rcases mem_singleton.mp hu with rfl;exact⟨.inr rfl,qr.1,(by show q*r<=36;omega)⟩
 |_+5,hu=>
  rcases mem_cons.mp hu with rfl|hu
  ·exact⟨.inl rfl,pqr.1,(by show p*q*r<=36;omega)⟩
  ·rcases mem_singleton.mp hu with rfl;exact⟨.inr rfl,r1,(by show r<=36;omega)⟩
def Kq{xs:List ir}(h0:∃ts r,xs=(1,ts)::r)(h1:∀y∈xs,Dq 2 y)(h2:(wL 2 xs 0).length<=29)(h3:(xs.flatMap (bT 2)).length<=7):Xz xs:=by
 obtain⟨ts,r,rfl⟩:=h0;exact⟨cons_ne_nil _ _,λn n1 n2=>⟨U,h1,n1,n2⟩,h2,h3⟩
def X'{a b:IR}{p q r:Int}(ha:lF a)(hb:lF b)(Z:Pqr p q r)(n:Nat):Xz (i3 a b p q r n):=by
 have la:=kL ha;have lb:=kL hb;obtain⟨p1,p2,q1,q2,r1,r2⟩:=id Z;have lp:=kK p1 0e1;have lq:=kK q1 0e1;have lr:=kK r1 0e1;have A:∀d,jY d (.one a p):=λd=>by cases d<;>exact⟨ha,p1,by omega⟩
 have A1:∀d,jY d (.one a 1):=λd=>by cases d<;>exact⟨ha,by decide,by decide⟩
 have B:∀d,jY d (.one b q):=λd=>by cases d<;>exact⟨hb,q1,by omega⟩
 have B1:∀d,jY d (.one b 1):=λd=>by cases d<;>exact⟨hb,by decide,by decide⟩
 have f3:((i3 a b p q r n).flatMap (bT 2)).length<=7:=by
  rw[Kp];unfold nB;rw[length_map];exact le_trans (AA ..) 0e2
 have one:∀{d:Nat} {t u:Tr},jY d t->∀v∈[t],jY d v:=λh v hv=>by rw[mem_singleton.mp hv];exact h
 have two:∀{d:Nat} {t u:Tr},jY d t->jY d u->∀v∈[t,u],jY d v:=λh h' v hv=>by
  rcases mem_cons.mp hv with rfl|hv
  ·exact h
  ·rw[mem_singleton.mp hv];exact h'
 have x1:∀{ts:List Tr},ts≠[]->(∀t∈ts,jY 2 t)->∀y∈[((1 :Int),ts)],Dq 2 y:=λh h' y hy=>by
  rw[mem_singleton.mp hy];exact⟨h,h',(by show (1 :Int)<=1;decide),(by show (1 :Int)<=999;decide)⟩
 have f29:(wL 2 (i3 a b p q r n) 0).length<=29:=by
  rw[<-aL,<-yq]
  match n with
  |0=>simp only [bQ,bw,az,aL];omega
  |1=>simp only [bQ,bw,az,aL];omega
  |2=>simp only [bQ,bw,s40,Vm,az,aL,length_cons,length_nil];omega
  |3=>simp only [bQ,bw,s40,Vm,az,aL,length_cons,length_nil];omega
  |4=>simp only [bQ,bw,s46,az,aL,length_cons,length_nil];omega
  |_+5=>simp only [bQ,bw,Qk,Vm,az,aL,length_cons,length_nil];omega
 refine Kq ?_ ?_ f29 f3
 ·match n with
  |0=>exact⟨_,_,U⟩
  |1=>exact⟨_,_,U⟩
  |2=>exact⟨_,_,U⟩
  |3=>exact⟨_,_,U⟩
  |4=>exact⟨_,_,U⟩
  |_+5=>exact⟨_,_,U⟩
 ·match n with
  |0=>exact x1 (cons_ne_nil _ _) (one (u:= .one a p) (A _))
  |1=>exact x1 (cons_ne_nil _ _) (two (A _) (B _))
  |2=>exact x1 (cons_ne_nil _ _) (one (u:= .one a p) ⟨cons_ne_nil _ _,two (A 1) (B1 1),r1,by omega⟩)
  |3=>exact x1 (cons_ne_nil _ _) (two (A1 _) ⟨cons_ne_nil _ _,one (u:= .one a p) (B 1),r1,by omega⟩)
  |4=>
   intro y hy;rcases mem_cons.mp hy with rfl|hy
   ·exact x1 (cons_ne_nil _ _) (one (u:= .one a p) (A _)) _ (mem_singleton.mpr rfl)
   ·rw[mem_singleton.mp hy];exact⟨cons_ne_nil _ _,one (u:= .one a p) (B _),r1,(by show r<=999;omega)⟩
  |_+5=>exact x1 (cons_ne_nil _ _) (one (u:= .one a p) ⟨cons_ne_nil _ _,two (d:=1) ⟨cons_ne_nil _ _,one (u:= .one a p) (A 0),q1,by omega⟩ (B1 1),r1,by omega⟩)
def Nz(x:Fm):Prop:=∀t n,x.1≠[(1,[.gr [t] n])]
def nz83(a b:IR)(p q r:Int)(ch:Int):∀n,Nz (i3 a b p q r n,ch)
 |0=>λt n e=>by cases e
 |1=>λt n e=>by cases e
 |2=>λt n e=>by cases e
 |3=>λt n e=>by cases e
 |4=>λt n e=>by cases e
 |_+5=>λt n e=>by cases e
structure CtD(ks:List (List Nat))(x:Fm)(D:List (Key×V)):Prop where
 int:aY D
 nd:(D.map 1e4).Nodup
 z:∀k,aG D k=aG (jG x) k
 ky:∀q∈D,q.1=Sum.inr ("+" :Str)\/(∃k∈ks,q.1=Sum.inr (⟨k.toArray⟩:Str))/\1<=aG D q.1/\aG D q.1<=72
 ln:D.length<=4
 ne:∃k∈ks,(Sum.inr (⟨k.toArray⟩:Str):Key)∈D.map 1e4
 nz:Nz x
def yr(ch:Int)(k:Key):aG [(Sum.inr ("+" :Str), .int ch)] k=if k=Sum.inr ("+" :Str) then ch else 0:=dN [] (Sum.inr ("+" :Str)) k ch
def Ya{ks:List (List Nat)}(jg:∀k∈ks,lF k){as:Xx}{xs:List ir}{ch:Int}(hf:xs.flatMap (bT 2)=nB as)(h:∀u∈as,u.1∈ks/\1<=u.2/\u.2<=36)(hl:as.length<=2)(m5:as≠[])(hz:Nz (xs,ch)):CtD ks (xs,ch) (aV 1 [(Sum.inr ("+" :Str), .int ch)] (nB as)):=by
 have yp:∀p∈nB as,∃u∈as,p=((⟨u.1.toArray⟩:Str),u.2):=λp hp=>by
  obtain⟨u,hu,rfl⟩:=mem_map.mp hp;exact⟨u,hu,U⟩
 have np:∀u∈as,(Sum.inr (⟨u.1.toArray⟩:Str):Key)≠Sum.inr ("+" :Str):=λu hu e=>ic (jg _ (h u hu).1) (Sum.inr.inj e)
 have e1:∀k,aG (aV 1 [(Sum.inr ("+" :Str), .int ch)] (nB as)) k=(if k=Sum.inr ("+" :Str) then ch else 0)+aG (aV 1 [] (nB as)) k:=λk=>by
  rw[Kl,yr,one_mul]
 have e2:aG (aV 1 [] (nB as)) (Sum.inr ("+" :Str))=0:=fX λm=>by
  obtain⟨q,hq,e⟩:=mem_map.mp m;exact jL (Pk:=λj=>j≠Sum.inr ("+" :Str)) 1 (nB as) [] (λq hq=>by cases hq) (λp hp=>by obtain⟨u,hu,rfl⟩:=yp p hp;exact np u hu) q hq e
 have e3:∀u∈as,1<=aG (aV 1 [] (nB as)) (Sum.inr (⟨u.1.toArray⟩:Str))/\aG (aV 1 [] (nB as)) (Sum.inr (⟨u.1.toArray⟩:Str))<=72:=by
  match as,hl,h with
  | [],_,_=>intro u hu;cases hu
  | [v],_,h=>
    intro u hu;have hv:=h v 1e0;rw[mem_singleton.mp hu];show 1<=aG (bZ [] _ (v.2*1)) _/\aG (bZ [] _ (v.2*1)) _<=72;rw[lB,if_pos rfl];show 1<=(0 :Int)+v.2*1/\(0 :Int)+v.2*1<=72;omega
  | [v,v'],_,h=>
    intro u hu;have hv:=h v 1e0;have hv':=h v' (mem_cons_of_mem _ 1e0);show 1<=aG (bZ (bZ [] _ (v.2*1)) _ (v'.2*1)) _/\aG (bZ (bZ [] _ (v.2*1)) _ (v'.2*1)) _<=72;rw[lB,lB];have z0:aG [] (Sum.inr (⟨u.1.toArray⟩:Str))=0:=rfl;rw[z0];rcases mem_cons.mp hu with rfl|hu
    ·rw[if_pos rfl];split<;>omega
    ·have hu:=mem_singleton.mp hu;subst hu;rw[if_pos rfl];split<;>omega
 refine⟨jq 1 _ _ λp hp=>?_,xw 1 _ _ 2e0,λk=>?_,λq hq=>?_,?_,?_,hz⟩
 ·rw[mem_singleton.mp hp];exact⟨_,U⟩
 ·rw[e1];show _=aG (putK (cW 2 xs) (Sum.inr ("+" :Str)) (.int ch)) k;rw[dN];unfold cW;rw[hf];by_cases e:k=Sum.inr ("+" :Str)
  ·subst e;rw[if_pos rfl,if_pos rfl,e2,add_zero]
  ·rw[if_neg e,if_neg e,zero_add]
 ·rcases jL (Pk:=λj=>j=Sum.inr ("+" :Str)\/∃u∈as,j=Sum.inr (⟨u.1.toArray⟩:Str)) 1 (nB as) [(Sum.inr ("+" :Str), .int ch)] (λq hq=> .inl (by rw[mem_singleton.mp hq])) (λp hp=>by obtain⟨u,hu,rfl⟩:=yp p hp;exact .inr ⟨u,hu,rfl⟩) q hq with e| ⟨u,hu,e⟩
  ·exact .inl e
  ·refine .inr ⟨⟨u.1,(h u hu).1,e⟩,?_⟩;rw[e,e1,if_neg (np u hu),zero_add];exact e3 u hu
 ·have:=jr 1 (nB as) [(Sum.inr ("+" :Str), .int ch)];have:(nB as).length=as.length:=by unfold nB;rw[length_map]
  have:[((Sum.inr ("+" :Str):Key),V.int ch)].length=1:=rfl;omega
 ·cases as with
  |nil=>exact absurd rfl m5
  |cons u r=>exact⟨u.1,(h u 1e0).1,ym 1 (p:=((⟨u.1.toArray⟩:Str),u.2)) _ _ 1e0⟩
variable {uC uP uI uD uL uT fG fH fI uG uS:Tok}{Ch HE Sh St:Py}
def PrAt(H:Hp)(t:Py)(u:List Nat×Int):Prop:=H t=some (.tup [d9 u.1, .int u.2])
inductive fM(H:Hp)(y:Addr)(as:Xx):Prop
 |mk (ts:List Addr) (bM:H y=some (.lst (ts.map V.ref))) (bV:Paired (PrAt H) ts as)
def fM.same{H H':Hp}{y:Py}{as:Xx}(e:au H H')(h:fM H y as):fM H' y as:=by
 obtain⟨ts,h1,h2⟩:=h;exact⟨ts,e _ _ h1,aB (λ_ _ z=>e _ _ z) h2⟩
def Om{H:Hp}{y t:Py}{u:List Nat×Int}(ht:H t=some (.tup [d9 u.1, .int u.2]))(hy:H y=none):fM (upd H y (.lst [.ref t])) y [u]:=
 ⟨[t],ag, .cons (by show upd _ _ _ _=_;rw[ah (af ht hy)];exact ht) .nil⟩
def nK{H:Hp}{y t t':Py}{u u':List Nat×Int}(ht:H t=some (.tup [d9 u.1, .int u.2]))(A7:H t'=some (.tup [d9 u'.1, .int u'.2]))(hy:H y=none):fM (upd H y (.lst [.ref t, .ref t'])) y [u,u']:=
 ⟨[t,t'],ag, .cons (by show upd _ _ _ _=_;rw[ah (af ht hy)];exact ht) (.cons (by show upd _ _ _ _=_;rw[ah (af A7 hy)];exact A7) .nil)⟩
def shape_at{H:Hp}{a b:IR}{p q r:Int}{n:Nat}(hn:n<6){y0 y1 y2 y3 y4 y5:Py}(h0:fM H y0 (gP a b p q r 0))(h1:fM H y1 (gP a b p q r 1))(h2:fM H y2 (gP a b p q r 2))(h3:fM H y3 (gP a b p q r 3))(h4:fM H y4 (gP a b p q r 4))(h5:fM H y5 (gP a b p q r 5)):
  ∃y,y8 [V.ref y0, .ref y1, .ref y2, .ref y3, .ref y4, .ref y5] (n:Int)=some (.ref y)/\fM H y (gP a b p q r n)/\y8 [V.str (bQ a b p q r 0), .str (bQ a b p q r 1), .str (bQ a b p q r 2), .str (bQ a b p q r 3), .str (bQ a b p q r 4), .str (bQ a b p q r 5)] (n:Int)=some (.str (bQ a b p q r n)):=by
 match n,hn with
 |0,_=>exact⟨y0,U,h0,U⟩
 |1,_=>exact⟨y1,U,h1,U⟩
 |2,_=>exact⟨y2,U,h2,U⟩
 |3,_=>exact⟨y3,U,h3,U⟩
 |4,_=>exact⟨y4,U,h4,U⟩
 |5,_=>exact⟨y5,U,h5,U⟩
def Ql{ks:List (List Nat)}(h:ks≠[])(n:Int):∃k∈ks,y8 (ks.map d9) (n%((ks.map d9).length:Int))=some (d9 k):=by
 have l:0< ((ks.map d9).length:Int):=by
  rw[length_map];have:=length_pos_iff.mpr h;omega
 obtain⟨v,hv,yp⟩:=l7 (xs:=ks.map d9) (emod_nonneg n 0e1) (emod_lt_of_pos n l);obtain⟨k,hk,rfl⟩:=mem_map.mp hv;exact⟨k,hk,yp⟩
def o5.ne{ks:List (List Nat)}(h:o5 ks):ks≠[]:=by
 obtain⟨a,b,c,n,_,_,_,_,_,_,n1,_,rfl⟩:=h
 match n,n1 with
 |n+1,_=>exact cons_ne_nil _ _
def o5.ok{ks:List (List Nat)}(h:o5 ks):∀k∈ks,lF k:=by
 obtain⟨a,b,c,n,ha,hb,hc,_,_,_,_,_,rfl⟩:=h;intro k hk;have hk:=mem_of_mem_take hk;simp only [mem_cons,not_mem_nil,or_false] at hk;rcases hk with rfl|rfl|rfl<;>assumption
inductive Kr(vs:List V)(H:Hp)(Q:VK)(E:XK):Prop
 |mk (n:Int) (kl:Addr) (ks:List (List Nat)) (bM:vs=[.int n, .ref kl]) (bV:H kl=some (.lst (ks.map d9))) (b8:o5 ks) (cS:∀(t d:Addr) (x:Fm) (D:List (Key×V)) H',cz x->x.1≠[]-> -3<=x.2->x.2<=2->H t=none->H d=none->H' t=some (.tup [.str ⟨(fL x).toArray⟩, .ref d])->H' d=some (.dK D)->CtD ks x D->au H H'->Q (.ref t) H')
def Eo:Sp:=Kr
def bX:ay ["_law_number","_law_kinds_here","_law_a","_law_b","_law_p","_law_q","_law_r","_law_charge_here","_law_shape","_law_told","_law_some","_law_counts","_law_kind","_law_many"] ["_law_number","_law_kinds_here"] (ao ow):=dE
def Kt(D:Def K mg "_law_formula" "_law_formula" ow ["_law_number","_law_kinds_here"])(T:oA K mg C)(c1:bp P w K mg base 1 "_law_num" ["_law_many"] iK)(c2:bp P w K mg base 2 "_law_charge" ["_law_charge_here"] CJ):bp P w K mg base 3 "_law_formula" ["_law_number","_law_kinds_here"] Eo:=by
 obtain⟨_,_,cR⟩:=c1;obtain⟨_,_,mn⟩:=c2;refine D.dk bX 0e6 0e0
 ·obtain⟨n,kl,ks,rfl,_⟩:=h;rfl
 ·obtain⟨n,kl,ks,rfl,nC,jg,qq⟩:=h;have hu:=di hr;have big:=bgL;have ux:=jg.ok;refine⟨_,(ai (aA (i:=2) bX.nd rfl 0e3 (bq a8 (pv 1) (av bN 1e6 (bG cp rfl T.iD fe (aa (pv 1) aj))) 1e3)) (ai (aA (i:=3) bX.nd rfl 0e3 (bq a8 (pv 1) (av bN (av iw 1e6 aq) (bG cp rfl T.iD fe (aa (pv 1) aj))) 1e3)) (ai (aA (i:=4) bX.nd rfl 0e3 (av bC aq (av bN (av iw 1e6 aq) aq))) (ai (aA (i:=5) bX.nd rfl 0e3 (av bC aq (av bN (av iw 1e6 aq) aq))) (ai (aA (i:=6) bX.nd rfl 0e3 (av bC aq (av bN (av iw 1e6 aq) aq))) (ai (aA (i:=7) bX.nd rfl 0e3 (bq a8 (bO (aa aq (aa aq (aa aq (aa aq (aa (qP lX aq) (aa aq (aa (qP lX aq) aj)))))))) (av bN (av iw 1e6 aq) aq) 1e3)) (ai (aA (i:=8) bX.nd rfl 0e3 (av bN (av iw 1e6 aq) aq)) (ai (aA (i:=9) bX.nd rfl 0e3 (qf (bO (aa (av aE (pv 2) (dR cR hr (aa (pv 4) aj))) (aa (av aE (av aE (av aE (pv 2) (dR cR hr (aa (pv 4) aj))) (pv 3)) (dR cR hr (aa (pv 5) aj))) (aa (av aE (av aE (av aE (av aE (av aE aZ (pv 2)) (dR cR hr (aa (pv 4) aj))) (pv 3)) aZ) (dR cR hr (aa (pv 6) aj))) aj)))))) (ai (aA (i:=9) bX.nd rfl 0e3 (qf (av l5 (pv 9) (bO (aa (av aE (av aE (av aE (av aE (av aE (pv 2) aZ) (pv 3)) (dR cR hr (aa (pv 5) aj))) aZ) (dR cR hr (aa (pv 6) aj))) (aa (av aE (av aE (av aE (av aE (av aE (pv 2) (dR cR hr (aa (pv 4) aj))) aZ) (dR cR hr (aa (pv 6) aj))) (pv 3)) (dR cR hr (aa (pv 5) aj))) aj)))))) (ai (a7 (eU PySem.F.plainAttrs_list PySem.F.slot_list_append PySem.F.type_list_append cn (pv 9) (aa (av aE (av aE (av aE (av aE (av aE (av aE (av aE aZ (pv 2)) (dR cR hr (aa (pv 4) aj))) aZ) (dR cR hr (aa (pv 5) aj))) (pv 3)) aZ) (dR cR hr (aa (pv 6) aj))) aj))) (ai (aA (i:=10) bX.nd rfl 0e3 (qf (bO (aa (bO (aa (bW (aa (pv 2) (aa (pv 4) aj))) aj)) (aa (bO (aa (bW (aa (pv 2) (aa (pv 4) aj))) (aa (bW (aa (pv 3) (aa (pv 5) aj))) aj))) (aa (bO (aa (bW (aa (pv 2) (aa (av dm (pv 4) (pv 6)) aj))) (aa (bW (aa (pv 3) (aa (pv 6) aj))) aj))) (aa (bO (aa (bW (aa (pv 2) (aa aq aj))) (aa (bW (aa (pv 3) (aa (av dm (pv 5) (pv 6)) aj))) aj))) (aa (bO (aa (bW (aa (pv 2) (aa (pv 4) aj))) (aa (bW (aa (pv 3) (aa (av dm (pv 5) (pv 6)) aj))) aj))) aj)))))))) (ai (aA (i:=10) bX.nd rfl 0e3 (qf (bq a8 (av l5 (pv 10) (bO (aa (bO (aa (bW (aa (pv 2) (aa (av dm (av dm (pv 4) (pv 5)) (pv 6)) aj))) (aa (bW (aa (pv 3) (aa (pv 6) aj))) aj))) aj))) (pv 8) 1e3))) (ai (aA (i:=11) bX.nd rfl 0e3 (iy (gi aZ (pv 7) ix) rfl rfl 0e7 0e2)) (ai (bF PassesOwn.never rfl (cA (pv 10)) (eX rfl (aP (aF (i:=12) bX.nd rfl 0e3) (aP (aF (i:=13) bX.nd rfl 0e3) cL))) (ak (cP hu (pv 11) (pv 12) (av bC (bS hu (pv 11) (pv 12) aq ⟨U,U,U,U⟩) (pv 13)) rfl))) (ak (aH (bW (aa (av aE (bq a8 (pv 9) (pv 8) 1e3) (dR mn hr (aa (pv 7) aj))) (aa (pv 11) aj))))))))))))))))))),?_⟩;obtain⟨a,ha,hA⟩:=Ql jg.ne n;obtain⟨b,hb,hB⟩:=Ql jg.ne (n/7)
  have kl0:(0 :Int) < ((ks.map d9).length:Int):=by
   rw[length_map];have:=length_pos_iff.mpr jg.ne;omega
  refine⟨_,U,_,U,_,U,kl,_,U, .inl (bh.of nC),_,_,U,U,kl0,kl,_,_,d9 a,U,U,bh.of nC,hA,?_⟩;refine⟨_,U,_,U,_,_,U,U,⟨by decide,by decide⟩,_,U,kl,_,U, .inl (bh.of nC),_,_,U,U,kl0,kl,_,_,d9 b,U,U,bh.of nC,hB,?_⟩;have p0:0<=n/53%4:=emod_nonneg _ 0e2;have p1:n/53%4<4:=emod_lt_of_pos _ 0e2;have q0:0<=n/211%3:=emod_nonneg _ 0e2;have q1:n/211%3<3:=emod_lt_of_pos _ 0e2;have r0:0<=n/1009%3:=emod_nonneg _ 0e2;have r1:n/1009%3<3:=emod_lt_of_pos _ 0e2;have c0:0<=n/20011%7:=emod_nonneg _ 0e2;have c1:n/20011%7<7:=emod_lt_of_pos _ 0e2;have s0:0<=n/4099%6:=emod_nonneg _ 0e2;have s1:n/4099%6<6:=emod_lt_of_pos _ 0e2;obtain⟨v,hv,yp⟩:=l7 (xs:=[V.int 0,V.int 0,V.int 0,V.int 1,V.int (-1),V.int 2,V.int (-3)]) c0 c1
  have hc:∃m,v=V.int m/\ -3<=m/\m<=2:=by
   simp only [mem_cons,not_mem_nil,or_false] at hv;rcases hv with rfl|rfl|rfl|rfl|rfl|rfl|rfl<;>exact⟨_,U,by decide,by decide⟩
  obtain⟨ch,rfl,ch1,ch2⟩:=hc;clear hv;refine⟨_,U,_,_,U,U,⟨by decide,by decide⟩,_,_,U,U,(by show (0 :Int) <4;decide),_,_,U,U,?_⟩;refine⟨_,U,_,_,U,U,⟨by decide,by decide⟩,_,_,U,U,(by show (0 :Int) <3;decide),_,_,U,U,?_⟩;refine⟨_,U,_,_,U,U,⟨by decide,by decide⟩,_,_,U,U,(by show (0 :Int) <3;decide),_,_,U,U,?_⟩;refine⟨1,U,3,U,(by show 7<=sizeLine;decide),λl hl=>⟨_,U,_,_,U,U,⟨by decide,by decide⟩,_,_,U,U,(by show (0 :Int) <7;decide),l,_,_,V.int ch,U,U,bh.of ag,yp,?_⟩⟩;have e1:=au.new (o:= .lst [V.int 0,V.int 0,V.int 0,V.int 1,V.int (-1),V.int 2,V.int (-3)]) hl;generalize upd H l (.lst [V.int 0,V.int 0,V.int 0,V.int 1,V.int (-1),V.int 2,V.int (-3)])=H1 at e1 |-;clear yp hA hB;dsimp only [bL];refine⟨_,U,_,_,U,U,⟨by decide,by decide⟩,_,_,U,U,(by show (0 :Int) <6;decide),?_⟩;obtain⟨m,hm⟩:∃m:Nat,n/4099%6=(m:Int):=⟨(n/4099%6).toNat,by omega⟩;have m6:m<6:=by omega
  have Z:Pqr (1+n/53%4) (1+n/211%3) (1+n/1009%3):=⟨by omega,by omega,by omega,by omega,by omega,by omega⟩;rw[hm];clear hm s0 s1 c0 c1 p0 p1 q0 q1 r0 r1;generalize 1+n/53%4=p at Z |-;generalize 1+n/211%3=q at Z |-;generalize 1+n/1009%3=r at Z |-;obtain⟨p1,p2,q1,q2,r1,r2⟩:=id Z;have la:=kL (ux a ha);have lb:=kL (ux b hb);have lp:=dS p1 0e1;have lq:=dS q1 0e1;have lr:=dS r1 0e1;have pH:("(" :Str).length=1:=by decide+kernel
  have pI:("((" :Str).length=2:=by decide+kernel
  have pJ:(")" :Str).length=1:=by decide+kernel
  have pK:("." :Str).length=1:=by decide+kernel
  refine⟨λv H'=>∃l1,v= .ref l1/\H' l1=some (.lst [V.str (bQ a b p q r 0),V.str (bQ a b p q r 1),V.str (bQ a b p q r 2)])/\au H1 H',?_,?_⟩
  ·exact⟨_,U,_,U,p,U,p1,0e1,_,_,U,U,0e9,_,U,_,U,p,U,p1,0e1,_,_,U,U,0e9,_,U,_,_,U,U,0e9,_,U,q,U,q1,0e1,_,_,U,U,0e9,_,U,_,_,U,U,0e9,_,U,p,U,p1,0e1,_,_,U,U,0e9,_,U,_,_,U,U,0e9,_,_,U,U,0e9,_,U,r,U,r1,0e1,_,_,U,U,0e9,(by show 3<=sizeLine;decide),λl1 uc=>⟨l1,U,ag,au.new uc⟩⟩
  rintro v H2 ⟨l1,rfl,z1,s2⟩;dsimp only [bL];refine⟨λv H'=>∃l3,v= .ref l3/\H' l3=some (.lst [V.str (bQ a b p q r 0),V.str (bQ a b p q r 1),V.str (bQ a b p q r 2),V.str (bQ a b p q r 3),V.str (bQ a b p q r 4)])/\H1 l3=none/\au H1 H',?_,?_⟩
  ·exact⟨_,U,_,U,_,_,U,U,0e9,_,U,_,_,U,U,0e9,_,U,q,U,q1,0e1,_,_,U,U,0e9,_,_,U,U,0e9,_,U,r,U,r1,0e1,_,_,U,U,0e9,_,U,_,U,p,U,p1,0e1,_,_,U,U,0e9,_,_,U,U,0e9,_,U,r,U,r1,0e1,_,_,U,U,0e9,_,U,_,_,U,U,0e9,_,U,q,U,q1,0e1,_,_,U,U,0e9,1e2,λl2 pM=>⟨l1,l2,_,_,U,U,au.new pM _ _ z1,ag,(by show 5<=sizeLine;decide),λl3 hl3=>⟨l3,U,ag,none_back (s2.trans (au.new pM)) hl3,s2.trans ((au.new pM).trans (au.new hl3))⟩⟩⟩
  rintro v H4 ⟨l3,rfl,z3,n3,s4⟩;dsimp only [bL];refine⟨_,U, .inl ⟨U,_,bh.of z3⟩,_,U,_,_,U,U,0e9,_,U,p,U,p1,0e1,_,_,U,U,0e9,_,_,U,U,0e9,_,U,q,U,q1,0e1,_,_,U,U,0e9,_,U,_,_,U,U,0e9,_,_,U,U,0e9,_,U,r,U,r1,0e1,_,_,U,U,0e9,l3,_,_,U,U,z3,(by show 5<sizeLine;decide),?_⟩;have n3:=none_back e1 n3;have e5:au H (upd H4 l3 (.lst [V.str (bQ a b p q r 0),V.str (bQ a b p q r 1),V.str (bQ a b p q r 2),V.str (bQ a b p q r 3),V.str (bQ a b p q r 4),V.str (bQ a b p q r 5)])):=λb o z=>by rw[ah (af z n3)];exact e1.trans s4 _ _ z
  have z3:(upd H4 l3 (.lst [V.str (bQ a b p q r 0),V.str (bQ a b p q r 1),V.str (bQ a b p q r 2),V.str (bQ a b p q r 3),V.str (bQ a b p q r 4),V.str (bQ a b p q r 5)])) l3=some (.lst [V.str (bQ a b p q r 0),V.str (bQ a b p q r 1),V.str (bQ a b p q r 2),V.str (bQ a b p q r 3),V.str (bQ a b p q r 4),V.str (bQ a b p q r 5)]):=ag;show Hk _ _ _ _ (upd H4 l3 (.lst [V.str (bQ a b p q r 0),V.str (bQ a b p q r 1),V.str (bQ a b p q r 2),V.str (bQ a b p q r 3),V.str (bQ a b p q r 4),V.str (bQ a b p q r 5)]));generalize upd H4 l3 (.lst [V.str (bQ a b p q r 0),V.str (bQ a b p q r 1),V.str (bQ a b p q r 2),V.str (bQ a b p q r 3),V.str (bQ a b p q r 4),V.str (bQ a b p q r 5)])=H5 at e5 z3 |-;clear z1 s2 s4;have pq:=lJ p1 p2 q1 q2;refine⟨λv H'=>∃o1 y0 y1 y2 y3 y4,v= .ref o1/\H' o1=some (.lst [V.ref y0, .ref y1, .ref y2, .ref y3, .ref y4])/\fM H' y0 (gP a b p q r 0)/\fM H' y1 (gP a b p q r 1)/\fM H' y2 (gP a b p q r 2)/\fM H' y3 (gP a b p q r 3)/\fM H' y4 (gP a b p q r 4)/\au H5 H',?_,?_⟩
  ·have hs:au H5 H5:=au.refl _;refine⟨_,U,_,U,1e2,λYb ht00=>?_⟩;have Oo:(upd H5 Yb (.tup [d9 a, .int (p)])) Yb=some (.tup [d9 a, .int (p)]):=ag;have s6:=au.new (o:= .tup [d9 a, .int (p)]) ht00;have Oo:=Oo;generalize upd H5 Yb (.tup [d9 a, .int (p)])=H6 at s6 Oo |-;refine⟨(by show 1<=sizeLine;decide),λy0 hy0=>?_⟩;have P0:=Om (u:=(a,p)) Oo hy0;have s7:=au.new (o:= .lst [V.ref Yb]) hy0;have P0:=P0;generalize upd H6 y0 (.lst [V.ref Yb])=H7 at s7 P0 |-;refine⟨_,U,_,U,1e2,λYc Ku=>?_⟩;have Gv:(upd H7 Yc (.tup [d9 a, .int (p)])) Yc=some (.tup [d9 a, .int (p)]):=ag;have s8:=au.new (o:= .tup [d9 a, .int (p)]) Ku;have Gv:=Gv;generalize upd H7 Yc (.tup [d9 a, .int (p)])=H8 at s8 Gv |-;refine⟨_,U,_,U,1e2,λYd ht11=>?_⟩;have Oq:(upd H8 Yd (.tup [d9 b, .int (q)])) Yd=some (.tup [d9 b, .int (q)]):=ag;have s9:=au.new (o:= .tup [d9 b, .int (q)]) ht11;have Oq:=Oq;generalize upd H8 Yd (.tup [d9 b, .int (q)])=H9 at s9 Oq |-;have Gv:=s9 _ _ Gv;refine⟨1e2,λy1 GZ=>?_⟩;have P1:=nK (u:=(a,p)) (u':=(b,q)) Gv Oq GZ;have Fg:=au.new (o:= .lst [V.ref Yc,V.ref Yd]) GZ;have P1:=P1;generalize upd H9 y1 (.lst [V.ref Yc,V.ref Yd])=yH at Fg P1 |-;refine⟨_,U,_,U,_,U,_,_,U,U, .inl ⟨by omega,by omega⟩,1e2,λYe ht20=>?_⟩;have Gw:(upd yH Ye (.tup [d9 a, .int (p*r)])) Ye=some (.tup [d9 a, .int (p*r)]):=ag;have G5:=au.new (o:= .tup [d9 a, .int (p*r)]) ht20;have Gw:=Gw;generalize upd yH Ye (.tup [d9 a, .int (p*r)])=Kv at G5 Gw |-;refine⟨_,U,_,U,1e2,λYf ht21=>?_⟩;have Ot:(upd Kv Yf (.tup [d9 b, .int (r)])) Yf=some (.tup [d9 b, .int (r)]):=ag;have G6:=au.new (o:= .tup [d9 b, .int (r)]) ht21;have Ot:=Ot;generalize upd Kv Yf (.tup [d9 b, .int (r)])=Vn at G6 Ot |-;have Gw:=G6 _ _ Gw;refine⟨1e2,λy2 hy2=>?_⟩;have P2:=nK (u:=(a,p*r)) (u':=(b,r)) Gw Ot hy2;have s13:=au.new (o:= .lst [V.ref Ye,V.ref Yf]) hy2;have P2:=P2;generalize upd Vn y2 (.lst [V.ref Ye,V.ref Yf])=Vo at s13 P2 |-;refine⟨_,U,1e2,λYg ht30=>?_⟩;have Gx:(upd Vo Yg (.tup [d9 a, .int (1)])) Yg=some (.tup [d9 a, .int (1)]):=ag;have LM:=au.new (o:= .tup [d9 a, .int (1)]) ht30;have Gx:=Gx;generalize upd Vo Yg (.tup [d9 a, .int (1)])=Ou at LM Gx |-;refine⟨_,U,_,U,_,U,_,_,U,U, .inl ⟨by omega,by omega⟩,1e2,λYh ht31=>?_⟩;have Ov:(upd Ou Yh (.tup [d9 b, .int (q*r)])) Yh=some (.tup [d9 b, .int (q*r)]):=ag;have s15:=au.new (o:= .tup [d9 b, .int (q*r)]) ht31;have Ov:=Ov;generalize upd Ou Yh (.tup [d9 b, .int (q*r)])=Vp at s15 Ov |-;have Gx:=s15 _ _ Gx;refine⟨1e2,λy3 hy3=>?_⟩;have P3:=nK (u:=(a,1)) (u':=(b,q*r)) Gx Ov hy3;have s16:=au.new (o:= .lst [V.ref Yg,V.ref Yh]) hy3;have P3:=P3;generalize upd Vp y3 (.lst [V.ref Yg,V.ref Yh])=H16 at s16 P3 |-;refine⟨_,U,_,U,1e2,λYi ht40=>?_⟩;have Gy:(upd H16 Yi (.tup [d9 a, .int (p)])) Yi=some (.tup [d9 a, .int (p)]):=ag;have s17:=au.new (o:= .tup [d9 a, .int (p)]) ht40;have Gy:=Gy;generalize upd H16 Yi (.tup [d9 a, .int (p)])=Tw at s17 Gy |-;refine⟨_,U,_,U,_,U,_,_,U,U, .inl ⟨by omega,by omega⟩,1e2,λYj ht41=>?_⟩;have Ow:(upd Tw Yj (.tup [d9 b, .int (q*r)])) Yj=some (.tup [d9 b, .int (q*r)]):=ag;have Ox:=au.new (o:= .tup [d9 b, .int (q*r)]) ht41;have Ow:=Ow;generalize upd Tw Yj (.tup [d9 b, .int (q*r)])=H18 at Ox Ow |-;have Gy:=Ox _ _ Gy;refine⟨1e2,λy4 hy4=>?_⟩;have P4:=nK (u:=(a,p)) (u':=(b,q*r)) Gy Ow hy4;have Qm:=au.new (o:= .lst [V.ref Yi,V.ref Yj]) hy4;have P4:=P4;generalize upd H18 y4 (.lst [V.ref Yi,V.ref Yj])=H19 at Qm P4 |-;have f18:=Qm;have f17:=Ox.trans f18;have f16:=s17.trans f17;have f15:=s16.trans f16;have f14:=s15.trans f15;have f13:=LM.trans f14;have f12:=s13.trans f13;have f11:=G6.trans f12;have f10:=G5.trans f11;have f9:=Fg.trans f10;have f8:=s9.trans f9;have f7:=s8.trans f8;have f6:=s7.trans f7;have f5:=s6.trans f6;exact⟨(by show 5<=sizeLine;decide),λo1 Vq=>⟨o1,y0,y1,y2,y3,y4,U,ag,(P0.same f7).same (au.new Vq),(P1.same f10).same (au.new Vq),(P2.same f13).same (au.new Vq),(P3.same f16).same (au.new Vq),P4.same (au.new Vq),f5.trans (au.new Vq)⟩⟩
  rintro v H6 ⟨o1,y0,y1,y2,y3,y4,rfl,zo,P0,P1,P2,P3,P4,s6⟩;dsimp only [bL];refine⟨λv H'=>∃y,v= .ref y/\fM H' y (gP a b p q r m)/\y8 [V.str (bQ a b p q r 0),V.str (bQ a b p q r 1),V.str (bQ a b p q r 2),V.str (bQ a b p q r 3),V.str (bQ a b p q r 4),V.str (bQ a b p q r 5)] (m:Int)=some (.str (bQ a b p q r m))/\au H5 H',?_,?_⟩
  ·have hs:au H6 H6:=au.refl _;refine⟨_,U,_,U,_,U,_,U,_,_,U,U, .inl ⟨by omega,by omega⟩,_,U,_,_,U,U, .inl ⟨by have:=pq.1;omega,by have:=pq.2;omega⟩,1e2,λYk ht50=>?_⟩;have Gz:(upd H6 Yk (.tup [d9 a, .int (p*q*r)])) Yk=some (.tup [d9 a, .int (p*q*r)]):=ag;have s7:=au.new (o:= .tup [d9 a, .int (p*q*r)]) ht50;have Gz:=Gz;generalize upd H6 Yk (.tup [d9 a, .int (p*q*r)])=H7 at s7 Gz |-;refine⟨_,U,_,U,1e2,λYl ht51=>?_⟩;have Oy:(upd H7 Yl (.tup [d9 b, .int (r)])) Yl=some (.tup [d9 b, .int (r)]):=ag;have s8:=au.new (o:= .tup [d9 b, .int (r)]) ht51;have Oy:=Oy;generalize upd H7 Yl (.tup [d9 b, .int (r)])=H8 at s8 Oy |-;have Gz:=s8 _ _ Gz;refine⟨1e2,λy5 hy5=>?_⟩;have P5:=nK (u:=(a,p*q*r)) (u':=(b,r)) Gz Oy hy5;have s9:=au.new (o:= .lst [V.ref Yk,V.ref Yl]) hy5;have P5:=P5;generalize upd H8 y5 (.lst [V.ref Yk,V.ref Yl])=H9 at s9 P5 |-;have f8:=s9;have f7:=s8.trans f8;have f6:=s7.trans f7;have sf:=f6;refine⟨(by show 1<=sizeLine;decide),λo2 ho2=>⟨o1,o2,_,_,U,U,(sf.trans (au.new ho2)) _ _ zo,ag,(by show 6<=sizeLine;decide),λo3 ho3=>?_⟩⟩;have g:=sf.trans ((au.new (o:= .lst [V.ref y5]) ho2).trans (au.new (o:= .lst [V.ref y0, .ref y1, .ref y2, .ref y3, .ref y4, .ref y5]) ho3));obtain⟨y,hy,hP,hx⟩:=shape_at m6 (P0.same g) (P1.same g) (P2.same g) (P3.same g) (P4.same g) ((P5.same (au.new (o:= .lst [V.ref y5]) ho2)).same (au.new (o:= .lst [V.ref y0, .ref y1, .ref y2, .ref y3, .ref y4, .ref y5]) ho3));exact⟨_,U,o3,_,_,V.ref y,U,U,bh.of ag,hy,y,U,hP,hx,s6.trans g⟩
  rintro v H7 ⟨y,rfl,⟨ts,Wt,hP⟩,hx,s7⟩;have e7:=e5.trans s7;have z3:=s7 _ _ z3;clear s7 s6 zo P0 P1 P2 P3 P4;dsimp only [bL];have fP:=Paired.length hP;have sm:=Ol (a:=a) (b:=b) Z m;have sl:=AA a b p q r m;have sn:=Oj a b p q r m;generalize Va:gP a b p q r m=as at hP fP sm sl sn;refine λcd mx=>⟨_,rfl,ag,[(Sum.inr ("+" :Str), .int ch)],rfl,by show 1<=15;decide,?_⟩;have ncd:H cd=none:=none_back e7 mx;have nyc:y≠cd:=af Wt mx;have n3c:l3≠cd:=af z3 mx
  have e8:au H7 (upd (upd H7 cd (.dK [])) cd (.dK (bD [] [((Sum.inr ("+" :Str):Key),V.int ch)]))):=λb o z=>by
   rw[ah (af z mx),ah (af z mx)];exact z
  have hc8:(upd (upd H7 cd (.dK [])) cd (.dK (bD [] [((Sum.inr ("+" :Str):Key),V.int ch)]))) cd=some (.dK [((Sum.inr ("+" :Str):Key),V.int ch)]):=ag;generalize upd (upd H7 cd (.dK [])) cd (.dK (bD [] [((Sum.inr ("+" :Str):Key),V.int ch)]))=H8 at e8 hc8 |-;dsimp only [bL];have hty8:=e8 _ _ Wt;refine⟨_,U,y,U,⟨_,bh.of hty8⟩,du (K:=K) (a:=y) (xs:=ts.map V.ref) (λi σ H'=>∃v12 G7:Option V,σ=[some (.int n),some (.ref kl),some (d9 a),some (d9 b),some (.int p),some (.int q),some (.int r),some (.int ch),some (.int m),some (.ref l3),some (.ref y),some (.ref cd),v12,G7]/\H' cd=some (.dK (aV 1 [((Sum.inr ("+" :Str):Key),V.int ch)] (nB (as.take i))))/\au H7 H') ?_ (λi σ H' _ ⟨_,_,_,_,z⟩=>bh.of (z _ _ Wt)) ?_ ?_⟩
  ·exact⟨none,none,U,hc8,e8⟩
  ·rintro i v σ H' hi ⟨v12,G7,rfl,gD,e⟩;rw[getElem?_map] at hi;obtain⟨t,ht,rfl⟩:=gMp hi;obtain⟨u,hu1,h1⟩:=bc hP ht;have hI:aY (aV 1 [((Sum.inr ("+" :Str):Key),V.int ch)] (nB (as.take i))):=jq 1 _ _ λp hp=>by rw[mem_singleton.mp hp];exact⟨_,U⟩
   have nC:=jr 1 (nB (as.take i)) [((Sum.inr ("+" :Str):Key),V.int ch)];have hal:(nB (as.take i)).length<=2:=by unfold nB;rw[length_map,length_take];omega
   have h1l:[((Sum.inr ("+" :Str):Key),V.int ch)].length=1:=rfl;refine⟨t,_,U,gE.of (e _ _ h1),U,_,_,U,_,_,U,U,?_⟩;refine⟨_,U,cd,U, .inl ⟨_, .inl gD⟩,_,U,_,fQ.k (k:=Sum.inr ⟨u.1.toArray⟩) gD,_,U,_,_,hI.at _,U,_,U,_,U,cd,_,U,iU.k (k:=Sum.inr ⟨u.1.toArray⟩) gD 0e1,?_⟩;refine⟨_,_,U,?_,λb o z=>?_⟩
   ·rw[ag,take_snoc hu1]
    have ec:aV 1 [((Sum.inr ("+" :Str):Key),V.int ch)] (nB (as.take i++[u]))=bZ (aV 1 [((Sum.inr ("+" :Str):Key),V.int ch)] (nB (as.take i))) (Sum.inr ⟨u.1.toArray⟩) (u.2*1):=by
     unfold nB aV;rw[map_append,foldl_append];rfl
    rw[ec,mul_one];rfl
   ·rw[ah (af z mx)];exact e _ _ z
  ·rintro σ H9 ⟨v12,G7,rfl,hd9,e9⟩;rw[length_map,fP,take_length] at hd9;have z9:=e9 _ _ z3;refine⟨_,U,_,U,l3,_,_,V.str _,U,U,bh.of z9,hx,_,U,ch,U,by omega,by omega,λyH Ep=>⟨_,_,U,U,?_,_,U,1e2,λt ht=>?_⟩⟩
   ·have okb:=(X' (ux a ha) (ux b hb) Z m).2.2.1
    have lc:(eh ch).length<=4:=by
     unfold eh;split
     ·exact zero_le _
     ·have:=kK (n:=if ch<0 then -ch else ch) (by split<;>omega) (by split<;>omega);rw[length_cons,length_append];show _+1+1<=4;omega
    rw[yq,aL,aL];omega
   ·have okb:=X' (ux a ha) (ux b hb) Z m
    have ex:bQ a b p q r m++(⟨(eh ch).toArray⟩:Str)=⟨(fL (i3 a b p q r m,ch)).toArray⟩:=by
     rw[yq,bu];unfold fL;rw[Xy okb.1 ch]
    have e11:=(e7.trans e9).trans (Ep.trans (au.new (o:= .tup [V.str (bQ a b p q r m++⟨(eh ch).toArray⟩), .ref cd]) ht));refine qq t cd (i3 a b p q r m,ch) _ _ (DP okb 0e1 0e1) okb.1 ch1 ch2 (none_back ((e7.trans e9).trans Ep) ht) ncd ?_ ?_ (Ya ux (by rw[Kp,Va]) (λu hu=>⟨?_,(sm u hu).2⟩) sl sn (nz83 a b p q r ch m)) e11
    ·rw[ag,ex]
    ·rw[ah (af (Ep _ _ hd9) ht)];exact Ep _ _ hd9
    ·rcases (sm u hu).1 with e|e<;>rw[e]<;>assumption
abbrev kP:Key:=Sum.inr ("+" :Str)
theorem yt(c:Int)(all:PP):∀(l acc:PP),(acc.map 1e4).Nodup->((cX c acc l all).map 1e4).Nodup
 | [],_,h=>h
 |_::r,_,h=>yt c all r _ (ma h)
theorem tM(c:Int)(all:PP){j:Key}:∀(l acc:PP),j∈(cX c acc l all).map 1e4->j∈acc.map 1e4\/j∈l.map 1e4
 | [],_,h=> .inl h
 |p::r,acc,h=>by
  rcases tM c all r _ h with h|h
  ·rcases NW h with h|h
   ·exact .inl h
   ·exact .inr (by rw[h];exact mem_cons_self ..)
  ·exact .inr (mem_cons_of_mem _ h)
theorem nM(c:Int)(all:PP){j:Key}:∀(l acc:PP),j∈acc.map 1e4->j∈(cX c acc l all).map 1e4
 | [],_,h=>h
 |_::r,_,h=>nM c all r _ (nH h)
theorem Er(c:Int)(all:PP){j:Key}:∀(l acc:PP),j∈l.map 1e4->j∈(cX c acc l all).map 1e4
 | [],_,h=>by cases h
 |p::r,acc,h=>by
  rcases mem_cons.mp h with rfl|h
  ·exact nM c all r _ (yl _ _ _)
  ·exact Er c all r _ h
theorem Kw:∀{l m:No},l.Nodup->(∀x∈l,x∈m)->l.length<=m.length
 | [],_,_,_=>zero_le _
 |a::r,m,hn,h=>by
  rw[nodup_cons] at hn;have ha:=h a 1e0;have:=Kw (l:=r) (m:=m.filter λy=>decide (y≠a)) hn.2 λx hx=>mem_filter.mpr ⟨h x (mem_cons_of_mem _ hx),decide_eq_true λe=>hn.1 (by rw[<-e];exact hx)⟩;have:(m.filter λy=>decide (y≠a)).length<m.length:=List.length_filter_lt_length_iff_exists.mpr ⟨a,ha,by simp⟩;rw[length_cons];omega
def Tx{ms:On}(nd:ms.Nodup):(ms.map (Sum.inr:Str->Key)).Nodup:=by
 rw[List.nodup_iff_pairwise_ne,List.pairwise_map];exact List.Pairwise.imp (λh e=>h (Sum.inr.inj e)) nd
structure kW(ks:List (List Nat))(xs:List Tm)(D:List (Key×V)):Prop where
 int:aY D
 nd:(D.map 1e4).Nodup
 z:∀k,aG D k=sumZ xs k
 ky:∀j∈D.map (·.1),j=kP\/(∃k∈ks,j=Sum.inr (⟨k.toArray⟩:Str))/\1<=aG D j/\aG D j<=216*xs.length
 pl:kP∈D.map 1e4
 ch: -9*(xs.length:Int)<=aG D kP/\aG D kP<=9*xs.length
 ne:xs≠[]->∃k∈ks,(Sum.inr (⟨k.toArray⟩:Str):Key)∈D.map 1e4
def kW.start(ks:List (List Nat)):kW ks [] [(kP, .int 0)]:=by
 have z:∀k,aG [(kP, .int 0)] k=0:=λk=>by rw[yr];split<;>rfl
 exact⟨λp hp=>by rw[mem_singleton.mp hp];exact⟨_,U⟩,by simp,λk=>z k,λj hj=> .inl (by simpa using hj),by simp,by rw[z];decide,λz=>absurd rfl z⟩
def kW.step{ks:List (List Nat)}{xs:NE}{D Dx:PP}{x:Fm}(h:kW ks xs D)(hx:CtD ks x Dx)(c1: -3<=x.2)(c2:x.2<=2){m:Int}(m1:1<=m)(m3:m<=3):kW ks (xs++[(m,x)]) (cX m D Dx Dx):=by
 have ez:∀k,aG (cX m D Dx Dx) k=aG D k+m*aG Dx k:=λk=>oS m hx.nd D k;have ln:((xs++[(m,x)]).length:Int)=xs.length+1:=by rw[length_append];rfl
 have np:∀{j:Key},j≠kP->(0<=aG D j/\aG D j<=216*xs.length)/\(j∈D.map 1e4->1<=aG D j):=fun {j} nj=>by
  by_cases hj:j∈D.map 1e4
  ·rcases h.ky j hj with e| ⟨_,e1,e2⟩
   ·exact absurd e nj
   ·exact⟨⟨by omega,e2⟩,λ_=>e1⟩
  ·rw[fX hj];exact⟨⟨by decide,by omega⟩,λz=>absurd z hj⟩
 have nx:∀{j:Key},j≠kP->(0<=m*aG Dx j/\m*aG Dx j<=216)/\(j∈Dx.map 1e4->1<=m*aG Dx j):=fun {j} nj=>by
  by_cases hj:j∈Dx.map 1e4
  ·obtain⟨q,hq,rfl⟩:=mem_map.mp hj;rcases hx.ky q hq with e| ⟨_,e1,e2⟩
   ·exact absurd e nj
   ·have:=lJ m1 m3 e1 e2;exact⟨⟨by omega,by omega⟩,λ_=>this.1⟩
  ·rw[fX hj,mul_zero];exact⟨⟨by decide,by decide⟩,λz=>absurd z hj⟩
 have zp:aG Dx kP=x.2:=by
  rw[hx.z];show aG (putK _ kP (.int x.2)) kP=x.2;rw[dN,if_pos rfl]
 have mc: -9<=m*x.2/\m*x.2<=9:=by
  have e:m=1\/m=2\/m=3:=by omega
  rcases e with rfl|rfl|rfl<;>omega
 refine⟨cI _ _ _ _ h.int,yt _ _ _ _ h.nd,λk=>?_,λj hj=>?_,nM _ _ _ _ h.pl,?_,λ_=>?_⟩
 ·rw[ez,tH,iZ,kS,add_zero,h.z,hx.z]
 ·by_cases nj:j=kP
  ·exact .inl nj
  ·obtain⟨⟨a1,a2⟩,a3⟩:=np nj;obtain⟨⟨b1,b2⟩,b3⟩:=nx nj;rw[ez,ln];refine .inr ⟨?_,?_,by omega⟩
   ·rcases tM _ _ _ _ hj with z|z
    ·rcases h.ky j z with e| ⟨e,_⟩
     ·exact absurd e nj
     ·exact e
    ·obtain⟨q,hq,rfl⟩:=mem_map.mp z;rcases hx.ky q hq with e| ⟨e,_⟩
     ·exact absurd e nj
     ·exact e
   ·rcases tM _ _ _ _ hj with z|z
    ·have:=a3 z;omega
    ·have:=b3 z;omega
 ·rw[ez,ln,zp];obtain⟨a1,a2⟩:=h.ch;omega
 ·obtain⟨k,hk,hm⟩:=hx.ne;exact⟨k,hk,Er _ _ _ _ hm⟩
def jP(D:PP):List Str:=(D.map 1e4).filterMap λj=>if j=kP then none else Nq j
def lK{ks:List (List Nat)}{xs:NE}{D:PP}(h:kW ks xs D)(s:Str):s∈jP D↔(Sum.inr s:Key)∈D.map 1e4/\(Sum.inr s:Key)≠kP:=by
 unfold jP;rw[mem_filterMap];constructor
 ·rintro ⟨j,hj,e⟩;by_cases z:j=kP
  ·rw[if_pos z] at e;cases e
  ·rw[if_neg z] at e;rcases h.ky j hj with z'| ⟨⟨k,_,rfl⟩,_⟩
   ·exact absurd z' z
   ·have e:(⟨k.toArray⟩:Str)=s:=Option.some.inj e;subst e;exact⟨hj,z⟩
 ·rintro ⟨h1,h2⟩;exact⟨_,h1,by rw[if_neg h2];rfl⟩
def Kx{ks:List (List Nat)}(hk:o5 ks){xs:NE}{D:PP}(h:kW ks xs D)(hx:xs≠[]):jP D≠[]:=by
 obtain⟨k,pQ,hm⟩:=h.ne hx;exact List.ne_nil_of_mem ((lK h _).mpr ⟨hm,λe=>ic (hk.ok k pQ) (Sum.inr.inj e)⟩)
def CL{ks:List (List Nat)}(hk:o5 ks){xs:NE}{D:PP}(h:kW ks xs D){s:Str}(hs:s∈jP D):lF s.cps.toList/\1<=aG D (Sum.inr s)/\aG D (Sum.inr s)<=216*xs.length:=by
 obtain⟨h1,h2⟩:=(lK h s).mp hs;rcases h.ky _ h1 with e| ⟨⟨k,pQ,e⟩,e1,e2⟩
 ·exact absurd e h2
 ·have e:=Sum.inr.inj e;rw[e] at e1 e2 |-;exact⟨by simpa using hk.ok k pQ,e1,e2⟩
def CM{ks:List (List Nat)}{xs:NE}{D:PP}(h:kW ks xs D):(jP D).Nodup:=by
 have:=h.nd;have yu:=h.ky;unfold jP;generalize D.map 1e4=l at this yu
 induction l with
 |nil=>exact nodup_nil
 |cons j r ih=>
  rw[nodup_cons] at this;have ih:=ih this.2 λj hj=>yu j (mem_cons_of_mem _ hj);rw[filterMap_cons];by_cases z:j=kP
  ·rw[if_pos z];exact ih
  ·rw[if_neg z];rcases yu j (mem_cons_self ..) with z'| ⟨⟨k,_,rfl⟩,_⟩
   ·exact absurd z' z
   ·show ((⟨k.toArray⟩:Str)::_).Nodup;rw[nodup_cons];refine⟨λm=>?_,ih⟩;obtain⟨j,hj,e⟩:=mem_filterMap.mp m;by_cases z2:j=kP
    ·rw[if_pos z2] at e;cases e
    ·rw[if_neg z2] at e
     cases j with
     |inl _=>cases e
     |inr s=>
      have e:s=⟨k.toArray⟩:=Option.some.inj e;rw[e] at hj;exact this.1 hj
def qD{ks:List (List Nat)}(hk:o5 ks){xs:NE}{D:PP}(h:kW ks xs D):(jP D).length<=3:=by
 have l3:ks.length<=3:=by
  obtain⟨a,b,c,n,_,_,_,_,_,_,_,n3,rfl⟩:=hk;rw[length_take];exact le_trans (Nat.min_le_left _ _) n3
 have:=Kw (l:=(jP D).map (Sum.inr:Str->Key)) (m:=ks.map λk=>Sum.inr (⟨k.toArray⟩:Str)) (Tx (CM h)) λx hx=>by
  obtain⟨s,hs,rfl⟩:=mem_map.mp hx;obtain⟨h1,h2⟩:=(lK h s).mp hs;rcases h.ky _ h1 with e| ⟨⟨k,pQ,e⟩,_⟩
  ·exact absurd e h2
  ·rw[e];exact mem_map_of_mem pQ
 rw[length_map,length_map] at this;omega
def kT(D:PP)(s:Str):Tm:=(aG D (Sum.inr s),Oe s)
theorem Ky(D:PP)(k:Key):∀{ms:On},ms.Nodup->sumZ (ms.map (kT D)) k=if k=kP then 0 else if k∈ms.map Sum.inr then aG D k else 0
 | [],_=>by
   rw[map_nil,kS];split
   ·rfl
   ·rw[if_neg 2e0]
 |s::r,hn=>by
  rw[nodup_cons] at hn;rw[map_cons,iZ,Ky D k hn.2];show aG D (Sum.inr s)*aG (jG (Oe s)) k+_=_;rw[Qg];by_cases hp:k=kP
  ·rw[if_pos hp,if_pos hp,if_pos hp];simp
  rw[if_neg hp,if_neg hp,if_neg hp];by_cases hk:k=Sum.inr s
  ·have hnot:¬k∈r.map (Sum.inr:Str->Key):=λz=>by
    obtain⟨s',yI,e⟩:=mem_map.mp z;rw[hk] at e;injection e with e;rw[e] at yI;exact hn.1 yI
   rw[if_pos hk,if_neg hnot,if_pos (by rw[hk];exact mem_cons_self ..),hk];omega
  ·rw[if_neg hk];by_cases hr:k∈r.map (Sum.inr:Str->Key)
   ·rw[if_pos hr,if_pos (by rw[map_cons];exact mem_cons_of_mem _ hr)];omega
   ·rw[if_neg hr,if_neg (by rw[map_cons];intro z;rcases mem_cons.mp z with z|z;exact hk z;exact hr z)];omega
def kW.kinds{ks:List (List Nat)}{xs:NE}{D:PP}(h:kW ks xs D)(k:Key):sumZ ((jP D).map (kT D)) k=if k=kP then 0 else sumZ xs k:=by
 rw[Ky D k (CM h)];by_cases hp:k=kP
 ·rw[if_pos hp,if_pos hp]
 rw[if_neg hp,if_neg hp,<-h.z];split
 ·rfl
 ·rename_i hk
  refine(fX λm=>?_).symm;rcases h.ky k m with e| ⟨⟨k',_,rfl⟩,_⟩
  ·exact hp e
  ·exact hk (mem_map_of_mem ((lK h _).mpr ⟨m,hp⟩))
def Qn(n:Int)(k:Key):sumZ [(n,LL)] k=if k=kP then -n else 0:=by
 rw[iZ,kS,add_zero];show n*aG (jG LL) k=_;rw[Qh];split
 ·omega
 ·simp
def G8(D:PP):Fm:=([(1,(jP D).map λs=> .one s.cps.toList (aG D (Sum.inr s)))],aG D kP)
def Tz(D:PP):Nz (G8 D):=λt n e=>by
 have e:[((1 :Int),(jP D).map λs=>Tr.one s.cps.toList (aG D (Sum.inr s)))]=[(1,[.gr [t] n])]:=e;injection e with e _;injection e with _ e
 match jP D,e with
 | [],e=>cases e
 |s::r,e=>
  injection e with e _;cases e
def Qo(D:PP):(G8 D).1.flatMap (bT 2)=(jP D).map λs=>(s,aG D (Sum.inr s)):=by
 unfold G8;rw[flatMap_cons,flatMap_nil,append_nil];unfold bT;generalize jP D=l
 induction l with
 |nil=>rfl
 |cons s r ih=>
  rw[map_cons,flatMap_cons,map_cons];show [((⟨s.cps.toList.toArray⟩:Str),aG D (Sum.inr s)*1)]++_=_;rw[mul_one,Array.toArray_toList];exact congrArg _ ih
def Kz{ms:On}(hn:ms.Nodup)(f:Str->Int)(k:Key):aG (aV 1 [] (ms.map λs=>(s,f s))) k=match Nq k with
  |some s=>if s∈ms then f s else 0
  |none=>0:=by
 have key:∀(ms:On) (acc:PP),ms.Nodup->aG (aV 1 acc (ms.map λs=>(s,f s))) k=aG acc k+match Nq k with
   |some s=>if s∈ms then f s else 0
   |none=>0:=by
  intro ms
  induction ms with
  |nil=>intro acc _;show aG acc k=_;cases Nq k<;>simp
  |cons s r ih=>
   intro acc hn;rw[nodup_cons] at hn;show aG (aV 1 (bZ acc (Sum.inr s) (f s*1)) (r.map λs=>(s,f s))) k=_;rw[ih _ hn.2,lB,mul_one]
   cases k with
   |inl i=>rw[if_neg 0e7];show _+0+0=_+0;omega
   |inr u=>
    show _+(if (Sum.inr s:Key)=Sum.inr u then f s else 0)+(if u∈r then f u else 0)=_+if u∈s::r then f u else 0;by_cases e:s=u
    ·subst e;rw[if_pos rfl,if_neg hn.1,if_pos 1e0];omega
    ·rw[if_neg (λz=>e (Sum.inr.inj z))];by_cases m:u∈r
     ·rw[if_pos m,if_pos (mem_cons_of_mem _ m)];omega
     ·rw[if_neg m,if_neg (λz=>by rcases mem_cons.mp z with z|z;exact e z.symm;exact m z)];omega
 rw[key ms [] hn];show 0+_=_;omega
def Qq{ks:List (List Nat)}{xs:NE}{D:PP}(h:kW ks xs D)(k:Key):aG (jG (G8 D)) k=aG D k:=by
 show aG (putK (aV 1 [] ((G8 D).1.flatMap (bT 2))) kP (.int (aG D kP))) k=_;rw[dN];by_cases hp:k=kP
 ·rw[if_pos hp,hp]
 rw[if_neg hp,Qo,Kz (CM h)];by_cases m:k∈D.map 1e4
 ·rcases h.ky k m with e| ⟨⟨k',_,rfl⟩,_⟩
  ·exact absurd e hp
  ·show (if (⟨k'.toArray⟩:Str)∈jP D then _ else _)=_;rw[if_pos ((lK h _).mpr ⟨m,hp⟩)]
 ·rw[fX m]
  cases k with
  |inl i=>rfl
  |inr u=>
   show (if u∈jP D then _ else _)=_;rw[if_neg λz=>m ((lK h u).mp z).1]
def TB{D:PP}(h:jP D≠[]):(jP D).map (λs=>Tr.one s.cps.toList (aG D (Sum.inr s)))≠[]:=by
 intro z;exact h (map_eq_nil_iff.mp z)
def Ym(D:PP):fL (G8 D)=(jP D).flatMap (λs=>s.cps.toList++aQ (aG D (Sum.inr s)))++eh (aG D kP):=by
 show ((jP D).map _).flatMap (bY 2)++(b7 2 []++eh _)=_;rw[List.flatMap_map];rfl
def TC{ks:List (List Nat)}(hk:o5 ks){xs:NE}(hl:xs.length<=3){D:PP}(h:kW ks xs D)(hn:jP D≠[]):cz (G8 D):=by
 have l3:=qD hk h
 have hs:∀s∈jP D,lF s.cps.toList/\1<=aG D (Sum.inr s)/\aG D (Sum.inr s)<=999:=λs hs=>by
  obtain⟨a,b,c⟩:=CL hk h hs;exact⟨a,b,by omega⟩
 have lx:∀l:List Str,(∀s∈l,s∈jP D)->(l.flatMap (λs=>s.cps.toList++aQ (aG D (Sum.inr s)))).length<=6*l.length:=λl=>by
  induction l with
  |nil=>intro _;exact le_refl _
  |cons s r ih=>
   intro hl;obtain⟨a,b,c⟩:=hs s (hl s 1e0);have:=ih λx hx=>hl x (mem_cons_of_mem _ hx);have:=kL a;have:=zR b c;rw[flatMap_cons,length_append,length_append,length_cons];omega
 have b1:Xz (G8 D).1:=by
  refine Kq ⟨_,_,rfl⟩ (λy hy=>?_) ?_ ?_
  ·rw[mem_singleton.mp hy];refine⟨TB hn,λt ht=>?_,(by show (1 :Int)<=1;decide),(by show (1 :Int)<=999;decide)⟩;obtain⟨s,h1,rfl⟩:=mem_map.mp ht;exact hs s h1
  ·show (((jP D).map _).flatMap (bY 2)++(b7 2 []++eh 0)).length<=29;rw[List.flatMap_map,length_append];have:=lx (jP D) λs hs=>hs;show (List.flatMap (λs=>s.cps.toList++aQ (aG D (Sum.inr s))) (jP D)).length+0<=29;omega
  ·rw[Qo,length_map];omega
 have:=h.ch;exact DP b1 0e1 0e1
variable {uC uP uI uD uL uT fG fH fI uG uS:Tok}{Ch HE Sh St:Py}
def Vr(x:Fm)(D:PP):Prop:=aY D/\(∀k,aG D k=aG (jG x) k)/\D≠[]/\Nz x
inductive Es(td:Addr)(H:Hp)(t:Addr)(z:Tm):Prop
 |mk (d D:_) (bM:H t=some (.tup [.int z.1, .str ⟨(fL z.2).toArray⟩, .ref d])) (bV:H d=some (.dK D)) (b8:d≠td) (cS:Vr z.2 D)
inductive AB(H:Hp)(t:Addr)(z:Tm):Prop
 |mk (d D:_) (bM:H t=some (.tup [.int z.1, .str ⟨(fL z.2).toArray⟩, .ref d])) (bV:H d=some (.dK D)) (b8:Vr z.2 D)
inductive fN(H:Hp)(l:Addr)(zs:List Tm):Prop
 |mk (ts:List Addr) (bM:H l=some (.lst (ts.map V.ref))) (bV:Paired (AB H) ts zs)
def Es.keep{td ll:Py}{H H':Hp}{t:Py}{z:Tm}{vs:KB}(hl:H ll=some (.lst vs))(k:∀b o,H b=some o->b≠ll->b≠td->H' b=some o){D0:PP}(ht:H td=some (.dK D0))(h:Es td H t z):Es td H' t z:=by
 obtain⟨d,D,h1,h2,h3,h4⟩:=h;exact⟨d,D,k _ _ h1 (bj h1 hl 0e7) (bj h1 ht 0e7),k _ _ h2 (bj h2 hl 0e7) h3,h3,h4⟩
def Es.same{td:Py}{H H':Hp}{t:Py}{z:Tm}(e:au H H')(h:Es td H t z):Es td H' t z:=by
 obtain⟨d,D,h1,h2,h3,h4⟩:=h;exact⟨d,D,e _ _ h1,e _ _ h2,h3,h4⟩
def Es.stm{td:Py}{H:Hp}{t:Py}{z:Tm}(h:Es td H t z):AB H t z:=by
 obtain⟨d,D,h1,h2,_,h4⟩:=h;exact⟨d,D,h1,h2,h4⟩
def AB.same{H H':Hp}{t:Py}{z:Tm}(e:au H H')(h:AB H t z):AB H' t z:=by
 obtain⟨d,D,h1,h2,h3⟩:=h;exact⟨d,D,e _ _ h1,e _ _ h2,h3⟩
def AB.Et{L:Py}{H H':Hp}{t:Py}{z:Tm}{vs:KB}(hl:H L=some (.lst vs))(k:∀b o,H b=some o->b≠L->H' b=some o)(h:AB H t z):AB H' t z:=by
 obtain⟨d,D,h1,h2,h3⟩:=h;exact⟨d,D,k _ _ h1 (bj h1 hl 0e7),k _ _ h2 (bj h2 hl 0e7),h3⟩
def Yn:Vr LL [(kP, .int (-1))]:=by
 refine⟨λp hp=>by rw[mem_singleton.mp hp];exact⟨_,U⟩,λk=>?_,cons_ne_nil _ _,λt n e=>by cases e⟩;rw[Qh,yr]
def KA{H:Hp}{dd t L:Py}{n:Int}{us:Ix}{ys:NE}(AD:H dd=none)(hL:H L=some (.lst (us.map V.ref)))(nt:(upd (upd H dd (.dK [])) dd (.dK [(kP,V.int (-1))])) t=none)(hP:Paired (AB H) us ys){H':Hp}(e:H'=upd (upd (upd (upd H dd (.dK [])) dd (.dK [(kP,V.int (-1))])) t (.tup [.int n, .str "e^-", .ref dd])) L (.lst (us.map V.ref++[.ref t]))):
  H' L=some (.lst ((us++[t]).map V.ref))/\Paired (AB H') (us++[t]) (ys++[(n,LL)])/\∀b o,H b=some o->b≠L->H' b=some o:=by
 subst e
 have k1:∀b o,H b=some o->(upd (upd H dd (.dK [])) dd (.dK [(kP,V.int (-1))])) b=some o:=λb o z=>by
  rw[ah (af z AD),ah (af z AD)];exact z
 have kd:(upd (upd H dd (.dK [])) dd (.dK [(kP,V.int (-1))])) dd=some (.dK [(kP,V.int (-1))]):=ag;generalize upd (upd H dd (.dK [])) dd (.dK [(kP,V.int (-1))])=G at k1 kd nt |-;have ntL:t≠L:=(af (k1 _ _ hL) nt).symm;have ndL:dd≠L:=(af hL AD).symm;have DZ:dd≠t:=af kd nt
 have k2:∀b o,H b=some o->b≠L->(upd (upd G t (.tup [.int n, .str "e^-", .ref dd])) L (.lst (us.map V.ref++[.ref t]))) b=some o:=λb o z nb=>by
  rw[ah nb,ah (af (k1 _ _ z) nt)];exact k1 _ _ z
 refine⟨by rw[ag,map_append];rfl,bH ⟨dd,_,?_,?_,Yn⟩ (aB (λ_ _ z=>z.Et hL k2) hP),k2⟩
 ·rw[ah ntL,ag];show _=some (HO.tup [.int n, .str ⟨(fL ([], -1)).toArray⟩, .ref dd]);rw[fE_x]
 ·rw[ah ndL,ah DZ];exact kd
theorem fN.same{H H':Hp}{l:Py}{zs:NE}(e:au H H')(h:fN H l zs):fN H' l zs:=by
 obtain⟨ts,h1,h2⟩:=h;exact⟨ts,e _ _ h1,aB (λ_ _ z=>z.same e) h2⟩
def jS(D l:PP):List Str:=(jP l).map λs=>s++cD (aG D (Sum.inr s))
def nN(l:PP)(p:Key×V):jP (l++[p])=jP l++if p.1=kP then [] else (Nq p.1).toList:=by
 unfold jP;rw[map_append,List.filterMap_append];congr 1;show List.filterMap _ [p.1]=_;rw[filterMap_cons,List.filterMap_nil];by_cases e:p.1=kP
 ·rw[if_pos e,if_pos e]
 ·rw[if_neg e,if_neg e];cases Nq p.1<;>rfl
theorem Yo(f:Str->Int):∀l:List Str,jn (l.map λs=>s++cD (f s))=⟨(l.flatMap λs=>s.cps.toList++aQ (f s)).toArray⟩
 | []=>(by decide+kernel:jn []=⟨[].toArray⟩)
 |s::r=>by
  rw[map_cons,DB,Yo f r,bw,flatMap_cons,<-bu,<-bu,Array.toArray_toList]
def PvJ(o:Obj)(D:PP)(td D2:Py)(H4:Hp):Nat->L2.St->Hp->Prop:=λi σ H'=>∃v:Option V,σ=[v,some (.ref td)]/\H' td=some (.eI o (.dK D))/\H' D2=some (.lst ((jS D (D.take i)).map V.str))/\∀b o',H4 b=some o'->b≠td->H' b=some o'
def KC{ks:List (List Nat)}(jg:o5 ks){zs uz GA:NE}{D:PP}(hT:kW ks zs D)(Vs:zs≠[])(hz3:zs.length<=3)(Oz:∀z∈zs,gm 3 z)(hx:uz=zs/\aG D kP<=0\/uz=zs++[(aG D kP,LL)]/\0<aG D kP)(hy:GA=(jP D).map (kT D)/\0<=aG D kP\/GA=(jP D).map (kT D)++[(0 - aG D kP,LL)]/\aG D kP<0):Of 8 uz GA/\∀z∈uz++GA,z.1<=999:=by
 have l3:=qD jg hT;have lP:=hT.ch;have nk:=Kx jg hT Vs;have eok:∀n:Int,1<=n->n<=999->gm 999 (n,LL):=λn a b=>⟨a,b,XR⟩;have zok:∀z∈zs,gm 999 z:=λz hz=>⟨(Oz z hz).1,Int.le_trans (Oz z hz).2.1 0e2,(Oz z hz).2.2⟩
 have kok:∀y∈(jP D).map (kT D),gm 999 y:=λy hy=>by
  obtain⟨s,hs,rfl⟩:=mem_map.mp hy;obtain⟨a,b,c⟩:=CL jg hT hs;exact⟨b,(by show aG D (Sum.inr s)<=999;omega),Tp a⟩
 have ap:∀{l:NE} {z:Tm},(∀x∈l,gm 999 x)->gm 999 z->∀x∈l++[z],gm 999 x:=λh h' x hx=>by
  rcases mem_append.mp hx with hx|hx
  ·exact h x hx
  ·rw[mem_singleton.mp hx];exact h'
 have PL:(∀x∈uz,gm 999 x)/\uz≠[]/\uz.length<=4:=by
  rcases hx with ⟨rfl,_⟩ | ⟨rfl,p⟩
  ·exact⟨zok,Vs,by omega⟩
  ·exact⟨ap zok (eok _ 0e1 0e1),by simp,by rw[length_append];show _+1<=4;omega⟩
 have GZ:(∀y∈GA,gm 999 y)/\GA≠[]/\GA.length<=4:=by
  have nm:(jP D).map (kT D)≠[]:=λz=>nk (map_eq_nil_iff.mp z);rcases hy with ⟨rfl,_⟩ | ⟨rfl,p⟩
  ·exact⟨kok,nm,by rw[length_map];omega⟩
  ·exact⟨ap kok (eok _ 0e1 0e1),by simp,by rw[length_append,length_map];show _+1<=4;omega⟩
 have up:∀{z:Tm},gm 999 z->gm 100000000000 z:=λh=>⟨h.1,Int.le_trans h.2.1 0e2,h.2.2⟩;refine⟨⟨PL.2.1,GZ.2.1,λx h=>up (PL.1 x h),λy h=>up (GZ.1 y h),by omega,λk=>?_⟩,λz hz=>?_⟩
 ·have hk:=hT.kinds k;have hz:=hT.z k;rcases hx with ⟨rfl,p⟩ | ⟨rfl,p⟩<;>rcases hy with ⟨rfl,p'⟩ | ⟨rfl,p'⟩
  ·rw[hk];by_cases e:k=kP
   ·rw[if_pos e,<-hz,e];omega
   ·rw[if_neg e]
  ·rw[tH,hk,Qn];by_cases e:k=kP
   ·rw[if_pos e,if_pos e,<-hz,e];omega
   ·rw[if_neg e,if_neg e];omega
  ·rw[tH,hk,Qn];by_cases e:k=kP
   ·rw[if_pos e,if_pos e,<-hz,e];omega
   ·rw[if_neg e,if_neg e];omega
  ·omega
 ·rcases mem_append.mp hz with h|h
  ·exact(PL.1 z h).2.1
  ·exact(GZ.1 z h).2.1
inductive KD(vs:List V)(H:Hp)(Q:VK)(E:XK):Prop
 |mk (c:Int) (kl:Addr) (ks:List (List Nat)) (bM:vs=[.int c, .ref kl]) (bV:H kl=some (.lst (ks.map d9))) (b8:o5 ks) (cS:∀(t l r:Addr) (xs ys:List Tm) H',H t=none->H' t=some (.tup [.ref l, .ref r])->fN H' l xs->fN H' r ys->Of 8 xs ys->(∀z∈xs++ys,z.1<=999)->au H H'->Q (.ref t) H')
def Eu:Sp:=KD
def d5:ay ["_law_cell","_law_kinds_here","_law_xs","_law_lefts","_law_total","_law_k","_law_name","_law_counts","_law_many","_law_kind","_law_charge_here","_law_rights","_law_joined"] ["_law_cell","_law_kinds_here"] (ao xu):=dE
def KG(D:Def K mg "_law_even" "_law_even" xu ["_law_cell","_law_kinds_here"])(T:sX K mg C R G Pc Fo St uK uN uB uE uM uC uP uI uD uL uT)(c1:bp P w K mg base 1 "_law_shaken" ["_law_cell","_law_many"] nJ)(c2:bp P w K mg base 3 "_law_formula" ["_law_number","_law_kinds_here"] Eo)(c3:bp P w K mg base 1 "_law_num" ["_law_many"] iK)(c4:bp P w K mg base 2 "_law_charge" ["_law_charge_here"] CJ):bp P w K mg base 4 "_law_even" ["_law_cell","_law_kinds_here"] Eu:=by
 obtain⟨_,_,ie⟩:=c1;obtain⟨_,_,AE⟩:=c2;obtain⟨_,_,cR⟩:=c3;obtain⟨_,_,mn⟩:=c4;refine D.dk d5 0e6 0e0
 ·obtain⟨c,kl,ks,rfl,_⟩:=h;rfl
 ·obtain⟨c,kl,ks,rfl,nC,jg,qq⟩:=h;have hu:=di hr;have big:=bgL
  refine⟨_,(ai (aA (i:=2) d5.nd rfl 0e3 (dR ie hr (aa 1e6 (aa aq aj)))) (ai (aA (i:=3) d5.nd rfl 0e3 (bO aj)) (ai (aA (i:=4) d5.nd rfl (Or.inr rfl) (iy (gi aZ aq ix) rfl rfl 0e7 0e2)) (ai (bF PassesOwn.never rfl (gQ rfl T.lz (aa (av bC aq (av bN (bq a8 (pv 2) aq 1e3) aq)) aj)) (aF (i:=5) d5.nd rfl 0e3) (ai (wC (dR AE hr (aa (bq a8 (pv 2) (av bC aq (pv 5)) 1e3) (aa (pv 1) aj))) (eX rfl (aP (aF (i:=6) d5.nd rfl 0e3) (aP (aF (i:=7) d5.nd rfl 0e3) cL)))) (ai (aA (i:=8) d5.nd rfl 0e3 (av bC aq (av bN (av iw (bq a8 (pv 2) aq 1e3) (av bC aq (av dm aq (pv 5)))) aq))) (ai (a7 (eU PySem.F.plainAttrs_list PySem.F.slot_list_append PySem.F.type_list_append cn (pv 3) (aa (bW (aa (pv 8) (aa (pv 6) (aa (pv 7) aj)))) aj))) (ak (dM (bF PassesOwn.never rfl (cQ (pv 7)) (aF (i:=9) d5.nd rfl 0e3) (ak (cP hu (pv 4) (pv 9) (av bC (bS hu (pv 4) (pv 9) aq ⟨U,U,U,U⟩) (av dm (pv 8) (cf hu (pv 7) (pv 9) 1e3))) rfl))))))))) (ai (aA (i:=10) d5.nd rfl 0e3 (cf hu (pv 4) aZ 1e3)) (ai (aA (i:=11) d5.nd rfl 0e3 (bO aj)) (ai (bR (aO gf (av bN (bq a8 (pv 2) aq 1e3) aq) aq (aT _)) (ai (aA (i:=12) d5.nd rfl 0e3 (eU PySem.F.plainAttrs_str PySem.F.slot_str_join PySem.F.type_str_join mM aZ (aa (mH (fW (sc:=(ao xu)) (NX:=["_law_cell","_law_kinds_here","_law_xs","_law_lefts","_law_total","_law_k","_law_name","_law_counts","_law_many","_law_kind","_law_charge_here","_law_rights","_law_joined"]) (N:=["_law_kind","_law_total"]) (fr:=[none,some 4]) Ds rfl rfl rfl (cQ (pv 4)) (λ_ _ _ _=>(aF (i:=0) (show (["_law_kind","_law_total"]:On).Nodup by decide+kernel) rfl 0e3 (Or.inr rfl))) (λ_ _ _ _=>(mI (aO mD 1e6 aZ (aT _)))) (λ_ _ _ _=>(av aE 1e6 (dR cR hr (aa (cf hu (pv 1) 1e6 1e3) aj)))))) aj))) (ak (aH (bW (aa (pv 3) (aa (bO (aa (bW (aa aq (aa (av aE (pv 12) (dR mn hr (aa (pv 10) aj))) (aa (bx gU rfl T.kJ jf (aa (pv 4) aj)) aj)))) aj)) aj))))))
      aS) (ai (dM (bF PassesOwn.never rfl (cQ (pv 4)) (aF (i:=9) d5.nd rfl 0e3) (ak (bR (aO mD (pv 9) aZ (aT _)) (ak (a7 (eU PySem.F.plainAttrs_list PySem.F.slot_list_append PySem.F.type_list_append cn (pv 11) (aa (bW (aa (cf hu (pv 4) (pv 9) 1e3) (aa (pv 9) (aa (iy (gi (pv 9) aq ix) rfl rfl 0e7 0e2) aj)))) aj))))
        aS)))) (ai (bR (aO j4 (pv 10) aq (aT _)) (ak (a7 (eU PySem.F.plainAttrs_list PySem.F.slot_list_append PySem.F.type_list_append cn (pv 3) (aa (bW (aa (pv 10) (aa aZ (aa (iy (gi aZ (qP lX aq) ix) rfl rfl 0e7 0e2) aj)))) aj))))
      aS) (ai (bR (aO qQ (pv 10) aq (aT _)) (ak (a7 (eU PySem.F.plainAttrs_list PySem.F.slot_list_append PySem.F.type_list_append cn (pv 11) (aa (bW (aa (av j3 aq (pv 10)) (aa aZ (aa (iy (gi aZ (qP lX aq) ix) rfl rfl 0e7 0e2) aj)))) aj))))
      aS) (ak (aH (bW (aa (pv 3) (aa (pv 11) aj))))))))))))))),?_⟩
  refine⟨_,U,c,6,U,by decide,by decide,λxl xs H1 lx _ nxl pT e1=>?_⟩;obtain⟨x0,x1,x2,x3,x4,x5,rfl⟩:=Kn lx;clear lx;dsimp only [bL];refine⟨(by show 0<=sizeLine;decide),λll nll=>?_⟩;have s2:=au.new (o:= .lst []) nll;have hll:(upd H1 ll (.lst [])) ll=some (.lst []):=ag;have kll:H ll=none:=none_back e1 nll;generalize upd H1 ll (.lst [])=H2 at s2 hll |-;dsimp only [bL];refine λtd Vt=>⟨ag,[(kP, .int 0)],rfl,by show 1<=15;decide,?_⟩;have ktd:H td=none:=none_back (e1.trans s2) Vt;have nlt:ll≠td:=af hll Vt
  have s3:au H2 (upd (upd H2 td (.dK [])) td (.dK (bD [] [(kP,V.int 0)]))):=λb o z=>by
   rw[ah (af z Vt),ah (af z Vt)];exact z
  have htd:(upd (upd H2 td (.dK [])) td (.dK (bD [] [(kP,V.int 0)]))) td=some (.dK [(kP,V.int 0)]):=ag;generalize upd (upd H2 td (.dK [])) td (.dK (bD [] [(kP,V.int 0)]))=H3 at s3 htd |-;dsimp only [bL];have e3:=e1.trans (s2.trans s3);have hll3:=s3 _ _ hll;have TJ:=(s2.trans s3) _ _ pT;have hkl3:=e3 _ _ nC;have Yp:xl≠ll:=af pT nll;have Yq:xl≠td:=af (s2 _ _ pT) Vt;have nkll:kl≠ll:=af (e1 _ _ nC) nll;have nktd:kl≠td:=af (s2 _ _ (e1 _ _ nC)) Vt;have r0:0<=x0%3:=emod_nonneg _ 0e2;have r1:x0%3<3:=emod_lt_of_pos _ 0e2;refine⟨_,U,xl,_,_,V.int x0,U,U,bh.of TJ,U,_,_,U,U,(by show (0 :Int) <3;decide),_,_,U,U,_,U,by omega,by omega,gR (λi σ H'=>∃(zs:NE) (D:PP) (ts:Ix) (v5 v6 v7 v8 v9:Option V),σ=[some (.int c),some (.ref kl),some (.ref xl),some (.ref ll),some (.ref td),v5,v6,v7,v8,v9,none,none,none]/\H' ll=some (.lst (ts.map V.ref))/\Paired (Es td H') ts zs/\H' td=some (.dK D)/\kW ks zs D/\zs.length=i/\(∀z∈zs,gm 3 z)/\D.length<=1+4*i/\(∀b o,H3 b=some o->b≠ll->b≠td->H' b=some o)) ?_ ?_ ?_⟩
  ·exact⟨[],[(kP, .int 0)],[],none,none,none,none,none,U,hll3, .nil,htd,kW.start ks,U,(λz hz=>by cases hz),le_refl _,λb o z _ _=>z⟩
  ·rintro i σ H' hi ⟨zs,D,ts,v5,v6,v7,v8,v9,rfl,A5,hP,A7,hT,Vu,Oz,hDl,e'⟩;have hi3:i<3:=by omega
   have fP:=Paired.length hP;have OA:=e' _ _ TJ Yp Yq;have TN:=e' _ _ hkl3 nkll nktd;obtain⟨v,hv,yp⟩:=l7 (xs:=[x0,x1,x2,x3,x4,x5].map V.int) (i:=1+(0+(i:Int))) 0e1 (by show 1+(0+(i:Int)) <6;omega);obtain⟨y,_,rfl⟩:=mem_map.mp hv;clear hv;refine⟨_,U,_,U,_,_,U,U,xl,_,_,V.int y,U,U,bh.of OA,yp,_,U,y,kl,ks,U,TN,jg,λt d x Dx H4 pE nex ch1 ch2 nt nd ht hd G9 e4=>?_⟩;clear yp;have ntl:t≠ll:=(af A5 nt).symm;have Yr:d≠ll:=(af A5 nd).symm;have DZ:d≠td:=(af A7 nd).symm;have OB:=e4 _ _ OA;have DI:=e4 _ _ A5;have GB:=e4 _ _ A7;refine⟨t,_,U,gE.of ht,U,_,_,U,_,_,U,U,?_⟩;have i0:0<=(i:Int):=Int.natCast_nonneg i;refine⟨_,U,xl,_,_,V.int x4,U,U,bh.of OB,U,_,U,_,_,U,U, .inl ⟨by decide,by decide⟩,_,_,U,U,_,_,U,U,⟨by omega,by omega⟩,_,_,U,U,(by show (0 :Int) <3;decide),_,_,U,U,?_⟩;have m0:0<=x4/(1+5*(0+(i:Int))) %3:=emod_nonneg _ 0e2;have m1:x4/(1+5*(0+(i:Int))) %3<3:=emod_lt_of_pos _ 0e2;have M1:1<=1+x4/(1+5*(0+(i:Int))) %3:=by omega
   have M3:1+x4/(1+5*(0+(i:Int))) %3<=3:=by omega
   dsimp only [bL];generalize 1+x4/(1+5*(0+(i:Int))) %3=m at M1 M3 |-;clear m0 m1;refine⟨_,U, .inl ⟨U,_,bh.of DI⟩,_,U,_,U,_,U,(by show 3<=sizeLine;decide),λt2 Vv=>⟨ll,_,_,U,U,(by rw[ah (af DI Vv)];exact DI),(by rw[length_map];omega),?_⟩⟩
   have k5:∀b o,H4 b=some o->b≠ll->(upd (upd H4 t2 (.tup [.int m, .str ⟨(fL x).toArray⟩, .ref d])) ll (.lst (ts.map V.ref++[V.ref t2]))) b=some o:=λb o z nb=>by
    rw[ah nb,ah (af z Vv)];exact z
   have OC:(upd (upd H4 t2 (.tup [.int m, .str ⟨(fL x).toArray⟩, .ref d])) ll (.lst (ts.map V.ref++[V.ref t2]))) ll=some (.lst (ts.map V.ref++[V.ref t2])):=ag
   have Vw:(upd (upd H4 t2 (.tup [.int m, .str ⟨(fL x).toArray⟩, .ref d])) ll (.lst (ts.map V.ref++[V.ref t2]))) t2=some (.tup [.int m, .str ⟨(fL x).toArray⟩, .ref d]):=by
    rw[ah (af DI Vv).symm,ag]
   generalize upd (upd H4 t2 (.tup [.int m, .str ⟨(fL x).toArray⟩, .ref d])) ll (.lst (ts.map V.ref++[V.ref t2]))=H5 at k5 OC Vw |-;have htd5:=k5 _ _ GB nlt.symm;have Vx:=k5 _ _ hd Yr;dsimp only [bL];refine⟨_,U,d,Dx,U,Vx,λo nf=>dw nf (λj σ H6=>∃w:Option V,σ=[some (.int c),some (.ref kl),some (.ref xl),some (.ref ll),some (.ref td),some (.int (0+(i:Int))),some (.str ⟨(fL x).toArray⟩),some (.ref d),some (.int m),w,none,none,none]/\H6=upd H5 td (.dK (cX m D (Dx.take j) Dx))) ?_ ?_ ?_ ?_⟩
   ·exact⟨v9,U,(cH htd5).symm⟩
   ·rintro j σ H6 ⟨_,_,rfl⟩;rw[ah DZ];exact Vx
   ·rintro j k v σ H6 hj ⟨w,rfl,rfl⟩;have nW:∀o',(upd (upd H5 td (.dK (cX m D (Dx.take j) Dx))) d o') td=some (.dK (cX m D (Dx.take j) Dx)):=λo'=>by rw[ah DZ.symm];exact ag
    have NC:=gq m Dx (Dx.take j) D;have Nj:(Dx.take j).length<=Dx.length:=length_take_le' _ _;have hln:=G9.ln;have JA:=cI m Dx (Dx.take j) D hT.int;have hvv:=G9.int.dO (mem_of_getElem? hj);refine⟨_,U,td,U, .inl ⟨_, .inl (nW _)⟩,_,U,_,fQ.k (k:=k) (nW _),_,U,_,U,_,U,d,V.int (aG Dx k),U, .inl ⟨_,k, .inr ⟨o,ag⟩,U,hvv.symm⟩,_,_,U,U, .inl ⟨by omega,by omega⟩,_,_,JA.at k,U,_,U,_,U,td,_,U,iU.k (k:=k) (nW _) 0e1,?_⟩;refine⟨by rw[ah DZ];exact ag,some (kV k),U,?_⟩;rw[g8 DZ.symm Vx];unfold cX;rw[take_snoc hj,foldl_append];rfl
   ·rintro σ H6 ⟨w,rfl,rfl⟩;rw[take_length];have NC:=gq m Dx Dx D;have hln:=G9.ln
    have k6:∀b o,H4 b=some o->b≠ll->b≠td->(upd H5 td (.dK (cX m D Dx Dx))) b=some o:=λb o z n1 n2=>by
     rw[ah n2];exact k5 _ _ z n1
    have n2t:t2≠td:=(af GB Vv).symm;refine⟨zs++[(m,x)],cX m D Dx Dx,ts++[t2],_,_,_,_,_,U,?_,bH ?_ ?_,ag,hT.step G9 ch1 ch2 M1 M3,by rw[length_append,Vu];rfl,λz hz=>?_,by omega,λb o z n1 n2=>k6 _ _ (e4 _ _ (e' _ _ z n1 n2)) n1 n2⟩
    ·rw[ah nlt,OC,map_append];rfl
    ·exact⟨d,Dx,by rw[ah n2t];exact Vw,k6 _ _ hd Yr DZ,DZ,G9.int,G9.z,(λz=>by obtain⟨k,_,hm⟩:=G9.ne;rw[z] at hm;cases hm),G9.nz⟩
    ·exact aB (λ_ _ z=>z.keep A5 (λb o y n1 n2=>k6 _ _ (e4 _ _ y) n1 n2) A7) hP
    ·rcases mem_append.mp hz with hz|hz
     ·exact Oz z hz
     ·rw[mem_singleton.mp hz];exact⟨M1,M3,pE⟩
  ·rintro σ H' ⟨zs,D,ts,v5,v6,v7,v8,v9,rfl,A5,hP,A7,hT,Vu,Oz,hDl,e'⟩;have hz3:zs.length<=3:=by omega
   have Vs:zs≠[]:=λz=>by rw[z] at Vu;have:0=(1+x0%3).toNat:=Vu;omega
   have lP:=hT.ch;have eH:au H H':=λb o z=>e' _ _ (e3 _ _ z) (af z kll) (af z ktd);have OA:=e' _ _ TJ Yp Yq;refine⟨_,U,td,V.int (aG D kP),U, .inl ⟨_,kP, .inl A7,U,(hT.int.qC hT.pl).symm⟩,?_⟩;dsimp only [bL];refine⟨(by show 0<=sizeLine;decide),λrl nrl=>?_⟩;have sr:=au.new (o:= .lst []) nrl;have Au:(upd H' rl (.lst [])) rl=some (.lst []):=ag;have krl:H rl=none:=none_back eH nrl;have Ys:rl≠td:=(af A7 nrl).symm;have TQ:rl≠ll:=(af A5 nrl).symm;have OB:=sr _ _ OA;have DI:=sr _ _ A5;have GB:=sr _ _ A7;have hP4:=aB (λ_ _ z=>Es.same sr z) hP;have eH4:=eH.trans sr;generalize upd H' rl (.lst [])=H4 at sr Au OB DI GB hP4 eH4 |-;dsimp only [bL];refine⟨_,U,xl,_,_,V.int x5,U,U,bh.of OB,U,_,_,U,U,(by show (0 :Int) <2;decide),U,_,U,fJ (λ_=>?_) λ_=>?_⟩
   ·refine⟨U,_,U,td,_,U,GB,λo nf D2 SQ=>?_⟩;have Nm:D2≠td:=λz=>by rw[z,ag] at SQ;cases SQ
    have XC:H4 D2=none:=by rwa [ah Nm] at SQ
    have l3:=qD jg hT
    have jl:∀i,(jS D (D.take i)).length<=13:=λi=>by
     unfold jS jP;rw[length_map];refine le_trans (List.length_filterMap_le _ _) ?_;rw[length_map];exact le_trans (length_take_le' _ _) 0e1
    have gen:∀i σ H',PvJ o D td D2 H4 i σ H'->H' td=some (.eI o (.dK D)):=λi σ H' ⟨_,_,z,_⟩=>z;refine oj (a:=td) (D:=D2) (kvs:=D) (PvJ o D td D2 H4) ?_ gen ?_ ?_
    ·exact⟨none,U,by rw[ah (Ne.symm Nm),ag],ag,λb o' z hb=>by rw[ah (af z XC),ah hb];exact z⟩
    ·rintro i k v σ H5 hi ⟨v',rfl,f1,f2,f5⟩ N hN;have hm:k∈D.map 1e4:=mem_map.mpr ⟨(k,v),mem_of_getElem? hi,rfl⟩;have hv:=hT.int.qC hm;have hjl:=jl i;rcases hT.ky k hm with rfl| ⟨⟨k',pQ,rfl⟩,z1,z2⟩
     ·refine⟨_,U,U,_,U,fJ (λec=>absurd ec (by simp [kV])) λ_=>hN _ _ ⟨_,U,f1,?_,f5⟩⟩;rw[f2];unfold jS;rw[take_snoc hi,nN,if_pos rfl,append_nil]
     ·have np:(Sum.inr (⟨k'.toArray⟩:Str):Key)≠kP:=λe=>ic (jg.ok k' pQ) (Sum.inr.inj e);have lk:=kL (jg.ok k' pQ);have lf:=dS z1 0e1;refine⟨_,U,U,_,U,fJ (λ_=>?_) λec=>absurd ec ?_⟩
      ·refine⟨_,U,_,U,_,U,td,V.int _,U, .inl ⟨_,_, .inr ⟨o,f1⟩,U,hv.symm⟩,_,U,z1,0e1,_,_,U,U,(by rw[aL];omega),?_⟩;refine⟨_,f2,(by rw[length_map];omega),hN _ _ ⟨_,U,by rw[ah (Ne.symm Nm)];exact f1,?_,λb o' z hb=>by rw[ah (af z XC)];exact f5 b o' z hb⟩⟩;rw[ag];unfold jS;rw[take_snoc hi,nN,if_neg np,map_append,map_append];rfl
      ·intro ec;have:(⟨k'.toArray⟩:Str)="+" :=by simpa [kV] using ec
       exact ic (jg.ok k' pQ) this
    rintro σ H5 ⟨v',rfl,f1,f2,f5⟩;rw[take_length] at f2
    have hj1:∀y∈jS D D,y.length<=6:=λy hy=>by
     obtain⟨s,hs,rfl⟩:=mem_map.mp hy;obtain⟨a,b,c'⟩:=CL jg hT hs;have:=kL a;have:=dS b 0e1;rw[az];show s.cps.size+_<=6;rw[<-Array.length_toList];omega
    have hjn:(jS D D).length<=3:=by unfold jS;rw[length_map];exact l3
    have hjs:=xy hj1;have e0:("" :Str).length=0:=by decide+kernel
    refine⟨td,o,D,f1,nf,"",D2,jS D D,U,U,bh.of (by rw[ah Nm];exact f2),by rw[e0];omega,?_⟩
    have e5:au H4 (upd H5 td (.dK D)):=λb o' z=>by
     by_cases y:b=td
     ·subst y;rw[ag];exact GB.symm.trans z
     ·rw[ah y];exact f5 b o' z y
    generalize upd H5 td (.dK D)=H6 at e5 |-;dsimp only [bL];have nk:=Kx jg hT Vs;have okj:=TC jg hz3 hT nk
    have ex:Txt.join "" (jS D D)++(⟨(eh (aG D kP)).toArray⟩:Str)=⟨(fL (G8 D)).toArray⟩:=by
     rw[join_eq,Ym];unfold jS;rw[Yo,bu]
    have lj:=okj.2.1
    have lj2:(Txt.join "" (jS D D)).length+(⟨(eh (aG D kP)).toArray⟩:Str).length<=33:=by
     rw[<-az,ex,aL];exact lj
    refine⟨_,U,_,U,_,U,aG D kP,U,by omega,by omega,λH7 e7=>⟨_,_,U,U,by omega,_,U,td,_,U, .inl (e7 _ _ (e5 _ _ GB)),λdd AD=>⟨(by show 3<=sizeLine;decide),λt1 nt1=>⟨(by show 1<=sizeLine;decide),λl1 nl1=>⟨1e2,λt nt=>?_⟩⟩⟩⟩⟩;rw[ex] at nl1 nt |-;have g1:=au.new (o:= .dK D) AD;have g2:=au.new (o:= .tup [.int 1, .str ⟨(fL (G8 D)).toArray⟩, .ref dd]) nt1;have g3:=au.new (o:= .lst [.ref t1]) nl1;have g4:=au.new (o:= .tup [.ref ll, .ref l1]) nt;have f0:=e5.trans (e7.trans (g1.trans (g2.trans g3)));refine qq t ll l1 zs [(1,G8 D)] _ (none_back (eH4.trans f0) nt) ag ⟨ts,(f0.trans g4) _ _ DI,aB (λ_ _ z=>(Es.same (f0.trans g4) z).stm) hP4⟩ ⟨[t1],g4 _ _ ag, .cons ⟨dd,D,(g3.trans g4) _ _ ag,(g2.trans (g3.trans g4)) _ _ ag,hT.int,λk=>(Qq hT k).symm,(λz=>by have:=hT.pl;rw[z] at this;cases this),Tz D⟩ .nil⟩ ⟨Vs,cons_ne_nil _ _,λx hx=>?_,λy hy=>?_,?_,λk=>?_⟩ (λz hz=>?_) (eH4.trans (f0.trans g4))
    ·obtain⟨a,b,c'⟩:=Oz x hx;exact⟨a,Int.le_trans b 0e2,c'⟩
    ·rw[mem_singleton.mp hy];exact⟨(by show (1 :Int)<=1;decide),(by show (1 :Int)<=100000000000;decide),okj⟩
    ·show zs.length+1<=8;omega
    ·rw[iZ,kS,add_zero];show _=1*aG (jG (G8 D)) k;rw[Qq hT,one_mul,hT.z]
    ·rcases mem_append.mp hz with hz|hz
     ·exact Int.le_trans (Oz z hz).2.1 0e2
     ·rw[mem_singleton.mp hz];show (1 :Int)<=999;decide
   ·dsimp only [Hj];refine⟨_,U,td,D,U,GB,λo nf=>dw nf (λj σ H5=>∃(w:Option V) (us:Ix),σ=[some (.int c),some (.ref kl),some (.ref xl),some (.ref ll),some (.ref td),v5,v6,v7,v8,w,some (.int (aG D kP)),some (.ref rl),none]/\H5 rl=some (.lst (us.map V.ref))/\Paired (Es td H5) us ((jP (D.take j)).map (kT D))/\us.length<=j/\(∀b o',H4 b=some o'->b≠rl->H5 b=some o')) ?_ ?_ ?_ ?_⟩
    ·exact⟨v9,[],U,Au, .nil,le_refl _,λb o' z _=>z⟩
    ·rintro j σ H5 ⟨_,_,_,_,_,_,z⟩;exact z _ _ GB Ys.symm
    ·rintro j k v σ H5 hj ⟨w,us,rfl,TR,Vy,NK,k5⟩;have hm:k∈D.map 1e4:=mem_map.mpr ⟨(k,v),mem_of_getElem? hj,rfl⟩;have hv:=hT.int.qC hm;have hjl:j<D.length:=(List.getElem?_eq_some_iff.mp hj).1;have Vw:=k5 _ _ GB Ys.symm;have back:upd (upd H5 td (.eI o (.dK D))) td (.dK D)=H5:=by rw[gI];exact cH Vw
     rcases hT.ky k hm with rfl| ⟨⟨k',pQ,rfl⟩,z1,z2⟩
     ·refine⟨_,U,U,_,U,fJ (λec=>absurd ec (by simp [kV])) λ_=>⟨ag,_,us,U,?_,?_,?_,?_⟩⟩
      ·rw[back];exact TR
      ·rw[back,take_snoc hj,nN,if_pos rfl,append_nil];exact Vy
      ·omega
      ·rw[back];exact k5
     ·have okk:=jg.ok k' pQ;have np:(Sum.inr (⟨k'.toArray⟩:Str):Key)≠kP:=λe=>ic okk (Sum.inr.inj e);refine⟨_,U,U,_,U,fJ (λ_=>?_) λec=>absurd ec ?_⟩
      ·have hrf:(upd H5 td (.eI o (.dK D))) rl=some (.lst (us.map V.ref)):=by rw[ah Ys];exact TR
       refine⟨_,U, .inl ⟨U,_,bh.of hrf⟩,_,U,_,U,td,V.int _,U, .inl ⟨_,_, .inr ⟨o,ag⟩,U,hv.symm⟩,_,U,λdd AD=>?_⟩;have DZ:dd≠td:=λz=>by rw[z,ag] at AD;cases AD
       have nd5:H5 dd=none:=by rwa [ah DZ] at AD
       have Xv:dd≠rl:=(af TR nd5).symm;refine⟨_,U,ag,[(Sum.inr (⟨k'.toArray⟩:Str), .int 1)],U,(by show 1<=15;decide),(by show 3<=sizeLine;decide),λt nt=>?_⟩
       have k1:∀b o',(upd H5 td (.eI o (.dK D))) b=some o'->(upd (upd (upd H5 td (.eI o (.dK D))) dd (.dK [])) dd (.dK (bD [] [((Sum.inr (⟨k'.toArray⟩:Str):Key),V.int 1)]))) b=some o':=λb o' z=>by
        rw[ah (af z AD),ah (af z AD)];exact z
       have kd:(upd (upd (upd H5 td (.eI o (.dK D))) dd (.dK [])) dd (.dK (bD [] [((Sum.inr (⟨k'.toArray⟩:Str):Key),V.int 1)]))) dd=some (.dK [((Sum.inr (⟨k'.toArray⟩:Str):Key),V.int 1)]):=ag;generalize upd (upd (upd H5 td (.eI o (.dK D))) dd (.dK [])) dd (.dK (bD [] [((Sum.inr (⟨k'.toArray⟩:Str):Key),V.int 1)]))=G1 at k1 kd nt |-;have g0:=k1 _ _ (ag (H:=H5) (a:=td) (o:= .eI o (.dK D)));have AF:=k1 _ _ hrf;have ntr:t≠rl:=(af AF nt).symm;have TU:t≠td:=(af g0 nt).symm;have ntd':dd≠t:=af kd nt;refine⟨rl,_,_,U,U,(by rw[ah ntr.symm];exact AF),(by rw[length_map];omega),?_,_,us++[t],U,?_,?_,?_,?_⟩
       ·rw[ah Ys.symm,ah TU.symm];exact g0
       ·rw[ah Ys,ag,map_append];rfl
       ·have old:∀b o',H5 b=some o'->b≠rl->b≠td->(upd (upd (upd G1 t (.tup [.int (aG D (Sum.inr (⟨k'.toArray⟩:Str))), .str ⟨k'.toArray⟩, .ref dd])) rl (.lst (us.map V.ref++[.ref t]))) td (.dK D)) b=some o':=λb o' z n1 n2=>by
         have z1:=k1 b o' (by rw[ah n2];exact z);rw[ah n2,ah n1,ah (af z1 nt)];exact z1
        rw[take_snoc hj,nN,if_neg np,map_append];refine bH ?_ (aB (λ_ _ z=>z.keep TR old Vw) Vy);refine⟨dd,[((Sum.inr (⟨k'.toArray⟩:Str):Key),V.int 1)],?_,?_,DZ,λp hp=>by rw[mem_singleton.mp hp];exact⟨_,U⟩,λk=>?_,cons_ne_nil _ _,λt n e=>by cases e⟩
        ·rw[ah TU,ah ntr,ag];show _=some (HO.tup [.int (aG D (Sum.inr _)), .str ⟨(fL (Oe _)).toArray⟩, .ref dd]);rw[Kk];rfl
        ·rw[ah DZ,ah Xv,ah ntd'];exact kd
        ·show _=aG (jG (Oe ⟨k'.toArray⟩)) k;rw[Qg,qA];by_cases e:k=Sum.inr ("+" :Str)
         ·rw[if_pos e,if_neg (by rw[e];exact λz=>np z.symm)]
         ·rw[if_neg e]
       ·rw[length_append];show us.length+1<=j+1;omega
       ·intro b o' z nb;have z5:=k5 b o' z nb;by_cases e:b=td
        ·subst e;rw[ag];exact Vw.symm.trans z5
        ·have z1:=k1 b o' (by rw[ah e];exact z5);rw[ah e,ah nb,ah (af z1 nt)];exact z1
      ·intro ec;have:(⟨k'.toArray⟩:Str)="+" :=by simpa [kV] using ec
       exact ic okk this
    ·rintro σ H5 ⟨w,us,rfl,TR,Vy,NK,k5⟩;rw[take_length] at Vy;have eH5:au H H5:=λb o z=>k5 _ _ (eH4 _ _ z) (af z krl);have OC:=k5 _ _ DI TQ.symm;have hPl:=aB (λ_ _ z=>AB.Et Au k5 (Es.stm z)) hP4;have TV:=aB (λ_ _ z=>Es.stm z) Vy;have lts:=Paired.length hPl;have lus:=Paired.length TV;rw[length_map] at lus;have l3:=qD jg hT;clear Vy hP4 hP;dsimp only;refine mN (fun σ' H'=>∃(CN:Ix) (uz:NE),σ'=[some (.int c),some (.ref kl),some (.ref xl),some (.ref ll),some (.ref td),v5,v6,v7,v8,w,some (.int (aG D kP)),some (.ref rl),none]/\H' ll=some (.lst (CN.map V.ref))/\Paired (AB H') CN uz/\(uz=zs/\aG D kP<=0\/uz=zs++[(aG D kP,LL)]/\0<aG D kP)/\H' rl=some (.lst (us.map V.ref))/\Paired (AB H') us ((jP D).map (kT D))/\au H H') (λN hN=>?_) ?_
     ·refine⟨_,U,_,_,U,U,_,U,fJ (λec=>?_) λec=>?_⟩
      ·have ec:0<aG D kP:=by simpa using ec
       refine⟨_,U, .inl ⟨U,_,bh.of OC⟩,_,U,λdd AD=>⟨1,U,ag,[(kP, .int (-1))],U,(by show 1<=15;decide),(by show 3<=sizeLine;decide),λt nt=>?_⟩⟩;obtain⟨q1,q2,q3⟩:=KA (n:=aG D kP) AD OC nt hPl rfl;refine⟨ll,_,_,U,U,?_,(by rw[length_map];omega),hN _ _ ⟨ts++[t],_,U,q1,q2, .inr ⟨U,ec⟩,q3 _ _ TR TQ,aB (λ_ _ z=>AB.Et OC q3 z) TV,λb o z=>q3 _ _ (eH5 _ _ z) (af z kll)⟩⟩;have a1:ll≠dd:=af OC AD;have a2:(upd (upd H5 dd (.dK [])) dd (.dK (bD [] [(kP,V.int (-1))]))) ll=some (.lst (ts.map V.ref)):=by rw[ah a1,ah a1];exact OC
       rw[ah (af a2 nt)];exact a2
      ·have ec:aG D kP<=0:=by simpa using ec
       exact hN _ _ ⟨ts,zs,rfl,OC,hPl, .inl ⟨rfl,ec⟩,TR,TV,eH5⟩
     rintro σ' H6 ⟨CN,uz,rfl,hl6,hP6,hc6,Vz,Yt,eH6⟩;refine mN (fun σ' H'=>∃(us':Ix) (GA:NE),σ'=[some (.int c),some (.ref kl),some (.ref xl),some (.ref ll),some (.ref td),v5,v6,v7,v8,w,some (.int (aG D kP)),some (.ref rl),none]/\H' rl=some (.lst (us'.map V.ref))/\Paired (AB H') us' GA/\(GA=(jP D).map (kT D)/\0<=aG D kP\/GA=(jP D).map (kT D)++[(0 - aG D kP,LL)]/\aG D kP<0)/\H' ll=some (.lst (CN.map V.ref))/\Paired (AB H') CN uz/\au H H') (λN hN=>?_) ?_
     ·refine⟨_,U,_,_,U,U,_,U,fJ (λec=>?_) λec=>?_⟩
      ·have ec:aG D kP<0:=by simpa using ec
       refine⟨_,U, .inl ⟨U,_,bh.of Vz⟩,_,U,_,_,U,U,λdd AD=>⟨1,U,ag,[(kP, .int (-1))],U,(by show 1<=15;decide),(by show 3<=sizeLine;decide),λt nt=>?_⟩⟩;obtain⟨q1,q2,q3⟩:=KA (n:=0 - aG D kP) AD Vz nt Yt rfl;refine⟨rl,_,_,U,U,?_,(by rw[length_map];omega),hN _ _ ⟨us++[t],_,U,q1,q2, .inr ⟨U,ec⟩,q3 _ _ hl6 TQ.symm,aB (λ_ _ z=>AB.Et Vz q3 z) hP6,λb o z=>q3 _ _ (eH6 _ _ z) (af z krl)⟩⟩;have a1:rl≠dd:=af Vz AD;have a2:(upd (upd H6 dd (.dK [])) dd (.dK (bD [] [(kP,V.int (-1))]))) rl=some (.lst (us.map V.ref)):=by rw[ah a1,ah a1];exact Vz
       rw[ah (af a2 nt)];exact a2
      ·have ec:0<=aG D kP:=by simpa using ec
       exact hN _ _ ⟨us,_,rfl,Vz,Yt, .inl ⟨rfl,ec⟩,hl6,hP6,eH6⟩
     rintro σ' H7 ⟨us',GA,rfl,hr7,hPr7,hc7,hl7,hP7,eH7⟩;obtain⟨cv,c9⟩:=KC jg hT Vs hz3 Oz hc6 hc7;exact⟨_,U,_,U,1e2,λt nt=>qq t ll rl uz GA _ (none_back eH7 nt) ag (fN.same (au.new nt) ⟨CN,hl7,hP7⟩) (fN.same (au.new nt) ⟨us',hr7,hPr7⟩) cv c9 (eH7.trans (au.new nt))⟩
variable {uC uP uI uD uL uT fG fH fI uG uS:Tok}{Ch HE Sh St:Py}
inductive KH(vs:List V)(H:Hp)(Q:VK)(E:XK):Prop
 |mk (t l r:Addr) (xs ys:List Tm) (bM:vs=[.ref t]) (bV:H t=some (.tup [.ref l, .ref r])) (b8:fN H l xs) (cS:fN H r ys) (eK:(∀z∈xs,gm 999 z)) (gS:(∀z∈ys,gm 999 z)) (lR:xs.length<=10) (rV:ys.length<=10) (yJ:∀H',au H H'->Q (.str (Txt.join " -> " [tX xs,tX ys])) H')
def Ew:Sp:=KH
def TX{z:Tm}:(if decide (z.1>1)=true then ((toString z.1 :Str)++" ") else Str.empty)++(⟨(fL z.2).toArray⟩:Str)=if z.1>1 then (toString z.1 :Str)++" " ++⟨(fL z.2).toArray⟩ else ⟨(fL z.2).toArray⟩:=by
 by_cases e:z.1>1
 ·rw[if_pos (decide_eq_true e),if_pos e]
 ·rw[if_neg (by simpa using e),if_neg e];show (⟨([]:IR).toArray⟩:Str)++_=_;rw[bu];rfl
def Yu{z:Tm}(h:1<=z.1):(if z.1>1 then (toString z.1 :Str)++" " ++⟨(fL z.2).toArray⟩ else ⟨(fL z.2).toArray⟩)=tW z:=by
 unfold tW;by_cases e:z.1=1
 ·rw[if_pos e,if_neg 0e1]
 ·rw[if_neg e,if_pos 0e1]
def TZ{z:Tm}(h:gm 999 z):gm (10^40) z:=⟨h.1,Int.le_trans h.2.1 0e2,h.2.2⟩
def mq:ay ["_law_sides","_law_found","_law_side","_law_terms","_law_many","_law_name","_law_counts"] ["_law_sides"] (ao II):=dE
def OD(D:Def K mg "_law_line" "_law_line" II ["_law_sides"])(T:oA K mg C):bp P w K mg base 1 "_law_line" ["_law_sides"] Ew:=by
 refine D.dk mq 0e6 0e0
 ·obtain⟨t,l,r,xs,ys,rfl,_⟩:=h;rfl
 ·obtain⟨t,l,r,xs,ys,rfl,ht,hxs,Fl,pE,uo,lx,ly,q⟩:=h;have big:=bgL;have hS:Paired (λa s=>fN H a s/\(∀x∈s,gm 999 x)/\s.length<=10) [l,r] [xs,ys]:= .cons ⟨hxs,pE,lx⟩ (.cons ⟨Fl,uo,ly⟩ .nil);refine⟨_,(ai (aA (i:=1) mq.nd rfl 0e3 (bO aj)) (ai (bF PassesOwn.never rfl (Rf 1e6) (aF (i:=2) mq.nd rfl 0e3) (ai (aA (i:=3) mq.nd rfl 0e3 (bO aj)) (ai (bF PassesOwn.never rfl (cA (pv 2)) (eX rfl (aP (aF (i:=4) mq.nd rfl 0e3) (aP (aF (i:=5) mq.nd rfl 0e3) (aP (aF (i:=6) mq.nd rfl 0e3) cL)))) (ak (a7 (eU PySem.F.plainAttrs_list PySem.F.slot_list_append PySem.F.type_list_append cn (pv 3) (aa (av aE (av ML (av aE (bx jb rfl T.IM Bs (aa (pv 4) aj)) aZ) (bx uQ rfl T.DC wN (aa (pZ j4 (pv 4) aq (aT _)) aj))) (pv 5)) aj))))) (ak (a7 (eU PySem.F.plainAttrs_list PySem.F.slot_list_append PySem.F.type_list_append cn (pv 1) (aa (eU PySem.F.plainAttrs_str PySem.F.slot_str_join PySem.F.type_str_join mM aZ (aa (pv 3) aj)) aj))))))) (ak (aH (eU PySem.F.plainAttrs_str PySem.F.slot_str_join PySem.F.type_str_join mM aZ (aa (pv 1) aj)))))),?_⟩;refine⟨(by show 0<=sizeLine;decide),λD1 X8=>?_⟩;have sD:=au.new (o:= .lst []) X8;have hD0:(upd H D1 (.lst [])) D1=some (.lst []):=ag;generalize upd H D1 (.lst [])=H1 at sD hD0 |-;dsimp only [bL];refine⟨_,U,t,U,⟨_,gE.of (sD _ _ ht)⟩,LW (K:=K) (a:=t) (xs:=[l,r].map V.ref) (λi σ H'=>∃v2 v3 v4 v5 v6:Option V,σ=[some (.ref t),some (.ref D1),v2,v3,v4,v5,v6]/\H' D1=some (.lst ((([xs,ys]:List (List Tm)).take i).map λs=>V.str (tX s)))/\au H H') ?_ (λi σ H' _ ⟨_,_,_,_,_,_,_,z⟩=>gE.of (z _ _ ht)) ?_ ?_⟩
  ·exact⟨none,none,none,none,none,U,hD0,sD⟩
  ·rintro i v σ H' hi ⟨v2,v3,v4,v5,v6,rfl,xS,e⟩;rw[getElem?_map] at hi;obtain⟨a,ha,rfl⟩:=gMp hi;obtain⟨sd,T1,⟨ts,hl,hP⟩,aX,h10⟩:=bc hS ha;have fP:=Paired.length hP;have zm:i<2:=(List.getElem?_eq_some_iff.mp T1).1;refine⟨(by show 0<=sizeLine;decide),λD2 T2=>?_⟩;have sE:=au.new (o:= .lst []) T2;have nD12:D1≠D2:=af xS T2;have hD2H:H D2=none:=none_back e T2;have Yv:=sE _ _ xS;have Yw:(upd H' D2 (.lst [])) D2=some (.lst []):=ag;have eE:=e.trans sE;generalize upd H' D2 (.lst [])=H2 at sE Yv Yw eE |-;dsimp only [bL];refine⟨_,U,a,U,⟨_,bh.of (eE _ _ hl)⟩,du (K:=K) (a:=a) (xs:=ts.map V.ref) (λj σ H3=>∃w4 w5 w6:Option V,σ=[some (.ref t),some (.ref D1),some (.ref a),some (.ref D2),w4,w5,w6]/\H3 D2=some (.lst ((sd.take j).map λx=>V.str (tW x)))/\H3 D1=some (.lst ((([xs,ys]:List (List Tm)).take i).map λs=>V.str (tX s)))/\au H H3) ?_ (λj σ H3 _ ⟨_,_,_,_,_,_,z⟩=>bh.of (z _ _ hl)) ?_ ?_⟩
   ·exact⟨v4,v5,v6,U,Yw,Yv,eE⟩
   ·rintro j x σ H3 hj ⟨w4,w5,w6,rfl,h2,h1,e3⟩;rw[getElem?_map] at hj;obtain⟨u,hu,rfl⟩:=gMp hj;obtain⟨y,hy,d,Dy,h5,h6,_⟩:=bc hP hu;have uo:=aX y (mem_of_getElem? hy);have hjl:j<sd.length:=(List.getElem?_eq_some_iff.mp hy).1;have Vu:((sd.take j).map λx=>V.str (tW x)).length<sizeLine:=by rw[length_map,length_take];omega
    have l1:(" " :Str).length=1:=by decide+kernel
    have b1:=uo.1;have b2:=uo.2.1;have ez:=uo.2.2.2.1;have p50:(999 :Int) <10^50:=by decide
    have zi:=DQ (n:=y.1) 0e1 0e1
    have l9:(if decide (y.1>1)=true then ((toString y.1 :Str)++" ") else Str.empty).length<=51:=by
     split
     ·rw[az,l1];omega
     ·exact zero_le _
    refine⟨u,_,U,gE.of (e3 _ _ h5),U,_,_,U,_,_,U,_,_,U,U,?_⟩;refine⟨_,U, .inl ⟨U,_,bh.of h2⟩,_,U,y.1,U,Ng 0e1 0e1,_,_,U,U,(by rw[l1];omega),_,U,_,_,U,U, .inr ⟨_,U,_,decide (y.1>1),U,U,_,U,_,_,U,U,le_trans (Nat.add_le_add l9 (by rw[aL];exact ez)) 0e2,D2,_,_,U,U,h2,Vu,_,_,_,U,?_,?_,λb o z=>?_⟩⟩
    ·rw[ag,take_snoc hy,map_append,TX,Yu b1];rfl
    ·rw[ah nD12];exact h1
    ·rw[ah (af z hD2H)];exact e3 _ _ z
   ·rintro σ H3 ⟨w4,w5,w6,rfl,h2,h1,e3⟩;rw[length_map,fP,take_length] at h2;have l3:(" + " :Str).length=3:=by decide+kernel
    have z:=xy (ys:=sd.map tW) (b:=100) λy hy=>by
     obtain⟨x,hx,rfl⟩:=mem_map.mp hy;exact DR (Int.le_refl _) (TZ (aX x hx))
    refine⟨_,U, .inl ⟨U,_,bh.of h1⟩,U,_,U," + ",D2,sd.map tW,U,U,bh.of (by rw[h2,map_map];rfl),?_,?_⟩
    ·rw[length_map] at z |-;rw[l3];omega
    refine⟨D1,_,_,U,U,h1,by rw[length_map,length_take];show min i 2<sizeLine;omega,_,_,_,_,_,U,?_,λb o z=>?_⟩
    ·rw[ag,take_snoc T1,map_append];rfl
    ·rw[ah (af z X8)];exact e3 _ _ z
  ·rintro σ H' ⟨v2,v3,v4,v5,v6,rfl,xS,e⟩;have hx:=vN (λz hz=>TZ (pE z hz)) lx;have hy:=vN (λz hz=>TZ (uo z hz)) ly;have l4:(" -> " :Str).length=4:=by decide+kernel
   refine⟨U,_,U," -> ",D1,[tX xs,tX ys],U,U,bh.of xS,?_,q _ e⟩;show (tX xs).length+((tX ys).length+0)+2*(" -> " :Str).length<=16777216;rw[l4];omega
inductive KI(vs:List V)(H:Hp)(Q:VK)(E:XK):Prop
 |mk (a:Addr) (kvs:List (Key×V)) (bM:vs=[.ref a]) (bV:H a=some (.dK kvs)) (b8:aY kvs) (cS:(kvs.map (·.1)).Nodup) (eK:kvs.length<=900) (gS:∀e H',H e=none->H' e=some (.dK (jK kvs))->au H H'->Q (.ref e) H')
def Ex:Sp:=KI
def wc{kvs:PP}{i:Nat}{k:Key}{v:V}(h:kvs[i]? =some (k,v)):jK (kvs.take (i+1))=jK (kvs.take i)++if 0<zv v then [(k,v)] else []:=by
 unfold jK;rw[take_snoc h,filter_append];congr 1;by_cases e:0<zv v
 ·rw[if_pos e];simp [e]
 ·rw[if_neg e];simp [e]
def yv{D:PP}{k:Key}{v:V}(h:¬k∈D.map 1e4):putK D k v=D++[(k,v)]:=by
 unfold putK;rw[if_neg];intro z;obtain⟨q,hq,e⟩:=any_eq_true.mp z;have e:q.1=k:=by simpa using e
 exact h (mem_map.mpr ⟨q,hq,e⟩)
def GC{kvs:PP}(hn:(kvs.map 1e4).Nodup){i:Nat}{k:Key}{v:V}(h:kvs[i]? =some (k,v)):¬k∈(jK (kvs.take i)).map 1e4:=λm=>by
 obtain⟨q,hq,e⟩:=mem_map.mp m;have hq:q∈kvs.take i:=(mem_filter.mp hq).1;have hs:kvs.take (i+1)=kvs.take i++[(k,v)]:=take_snoc h
 have C6:((kvs.take (i+1)).map 1e4).Nodup:=by
  rw[map_take];exact List.Sublist.nodup (List.take_sublist _ _) hn
 rw[hs,map_append,List.nodup_append] at C6;exact C6.2.2 q.1 (mem_map_of_mem hq) k 2e0 e
def yw:ay ["_law_stocks","_law_found","_law_name"] ["_law_stocks"] (ao BX):=dE
def KJ(D:Def K mg "_law_above" "_law_above" BX ["_law_stocks"]):bp P w K mg base 1 "_law_above" ["_law_stocks"] Ex:=by
 refine D.dk yw 0e6 0e0
 ·obtain⟨a,kvs,rfl,_⟩:=h;rfl
 ·obtain⟨a,kvs,rfl,ha,hI,hn,hl,q⟩:=h;have hu:=di hr;have big:=bgL
  refine⟨_,(ai (aA (i:=1) yw.nd rfl 0e3 eC) (ai (dM (bF PassesOwn.never rfl (cQ 1e6) (aF (i:=2) yw.nd rfl 0e3) (ak (bR (aO j4 (cf hu 1e6 (pv 2) 1e3) aq (aT _)) (ak (cP hu (pv 1) (pv 2) (cf hu 1e6 (pv 2) 1e3) rfl))
        aS)))) (ak (aH (pv 1))))),?_⟩
  refine λe0 oN=>?_;have s0:=au.new (o:= .dK []) oN;have hz0:(upd H e0 (.dK [])) e0=some (.dK []):=ag;have Yx:a≠e0:=af ha oN;generalize upd H e0 (.dK [])=H1 at s0 hz0 |-;have G2:=s0 _ _ ha;dsimp only [bL];refine⟨_,U,a,kvs,U,G2,λo nf=>dw nf (λj σ H2=>∃v2:Option V,σ=[some (.ref a),some (.ref e0),v2]/\H2=upd H1 e0 (.dK (jK (kvs.take j)))) ?_ ?_ ?_ ?_⟩
  ·exact⟨none,U,(cH hz0).symm⟩
  ·rintro j σ H2 ⟨_,_,rfl⟩;rw[ah Yx];exact G2
  ·rintro j k v σ H2 hj ⟨v2,rfl,rfl⟩;have hv:=hI.dO (mem_of_getElem? hj);have hlj:(jK (kvs.take j)).length<=900:=le_trans (List.length_filter_le _ _) (le_trans (length_take_le' _ _) hl)
   have ev:v= .int (aG kvs k):=by
    obtain⟨i,ei⟩:=hI _ (mem_of_getElem? hj);have ei:v= .int i:=ei;subst ei;have:=gj hn (mem_of_getElem? hj);rw[hv] at this;exact(Option.some.inj this).symm
   have nW:∀o',(upd (upd H1 e0 (.dK (jK (kvs.take j)))) a o') e0=some (.dK (jK (kvs.take j))):=λo'=>by rw[ah Yx.symm];exact ag
   refine⟨_,U,_,U,a,V.int (aG kvs k),U, .inl ⟨_,k, .inr ⟨o,ag⟩,U,hv.symm⟩,_,_,U,U,_,U,fJ (λec=>?_) λec=>?_⟩
   ·have ec:0<aG kvs k:=by simpa using ec
    refine⟨_,U,_,U,a,V.int (aG kvs k),U, .inl ⟨_,k, .inr ⟨o,ag⟩,U,hv.symm⟩,_,U,_,U,e0,_,U,iU.k (k:=k) (nW _) 0e1,?_,some (kV k),U,?_⟩
    ·rw[ah Yx];exact ag
    ·rw[g8 Yx.symm G2,wc hj,ev];show _=upd H1 e0 (.dK (_++if 0<aG kvs k then _ else _));rw[if_pos ec,yv (GC hn hj)]
   ·have ec:¬0<aG kvs k:=by simpa using ec
    refine⟨ag,some (kV k),U,?_⟩;rw[wc hj,ev];show _=upd H1 e0 (.dK (_++if 0<aG kvs k then _ else _));rw[if_neg ec,append_nil,gI];exact cH (by rw[ah Yx];exact G2)
  ·rintro σ H2 ⟨v2,rfl,rfl⟩;rw[take_length];exact⟨_,U,q e0 _ oN ag λb o z=>by rw[ah (af z oN)];exact s0 _ _ z⟩
variable {uC uP uI uD uL uT fG fH fI uG uS:Tok}{Ch HE Sh St:Py}
def STw(H:Hp)(t:Py)(z:Tm):Prop:=∃d:Addr,H t=some (.tup [.int z.1, .str ⟨(fL z.2).toArray⟩, .ref d])
inductive wd(H:Hp)(l:Addr)(zs:List Tm):Prop
 |mk (ts:List Addr) (bM:H l=some (.lst (ts.map V.ref))) (bV:Paired (STw H) ts zs)
def fN.toW{H:Hp}{l:Py}{zs:NE}(h:fN H l zs):wd H l zs:=by
 obtain⟨ts,h1,h2⟩:=h;exact⟨ts,h1,aB (λ_ _ z=>by obtain⟨d,D,h3,_⟩:=z;exact⟨d,h3⟩) h2⟩
def wd.but{H H':Hp}{am:Py}{kvs:PP}{l:Py}{zs:NE}(ha:H am=some 2e2)(k:∀b o,H b=some o->b≠am->H' b=some o)(h:wd H l zs):wd H' l zs:=by
 obtain⟨ts,h1,h2⟩:=h;exact⟨ts,k _ _ h1 (bj h1 ha 0e7),aB (λ_ _ z=>by obtain⟨d,h3⟩:=z;exact⟨d,k _ _ h3 (bj h3 ha 0e7)⟩) h2⟩
theorem AG(t:Int):∀(as:Uf) (acc:PP),(∀p∈as,(Sum.inr p.1 :Key)∈acc.map 1e4)->(aV t acc as).map 1e4=acc.map 1e4
 | [],_,_=>rfl
 |p::r,acc,h=>by
  have e:(bZ acc (Sum.inr p.1) (p.2*t)).map 1e4=acc.map 1e4:=by
   unfold bZ;rw[m8];unfold ju;rw[if_pos (h p 1e0)]
  have:=AG t r (bZ acc (Sum.inr p.1) (p.2*t)) λq hq=>by rw[e];exact h q (mem_cons_of_mem _ hq)
  rw[e] at this;exact this
theorem tN(t:Int):∀(as:Uf) (acc:PP),aY acc->aY (aV t acc as)
 | [],_,h=>h
 |_::r,_,h=>tN t r _ (h.add _ _)
def OE{W:PP}{ys:NE}(hI:aY W)(hn:(W.map 1e4).Nodup)(h:∀q∈aI ys,q.1∈W.map 1e4):aV 1 W (dQ ys)=cX 1 W (aI ys) (aI ys):=by
 have hk:∀p∈dQ ys,(Sum.inr p.1 :Key)∈W.map 1e4:=λp hp=>by
  obtain⟨q,hq,e⟩:=mem_map.mp (ym 1 (dQ ys) [] hp);rw[<-e];exact h q hq
 have k1:=AG 1 (dQ ys) W hk;have k2:=fV 1 (aI ys) (aI ys) W h;refine nh (tN 1 _ _ hI) (cI _ _ _ _ hI) (by rw[k1];exact hn) (by rw[k1,k2]) λk=>?_;rw[Kl,oS 1 (CH ys)];rfl
def Ey{xs:NE}{j:Nat}{z:Tm}(h:xs[j]? =some z)(acc:PP):aV 1 acc (dQ (xs.take (j+1)))=putK (aV 1 acc (dQ (xs.take j))) (Sum.inr ⟨(fL z.2).toArray⟩) (.int (aG (aV 1 acc (dQ (xs.take j))) (Sum.inr ⟨(fL z.2).toArray⟩)+z.1)):=by
 rw[take_snoc h];unfold dQ;rw[map_append];unfold aV;rw[foldl_append];show bZ _ _ (z.1*1)=_;rw[mul_one];rfl
theorem AH(t:Int):∀(as:Uf) (acc:PP),(aV t acc as).length<=acc.length+as.length
 | [],_=>le_refl _
 |p::r,acc=>by
  have h1:=AH t r (bZ acc (Sum.inr p.1) (p.2*t));have h2:(bZ acc (Sum.inr p.1) (p.2*t)).length<=acc.length+1:=cE _ _ _;rw[length_cons];show (aV t (bZ acc (Sum.inr p.1) (p.2*t)) r).length<=_;omega
inductive OF(vs:List V)(H:Hp)(Q:VK)(E:XK):Prop
 |mk (am t l r:Addr) (n sn:Nat) (kvs:List (Key×V)) (xs ys:List Tm) (bM:vs=[.ref am, .ref t, .int n, .int sn]) (bV:H am=some (.dK kvs)) (b8:aY kvs) (cS:(kvs.map (·.1)).Nodup) (eK:kvs.length<=100) (gS:H t=some (.tup [.ref l, .ref r])) (lR:wd H l xs) (rV:wd H r ys) (yJ:xs.length<=20) (LF:ys.length<=20) (CB:n<=12) (N6:InK kvs xs ys) (N7:(∀(t':Nat) k l' tt H',t'<n->(∀j,j<t'->dj (dP kvs xs ys j) (aI xs) (aI xs)=none)->dj (dP kvs xs ys t') (aI xs) (aI xs)=some (k,l')->H' tt=some (.tup [.int sn, .int ((t':Int)+1),kV k, .int l'])->(∀b o,H b=some o->b≠am->H' b=some o)->Q (.ref tt) H')) (N8:((∀j,j<n->dj (dP kvs xs ys j) (aI xs) (aI xs)=none)->∀H',H' am=some (.dK (dP kvs xs ys n))->(∀b o,H b=some o->b≠am->H' b=some o)->Q .cF H'))
def KL:Sp:=OF
def ig:ay ["_law_stocks","_law_sides","_law_times","_law_step_here","_law_turn","_law_needs","_law_many","_law_name","_law_counts"] ["_law_stocks","_law_sides","_law_times","_law_step_here"] (ao IJ):=dE
def OG(D:Def K mg "_law_step" "_law_step" IJ ["_law_stocks","_law_sides","_law_times","_law_step_here"])(T:oA K mg C):bp P w K mg base 1 "_law_step" ["_law_stocks","_law_sides","_law_times","_law_step_here"] KL:=by
 refine D.dk ig 0e6 0e0
 ·obtain⟨am,t,l,r,n,sn,kvs,xs,ys,rfl,_⟩:=h;rfl
 ·obtain⟨am,t,l,r,n,sn,kvs,xs,ys,rfl,tD,hI,G',nC,ht,hl,GY,lx,ly,hn,hK,qS,qN⟩:=h;have hu:=di hr;have big:=bgL;have Vi:aY (aI xs):=cx _;have etx:∀zs:List Tm,(dQ zs).length=zs.length:=λzs=>by unfold dQ;rw[length_map]
  have Vg:(aI xs).length<=20:=by
   have:=dA (dQ xs);have e:=etx xs;unfold aI;omega
  refine⟨_,(ai (bF PassesOwn.never rfl (gQ rfl T.lz (aa (pv 2) aj)) (aF (i:=4) ig.nd rfl 0e3) (ai (aA (i:=5) ig.nd rfl 0e3 eC) (ai (bF PassesOwn.never rfl (cA (bq j6 (pv 1) aq 1e3)) (eX rfl (aP (aF (i:=6) ig.nd rfl 0e3) (aP (aF (i:=7) ig.nd rfl 0e3) (aP (aF (i:=8) ig.nd rfl 0e3) cL)))) (ak (cP hu (pv 5) (pv 7) (av bC (bS hu (pv 5) (pv 7) aq ⟨U,U,U,U⟩) (pv 6)) rfl))) (ai (dM (bF PassesOwn.never rfl (cQ (pv 5)) (aF (i:=7) ig.nd rfl 0e3) (ak (bR (aO qQ (bS hu 1e6 (pv 7) aq ⟨U,U,U,U⟩) (cf hu (pv 5) (pv 7) 1e3) (aT _)) (ak (aH (bW (aa (pv 3) (aa (av bC (pv 4) aq) (aa (pv 7) (aa (av j3 (cf hu (pv 5) (pv 7) 1e3) (bS hu 1e6 (pv 7) aq ⟨U,U,U,U⟩)) aj)))))))
          aS)))) (ai (dM (bF PassesOwn.never rfl (cQ (pv 5)) (aF (i:=7) ig.nd rfl 0e3) (ak (cP hu 1e6 (pv 7) (av j3 (cf hu 1e6 (pv 7) 1e3) (cf hu (pv 5) (pv 7) 1e3)) rfl)))) (ak (bF PassesOwn.never rfl (cA (bq j6 (pv 1) aq 1e3)) (eX rfl (aP (aF (i:=6) ig.nd rfl 0e3) (aP (aF (i:=7) ig.nd rfl 0e3) (aP (aF (i:=8) ig.nd rfl 0e3) cL)))) (ak (cP hu 1e6 (pv 7) (av bC (bS hu 1e6 (pv 7) aq ⟨U,U,U,U⟩) (pv 6)) rfl))))))))) (ak (aH qK))),?_⟩
  refine⟨_,U,_,U,by omega,by omega,gR (λi σ H'=>∃v4 v5 v6 v7 v8:Option V,σ=[some (.ref am),some (.ref t),some (.int n),some (.int sn),v4,v5,v6,v7,v8]/\H' am=some (.dK (dP kvs xs ys i))/\(∀b o,H b=some o->b≠am->H' b=some o)/\∀j,j<i->dj (dP kvs xs ys j) (aI xs) (aI xs)=none) ⟨none,none,none,none,none,U,tD,(λb o z _=>z),λj hj=>by omega⟩ ?_ ?_⟩
  ·rintro i σ H' hi ⟨v4,v5,v6,v7,v8,rfl,Ti,pQ,hj⟩;have Yy:=oY hK i;have Yz:=tG xs ys hI i
   have Wz:(dP kvs xs ys i).length<=100:=by
    have:=congrArg List.length Yy;rw[length_map,length_map] at this;omega
   have ew:dP kvs xs ys (i+1)=cX 1 (cX (-1) (dP kvs xs ys i) (aI xs) (aI xs)) (aI ys) (aI ys):=rfl;generalize ewl:dP kvs xs ys i=W at Ti Yy Yz Wz ew |-;refine λnd hd=>?_;have MZ:am≠nd:=af Ti hd;have G2:(upd H' nd (.dK [])) am=some (.dK W):=by rw[ah MZ];exact Ti
   have Ml:(upd H' nd (.dK [])) nd=some (.dK []):=ag;have k1:∀b o,H b=some o->b≠am->(upd H' nd (.dK [])) b=some o:=λb o z nb=>by rw[ah (af (pQ _ _ z nb) hd)];exact pQ _ _ z nb
   generalize upd H' nd (.dK [])=H1 at G2 Ml k1 |-;have WJ:=k1 _ _ ht (bj ht tD 0e7);obtain⟨ts,hts,hP⟩:=hl.but tD k1;have fP:=Paired.length hP;dsimp only [bL];refine⟨_,U,t,_,_, .ref l,U,U,gE.of WJ,U,l,U,⟨_,bh.of hts⟩,du (K:=K) (a:=l) (xs:=ts.map V.ref) (λj σ H2=>∃w6 w7 w8:Option V,σ=[some (.ref am),some (.ref t),some (.int n),some (.int sn),some (.int (0+i)),some (.ref nd),w6,w7,w8]/\H2 nd=some (.dK (aV 1 [] (dQ (xs.take j))))/\∀b o,H1 b=some o->b≠nd->H2 b=some o) ⟨v6,v7,v8,U,Ml,λb o z _=>z⟩ (λj σ H2 _ ⟨_,_,_,_,_,z⟩=>bh.of (z _ _ hts (bj hts Ml 0e7))) ?_ ?_⟩
   ·rintro j x σ H2 KN ⟨w6,w7,w8,rfl,h2,e2⟩;rw[getElem?_map] at KN;obtain⟨u,Ki,rfl⟩:=gMp KN;obtain⟨z,hz,d,OH⟩:=bc hP Ki;have Jz:aY (aV 1 [] (dQ (xs.take j))):=cx _
    have pM:(aV 1 [] (dQ (xs.take j))).length<=20:=by
     have h1:=dA (dQ (xs.take j));have h2:=etx (xs.take j);have h3:(xs.take j).length<=xs.length:=length_take_le' _ _;omega
    refine⟨u,_,U,gE.of (e2 _ _ OH (bj OH Ml 0e7)),U,_,_,U,_,_,U,_,_,U,U,?_⟩;refine⟨_,U,nd,U, .inl ⟨_, .inl h2⟩,_,U,_,fQ.k (k:=Sum.inr ⟨(fL z.2).toArray⟩) h2,_,U,_,_,Jz.at _,U,_,U,_,U,nd,_,U,iU.k (k:=Sum.inr ⟨(fL z.2).toArray⟩) h2 0e1,?_⟩;refine⟨_,_,_,U,by rw[ag,Ey hz],λb o z' nb=>?_⟩;rw[ah nb];exact e2 _ _ z' nb
   ·rintro σ H2 ⟨w6,w7,w8,rfl,h2,e2⟩;rw[length_map,fP,take_length] at h2;have uU:H2 nd=some (.dK (aI xs)):=h2;have ha2:=e2 _ _ G2 MZ;have k2:∀b o,H b=some o->b≠am->H2 b=some o:=λb o z nb=>e2 _ _ (k1 _ _ z nb) λen=>by rw[en] at z nb;have:=pQ _ _ z nb;rw[hd] at this;cases this
    clear e2 h2 WJ hP hts Ml G2 k1;dsimp only [bL];have Td:∀o',(upd H2 nd o') am=some (.dK W):=λo'=>by rw[ah MZ];exact ha2
    have ndH:∀b o,H b=some o->b≠am->b≠nd:=λb o z nb en=>by rw[en] at z nb;have:=pQ _ _ z nb;rw[hd] at this;cases this
    refine⟨_,U,nd,aI xs,U,uU,λo nf=>dw nf (λj σ H3=>∃v7:Option V,σ=[some (.ref am),some (.ref t),some (.int n),some (.int sn),some (.int (0+i)),some (.ref nd),w6,v7,w8]/\H3=H2/\dj W (aI xs) ((aI xs).drop j)=dj W (aI xs) (aI xs)) ⟨w7,U,U,U⟩ (λj σ H3 ⟨_,_,z,_⟩=>by rw[z];exact uU) ?_ ?_⟩
    ·rintro j k v σ H3 Qd ⟨v7,rfl,rfl,vY⟩;have hv:=Vi.dO (mem_of_getElem? Qd);have zm:=(List.getElem?_eq_some_iff.mp Qd).1
     have LC:(aI xs).drop j=(k,v)::(aI xs).drop (j+1):=by
      rw[drop_eq_getElem_cons zm];congr 1;exact(List.getElem?_eq_some_iff.mp Qd).2
     refine⟨_,U,am,U, .inl ⟨_, .inl (Td _)⟩,_,U,_,fQ.k (k:=k) (Td _),_,U,_,U,nd,V.int (aG (aI xs) k),U, .inl ⟨_,k, .inr ⟨o,ag⟩,U,hv.symm⟩,?_⟩;rw[Yz.at k];refine⟨_,_,U,U,_,U,fJ (λec=>?_) λec=>?_⟩
     ·have ec:aG W k<aG (aI xs) k:=by simpa using ec
      rw[LC,eS,if_pos (by show 0<aG (aI xs) k - aG W k;omega)] at vY;refine⟨_,U,_,U,_,_,U,U,_,U,_,U,_,U,nd,V.int (aG (aI xs) k),U, .inl ⟨_,k, .inr ⟨o,ag⟩,U,hv.symm⟩,_,U,am,U, .inl ⟨_, .inl (Td _)⟩,_,U,_,fQ.k (k:=k) (Td _),?_⟩;rw[Yz.at k];refine⟨_,_,U,U,(by show 4<=sizeLine;decide),λtt KO=>?_⟩;have TU:tt≠nd:=λz=>by rw[z,ag] at KO;cases KO
      refine⟨nd,o,aI xs,by rw[ah (Ne.symm TU)];exact ag,nf,?_⟩;refine qS i k _ tt _ hi hj (by rw[ewl];exact vY.symm) (by rw[ah TU,ag];show some (HO.tup [V.int sn,V.int (0+(i:Int)+1),kV k,V.int _])=_;rw[zero_add]) λb o' z nb=>?_;have n1:=ndH _ _ z nb;have z2:(upd H3 nd (.eI o (.dK (aI xs)))) b=some o':=by rw[ah n1];exact k2 _ _ z nb
      rw[ah n1,ah (af z2 KO)];exact z2
     ·have ec:¬aG W k<aG (aI xs) k:=by simpa using ec
      refine⟨ag,_,U,by rw[gI,cH uU],?_⟩;rw[<-vY,LC,eS,if_neg (by show¬0<aG (aI xs) k - aG W k;omega)]
    ·rintro σ H3 ⟨v7,rfl,rfl,vY⟩;rw[drop_length] at vY;have vY:dj W (aI xs) (aI xs)=none:=vY.symm;have PY:∀q∈aI xs,q.1∈W.map 1e4:=λq hq=>by rw[Yy];exact hK.1 q hq
     refine⟨_,U,nd,aI xs,U,uU,λo nf=>dw nf (λj σ H4=>∃v7:Option V,σ=[some (.ref am),some (.ref t),some (.int n),some (.int sn),some (.int (0+i)),some (.ref nd),w6,v7,w8]/\H4=upd H3 am (.dK (cX (-1) W ((aI xs).take j) (aI xs)))) ⟨v7,U,(cH ha2).symm⟩ (λj σ H4 ⟨_,_,z⟩=>by rw[z,ah (Ne.symm MZ)];exact uU) ?_ ?_⟩
     ·rintro j k v σ H4 Qd ⟨v7,rfl,rfl⟩;have hm:=mem_of_getElem? Qd;have hv:=Vi.dO hm;have JA:=cI (-1) (aI xs) ((aI xs).take j) _ Yz;have hwk':=JA.qC (nM (-1) (aI xs) ((aI xs).take j) _ (PY _ hm));have NC:=gq (-1) (aI xs) ((aI xs).take j) W;have Nj:((aI xs).take j).length<=(aI xs).length:=length_take_le' _ _;have nW:∀o',(upd (upd H3 am (.dK (cX (-1) W ((aI xs).take j) (aI xs)))) nd o') am=some (.dK (cX (-1) W ((aI xs).take j) (aI xs))):=λo'=>by rw[ah MZ];exact ag
      refine⟨_,U,_,U,am,V.int _,U, .inl ⟨_,k, .inl (nW _),U,hwk'.symm⟩,_,U,_,U,nd,V.int (aG (aI xs) k),U, .inl ⟨_,k, .inr ⟨o,ag⟩,U,hv.symm⟩,_,_,U,U,_,U,_,U,am,_,U,iU.k (k:=k) (nW _) 0e1,?_⟩;refine⟨by rw[ah (Ne.symm MZ)];exact ag,some (kV k),U,?_⟩;rw[g8 MZ uU];show upd H3 am (.dK (putK _ k (.int (_ - _))))=_;have ez:∀a b:Int,a - b=a+ -1*b:=λa b=>by omega
      rw[ez];unfold cX;rw[take_snoc Qd,foldl_append];rfl
     ·rintro σ H4 ⟨v7,rfl,rfl⟩;rw[take_length];have hIv:=cI (-1) (aI xs) (aI xs) _ Yz;have pO:=fV (-1) (aI xs) (aI xs) W PY;generalize cX (-1) W (aI xs) (aI xs)=W2 at hIv pO ew |-
      have pM:W2.length<=100:=by
       have:=congrArg List.length pO;rw[length_map,length_map] at this;omega
      have k3:∀b o,H b=some o->b≠am->∀o',(upd H3 am o') b=some o:=λb o z nb o'=>by rw[ah nb];exact k2 _ _ z nb
      obtain⟨us,PV,TV⟩:=GY.but tD λb o z nb=>k3 b o z nb (.dK W2);have hpr:=Paired.length TV;have GB:=k3 _ _ ht (bj ht tD 0e7) (.dK W2);have Tg:(upd H3 am (.dK W2)) am=some (.dK W2):=ag;have k4:∀b o,H b=some o->b≠am->(upd H3 am (.dK W2)) b=some o:=λb o z nb=>k3 b o z nb _;generalize upd H3 am (.dK W2)=H5 at PV TV GB Tg k4 |-;refine⟨_,U,t,_,_, .ref r,U,U,gE.of GB,U,r,U,⟨_,bh.of PV⟩,du (K:=K) (a:=r) (xs:=us.map V.ref) (λj σ H6=>∃w6 w7 w8:Option V,σ=[some (.ref am),some (.ref t),some (.int n),some (.int sn),some (.int (0+i)),some (.ref nd),w6,w7,w8]/\H6 am=some (.dK (aV 1 W2 (dQ (ys.take j))))/\∀b o,H5 b=some o->b≠am->H6 b=some o) ⟨_,_,_,U,Tg,λb o z _=>z⟩ (λj σ H6 _ ⟨_,_,_,_,_,z⟩=>bh.of (z _ _ PV (bj PV Tg 0e7))) ?_ ?_⟩
      ·rintro j x σ H6 KN ⟨w6,w7,w8,rfl,h2,e2⟩;rw[getElem?_map] at KN;obtain⟨u,Ki,rfl⟩:=gMp KN;obtain⟨z,hz,d,OH⟩:=bc TV Ki;have Jz:aY (aV 1 W2 (dQ (ys.take j))):=tN 1 _ _ hIv
       have hl3:(aV 1 W2 (dQ (ys.take j))).length<=120:=by
        have h1:=AH 1 (dQ (ys.take j)) W2;have h2:=etx (ys.take j);have h3:(ys.take j).length<=ys.length:=length_take_le' _ _;omega
       refine⟨u,_,U,gE.of (e2 _ _ OH (bj OH Tg 0e7)),U,_,_,U,_,_,U,_,_,U,U,?_⟩;refine⟨_,U,am,U, .inl ⟨_, .inl h2⟩,_,U,_,fQ.k (k:=Sum.inr ⟨(fL z.2).toArray⟩) h2,_,U,_,_,Jz.at _,U,_,U,_,U,am,_,U,iU.k (k:=Sum.inr ⟨(fL z.2).toArray⟩) h2 0e1,?_⟩;refine⟨_,_,_,U,by rw[ag,Ey hz],λb o z' nb=>?_⟩;rw[ah nb];exact e2 _ _ z' nb
      ·rintro σ H6 ⟨w6,w7,w8,rfl,h2,e2⟩;rw[length_map,hpr,take_length] at h2;refine⟨_,_,_,_,_,U,?_,λb o z nb=>e2 _ _ (k4 _ _ z nb) nb,λj hj2=>?_⟩
       ·rw[ew,h2,OE hIv (by rw[pO,Yy];exact G') (by rw[pO,Yy];exact hK.2)]
       ·by_cases c:j<i
        ·exact hj j c
        ·have e:j=i:=by omega
         rw[e,ewl];exact vY
  ·rintro σ H' ⟨v4,v5,v6,v7,v8,rfl,Ti,pQ,hj⟩;exact qN hj H' Ti pQ
def Ez{n n':Int}(h:1<=n)(h':1<=n')(b:n<10^12)(b':n'<10^12)(e:aQ n=aQ n'):n=n':=by
 obtain⟨m,rfl⟩:=eq_ofNat_of_zero_le (show 0<=n by omega);obtain⟨m',rfl⟩:=eq_ofNat_of_zero_le (show 0<=n' by omega);by_cases h1:m=1
 ·subst h1;rw[show aQ ((1 :Nat):Int)=[] from jt] at e;rw[qm m' e.symm]
 ·by_cases h2:m'=1
  ·subst h2;rw[show aQ ((1 :Nat):Int)=[] from jt] at e;exact absurd (qm m e) h1
  ·have e1:(cD (m:Int))=cD (m':Int):=by
    have:(cD (m:Int)).cps=(cD (m':Int)).cps:=Array.toList_inj.mp e;cases hh:cD (m:Int);cases hh':cD (m':Int);rw[hh,hh'] at this;exact congrArg _ this
   have a1:=xC m 0e1 h1;rw[e1,xC m' 0e1 h2] at a1;injection a1 with a1;exact a1.symm
theorem yx{f:Nat->Bool}:∀{a a' r r':IR},a.all f=true->a'.all f=true->Not f r->Not f r'->a++r=a'++r'->a=a'/\r=r'
 | [],[],_,_,_,_,_,_,e=>⟨rfl,e⟩
 | [],c::a',r,r',_,h,hr,_,e=>by
   rw[all_cons,and_eq_true] at h;have e:r=c::(a'++r'):=e;have:=hr c (by rw[e];rfl);rw[h.1] at this;cases this
 |c::a,[],r,r',h,_,_,hr,e=>by
  rw[all_cons,and_eq_true] at h;have e:c::(a++r)=r':=e;have:=hr c (by rw[<-e];rfl);rw[h.1] at this;cases this
 |c::a,c'::a',r,r',h,h',hr,jU,e=>by
  rw[all_cons,and_eq_true] at h h';rw[cons_append,cons_append] at e;injection e with e1 e2;obtain⟨e3,e4⟩:=yx h.2 h'.2 hr jU e2;exact⟨by rw[e1,e3],e4⟩
def nO{n:Int}(h:1<=n):(aQ n).all jX=true:=by
 obtain⟨m,rfl⟩:=eq_ofNat_of_zero_le (show 0<=n by omega);exact m4 m
def AI{f g:Nat->Bool}(hfg:∀c,f c=true->g c=false){a r:IR}(ha:a.all f=true)(hr:Not g r):Not g (a++r):=by
 cases a with
 |nil=>exact hr
 |cons c a=>
  rw[all_cons,and_eq_true] at ha;intro d hd;have:c=d:=by simpa using hd
  rw[<-this];exact hfg c ha.1
def Qr(c:Nat)(h:jX c=true):md c=false:=by
 unfold jX at h;unfold md;simp at h |-;omega
def CO{n n':Int}{r r':IR}(h:1<=n)(h':1<=n')(b:n<10^12)(b':n'<10^12)(hr:Not jX r)(jU:Not jX r')(e:aQ n++r=aQ n'++r'):n=n'/\r=r':=by
 obtain⟨e1,e2⟩:=yx (nO h) (nO h') hr jU e;exact⟨Ez h h' b b' e1,e2⟩
def OI{k k' r r':IR}(h:lF k)(h':lF k')(hr:Not md r)(jU:Not md r')(e:k++r=k'++r'):k=k'/\r=r':=by
 obtain⟨c,s,rfl,_,hs,_⟩:=h;obtain⟨c',s',rfl,_,yI,_⟩:=h';rw[cons_append,cons_append] at e;injection e with e1 e2;obtain⟨e3,e4⟩:=yx hs yI hr jU e2;exact⟨by rw[e1,e3],e4⟩
def OJ(c:Nat):Prop:=zF c=true\/c=40
def YA{c:Nat}(h:OJ c):jX c=false/\md c=false:=by
 rcases h with h|h
 ·unfold zF at h;unfold jX md;simp at h |-;omega
 ·subst h;decide
def lL:∀(d:Nat) (t:Tr),jY d t->∃c l,bY d t=c::l/\OJ c
 |d, .one k n,h=>by
  have h:lF k/\1<=n/\n<=999:=by cases d<;>exact h
  obtain⟨⟨c,s,rfl,hc,_⟩,_⟩:=h;refine⟨c,s++aQ n,?_, .inl hc⟩;cases d<;>rfl
 |0, .gr _ _,h=>h.elim
 |d+1, .gr ts n,_=>⟨40,_,rfl, .inr rfl⟩
def OL(r:IR):Prop:=∀c,r.head? =some c->jX c=false/\md c=false/\¬OJ c
def OL.f{r:IR}(h:OL r):Not jX r:=λc hc=>(h c hc).1
def OL.s{r:IR}(h:OL r):Not md r:=λc hc=>(h c hc).2.1
def nP{d:Nat}{ts:List Tr}(h:∀t∈ts,jY d t){r:IR}(hr:OL r):Not jX (ts.flatMap (bY d)++r)/\Not md (ts.flatMap (bY d)++r):=by
 cases ts with
 |nil=>exact⟨hr.f,hr.s⟩
 |cons t ts=>
  obtain⟨c,l,e,hb⟩:=lL d t (h t 1e0);rw[flatMap_cons,e];have hx:=YA hb;refine⟨λx LB=>?_,λx LB=>?_⟩
  ·have:c=x:=by simpa using LB
   rw[<-this];exact hx.1
  ·have:c=x:=by simpa using LB
   rw[<-this];exact hx.2
def YB(d:Nat):Prop:=∀(t t':Tr) (r r':IR),jY d t->jY d t'->Not jX r->Not md r->Not jX r'->Not md r'->bY d t++r=bY d t'++r'->t=t'/\r=r'
theorem nQ{d:Nat}(ih:YB d):∀(ts CN:List Tr) (r r':IR),(∀t∈ts,jY d t)->(∀t∈CN,jY d t)->OL r->OL r'->ts.flatMap (bY d)++r=CN.flatMap (bY d)++r'->ts=CN/\r=r'
 | [],[],_,_,_,_,_,_,e=>⟨rfl,e⟩
 | [],t::ts,r,r',_,h,hr,_,e=>by
   obtain⟨c,l,e1,hb⟩:=lL d t (h t 1e0);rw[flatMap_cons,e1] at e;exact absurd hb (hr c (by rw[show r=_ from e];rfl)).2.2
 |t::ts,[],r,r',h,_,_,hr,e=>by
  obtain⟨c,l,e1,hb⟩:=lL d t (h t 1e0);rw[flatMap_cons,e1] at e;exact absurd hb (hr c (by rw[show r'=_ from e.symm];rfl)).2.2
 |t::ts,t'::CN,r,r',h,h',hr,jU,e=>by
  rw[flatMap_cons,flatMap_cons,append_assoc,append_assoc] at e;have n1:=nP (λt ht=>h t (mem_cons_of_mem _ ht)) hr;have n2:=nP (λt ht=>h' t (mem_cons_of_mem _ ht)) jU;obtain⟨e1,e2⟩:=ih t t' _ _ (h t 1e0) (h' t' 1e0) n1.1 n1.2 n2.1 n2.2 e;obtain⟨e3,e4⟩:=nQ ih ts CN r r' (λt ht=>h t (mem_cons_of_mem _ ht)) (λt ht=>h' t (mem_cons_of_mem _ ht)) hr jU e2;exact⟨by rw[e1,e3],e4⟩
def tO{c:Nat}(l:IR)(h:jX c=false/\md c=false/\¬OJ c):OL (c::l):=λd hd=>by
 have:c=d:=by simpa using hd
 rw[<-this];exact h
def YC:jX 41=false/\md 41=false/\¬OJ 41:=⟨by decide,by decide,λz=>by rcases z with z|z<;>cases z⟩
def no46:jX 46=false/\md 46=false/\¬OJ 46:=⟨by decide,by decide,λz=>by rcases z with z|z<;>cases z⟩
def no94:jX 94=false/\md 94=false/\¬OJ 94:=⟨by decide,by decide,λz=>by rcases z with z|z<;>cases z⟩
def KP{d:Nat}{k k':IR}{n n':Int}{r r':IR}(h:jY d (.one k n))(h':jY d (.one k' n'))(f:Not jX r)(s:Not md r)(f':Not jX r')(s':Not md r')(e:bY d (.one k n)++r=bY d (.one k' n')++r'):Tr.one k n=Tr.one k' n'/\r=r':=by
 have h:lF k/\1<=n/\n<=999:=by cases d<;>exact h
 have h':lF k'/\1<=n'/\n'<=999:=by cases d<;>exact h'
 have tx:∀(k:IR) (n:Int),bY d (.one k n)=k++aQ n:=λk n=>by cases d<;>rfl
 rw[tx,tx,append_assoc,append_assoc] at e;obtain⟨e1,e2⟩:=OI h.1 h'.1 (AI Qr (nO h.2.1) s) (AI Qr (nO h'.2.1) s') e;obtain⟨e3,e4⟩:=CO h.2.1 h'.2.1 0e1 0e1 f f' e2;exact⟨by rw[e1,e3],e4⟩
def KQ{d:Nat}{k:IR}{n:Int}(h:jY d (.one k n)){l:IR}{r:IR}(e:bY d (.one k n)++r=40::l):False:=by
 have h:lF k/\1<=n/\n<=999:=by cases d<;>exact h
 obtain⟨⟨c,s,rfl,hc,_⟩,_⟩:=h;have tx:bY d (.one (c::s) n)=(c::s)++aQ n:=by cases d<;>rfl
 rw[tx] at e;have e:c::(s++aQ n++r)=40::l:=by simpa using e
 injection e with e1 _;rw[e1] at hc;cases hc
theorem yz:∀d,YB d
 |0=>λt t' r r' h h' f s f' s' e=>by
  match t,t',h,h',e with
  | .one k n, .one k' n',h,h',e=>exact KP h h' f s f' s' e
  | .gr _ _,_,h,_,_=>exact h.elim
  | .one _ _, .gr _ _,_,h',_=>exact h'.elim
 |d+1=>λt t' r r' h h' f s f' s' e=>by
  match t,t',h,h',e with
  | .one k n, .one k' n',h,h',e=>exact KP h h' f s f' s' e
  | .one k n, .gr ts n',h,h',e=>exact(KQ h e).elim
  | .gr ts n, .one k n',h,h',e=>exact(KQ h' e.symm).elim
  | .gr ts n, .gr CN n',h,h',e=>
    obtain⟨_,h1,n1,n2⟩:=h;obtain⟨_,h1',n1',n2'⟩:=h';have e:40::((ts.flatMap (bY d)++41::aQ n)++r)=40::((CN.flatMap (bY d)++41::aQ n')++r'):=e;injection e with _ e;rw[append_assoc,append_assoc] at e;obtain⟨e1,e2⟩:=nQ (yz d) ts CN _ _ h1 h1' (tO _ YC) (tO _ YC) e;have e2:41::(aQ n++r)=41::(aQ n'++r'):=e2;injection e2 with _ e2;obtain⟨e3,e4⟩:=CO n1 n1' 0e1 0e1 f f' e2;exact⟨by rw[e1,e3],e4⟩
def lM(xs:List ir){r:IR}(hr:∀c,r.head? =some c->c=94):OL (b7 2 xs++r):=by
 cases xs with
 |nil=>
  intro c hc;rw[hr c hc];exact no94
 |cons x xs=>exact tO _ no46
theorem EA:∀(xs uz:List ir) (r r':IR),(∀x∈xs,Dq 2 x)->(∀x∈uz,Dq 2 x)->(∀c,r.head? =some c->c=94)->(∀c,r'.head? =some c->c=94)->b7 2 xs++r=b7 2 uz++r'->xs=uz/\r=r'
 | [],[],_,_,_,_,_,_,e=>⟨rfl,e⟩
 | [],x::xs,r,r',_,_,hr,_,e=>by
   have e:r=46::_:=e;have:=hr 46 (by rw[e];rfl);cases this
 |x::xs,[],r,r',_,_,_,hr,e=>by
  have e:46::_=r':=e;have:=hr 46 (by rw[<-e];rfl);cases this
 |x::xs,x'::uz,r,r',h,h',hr,jU,e=>by
  have ex:=h x 1e0;have VL:=h' x' 1e0
  have tx:∀(x:ir) (xs:List ir) (r:IR),b7 2 (x::xs)++r=46::(aQ x.1++(x.2.flatMap (bY 2)++(b7 2 xs++r))):=λx xs r=>by
   unfold b7 lG;rw[flatMap_cons];simp
  rw[tx,tx] at e;injection e with _ e;have s1:=lM xs hr;have s2:=lM uz jU;obtain⟨e1,e2⟩:=CO ex.2.2.1 VL.2.2.1 (by have:=ex.2.2.2;omega) (by have:=VL.2.2.2;omega) (nP ex.2.1 s1).1 (nP VL.2.1 s2).1 e;obtain⟨e3,e4⟩:=nQ (yz 2) _ _ _ _ ex.2.1 VL.2.1 s1 s2 e2;obtain⟨e5,e6⟩:=EA xs uz r r' (λx hx=>h x (mem_cons_of_mem _ hx)) (λx hx=>h' x (mem_cons_of_mem _ hx)) hr jU e4;exact⟨by rw[e5,show x=x' from Prod.ext e1 e3],e6⟩
def yA(n:Int):∀c,(eh n).head? =some c->c=94:=λc hc=>by
 unfold eh at hc;split at hc
 ·cases hc
 ·exact(Option.some.inj hc).symm
def T3{n n':Int}(a: -999<=n)(b:n<=999)(a': -999<=n')(b':n'<=999)(e:eh n=eh n'):n=n':=by
 unfold eh at e;by_cases h:n=0
 ·by_cases h':n'=0
  ·omega
  ·rw[if_pos h,if_neg h'] at e;cases e
 ·by_cases h':n'=0
  ·rw[if_neg h,if_pos h'] at e;cases e
  ·rw[if_neg h,if_neg h'] at e;injection e with _ e;obtain⟨e1,e2⟩:=List.append_inj' e rfl;have e3:=Ez (by split<;>omega) (by split<;>omega) (by split<;>omega) (by split<;>omega) e1;injection e2 with e2 _;split at e2<;>split at e2<;>split at e3<;>split at e3<;>omega
def KR{x y:Fm}(h:cz x)(h':cz y)(e:fL x=fL y):x=y:=by
 obtain⟨h,_,_⟩:=h;obtain⟨h',_,_⟩:=h';obtain⟨xs,n⟩:=x;obtain⟨ys,n'⟩:=y
 have hd:∀(x:ir) (xs:List ir) (n:Int),Dq 2 x->∃c l,wL 2 (x::xs) n=c::l/\OJ c:=λx xs n ok=>by
  obtain⟨m5,ht,_⟩:=ok
  match hx:x.2,m5 with
  |t::ts,_=>
   obtain⟨c,l,e1,hb⟩:=lL 2 t (ht t (by rw[hx];exact mem_cons_self ..));refine⟨c,l++(ts.flatMap (bY 2)++(b7 2 xs++eh n)),?_,hb⟩;show x.2.flatMap (bY 2)++(b7 2 xs++eh n)=_;rw[hx,flatMap_cons,e1];simp
 have Qs:∀{c:Nat},OJ c->c≠101:=fun {c} hb z=>by
  rw[z] at hb;rcases hb with hb|hb<;>cases hb
 cases xs with
 |nil=>
  cases ys with
  |nil=>
   have h:n= -1:=h;have h':n'= -1:=h';rw[h,h']
  |cons y ys=>
   obtain⟨_,uo,_⟩:=h';obtain⟨c,l,e1,hb⟩:=hd y ys n' (uo y 1e0);have e:[101,94,45]=wL 2 (y::ys) n':=e;rw[e1] at e;injection e with e _;exact absurd e.symm (Qs hb)
 |cons x xs=>
  obtain⟨x1,pE,a,b⟩:=h
  cases ys with
  |nil=>
   obtain⟨c,l,e1,hb⟩:=hd x xs n (pE x 1e0);have e:wL 2 (x::xs) n=[101,94,45]:=e;rw[e1] at e;injection e with e _;exact absurd e (Qs hb)
  |cons y ys=>
   obtain⟨y1,uo,a',b'⟩:=h';have e:x.2.flatMap (bY 2)++(b7 2 xs++eh n)=y.2.flatMap (bY 2)++(b7 2 ys++eh n'):=e;obtain⟨e1,e2⟩:=nQ (yz 2) _ _ _ _ (pE x 1e0).2.1 (uo y 1e0).2.1 (lM xs (yA n)) (lM ys (yA n')) e;obtain⟨e3,e4⟩:=EA xs ys _ _ (λz hz=>pE z (mem_cons_of_mem _ hz)) (λz hz=>uo z (mem_cons_of_mem _ hz)) (yA n) (yA n') e2;have e5:n=n':=T3 a b a' b' e4;rw[e3,e5,show x=y from Prod.ext (by rw[x1,y1]) e1]
open Classical in
noncomputable def cT (k:Key) (j:Key):Int:=if h:∃x,cz x/\j=(Sum.inr (⟨(fL x).toArray⟩:Str):Key) then aG (kD h.choose) k else 0
def KS{x:Fm}(h:cz x)(k:Key):cT k (Sum.inr (⟨(fL x).toArray⟩:Str))=aG (kD x) k:=by
 have hex:∃y,cz y/\(Sum.inr (⟨(fL x).toArray⟩:Str):Key)=Sum.inr (⟨(fL y).toArray⟩:Str):=⟨x,h,rfl⟩;unfold cT;rw[dif_pos hex];have hs:=hex.choose_spec
 have e:fL x=fL hex.choose:=by
  have h2:=hs.2;injection h2 with h2;injection h2 with h2;have:=congrArg Array.toList h2;simpa using this
 rw[<-KR h hs.1 e]
noncomputable def i4 (am:PP) (k:Key):Int:=(am.map λq=>zv q.2*cT k q.1).sum
def ij(q:Key×V)(am:PP)(k:Key):i4 (q::am) k=zv q.2*cT k q.1+i4 am k:=by
 unfold i4;rw[map_cons,sum_cons]
def OM{p:Key×V}{r:PP}{j:Key}{v:V}(h:¬p.1=j):putK (p::r) j v=p::putK r j v:=by
 unfold putK;rw[any_cons,decide_eq_false h,Bool.false_or];split
 ·rw[map_cons,if_neg h]
 ·rfl
def ON{p:Key×V}{r:PP}{j:Key}{v:V}(h:p.1=j)(hn:¬j∈r.map 1e4):putK (p::r) j v=(p.1,v)::r:=by
 unfold putK;rw[any_cons,decide_eq_true h,Bool.true_or,if_pos rfl,map_cons,if_pos h];congr 1
 have:∀q∈r,(if q.1=j then (q.1,v) else q)=q:=λq hq=>by
  rw[if_neg λe=>hn (by rw[<-e];exact mem_map_of_mem hq)]
 rw[map_congr_left this];simp
def KU{p:Key×V}{r:PP}{z:Int}(hz:p.2= .int z)(j:Key):aG (p::r) j=if p.1=j then z else aG r j:=by
 by_cases h:p.1=j
 ·rw[if_pos h];exact fk (by rw[de h,hz])
 ·rw[if_neg h];unfold aG;rw[dh h]
theorem EB{z:Int}(k j:Key):∀{am:PP},aY am->(am.map 1e4).Nodup->i4 (putK am j (.int z)) k=i4 am k+(z - aG am j)*cT k j
 | [],_,_=>by
   show i4 [(j, .int z)] k=i4 [] k+(z - aG [] j)*cT k j;rw[ij,show aG ([]:PP) j=0 from rfl,Int.sub_zero];show z*cT k j+i4 [] k=_;omega
 |p::r,hI,hn=>by
  rw[map_cons,nodup_cons] at hn;obtain⟨i,hi⟩:=hI p 1e0;by_cases h:p.1=j
  ·rw[ON h (by rw[<-h];exact hn.1),ij,ij,KU hi,if_pos h,hi,Int.sub_mul];show z*cT k p.1+i4 r k=i*cT k p.1+i4 r k+_;rw[h];omega
  ·rw[OM h,ij,ij,EB k j (λq hq=>hI q (mem_cons_of_mem _ hq)) hn.2,KU hi,if_neg h];omega
def EC(k j:Key)(v:Int){am:PP}(hI:aY am)(hn:(am.map 1e4).Nodup):i4 (bZ am j v) k=i4 am k+v*cT k j:=by
 unfold bZ;rw[EB k j hI hn];congr 2;omega
theorem AJ(c:Int)(all:PP)(k:Key):∀(l am:PP),aY am->(am.map 1e4).Nodup->i4 (cX c am l all) k=i4 am k+c*(l.map λq=>aG all q.1*cT k q.1).sum
 | [],am,_,_=>by
   show i4 am k=_;simp
 |q::r,am,hI,hn=>by
  show i4 (cX c (bZ am q.1 (c*aG all q.1)) r all) k=_;rw[AJ c all k r _ (hI.add _ _) (ma hn),EC k _ _ hI hn,map_cons,sum_cons,mul_add,mul_assoc];omega
def AK{am:PP}(hI:aY am)(hn:(am.map 1e4).Nodup)(k:Key):(am.map λq=>aG am q.1*cT k q.1).sum=i4 am k:=by
 unfold i4;congr 1;refine map_congr_left λq hq=>?_;obtain⟨i,hi⟩:=hI q hq;have h1:ck am q.1=some q.2:=gj hn hq;rw[hi] at h1;rw[fk h1,hi];rfl
theorem yB(t:Int)(k:Key):∀(as:Uf) (acc:PP),aY acc->(acc.map 1e4).Nodup->i4 (aV t acc as) k=i4 acc k+t*(as.map λp=>p.2*cT k (Sum.inr p.1)).sum
 | [],acc,_,_=>by
   show i4 acc k=_;simp
 |p::r,acc,hI,hn=>by
  show i4 (aV t (bZ acc (Sum.inr p.1) (p.2*t)) r) k=_;rw[yB t k r _ (hI.add _ _) (ma hn),EC k _ _ hI hn,map_cons,sum_cons,mul_add,Int.mul_comm p.2 t,mul_assoc];omega
theorem CP(k:Key):∀{zs:NE},(∀z∈zs,cz z.2)->((dQ zs).map λp=>p.2*cT k (Sum.inr p.1)).sum=sumZ zs k
 | [],_=>by rw[kS];rfl
 |z::r,h=>by
  have ih:=CP k (zs:=r) λz hz=>h z (mem_cons_of_mem _ hz);rw[iZ,<-ih];show (((⟨(fL z.2).toArray⟩:Str),z.1)::dQ r |>.map λp=>p.2*cT k (Sum.inr p.1)).sum=_;rw[map_cons,sum_cons,KS (h z 1e0)];rfl
def OO{KV:PP}(hI:aY KV)(hn:(KV.map 1e4).Nodup)(k:Key):i4 (pF KV KV) k=i4 KV k:=by
 rw[<-AK hI hn]
 have key:∀L:List (Key×V),i4 (pF KV L) k=(L.map λq=>aG KV q.1*cT k q.1).sum:=λL=>by
  induction L with
  |nil=>rfl
  |cons q r ih=>
   unfold pF at ih |-;by_cases h:aG KV q.1=0
   ·rw[List.filter_cons_of_neg (by simpa using h),ih,map_cons,sum_cons,h];omega
   ·rw[List.filter_cons_of_pos (by simpa using h),map_cons,ij,ih,map_cons,sum_cons];rfl
 exact key KV
def T4{xs ys:NE}(hx:∀z∈xs,cz z.2)(hy:∀z∈ys,cz z.2)(k:Key):i4 (gO xs ys) k=sumZ ys k - sumZ xs k:=by
 unfold gO;rw[OO (ya xs ys) (Cv xs ys)];show i4 (aV (-1) (aV 1 [] (dQ ys)) (dQ xs)) k=_;rw[yB (-1) k (dQ xs) (aV 1 [] (dQ ys)) (cx _) (iE _),yB 1 k (dQ ys) [] (λp hp=>by cases hp) nodup_nil,CP k hx,CP k hy];show 0+1*sumZ ys k+ -1*sumZ xs k=_;omega
def KW{am:PP}(hI:aY am)(hn:(am.map 1e4).Nodup){xs ys:NE}(hx:∀z∈xs,cz z.2)(hy:∀z∈ys,cz z.2)(he:∀k,sumZ xs k=sumZ ys k)(m:Int)(k:Key):i4 (cM am xs ys m) k=i4 am k:=by
 unfold cM;rw[AJ m _ k _ am hI hn,AK (show aY (gO xs ys) from λq hq=>by obtain⟨p,_,rfl⟩:=mem_map.mp hq;exact⟨_,rfl⟩) (Qj xs ys),T4 hx hy,he k];omega
theorem AL(k:Str):∀{kvs:PP} {fs:List Fm},Paired Eb kvs fs->(uv kvs fs k).sum=i4 kvs (Sum.inr k)
 |_,_, .nil=>rfl
 |_,_, .cons (a:=q) (b:=x) h t=>by
  have ih:=AL k t;unfold uv at ih |-;rw[List.zipWith_cons_cons,sum_cons,ih,ij,h.1,KS h.2.1,J6 h.2.1]
def gG(rs:List cJ):PyData:= .list (rs.map λr=> .tuple [.str r.x, .int r.m])
theorem nR{H:Hp}:∀{ts:Ix} {rs:List cJ},Paired (cj H) ts rs->Bu K H (ts.map V.ref) (rs.map λr=>PyData.tuple [.str r.x, .int r.m])
 |_,_, .nil=> .nil
 |_,_, .cons h t=> .cons (.tup (gE.of h) (.cons (.str _) (.cons (.int _) .nil))) (nR t)
def nS{xs:NE}(h:∀x∈xs,gm 100000000000 x)(h8:xs.length<=8)(k:Key):0<=aG (aI xs) k/\aG (aI xs) k<=800000000000:=by
 have hP:Pos (aI xs):=El _ _ (λq hq=>by cases hq) λp hp=>by
  obtain⟨z,hz,rfl⟩:=mem_map.mp hp;exact(h z hz).1
 refine⟨hP.nonneg k,?_⟩
 have a1:=qB 1 100000000000 k 0e2 (dQ xs) [] 0 (λp hp=>by
  obtain⟨z,hz,rfl⟩:=mem_map.mp hp;have b1:=(h z hz).1;have b2:=(h z hz).2.1;show -100000000000<=z.1*1/\z.1*1<=100000000000
  omega) (Int.le_refl _) (Int.le_refl _)
 have e:(dQ xs).length=xs.length:=by unfold dQ;rw[length_map]
 rw[e] at a1;show aG (aV 1 [] (dQ xs)) k<=_;omega
def Lo(l:IR):Prop:=∀c∈l,c<128
def Lo.app{a b:IR}(ha:Lo a)(hb:Lo b):Lo (a++b):=λc hc=>by
 rcases mem_append.mp hc with z|z
 ·exact ha c z
 ·exact hb c z
def Lo.cons{a:Nat}{b:IR}(ha:a<128)(hb:Lo b):Lo (a::b):=λc hc=>by
 rcases mem_cons.mp hc with z|z
 ·rw[z];exact ha
 ·exact hb c z
def Lo.nil:Lo []:=λc hc=>by cases hc
def Lo.flat{α:Type}{f:α->List Nat}{l:List α}(h:∀x∈l,Lo (f x)):Lo (l.flatMap f):=λc hc=>by
 obtain⟨x,hx,hc⟩:=mem_flatMap.mp hc;exact h x hx c hc
def tP{n:Int}(h:0<=n):Lo (aQ n):=λc hc=>by
 obtain⟨m,rfl⟩:=eq_ofNat_of_zero_le h;have:=all_eq_true.mp (m4 m) c hc;unfold jX at this;simp at this;omega
def OP{k:IR}(h:lF k):Lo k:=by
 obtain⟨c,r,rfl,hc,hr,_⟩:=h;refine Lo.cons (by unfold zF at hc;simp at hc;omega) λx hx=>?_;have:=all_eq_true.mp hr x hx;unfold md at this;simp at this;omega
theorem yC:∀(d:Nat) (t:Tr),jY d t->Lo (bY d t)
 |d, .one k n,h=>by
  have h:lF k/\1<=n/\n<=999:=by cases d<;>exact h
  have e:bY d (.one k n)=k++aQ n:=by cases d<;>rfl
  rw[e];exact(OP h.1).app (tP 0e1)
 |0, .gr _ _,h=>h.elim
 |d+1, .gr ts n,h=>by
  obtain⟨_,h1,n1,_⟩:=h;show Lo (40::(ts.flatMap (bY d)++41::aQ n));exact Lo.cons 0e2 ((Lo.flat λt ht=>yC d t (h1 t ht)).app (Lo.cons 0e2 (tP 0e1)))
def Qt{x:Fm}(h:cz x):Lo (fL x):=by
 obtain⟨h,_,_⟩:=h;obtain⟨xs,n⟩:=x
 cases xs with
 |nil=>exact Lo.cons 0e2 (Lo.cons 0e2 (Lo.cons 0e2 Lo.nil))
 |cons y r=>
  obtain⟨_,h2,n1,n2⟩:=h;have h2:∀z∈y::r,Dq 2 z:=h2;show Lo (y.2.flatMap (bY 2)++(b7 2 r++eh n));refine(Lo.flat λt ht=>yC 2 t ((h2 y 1e0).2.1 t ht)).app ((Lo.flat λz hz=>?_).app ?_)
  ·have oz:=h2 z (mem_cons_of_mem _ hz);exact Lo.cons 0e2 ((tP (by have:=oz.2.2.1;omega)).app (Lo.flat λt ht=>yC 2 t (oz.2.1 t ht)))
  ·unfold eh;split
   ·exact Lo.nil
   ·refine Lo.cons 0e2 ((tP (by split<;>omega)).app (Lo.cons (by split<;>decide) Lo.nil))
def Qu{B:Int}{x:Tm}(h:gm B x):Lo (gM x):=by
 unfold gM;refine(tP (by have:=h.1;omega)).app (Lo.app ?_ (Qt h.2.2));unfold zh;split
 ·exact Lo.nil
 ·exact Lo.cons 0e2 Lo.nil
def Qv{B:Int}:∀{xs:NE},(∀x∈xs,gm B x)->Lo (tY xs)
 | [],_=>Lo.nil
 |x::r,h=>(Qu (h x 1e0)).app (Lo.flat λy hy=>(Lo.cons 0e2 (Lo.cons 0e2 (Lo.cons 0e2 Lo.nil))).app (Qu (h y (mem_cons_of_mem _ hy))))
def AM{x:Str}(h:Lo x.cps.toList):PyData.strOk x=true:=by
 show x.cps.all (· <0x110000)=true;rw[<-Array.all_toList,all_eq_true];intro c hc;have:=h c hc;exact decide_eq_true 0e1
def T5{x:Str}{xs ys:NE}(h:Gi x xs ys):PyData.strOk x=true:=by
 obtain⟨h1,_,_,h2,h3,_⟩:=h;refine AM ?_;rw[h1];exact((Qv h2).app (Lo.cons 0e2 (Lo.cons 0e2 (Lo.cons 0e2 (Lo.cons 0e2 Lo.nil))))).app (Qv h3)
def ED{rs:List cJ}(h:∀r∈rs,PyData.strOk r.x=true):SeqAt.shaped (gG rs)=true/\PyData.eqv (gG rs) (gG rs)=true:=by
 have hc:(gG rs).canLay0=true:=by
  unfold gG;rw[PyData.canLay0];exact rB _ rs λr hr=>by simp [PyData.canLay0,PyData.canLayAll0,h r hr]
 refine⟨vh hc ?_,rA _ hc⟩
 have:∀l:List cJ,PyData.depthAll (l.map λr=>PyData.tuple [.str r.x, .int r.m])<=5:=λl=>by
  induction l with
  |nil=>simp [PyData.depthAll]
  |cons r l ih=>simp [PyData.depthAll,PyData.depth];omega
 have:=this rs;simp only [gG,PyData.depth];omega
structure Qw(kvs:List (Key×V)):Prop where
 int:aY kvs
 nd:(kvs.map 1e4).Nodup
 told:∀q∈kvs,∃x,cz x/\q.1=Sum.inr (⟨(fL x).toArray⟩:Str)
 nn:∀k,0<=aG kvs k
 len:kvs.length<=40
structure t4(ks:List Key)(r:cJ):Prop where
 g:Of 8 r.xs r.ys
 x:r.x=Txt.join " -> " [tX r.xs,tX r.ys]
 kx:∀q∈aI r.xs,q.1∈ks
 ky:∀q∈aI r.ys,q.1∈ks
 m0:0<=r.m
 m1:r.m<=3
theorem t4.ev{ks:No}{r:cJ}(h:t4 ks r):Gi r.x r.xs r.ys:=by rw[h.x];exact h.g.ev
def t4.T6{ks:No}{r:cJ}(h:t4 ks r){am:PP}(e:am.map 1e4=ks):InK am r.xs r.ys:=⟨by rw[e];exact h.kx,by rw[e];exact h.ky⟩
theorem fE{ks:No}:∀{rs:List cJ} {am:PP},am.map 1e4=ks->(∀r∈rs,t4 ks r)->(cK am rs).map 1e4=ks
 | [],_,h,_=>h
 |r::l,am,h,ok=>by
  have k1:(cM am r.xs r.ys r.m).map 1e4=am.map 1e4:=fV _ _ _ _ (Qi ((ok r 1e0).T6 h));exact fE (rs:=l) (am:=cM am r.xs r.ys r.m) (by rw[k1];exact h) λr' jU=>ok r' (mem_cons_of_mem _ jU)
def mr(rs:List cJ)(k:Key):Int:=(rs.map λr=>r.m*aG (gO r.xs r.ys) k).sum
def AN(r:cJ)(rs:List cJ)(k:Key):mr (r::rs) k=r.m*aG (gO r.xs r.ys) k+mr rs k:=by
 unfold mr;rw[map_cons,sum_cons]
def EE(as bs:List cJ)(k:Key):mr (as++bs) k=mr as k+mr bs k:=by
 unfold mr;rw[map_append,sum_append]
theorem OQ(k:Key):∀(rs:List cJ) (am:PP),aG (cK am rs) k=aG am k+mr rs k
 | [],am=>(add_zero _).symm
 |r::l,am=>by
  show aG (cK (cM am r.xs r.ys r.m) l) k=_;rw[OQ k l,yn,AN];omega
def qF{kvs:PP}(rs:List cJ)(h:aY kvs):aY (cK kvs rs):=by
 have:=tE rs rs.length h
 rwa [take_length] at this
theorem KY{ks:No}(k:Key):∀{rs:List cJ},(∀r∈rs,t4 ks r)-> -((rs.length:Int)*16000000000000)<=mr rs k
 | [],_=>by show -(0*_)<=(0 :Int);decide
 |r::l,h=>by
  have ih:=KY k (rs:=l) λr' jU=>h r' (mem_cons_of_mem _ jU);have hr:=h r 1e0;obtain⟨_,_,h3,h4,h5,_⟩:=hr.g;have b1:=nS h3 0e1 k;have b2:=nS h4 0e1 k;have m1:r.m*aG (aI r.xs) k<=3*800000000000:=mul_le_mul hr.m1 b1.2 b1.1 0e2;have m2:0<=r.m*aG (aI r.ys) k:=mul_nonneg hr.m0 b2.1;rw[AN,Ay,Int.mul_sub,length_cons];push_cast;rw[add_mul];omega
def T7{kvs:PP}{rs:List cJ}(hA:Qw kvs)(hR:∀r∈rs,t4 (kvs.map 1e4) r)(hl:rs.length<=12){i:Nat}{r:cJ}{t:Int}{k:Key}{l:Int}(hi:rs[i]? =some r)(hs:cg (cK kvs (rs.take i)) r.xs r.ys r.m=some (t,k,l)):0<=t+1/\t+1<10^60/\0<=l/\l<10^60:=by
 have VA:∀r∈rs.take i,t4 (kvs.map 1e4) r:=λr hr=>hR r (mem_of_mem_take hr);have hk:=fE rfl VA;have hr:=hR r (mem_of_getElem? hi);have hI:=tE rs i hA.int;have hn:((cK kvs (rs.take i)).map 1e4).Nodup:=by rw[hk];exact hA.nd
 have lo: -(10^40)<=aG (cK kvs (rs.take i)) k:=by
  have h1:=KY k VA;have h2:=hA.nn k;have h3:(rs.take i).length<=12:=by rw[length_take];omega
  rw[OQ];omega
 have hkI:=hr.T6 hk;generalize cK kvs (rs.take i)=am at*;obtain⟨n,en⟩:=eq_ofNat_of_zero_le hr.m0;have m1:=hr.m1;rw[en] at hs m1;obtain⟨h1,h2,h3,h4,h5,h6⟩:=hr.g;obtain⟨t',rfl,ht,_,hl⟩:=jO hI hn hkI hs;obtain⟨q,hq,e1,e2,e3⟩:=oZ hl;have b1:=nS h3 0e1 k;have b2:=nS h4 0e1 k;rw[walk_z,Int.mul_sub] at e2;have m1:(0 :Int)<=t'*aG (aI r.ys) k:=mul_nonneg (Int.natCast_nonneg _) b2.1;have m2:(t':Int)*aG (aI r.xs) k<=3*800000000000:=mul_le_mul 0e1 b1.2 b1.1 0e2;refine⟨by omega,by omega,by omega,?_⟩;omega
def OR{am:PP}{xs ys:NE}{m:Int}(h0:∀k,0<=aG am k)(hy:∀k,0<=aG (aI ys) k)(m0:0<=m)(hs:cg am xs ys m=none)(k:Key):0<=aG (cM am xs ys m) k:=by
 obtain⟨n,rfl⟩:=eq_ofNat_of_zero_le m0;rw[yn,Ay];have h0k:=h0 k;have hyk:=hy k
 cases n with
 |zero=>simpa using h0k
 |succ n=>
  by_cases hk:k∈(aI xs).map 1e4
  ·obtain⟨q,hq,rfl⟩:=mem_map.mp hk;have:=oX (tK hs n (Nat.lt_succ_self n)) q hq;rw[walk_z] at this;push_cast;rw[add_mul];omega
  ·rw[fX hk,Int.sub_zero];have:=mul_nonneg (Int.natCast_nonneg (n+1)) hyk;omega
theorem Qx{ks:No}:∀(rs:List cJ) (am:PP),(∀k,0<=aG am k)->(∀r∈rs,t4 ks r)->(∀i r,rs[i]? =some r->cg (cK am (rs.take i)) r.xs r.ys r.m=none)->∀k,0<=aG (cK am rs) k
 | [],_,h,_,_=>h
 |r::l,am,h,ok,hs=>by
  have hr:=ok r 1e0;obtain⟨_,_,_,h4,h5,_⟩:=hr.g;refine Qx l (cM am r.xs r.ys r.m) (OR h (λk=>(nS h4 0e1 k).1) hr.m0 (hs 0 r rfl)) (λr' jU=>ok r' (mem_cons_of_mem _ jU)) λi r' hi=>?_;exact hs (i+1) r' hi
def KZ(kvs:PP){rs:List cJ}{i:Nat}{r:cJ}(hi:rs[i]? =some r):cK kvs (rs.take (i+1))=cM (cK kvs (rs.take i)) r.xs r.ys r.m:=by
 rw[take_snoc hi];unfold cK;rw[foldl_append];rfl
def OS{kvs:PP}(hA:Qw kvs){rs mv:List cJ}(hR:∀r∈rs,t4 (kvs.map 1e4) r)(eL:∀r∈mv,t4 (kvs.map 1e4) r)(hz:∀k,mr rs k=mr mv k):cK kvs rs=cK kvs mv:=
 nh (qF rs hA.int) (qF mv hA.int) (by rw[fE rfl hR];exact hA.nd) (by rw[fE rfl hR,fE rfl eL]) λk=>by rw[OQ,OQ,hz]
theorem K0{ks:No}(k:Key):∀(rs:List cJ) {am:PP},aY am->(am.map 1e4).Nodup->(∀r∈rs,t4 ks r)->i4 (cK am rs) k=i4 am k
 | [],_,_,_,_=>rfl
 |r::l,am,hI,hn,ok=>by
  have hr:=ok r 1e0;show i4 (cK (cM am r.xs r.ys r.m) l) k=_;rw[K0 k l (am:=cM am r.xs r.ys r.m) (cI _ _ _ _ hI) (yt _ _ _ _ hn) λr' jU=>ok r' (mem_cons_of_mem _ jU)];obtain⟨_,_,h3,h4,_,h6⟩:=hr.g;exact KW hI hn (λz hz=>(h3 z hz).2.2) (λz hz=>(h4 z hz).2.2) h6 r.m k
def GD{am:PP}{xs ys:NE}{a b:Nat}{p q:Key×Int}(ha:∀j,j<a->dj (dP am xs ys j) (aI xs) (aI xs)=none)(hb:∀j,j<b->dj (dP am xs ys j) (aI xs) (aI xs)=none)(pa:dj (dP am xs ys a) (aI xs) (aI xs)=some p)(pb:dj (dP am xs ys b) (aI xs) (aI xs)=some q):a=b/\p=q:=by
 have e:a=b:=by
  rcases Nat.lt_trichotomy a b with h|h|h
  ·rw[hb a h] at pa;cases pa
  ·exact h
  ·rw[ha b h] at pb;cases pb
 subst e;rw[pa] at pb;exact⟨U,Option.some.inj pb⟩
variable {uC uP uI uD uL uT fG fH fI uG uS:Tok}{Ch HE Sh St:Py}
inductive EF(H:Hp)(t:Addr)(c:List Tm×List Tm):Prop
 |mk (l r:_) (bM:H t=some (.tup [.ref l, .ref r])) (bV:fN H l c.1) (b8:fN H r c.2)
theorem EF.same{H H':Hp}{t:Py}{c:List Tm×List Tm}(e:au H H')(h:EF H t c):EF H' t c:=by
 obtain⟨l,r,h1,h2,h3⟩:=h;exact⟨l,r,e _ _ h1,h2.same e,h3.same e⟩
inductive OT(cs:List (List Tm×List Tm))(H:Hp)(t:Addr)(r:cJ):Prop
 |mk (k:Nat) (bM:H t=some (.tup [.int k, .int r.m])) (bV:cs[k]? =some (r.xs,r.ys))
def OT.same{cs:List (List Tm×List Tm)}{H H':Hp}{t:Py}{r:cJ}(e:au H H')(h:OT cs H t r):OT cs H' t r:=by
 obtain⟨k,h1,h2⟩:=h;exact⟨k,e _ _ h1,h2⟩
def o6(kvs:PP)(rs:List cJ):Option (Nat×Int×Key×Int)->Prop
 |none=>∀i r,rs[i]? =some r->cg (cK kvs (rs.take i)) r.xs r.ys r.m=none
 |some (i,t,k,l)=>∃r,rs[i]? =some r/\(∀j r,j<i->rs[j]? =some r->cg (cK kvs (rs.take j)) r.xs r.ys r.m=none)/\cg (cK kvs (rs.take i)) r.xs r.ys r.m=some (t,k,l)
theorem kX{α β:Type}{p:α->β->Prop}:∀{as:List α} {bs:List β},Paired p as bs->∀{i:Nat} {b:β},bs[i]? =some b->∃a,as[i]? =some a/\p a b
 |_,_, .cons h _,0,_,e=>⟨_,rfl,by cases e;exact h⟩
 |_,_, .cons _ t,_+1,_,e=>kX t e
def K1{ts:Ix}{i:Nat}{u:Py}(h:ts[i]? =some u):y8 (ts.map V.ref) (0+(i:Int))=some (.ref u):=by
 rw[zero_add];exact qa (by rw[getElem?_map,h];rfl)
def EG{ts:Ix}{i:Nat}{u:Py}(h:ts[i]? =some u):y8 (ts.map V.ref) (i:Int)=some (.ref u):=by
 have:=K1 h
 rwa [zero_add] at this
inductive K2(vs:List V)(H:Hp)(Q:VK)(E:XK):Prop
 |mk (am ch rl:Addr) (kvs:List (Key×V)) (cl ts:List Addr) (cs:List (List Tm×List Tm)) (rs:List cJ) (bM:vs=[.ref am, .ref ch, .ref rl]) (bV:H am=some (.dK kvs)) (b8:Qw kvs) (cS:H ch=some (.lst (cl.map V.ref))) (eK:Paired (EF H) cl cs) (gS:H rl=some (.lst (ts.map V.ref))) (lR:Paired (OT cs H) ts rs) (rV:(∀r∈rs,t4 (kvs.map 1e4) r)) (yJ:rs.length<=12) (LF:(∀i t k l tt tu a H',o6 kvs rs (some (i,t,k,l))->H' tt=some (.tup [.ref tu, .ref a])->H' tu=some (.tup [.int (i:Nat), .int (t+1),kV k, .int l])->H a=none->H' a=some 2e2->au H H'->Q (.ref tt) H')) (CB:(o6 kvs rs none->∀tt a H',H' tt=some (.tup [.cF, .ref a])->H a=none->H' a=some (.dK (cK kvs rs))->au H H'->Q (.ref tt) H'))
def EH:Sp:=K2
def lN:ay ["_law_amounts","_law_changes","_law_row","_law_stocks","_law_step_here","_law_k","_law_times","_law_short"] ["_law_amounts","_law_changes","_law_row"] (ao BW):=dE
def K3(D:Def K mg "_law_plain" "_law_plain" BW ["_law_amounts","_law_changes","_law_row"])(T:sX K mg C R G Pc Fo St uK uN uB uE uM uC uP uI uD uL uT)(c1:bp P w K mg base 1 "_law_step" ["_law_stocks","_law_sides","_law_times","_law_step_here"] KL):bp P w K mg base 2 "_law_plain" ["_law_amounts","_law_changes","_law_row"] EH:=by
 obtain⟨_,_,K4⟩:=c1;refine D.dk lN 0e6 0e0
 ·obtain⟨am,ch,rl,kvs,cl,ts,cs,rs,rfl,_⟩:=h;rfl
 ·obtain⟨am,ch,rl,kvs,cl,ts,cs,rs,rfl,tD,hA,lP,hC,Au,hP,hR,OU,qS,qN⟩:=h;have hu:=di hr;have big:=bgL;have fP:=Paired.length hP
  refine⟨_,(ai (aA (i:=3) lN.nd rfl 0e3 (bx gU rfl T.kJ jf (aa 1e6 aj))) (ai (bF PassesOwn.never rfl (gQ rfl T.lz (aa (bG cp rfl T.iD fe (aa (pv 2) aj)) aj)) (aF (i:=4) lN.nd rfl 0e3) (ai (wC (bq a8 (pv 2) (pv 4) 1e3) (eX rfl (aP (aF (i:=5) lN.nd rfl 0e3) (aP (aF (i:=6) lN.nd rfl 0e3) cL)))) (ai (aA (i:=7) lN.nd rfl 0e3 (dR K4 hr (aa (pv 3) (aa (bq a8 (pv 1) (pv 5) 1e3) (aa (pv 6) (aa (pv 4) aj)))))) (ak (bR (qL (wA (pv 7))) (ak (aH (bW (aa (pv 7) (aa (bx gU rfl T.kJ jf (aa 1e6 aj)) aj)))))
        aS))))) (ak (aH (bW (aa qK (aa (pv 3) aj))))))),?_⟩
  refine⟨_,U,am,_,U, .inl tD,λsd T1=>?_⟩;have s1:=au.new (o:= .dK kvs) T1;have hs1:(upd H sd 2e2) sd=some 2e2:=ag;generalize upd H sd 2e2=H1 at s1 hs1 |-;dsimp only [bL];refine⟨_,U,rl,ts.map V.ref,U, .inl (bh.of (s1 _ _ Au)),_,U,by rw[length_map];omega,by rw[length_map];omega,gR (λi σ H'=>∃v4 v5 v6 v7:Option V,σ=[some (.ref am),some (.ref ch),some (.ref rl),some (.ref sd),v4,v5,v6,v7]/\H' sd=some (.dK (cK kvs (rs.take i)))/\(∀j r,j<i->rs[j]? =some r->cg (cK kvs (rs.take j)) r.xs r.ys r.m=none)/\au H H') ⟨none,none,none,none,U,hs1,(λj r hj=>absurd hj (Nat.not_lt_zero _)),s1⟩ ?_ ?_⟩
  ·rintro i σ H' hi ⟨v4,v5,v6,v7,rfl,yI,Kf,e⟩
   have hi:i<ts.length:=by
    have h:i< (((ts.map V.ref).length:Nat):Int).toNat:=hi;rw[length_map] at h;exact h
   obtain⟨u,hui⟩:∃u,ts[i]? =some u:=⟨_,getElem?_eq_getElem hi⟩;obtain⟨r,A6,k,hut,YD⟩:=bc hP hui;have AF:=hR r (mem_of_getElem? A6);obtain⟨m,em⟩:=eq_ofNat_of_zero_le AF.m0;have VA:∀r∈rs.take i,t4 (kvs.map 1e4) r:=λr hr=>hR r (mem_of_mem_take hr);have jg:=fE rfl VA;have hI:=tE rs i hA.int;have G':((cK kvs (rs.take i)).map 1e4).Nodup:=by rw[jg];exact hA.nd
   have hlen:(cK kvs (rs.take i)).length<=100:=by
    have:=congrArg List.length jg;have h2:=hA.len;rw[length_map,length_map] at this;omega
   obtain⟨ct,G9,lt,rt,T8,lT,yL⟩:=kX hC YD;obtain⟨_,_,_,_,h8,_⟩:=AF.g;dsimp only [bL];refine⟨_,U,_,U,rl,_,_, .ref u,U,U,bh.of (e _ _ Au),K1 hui,u,_,U,gE.of (e _ _ hut),U,_,_,U,_,_,U,U,?_⟩;refine⟨_,U,_,U,_,U,ch,_,_, .ref ct,U,U,bh.of (e _ _ lP),EG G9,_,U,_,U,sd,ct,lt,rt,m,i,cK kvs (rs.take i),r.xs,r.ys,by rw[em,zero_add];rfl,yI,hI,G',hlen,e _ _ T8,(lT.same e).toW,(yL.same e).toW,by omega,by omega,by have:=AF.m1;omega,AF.T6 jg,λt' k' l' tt H2 A7 hb A5 KO k2=>?_,λhb H2 ha2 k2=>?_⟩
   ·have e2:au H H2:=λb o z=>k2 _ _ (e _ _ z) (af z T1)
    have T9:cg (cK kvs (rs.take i)) r.xs r.ys r.m=some ((t':Int),k',l'):=by
     cases hs:cg (cK kvs (rs.take i)) r.xs r.ys r.m with
     |none=>
      rw[em] at hs;rw[tK hs t' A7] at A5;cases A5
     |some p=>
      obtain⟨t,k,l⟩:=p;rw[em] at hs;obtain⟨t2,rfl,_,BF,pM⟩:=jO hI G' (AF.T6 jg) hs;obtain⟨e1,e2⟩:=GD hb BF A5 pM;injection e2 with e3 e4;rw[e1,e3,e4]
    refine⟨_,U,_,U,je ?_⟩;refine⟨_,U,_,U,am,_,U, .inl (e2 _ _ tD),λa2 na2=>⟨1e2,λt2 Vv=>?_⟩⟩;have s3:=au.new (o:= .dK kvs) na2;have s4:=au.new (o:= .tup [.ref tt, .ref a2]) Vv;exact qS i t' k' l' t2 tt a2 _ ⟨r,A6,Kf,T9⟩ ag (s4 _ _ (s3 _ _ KO)) (none_back e2 na2) (s4 _ _ ag) ((e2.trans s3).trans s4)
   ·have e2:au H H2:=λb o z=>k2 _ _ (e _ _ z) (af z T1);refine⟨_,U,_,U,d4 ?_⟩;refine⟨_,_,_,_,U,?_,λj r2 hj Qf=>?_,e2⟩
    ·rw[KZ kvs A6,ha2,wa hI G' (AF.T6 jg),em]
    ·rcases Nat.lt_succ_iff_lt_or_eq.mp hj with hj|hj
     ·exact Kf j r2 hj Qf
     ·subst hj;have er:=Option.some.inj (A6.symm.trans Qf);rw[<-er]
      cases hs:cg (cK kvs (rs.take j)) r.xs r.ys r.m with
      |none=>rfl
      |some p=>
       obtain⟨t,k,l⟩:=p;rw[em] at hs;obtain⟨t2,rfl,h2,BF,pM⟩:=jO hI G' (AF.T6 jg) hs;rw[hb t2 h2] at pM;cases pM
  ·rintro σ H' ⟨v4,v5,v6,v7,rfl,yI,Kf,e⟩;rw[length_map] at yI Kf;have C6:((ts.length:Nat):Int).toNat=rs.length:=by rw[fP];rfl
   rw[C6] at yI Kf;rw[take_length] at yI;refine⟨_,U,1e2,λtt TU=>?_⟩;have s4:=au.new (o:= .tup [.cF, .ref sd]) TU;exact qN (λi r h=>Kf i r (List.getElem?_eq_some_iff.mp h).1 h) tt sd _ ag T1 (s4 _ _ yI) (e.trans s4)
variable {uC uP uI uD uL uT fG fH fI uG uS:Tok}{Ch HE Sh St:Py}
structure Ua(K:1e8)(mg:2e1)(C R G Pc Fo St HE Sh:Addr)(uK uN uB uE uM uC uP uI uD uL uT:Tok):Prop extends sX K mg C R G Pc Fo St uK uN uB uE uM uC uP uI uD uL uT,N0 K mg HE Sh where
 iS:kitOne K (.ref Sh) (.ref Sh)=some true
 YE:mg "zip" =none
def Ub{i:Nat}{v:V}{r:TS}{D:Ends}{σ:L2.St}{H:Hp}(h:r D (σ.set i (some v)) H):Hk (LV (tC v) (bL i)) r D σ H:=h
def i5{A r:TS}{D:Ends}{σ:L2.St}{H:Hp}(Pm:L2.St->Hp->Prop)(h:∀N:L2.St->Hp->Prop,(∀σ' H',Pm σ' H'->N σ' H')->A { D with nx:=N } σ H)(hr:∀σ' H',Pm σ' H'->r D σ' H'):Hk A r D σ H:=h _ hr
def K5(st tn:Int)(x:Str)(lk:Int):(G3 st tn x lk).lookup ("lack" :Str)=some (.int lk):=by
 unfold G3;rw[aD,if_pos rfl]
def AO(st tn:Int)(x:Str)(lk:Int):(G3 st tn x lk).lookup ("formula" :Str)=some (.str x):=by
 unfold G3;rw[aD,if_neg 0e4,aD,if_pos rfl]
def K6(st tn:Int)(x:Str)(lk:Int):(G3 st tn x lk).lookup ("turn" :Str)=some (.int tn):=by
 unfold G3;rw[aD,if_neg 0e4,aD,if_neg 0e4,aD,if_pos rfl]
def K7(st tn:Int)(x:Str)(lk:Int):(G3 st tn x lk).lookup ("step" :Str)=some (.int st):=by
 unfold G3;rw[aD,if_neg 0e4,aD,if_neg 0e4,aD,if_neg 0e4];rfl
def mw{kvs:PP}{rs:List cJ}:∀{a b:Option (Nat×Int×Key×Int)},o6 kvs rs a->o6 kvs rs b->a=b
 |none,none,_,_=>rfl
 |none,some (i,t,k,l),h,⟨r,h1,_,h3⟩=>by rw[h i r h1] at h3;cases h3
 |some (i,t,k,l),none,⟨r,h1,_,h3⟩,h=>by rw[h i r h1] at h3;cases h3
 |some (i,t,k,l),some (i',t',k',l'),⟨r,h1,h2,h3⟩,⟨r',h1',h2',h3'⟩=>by
  have e:i=i':=by
   rcases Nat.lt_trichotomy i i' with h|h|h
   ·rw[h2' i r h h1] at h3;cases h3
   ·exact h
   ·rw[h2 i' r' h h1'] at h3';cases h3'
  subst e;have e2:=Option.some.inj (h1.symm.trans h1');subst e2;have e3:=Option.some.inj (h3.symm.trans h3');rw[e3]
def we(kvs:PP)(rs:List cJ)(W:PP)(mv:List cJ):Prop:=(W=cK kvs rs/\(∀k,0<=aG W k)/\mv=rs)\/(W=kvs/\mv=[])
inductive OV(St:Addr)(vs:List V)(H:Hp)(Q:VK)(E:XK):Prop
 |mk (st d g ch rl am:Addr) (H0:Hp) (kvs:List (Key×V)) (cl ts:List Addr) (cs:List (List Tm×List Tm)) (rs:List cJ) (bM:vs=[.ref st, .ref ch, .ref rl, .ref am]) (bV:au H0 H) (b8:H0 st=none) (cS:H0 g=none) (eK:kQ St H st d g) (gS:H d=some (.dK kvs)) (lR:H g=some (.lst [])) (rV:H0 am=some (.dK kvs)) (yJ:Qw kvs) (LF:H0 ch=some (.lst (cl.map V.ref))) (CB:Paired (EF H0) cl cs) (N6:H rl=some (.lst (ts.map V.ref))) (N7:rl≠g) (N8:Paired (OT cs H0) ts rs) (Tc:(∀r∈rs,t4 (kvs.map 1e4) r)) (h'15:(∀r∈rs,∀z∈r.xs++r.ys,z.1<=999)) (h'16:rs.length<=12) (h'17:∀d' W gs mv H',kQ St H' st d' g->H' d'=some (.dK W)->H' g=some (.lst (gs.map V.ref))->Paired (cj H') gs mv->we kvs rs W mv->(∀b o,H b=some o->b≠st->b≠g->H' b=some o)->Q (.bl true) H')
def K8(St:Py):Sp:=OV St
def Qy(i:Nat)(t:Int)(x:Str)(l:Int):PyData:= .tuple [.int i, .int t, .str x, .int l]
def Uc{i:Nat}{t:Int}{x:Str}{l:Int}(h:PyData.strOk x=true):SeqAt.shaped (Qy i t x l)=true/\PyData.eqv (Qy i t x l) (Qy i t x l)=true:=by
 have hc:(Qy i t x l).canLay0=true:=by
  simp [Qy,PyData.canLay0,PyData.canLayAll0,h]
 exact⟨vh hc (by simp [Qy,PyData.depth,PyData.depthAll]),rA _ hc⟩
def kY:ay ["_law_store","_law_changes","_law_row","_law_amounts","_law_rows","_law_caught","_law_handed","e","_law_short","_law_stocks"] ["_law_store","_law_changes","_law_row","_law_amounts"] (ao Dv):=dE
def GF{f0:Py}(D:Def K mg "_law_gone" "_law_gone" Dv ["_law_store","_law_changes","_law_row","_law_amounts"])(T:Ua K mg C R G Pc Fo St HE Sh uK uN uB uE uM uC uP uI uD uL uT)(Z:PySem.W.fR K Sh HE f0)(c1:bp P w K mg base 1 "_law_line" ["_law_sides"] Ew)(c2:BI P w K mg base 20 St "go_all" ["self","rows"] (Ef C G Pc Fo Ch Sh St))(c3:bp P w K mg base 2 "_law_plain" ["_law_amounts","_law_changes","_law_row"] EH)(c4:aJ P w K mg base 1 St "stocks" 1e1 (sY St))(c5:bp P w K mg base 1 "_law_above" ["_law_stocks"] Ex)(c6:aJ P w K mg base 1 St "went" 1e1 (yk St)):
  bp P w K mg base 21 "_law_gone" ["_law_store","_law_changes","_law_row","_law_amounts"] (K8 St):=by
 obtain⟨_,_,K9⟩:=c1;obtain⟨_,_,ik⟩:=c2;obtain⟨_,_,GG⟩:=c3;obtain⟨_,_,bU⟩:=c4;obtain⟨_,_,GH⟩:=c5;obtain⟨_,_,bK⟩:=c6;refine D.dk kY 0e6 0e0
 ·obtain⟨st,d,g,ch,rl,am,H0,kvs,cl,ts,cs,rs,rfl,_⟩:=h;rfl
 ·obtain⟨st,d,g,ch,rl,am,H0,kvs,cl,ts,cs,rs,rfl,e0,VB,ng,⟨dx,iu⟩,hd,hg,tD,hA,lP,hC,Au,nrg,hP,hR,h999,OU,q⟩:=h;have hu:=di hr;have hu0:=hr.Bh;have K':=hr.units;have big:=bgL;have fP:=Paired.length hP
  refine⟨_,(ai (qc (i:=4) kY.nd rfl 0e3 (sc:=(ao Dv)) (NX:=["_law_store","_law_changes","_law_row","_law_amounts","_law_rows","_law_caught","_law_handed","e","_law_short","_law_stocks"]) (N:=["_law_k","_law_times","_law_changes"]) (fr:=[none,none,some 1]) Ds rfl rfl rfl (cA (pv 2)) (λ_ _ _ _=>(mL K 2 rfl rfl (aP (aF (i:=0) (show (["_law_k","_law_times","_law_changes"]:On).Nodup by decide+kernel) rfl 0e3 (Or.inr rfl)) (aP (aF (i:=1) (show (["_law_k","_law_times","_law_changes"]:On).Nodup by decide+kernel) rfl 0e3 (Or.inr rfl)) cL)))) (λ_ _ _ _=>gJ) (λ_ _ _ _=>(bW (aa (dR K9 hr (aa (bq (HY K rfl) (pv 2) 1e6 1e3) aj)) (aa (pv 1) aj))))) (ai (aA (i:=5) kY.nd rfl 0e3 qK) (ai (aA (i:=6) kY.nd rfl 0e3 (bx d3 rfl T.n_list iz (aa (pv 4) aj))) (ai (MI ⟨U,U⟩ (λ_ _=> (ak (a7 (Iq 1e6 T.bB ik.m ik.ok (hr.mono 0e2) ik.b .nil Im (aa (pv 6) aj))))) (λ_=>(Sd K rfl (i:=7) rfl T.pG T.yh kY.nd rfl rfl (λ_=> (ak (aA (i:=5) kY.nd rfl 0e3 (pv 7)))) (R' MH)))) (ai (wC (dR GG hr (aa (pv 3) (aa (pv 1) (aa (pv 2) aj)))) (eX rfl (aP (aF (i:=8) kY.nd rfl 0e3) (aP (aF (i:=9) kY.nd rfl 0e3) cL)))) (ai (bR (PW.pt (uO (aO (HQ K') (pv 6) (pv 4) (aT _)) (qM (aO (HI hu0) (aM 1e6 T.bB bU.m bU.ok (hr.mono 0e2) bU.b .nil bb) (dR GH hr (aa (pv 9) aj)) (aT _))))) (ak (aH o8))
      aS) (ai (bR (qL (A9 (pv 8))) (ak (aH (Hh (Q3 (A9 (pv 5))) (Hg (pZ (HP K') (aM 1e6 T.bB bK.m bK.ok (hr.mono 0e2) bK.b .nil bb) (pv 4) (aT _))))))
      aS) (ai (bR (PW.pt (uO (n5 (i9 (bG xc rfl T.js iI (aa (pv 5) (aa (bo (v:= .ref _) rfl T.N3 rfl) aj))))) (qM (aO (HQ K') (aM 1e6 T.bB bK.m bK.ok (hr.mono 0e2) bK.b .nil bb) (bO aj) (aT _))))) (ak (aH o8))
      aS) (ak (aH (pZ (HP K') (bW (aa (qe (pv 5) rfl) (aa (qe (pv 5) rfl) (aa (qe (pv 5) rfl) (aa (qe (pv 5) rfl) aj))))) (pv 8) (aT _)))))))))))),?_⟩
  refine⟨_,U,rl,U,⟨_,bh.of Au⟩,λL hL=>lh (K:=K) (a:=rl) (L:=L) (xs:=ts.map V.ref) H (fun σ=>∃v u:Option V,σ=[v,u,some (.ref ch)]) (PvW L rs) (bh.of Au) ?_ hL ⟨none,none,U⟩ (au.new hL) ag ⟨[],U,U,(λu hu=>by cases hu), .nil⟩ (by rw[length_map];omega) ?_ ?_ ?_⟩
  ·rintro i ys Ha Hb hb ⟨us,h1,h2,h3,h4⟩;exact⟨us,h1,h2,h3,jH (λu r hu z=>hb _ _ z (h3 u hu)) h4⟩
  ·rintro i ys H' ⟨us,rfl,h2,_⟩;rw[length_map,h2];exact le_refl _
  ·rintro j w σ' H5 vs hj ⟨w1,w2,rfl⟩ e5 px ⟨us,rfl,NK,X6,Ai⟩ N M hN;rw[getElem?_map] at hj;obtain⟨t,ht,rfl⟩:=gMp hj;obtain⟨r,jU,k,KO,YD⟩:=bc hP ht;have AF:=hR r (mem_of_getElem? jU);have h9:=h999 r (mem_of_getElem? jU);obtain⟨g1,g2,g3,g4,g5,g6⟩:=id AF.g;obtain⟨ct,G9,lt,rt,T8,lT,yL⟩:=kX hC YD;have YF:=e0.trans e5;refine⟨t,_,U,gE.of (YF _ _ KO),U,_,_,U,_,_,U,U,?_⟩;refine⟨_,U,_,U,ch,_,_, .ref ct,U,U,bh.of (YF _ _ lP),EG G9,ct,lt,rt,r.xs,r.ys,U,YF _ _ T8,lT.same YF,yL.same YF,λx hx=>⟨(g3 x hx).1,h9 x (mem_append_left _ hx),(g3 x hx).2.2⟩,λx hx=>⟨(g4 x hx).1,h9 x (mem_append_right _ hx),(g4 x hx).2.2⟩,by omega,by omega,λH6 e6=>?_⟩;rw[<-AF.x];refine⟨_,U,1e2,λu' Ki=>?_⟩;have s7:=au.new (o:= .tup [.str r.x, .int r.m]) Ki;refine hN _ _ _ ⟨_,_,rfl⟩ ((e5.trans e6).trans s7) (s7 _ _ (e6 _ _ px)) ⟨us++[u'],by rw[map_append];rfl,by rw[length_append,NK];rfl,λa ha=>?_,?_⟩
   ·rcases mem_append.mp ha with z|z
    ·exact X6 a z
    ·have ea:a=u':=by simpa using z
     rw[ea];exact λz=>by rw[z,e6 _ _ px] at Ki;cases Ki
   ·rw[take_snoc jU];have hu2:cj (upd H6 u' (.tup [.str r.x, .int r.m])) u' r:=ag;exact bH hu2 (aB (λa b (z:cj H5 a b)=>((e6.trans s7) _ _ z:cj _ a b)) Ai)
  rintro H4 ys e4 FT ⟨us,rfl,NK,X6,Ai⟩;rw[length_map,fP,take_length] at Ai;have hupl:=Paired.length Ai;refine Ub ?_;refine⟨_,U,L,_,U, .inl (bh.of FT),λgD VC=>?_⟩;have s5:=au.new (o:= .lst (us.map V.ref)) VC;have YG:(upd H4 gD (.lst (us.map V.ref))) gD=some (.lst (us.map V.ref)):=ag;generalize upd H4 gD (.lst (us.map V.ref))=H5 at s5 YG |-;have e5:=e4.trans s5;have px:=s5 _ _ FT;have OW:Paired (cj H5) us rs:=aB (λa b (z:cj H4 a b)=>(s5 _ _ z:cj _ a b)) Ai;have nLg:g≠L:=af hg hL;have nhg:g≠gD:=af (e4 _ _ hg) VC;have hrx:∀r∈rs,PyData.strOk r.x=true:=λr hr=>T5 (hR r hr).ev;have OX:=ED hrx;have GI:=e5 _ _ iu;have Vx:=e5 _ _ hd;have hg5:=e5 _ _ hg;have hlA:=hA.len;dsimp only [bL];refine i5 (fun σ' H'=>∃(cv:V) (d' dC:Py) (W:PP) (gs:Ix) (mv:List cJ) (v7:Option V),σ'=[some (.ref st),some (.ref ch),some (.ref rl),some (.ref am),some (.ref L),some cv,some (.ref gD),v7,none,none]/\H' st=some (.ins St dC (A4 d' g))/\H' d'=some (.dK W)/\H' g=some (.lst (gs.map V.ref))/\Paired (cj H') gs mv/\((cv= .cF/\o6 kvs rs none/\W=cK kvs rs/\mv=rs)\/∃(e jT:Py) (i:Nat) (t:Int) (x:Str) (l:Int),cv= .ref e/\H' e=some (AZ e Sh (some jT))/\H' jT=some (AY jT (G3 i (t+1) x l))/\o6 kvs rs (some (i,t,Sum.inr x,l))/\W=kvs/\mv=[]/\gs=[])/\H' L=some (.lst (us.map V.ref))/\H' gD=some (.lst (us.map V.ref))/\Paired (cj H') us rs/\∀b o,H b=some o->b≠st->b≠g->H' b=some o) (λN hN=>?_) ?_
  ·refine⟨_,U,st,dx,_,U,GI,fU _ _ 0e4 0e4,_,U,st,d,g,gD,kvs,[],us,rs,U,⟨dx,GI⟩,Vx,hg5,nhg,hA.int,by omega,YG,OW,OU,zero_le _,(λr hr=>(hR r hr).ev),(λi r t k l z1 z2=>T7 hA hR OU z1 z2),λhs d' H' h0 h1 h2 h3 h4=>?_,λi r t x l e jT H' z1 z2 z3 he LI ne XZ e1=>?_⟩
   ·obtain⟨jT,h1⟩:=h1;have kk:∀{a:Py} {b:cJ},cj H5 a b->cj H' a b:=fun {a b} z=>h4 _ _ z (bj z GI (by intro y;cases y)) (bj z hg5 (by intro y;cases y));exact hN _ _ ⟨.cF,d',jT,cK kvs rs,us,rs,none,rfl,h1,h2,h3,aB (λ_ _ z=>kk z) OW, .inl ⟨rfl,hs,rfl,rfl⟩,h4 _ _ px (Ne.symm (bj GI px 0e7)) (Ne.symm nLg),h4 _ _ YG (Ne.symm (bj GI YG 0e7)) (Ne.symm nhg),aB (λ_ _ z=>kk z) OW,λb o z n1 n2=>h4 _ _ (e5 _ _ z) n1 n2⟩
   ·refine⟨Sh,HE,f0,true,U,Z,T.J8,je λe' WY=>?_⟩;exact⟨_,U,hN _ _ ⟨.ref e',d,dx,kvs,[],[],_,U,e1 _ _ GI,e1 _ _ Vx,e1 _ _ hg5, .nil, .inr ⟨e',jT,i,t,x,l,U,WY,LI,⟨r,z1,z2,z3⟩,U,U,U⟩,e1 _ _ px,e1 _ _ YG,aB (λa b (z:cj H5 a b)=>(e1 _ _ z:cj _ a b)) OW,λb o z _ _=>e1 _ _ (e5 _ _ z)⟩⟩
  ·rintro σ' H6 ⟨cv,d',dC,W,gs,mv,v7,rfl,uA,hd6,hg6,hPg,hcv,hL6,hh6,hPu,k6⟩;have e06:au H0 H6:=λb o z=>k6 _ _ (e0 _ _ z) (af z VB) (af z ng);have hrl6:=k6 _ _ Au (bj Au iu 0e7) nrg
   have hWI:aY W/\(W.map 1e4).Nodup/\W.length<=900:=by
    have hk:=fE rfl hR;have vY:=congrArg List.length hk;rw[length_map,length_map] at vY;rcases hcv with ⟨_,_,rfl,_⟩ | ⟨_,_,_,_,_,_,_,_,_,_,rfl,_⟩
    ·exact⟨qF rs hA.int,by rw[hk];exact hA.nd,by omega⟩
    ·exact⟨hA.int,hA.nd,by omega⟩
   obtain⟨Ud,YH,VD⟩:=hWI;have fl:ph (jK W):=λp' zj=>by obtain⟨i,e⟩:=Ud p' (mem_filter.mp zj).1;rw[e];rfl
   have hnp:((jK W).map 1e4).Nodup:=YH.sublist (filter_sublist.map _);have same:∀{H7:Hp},au H6 H7->GS K H7 (.ref gD) (gG rs)/\GS K H7 (.ref L) (gG rs):=fun {H7} e7=>⟨.lst (bh.of (e7 _ _ hh6)) (nR (aB (λa b (z:cj H6 a b)=>(e7 _ _ z:cj _ a b)) hPu)), .lst (bh.of (e7 _ _ hL6)) (nR (aB (λa b (z:cj H6 a b)=>(e7 _ _ z:cj _ a b)) hPu))⟩;refine⟨_,U,_,U,_,U,am,ch,rl,kvs,cl,ts,cs,rs,U,e06 _ _ tD,hA,e06 _ _ lP,aB (λ_ _ z=>z.same e06) hC,hrl6,aB (λ_ _ z=>z.same e06) hP,hR,OU,λi t k l tt tu a H7 hO KO htu na ha e7=>?_,λhO tt a H7 KO na ha e7=>?_⟩
   ·rcases hcv with ⟨_,YI,_⟩ | ⟨e,jT,i',t',x,l',rfl,he,LI,YI,rfl,rfl,rfl⟩
    ·cases mw hO YI
    ·have ee:=mw hO YI;injection ee with ee;injection ee with e1 ee;injection ee with e2 ee;injection ee with e3 e4;subst e1 e2 e3 e4
     have hsx:PyData.strOk x=true:=by
      obtain⟨r,A6,_,hs⟩:=hO;have AF:=hR r (mem_of_getElem? A6);obtain⟨m,em⟩:=eq_ofNat_of_zero_le AF.m0;have VA:∀r∈rs.take i,t4 (W.map 1e4) r:=λr hr=>hR r (mem_of_mem_take hr);have jg:=fE rfl VA;rw[em] at hs;obtain⟨t2,_,_,_,pM⟩:=jO (tE rs i hA.int) (by rw[jg];exact hA.nd) (AF.T6 jg) hs;obtain⟨p,hp,ep,_⟩:=oZ pM;obtain⟨p2,L6,ep2⟩:=mem_map.mp (AF.kx p hp);obtain⟨y,uo,ey⟩:=hA.told p2 L6;rw[ep2,ep] at ey;injection ey with ey;rw[ey];exact AM (by have:=Qt uo;simpa using this)
     obtain⟨r1,r2⟩:=same e7;refine⟨tt,_,U,gE.of KO,U,_,_,U,_,_,U,U,?_⟩;refine⟨_,U,_,U,gG rs,gG rs,r1,r2,OX.1,OX.1,?_⟩;rw[OX.2];refine⟨_,U,d4 ?_⟩;refine⟨_,U,st,dC,_,U,e7 _ _ uA,fU _ _ 0e4 0e4,st,d',g,W,U,⟨dC,e7 _ _ uA⟩,e7 _ _ hd6,Ud,YH,VD,λue H8 nue hue e8=>?_⟩;refine⟨_,U,a,W,U,e8 _ _ ha,Ud,YH,VD,λub H9 nub YJ e9=>?_⟩;refine⟨ue,ub,_,_,U,U, .inl (e9 _ _ hue), .inl YJ,fl,fl,λ_ _=>?_⟩;rw[q9 hnp fl];refine⟨_,U,d4 ?_⟩;refine⟨_,U,_,U,d4 ?_⟩;have CQ:=(e7.trans e8).trans e9;have htu9:=(e8.trans e9) _ _ htu;have he9:=CQ _ _ he;have YK:=CQ _ _ LI;have hE:Xa H9 e Sh:= .inr ⟨jT,_,he9,YK⟩;refine⟨_,U,e,_,_,Sh,HE,f0,true,U,U,Z,T.J7,hE,T.iS,_,U,d4 ?_⟩;refine⟨_,U,st,dC,_,U,CQ _ _ uA,fU _ _ 0e4 0e4,st,d',g,[],[],U,⟨dC,CQ _ _ uA⟩,CQ _ _ hg6, .nil,zero_le _,λlw us2 yH nlw hlw La Ep=>?_⟩;refine⟨(by show 0<=sizeLine;decide),λem hem=>?_⟩;have G5:=au.new (o:= .lst []) hem;have Ue:=ED (rs:=[]) λr hr=>by cases hr
     refine⟨gG [],gG [], .lst (bh.of (G5 _ _ hlw)) (nR (aB (λa b (z:cj yH a b)=>(G5 _ _ z:cj _ a b)) La)), .lst (bh.of ag) .nil,Ue.1,Ue.1,?_⟩;rw[Ue.2];refine⟨_,U,d4 ?_⟩;have OY:=Ep.trans G5;have e611:=CQ.trans OY;have OZ:=OY _ _ he9;have EI:=OY _ _ YK;have YL:=OY _ _ htu9;refine⟨_,U,e,Sh,HE,f0,jT,_,_,U,Z,T.S',OZ,EI,K7 _ _ _ _,_,U,e,Sh,HE,f0,jT,_,_,U,Z,T.Ta,OZ,EI,K6 _ _ _ _,_,U,e,Sh,HE,f0,jT,_,_,U,Z,T.Ge,OZ,EI,AO _ _ _ _,_,U,e,Sh,HE,f0,jT,_,_,U,Z,T.Tb,OZ,EI,K5 _ _ _ _,(by show 4<=sizeLine;decide),λtp MK=>?_⟩;have G6:=au.new (o:= .tup [.int (i:Nat), .int (t+1), .str x, .int l]) MK;obtain⟨o1,o2⟩:=Uc (i:=i) (t:=t+1) (l:=l) hsx;refine⟨_,U,Qy i (t+1) x l,Qy i (t+1) x l, .tup (gE.of ag) (.cons (.int _) (.cons (.int _) (.cons (.str _) (.cons (.int _) .nil)))), .tup (gE.of (G6 _ _ YL)) (.cons (.int _) (.cons (.int _) (.cons (.str _) (.cons (.int _) .nil)))),o1,o1,?_⟩;rw[o2];have O0:=e611.trans G6;exact q d' _ [] [] _ ⟨dC,O0 _ _ uA⟩ (O0 _ _ hd6) (O0 _ _ hg6) .nil (.inr ⟨rfl,rfl⟩) λb o z n1 n2=>O0 _ _ (k6 _ _ z n1 n2)
   ·rcases hcv with ⟨rfl,_,rfl,rfl⟩ | ⟨e,jT,i',t',x,l',_,_,_,YI,_⟩
    ·obtain⟨r1,r2⟩:=same e7;refine⟨tt,_,U,gE.of KO,U,_,_,U,_,_,U,U,?_⟩;refine⟨_,U,_,U,gG mv,gG mv,r1,r2,OX.1,OX.1,?_⟩;rw[OX.2];refine⟨_,U,d4 ?_⟩;refine⟨_,U,st,dC,_,U,e7 _ _ uA,fU _ _ 0e4 0e4,st,d',g,cK kvs mv,U,⟨dC,e7 _ _ uA⟩,e7 _ _ hd6,Ud,YH,VD,λue H8 nue hue e8=>?_⟩;refine⟨_,U,a,cK kvs mv,U,e8 _ _ ha,Ud,YH,VD,λub H9 nub YJ e9=>?_⟩;refine⟨ue,ub,_,_,U,U, .inl (e9 _ _ hue), .inl YJ,fl,fl,λ_ _=>?_⟩;rw[q9 hnp fl];refine⟨_,U,d4 ?_⟩;refine⟨_,U,_,U,je ?_⟩;have CQ:=(e7.trans e8).trans e9;refine⟨_,U,_,U,je ?_⟩;refine⟨_,U,st,dC,_,U,CQ _ _ uA,fU _ _ 0e4 0e4,st,d',g,gs,mv,U,⟨dC,CQ _ _ uA⟩,CQ _ _ hg6,aB (λa b (z:cj H6 a b)=>(CQ _ _ z:cj _ a b)) hPg,by omega,λlw us2 yH nlw hlw La Ep=>?_⟩;have GJ:=CQ.trans Ep;refine⟨_,U,gG mv,gG mv, .lst (bh.of hlw) (nR La),(same GJ).2,OX.1,OX.1,?_⟩;rw[OX.2];exact q d' _ gs mv _ ⟨dC,GJ _ _ uA⟩ (GJ _ _ hd6) (GJ _ _ hg6) (aB (λa b (z:cj H6 a b)=>(GJ _ _ z:cj _ a b)) hPg) (.inl ⟨rfl,Qx mv kvs hA.nn hR hO,rfl⟩) λb o z n1 n2=>GJ _ _ (k6 _ _ z n1 n2)
    ·cases mw hO YI
variable {uC uP uI uD uL uT fG fH fI uG uS:Tok}{Ch HE Sh St:Py}
def KnT(H:Hp)(kn:Py)(kk:PP):Prop:=H kn=some (.dK kk)/\(kk.map 1e4).Nodup/\∀q∈kk,∃x p D,q=(Sum.inr (⟨(fL x).toArray⟩:Str), .ref p)/\cz x/\H p=some (.dK D)/\Vr x D
def Lb{am:PP}{i:Nat}{k:Key}{z:Int}(h:am[i]? =some (k, .int z))(j:Key):i4 (am.take (i+1)) j=i4 (am.take i) j+z*cT j k:=by
 rw[take_snoc h];unfold i4;rw[map_append,sum_append];simp [zv]
theorem EJ:∀{W:PP},(∀q∈W,∃x,cz x/\q.1=Sum.inr (⟨(fL x).toArray⟩:Str))->∃fs,Paired Eb W fs
 | [],_=>⟨[], .nil⟩
 | (k,v)::r,h=>by
   obtain⟨fs,hf⟩:=EJ λq hq=>h q (mem_cons_of_mem _ hq);obtain⟨x,ok,e⟩:=h _ 1e0;have e:k=_:=e;subst e;exact⟨x::fs, .cons (S6 ok v) hf⟩
inductive CS(St:Addr)(vs:List V)(H:Hp)(Q:VK)(E:XK):Prop
 |mk (st d g kl kn am:Addr) (ks:List (List Nat)) (W kvs kk:List (Key×V)) (bM:vs=[.ref st, .ref kl, .ref kn, .ref am]) (bV:H kl=some (.lst (ks.map d9))) (b8:ks.length<=3) (cS:kQ St H st d g) (eK:H d=some (.dK W)) (gS:aY W) (lR:W.map (·.1)=kvs.map (·.1)) (rV:(∀k,i4 W k=i4 kvs k)) (yJ:H am=some (.dK kvs)) (LF:Qw kvs) (CB:KnT H kn kk) (N6:kk.map (·.1)=kvs.map (·.1)) (N7:kn≠am) (N8:(∀q∈kk,∀p,q.2= .ref p->p≠am)) (Tc:∀H',au H H'->Q (.bl true) H')
def wg(St:Py):Sp:=CS St
def nU:ay ["_law_store","_law_kinds_here","_law_known","_law_amounts","_law_kind","_law_due","_law_found"] ["_law_store","_law_kinds_here","_law_known","_law_amounts"] (ao qk):=dE
def GK(D:Def K mg "_law_totals" "_law_totals" qk ["_law_store","_law_kinds_here","_law_known","_law_amounts"])(T:sX K mg C R G Pc Fo St uK uN uB uE uM uC uP uI uD uL uT)(c1:aJ P w K mg base 15 St "total" ["self","kind"] (Ec St)):bp P w K mg base 16 "_law_totals" ["_law_store","_law_kinds_here","_law_known","_law_amounts"] (wg St):=by
 obtain⟨_,_,uF⟩:=c1;refine D.dk nU 0e6 0e0
 ·obtain⟨st,d,g,kl,kn,am,ks,W,kvs,kk,rfl,_⟩:=h;rfl
 ·obtain⟨st,d,g,kl,kn,am,ks,W,kvs,kk,rfl,nC,lks,⟨dx,iu⟩,hd,Ud,hkW,hTW,tD,hA,hK,hkk,nka,npa,q⟩:=h;have hu:=di hr;have hu0:=hr.Bh;have big:=bgL;have hlA:=hA.len
  obtain⟨fs,hfs⟩:=EJ (W:=W) λp hp=>by
   have:p.1∈kvs.map 1e4:=by rw[<-hkW];exact mem_map_of_mem hp
   obtain⟨p2,L6,e2⟩:=mem_map.mp this;obtain⟨x,ok,ex⟩:=hA.told p2 L6;exact⟨x,ok,by rw[<-e2];exact ex⟩
  have VD:W.length<=900:=by
   have:=congrArg List.length hkW;rw[length_map,length_map] at this;omega
  refine⟨_,(ai (bF PassesOwn.never rfl (cA (av l5 (pv 1) (bO (aa aZ aj)))) (aF (i:=4) nU.nd rfl (Or.inr rfl)) (ai (aA (i:=5) nU.nd rfl 0e3 (bG (rn rfl) rfl T.Al Bt (aa (mH (fW (sc:=(ao qk)) (NX:=["_law_store","_law_kinds_here","_law_known","_law_amounts","_law_kind","_law_due","_law_found"]) (N:=["_law_name","_law_amounts","_law_kind","_law_known"]) (fr:=[none,some 3,some 4,some 2]) Ds rfl rfl rfl (cQ (pv 3)) (λ_ _ _ _=>(aF (i:=0) (show (["_law_name","_law_amounts","_law_kind","_law_known"]:On).Nodup by decide+kernel) rfl 0e3 (Or.inr rfl))) (λ_ _ _ _=>gJ) (λ_ _ _ _=>(av dm (cf hu (pv 1) 1e6 1e3) (bS hu (cf hu (pv 3) 1e6 1e3) (pv 2) aq ⟨U,U,U,U⟩))))) aj))) (ai (aA (i:=6) nU.nd rfl 0e3 (pR uF hr T.bB 1e6 (aa (pv 4) aj))) (ak (bR (PW.pt (uO (n5 (i9 (bG pe rfl T.js iI (aa (pv 6) (aa (C1 (v:= .ty "int") rfl T.DC wN rfl) aj))))) (uO (i9 (bG pe rfl T.js iI (aa (pv 6) (aa (C1 (v:= .ty "bool") rfl T.Sn Mm rfl) aj)))) (qM (aO mD (pv 6) (pv 5) (aT _)))))) (ak (aH o8))
        aS))))) (ak (aH o8))),?_⟩
  refine⟨_,U,(by show 1<=sizeLine;decide),λpl fP=>?_⟩;have s1:=au.new (o:= .lst [.str "+"]) fP;have hp1:(upd H pl (.lst [.str "+"])) pl=some (.lst [.str "+"]):=ag;generalize upd H pl (.lst [.str "+"])=H1 at s1 hp1 |-;refine⟨kl,pl,_,_,U,U,s1 _ _ nC,hp1,by rw[length_map];show ks.length+1<=sizeLine;omega,λpp Vl=>?_⟩;have s2:=s1.trans (au.new (o:= .lst (ks.map d9++[.str "+"])) Vl);have L6:(upd H1 pp (.lst (ks.map d9++[.str "+"]))) pp=some (.lst (ks.map d9++[.str "+"])):=ag;generalize upd H1 pp (.lst (ks.map d9++[.str "+"]))=H2 at s2 L6 |-;refine⟨pp,U,⟨_,bh.of L6⟩,du (K:=K) (a:=pp) (xs:=ks.map d9++[.str "+"]) (λi σ H'=>∃v4 v5 v6:Option V,σ=[some (.ref st),some (.ref kl),some (.ref kn),some (.ref am),v4,v5,v6]/\au H2 H') ⟨none,none,none,U,au.refl _⟩ (λi σ H' _ ⟨_,_,_,_,z⟩=>bh.of (z _ _ L6)) ?_ ?_⟩
  ·rintro i x σ H' hi ⟨v4,v5,v6,rfl,e'⟩
   obtain⟨s,rfl⟩:∃s:Str,x= .str s:=by
    rcases mem_append.mp (mem_of_getElem? hi) with z|z
    ·obtain⟨k,_,rfl⟩:=mem_map.mp z;exact⟨_,U⟩
    ·exact⟨_,by simpa using z⟩
   have e:=s2.trans e';have YM:=e _ _ tD;refine⟨_,U,am,kvs,U,YM,λo nf L hL=>?_⟩;have nLa:L≠am:=λz=>by rw[z,ag] at hL;cases hL
   have hz:(upd H' am (.eI o 2e2)) am=some (.eI o 2e2):=ag;refine Dj (J:=Mf am o kvs) (L:=L) kvs.length (upd H' am (.eI o 2e2)) (fun σ=>∃v:Option V,σ=[v,some (.ref am),some (.str s),some (.ref kn)]) (λi ys=>∃ns:List Int,ys=ns.map V.int/\ns.length=i/\ns.sum=i4 (kvs.take i) (Sum.inr s)) (λi H3 hi e3=>⟨e3 _ _ hz,hi⟩) (λH3 e3=>⟨e3 _ _ hz,le_refl _⟩) hL ⟨none,rfl⟩ (au.new hL) ag ⟨[],rfl,rfl,rfl⟩ 0e1 ?_ ?_ ?_
   ·rintro i ys ⟨ns,rfl,h2,_⟩;rw[length_map,h2];exact le_refl _
   ·rintro j σ H3 ys hj ⟨v,rfl⟩ e3 oI ⟨ns,rfl,hnl,t9⟩ N M hN y H4 ⟨rfl,kx,vx,pO,rfl⟩;have hm:=mem_of_getElem? pO;obtain⟨z,ez⟩:=hA.int _ hm;have ez:vx=V.int z:=ez;subst ez;have hvz:ck kvs kx=some (V.int z):=gj hA.nd hm;have hkx:kx∈kk.map 1e4:=by rw[hkk];exact mem_map_of_mem hm
    obtain⟨⟨k2,v2⟩,hq,ek⟩:=mem_map.mp hkx;have ek:k2=kx:=ek;subst ek;obtain⟨x,p,Dp,XX,pE,hp,hDI,hDz,_⟩:=hK.2.2 _ hq;injection XX with e1 e2;subst e2;have hv:ck kk k2=some (.ref p):=gj hK.2.1 hq;have npa':p≠am:=npa _ hq p rfl;have kp:∀b o',H b=some o'->b≠am->H4 b=some o':=λb o' z' nb=>e3 _ _ (by rw[ah nb];exact e _ _ z');have hp4:=kp _ _ hp npa';have tb:=vV pE (Sum.inr s);have PK:=hDz (Sum.inr s);refine⟨_,U,_,U,am,V.int z,U, .inl ⟨_,k2, .inr ⟨o,e3 _ _ hz⟩,U,hvz.symm⟩,_,U,_,U,kn, .ref p,U, .inl ⟨_,k2, .inl (kp _ _ hK.1 nka),U,hv.symm⟩,p,U, .inl ⟨_, .inl hp4⟩,_,U,_,fQ.k (k:=Sum.inr s) hp4,_,_,U,hDI.at _, .inr ⟨by omega,by omega⟩,hN _ _ _ ⟨_,U⟩ e3 oI ⟨ns++[z*aG Dp (Sum.inr s)],by rw[map_append];rfl,by rw[length_append,hnl];rfl,?_⟩⟩;rw[sum_append,t9,Lb pO,e1,KS pE,PK];simp;rfl
   ·rintro H3 ys e3 oI ⟨ns,rfl,hnl,t9⟩;rw[take_length] at t9;refine⟨am,o,kvs,e3 _ _ hz,nf,L,ns,U,bh.of (by rw[ah nLa];exact oI),?_⟩
    have e4:au H' (upd H3 am 2e2):=λb o' z'=>by
     by_cases bd:b=am
     ·subst bd;rw[ag];rw[YM] at z';exact z'
     ·rw[ah bd];exact e3 _ _ (by rw[ah bd];exact z')
    generalize upd H3 am 2e2=H5 at e4 |-;have e5:=e.trans e4;refine⟨_,U,st,dx,_,U,e5 _ _ iu,fU _ _ 0e4 0e4,_,U,st,d,g,s,W,fs,U,⟨dx,e5 _ _ iu⟩,e5 _ _ hd,Ud,VD,hfs,λH6 e6=>?_⟩;have et:(uv W fs s).sum=ns.sum:=by rw[AL s hfs,hTW,t9]
    rw[et];refine⟨_,U,_,_,_,_,true,U,U, .int _,zr,_,U,d4 ⟨_,U,_,_,_,_,false,U,U, .int _,mK,_,U,d4 ?_⟩⟩;refine⟨_,U,_,U,U,_,U,fJ (λec=>?_) λ_=>?_⟩
    ·simp at ec
    ·exact⟨_,_,_,U,e'.trans (e4.trans e6)⟩
  ·rintro σ H' ⟨v4,v5,v6,rfl,e'⟩;exact q _ (s2.trans e')
variable {uC uP uI uD uL uT fG fH fI uG uS:Tok}{Ch HE Sh St:Py}
def GoodC(c:List Tm×List Tm):Prop:=Of 8 c.1 c.2/\∀z∈c.1++c.2,z.1<=999
theorem GoodC.swap{a b:NE}(h:GoodC (a,b)):GoodC (b,a):=⟨h.1.swap,λz hz=>h.2 z (mem_append.mpr (mem_append.mp hz).symm)⟩
abbrev tk(z:Tm):Key:=Sum.inr (⟨(fL z.2).toArray⟩:Str)
def Hc(H:Hp)(kk:PP):Prop:=∀q∈kk,∃x p D,q=(Sum.inr (⟨(fL x).toArray⟩:Str), .ref p)/\cz x/\H p=some (.dK D)/\Vr x D
def Qz{H:Hp}{kn d:Py}{kk D:PP}{x:Fm}(hk:H kn=some (.dK kk))(hE:Hc H kk)(hd:H d=some (.dK D))(hc:Vr x D):d≠kn:=by
 rintro rfl;rw[hk] at hd;injection hd with hd;injection hd with hd;subst hd
 match kk,hE,hc with
 | [],_,hc=>exact hc.2.2.1 rfl
 |q::r,hE,hc=>
  obtain⟨_,p,_,rfl,_⟩:=hE q 1e0;obtain⟨i,hi⟩:=hc.1 _ 1e0;cases hi
def yD{H:Hp}{ch l:Py}{cl:Ix}{cs:List (List Tm×List Tm)}{xs:NE}(lP:H ch=some (.lst (cl.map V.ref)))(hP:Paired (EF H) cl cs)(h:fN H l xs)(hx:xs≠[]):l≠ch:=by
 rintro rfl;obtain⟨ts,h1,h2⟩:=h;rw[lP] at h1;injection h1 with h1;injection h1 with h1
 match ts,cl,h1,h2,hP with
 | [],_,_,h2,_=>cases h2;exact hx rfl
 |t::ts,[],h1,_,_=>cases h1
 |t::ts,c::cl,h1, .cons h3 _, .cons h4 _=>
  injection h1 with h1 _;injection h1 with h1;subst h1;obtain⟨_,_,h5,_⟩:=h3;obtain⟨_,_,h6,_⟩:=h4;rw[h5] at h6;cases h6
def fN.keep{H H':Hp}{ch kn l:Py}{cl:Ix}{cs:List (List Tm×List Tm)}{kk:PP}{xs:NE}(lP:H ch=some (.lst (cl.map V.ref)))(hP:Paired (EF H) cl cs)(hk:H kn=some (.dK kk))(hE:Hc H kk)(hx:xs≠[])(k:∀b o,H b=some o->b≠ch->b≠kn->H' b=some o)(h:fN H l xs):fN H' l xs:=by
 have hl:=yD lP hP h hx;obtain⟨ts,h1,h2⟩:=h;refine⟨ts,k _ _ h1 hl (bj h1 hk 0e7),aB (λ_ _ z=>?_) h2⟩;obtain⟨d,D,h3,h4,h5⟩:=z;exact⟨d,D,k _ _ h3 (bj h3 lP 0e7) (bj h3 hk 0e7),k _ _ h4 (bj h4 lP 0e7) (Qz hk hE h4 h5),h5⟩
theorem EF.keep{H H':Hp}{ch kn t:Py}{cl:Ix}{cs:List (List Tm×List Tm)}{kk:PP}{c:List Tm×List Tm}(lP:H ch=some (.lst (cl.map V.ref)))(hP:Paired (EF H) cl cs)(hk:H kn=some (.dK kk))(hE:Hc H kk)(hc:GoodC c)(k:∀b o,H b=some o->b≠ch->b≠kn->H' b=some o)(h:EF H t c):EF H' t c:=by
 obtain⟨l,r,h1,h2,h3⟩:=h;exact⟨l,r,k _ _ h1 (bj h1 lP 0e7) (bj h1 hk 0e7),h2.keep lP hP hk hE hc.1.1 k,h3.keep lP hP hk hE hc.1.2.1 k⟩
theorem pL{α β:Type}{p q:α->β->Prop}:∀{as:List α} {bs:List β},(∀a b,b∈bs->p a b->q a b)->Paired p as bs->Paired q as bs
 |_,_,_, .nil=> .nil
 |_,_,f, .cons h t=> .cons (f _ _ 1e0 h) (pL (λa b hb=>f a b (mem_cons_of_mem _ hb)) t)
def Hc.keep{H H':Hp}{ch kn:Py}{cl:Ix}{kk tQ:PP}(lP:H ch=some (.lst (cl.map V.ref)))(hk:H kn=some (.dK kk))(hE:Hc H kk)(k:∀b o,H b=some o->b≠ch->b≠kn->H' b=some o)(h:Hc H tQ):Hc H' tQ:=λq hq=>by
 obtain⟨x,p,D,e,ok,hp,hD⟩:=h q hq;exact⟨x,p,D,e,ok,k _ _ hp (bj hp lP 0e7) (Qz hk hE hp hD),hD⟩
structure Wd(H:Hp)(ch kn:Addr)(cl:List Addr)(cs:List (List Tm×List Tm))(kk:List (Key×V)):Prop where
 c:H ch=some (.lst (cl.map V.ref))
 p:Paired (EF H) cl cs
 g:∀c∈cs,GoodC c
 k:H kn=some (.dK kk)
 nd:(kk.map 1e4).Nodup
 e:Hc H kk
 all:∀c∈cs,∀z∈c.1++c.2,tk z∈kk.map 1e4
theorem Wd.same{H H':Hp}{ch kn:Py}{cl:Ix}{cs:List (List Tm×List Tm)}{kk:PP}(s:au H H')(h:Wd H ch kn cl cs kk):Wd H' ch kn cl cs kk:=
 ⟨s _ _ h.c,aB (λ_ _ z=>z.same s) h.p,h.g,s _ _ h.k,h.nd,λq hq=>by
  obtain⟨x,p,D,e,ok,hp,hD⟩:=h.e q hq
  exact⟨x,p,D,e,ok,s _ _ hp,hD⟩,h.all⟩
def Wd.more{H H':Hp}{ch kn t:Py}{cl:Ix}{cs:List (List Tm×List Tm)}{kk tQ:PP}{c:List Tm×List Tm}(h:Wd H ch kn cl cs kk)(hc:GoodC c)(ht:EF H t c)(lP:H' ch=some (.lst ((cl++[t]).map V.ref)))(hkn:H' kn=some (.dK tQ))(k:∀b o,H b=some o->b≠ch->b≠kn->H' b=some o)(G':(tQ.map 1e4).Nodup)(hE:Hc H tQ)(ho:∀j∈kk.map (·.1),j∈tQ.map 1e4)(hn:∀z∈c.1++c.2,tk z∈tQ.map 1e4):Wd H' ch kn (cl++[t]) (cs++[c]) tQ:=by
 refine⟨lP,bH (ht.keep h.c h.p h.k h.e hc k) (pL (λ_ b hb z=>z.keep h.c h.p h.k h.e (h.g b hb) k) h.p),λc' CZ=>?_,hkn,G',Hc.keep h.c h.k h.e k hE,λc' CZ=>?_⟩
 ·rcases mem_append.mp CZ with z|z
  ·exact h.g c' z
  ·rw[mem_singleton.mp z];exact hc
 ·rcases mem_append.mp CZ with z|z
  ·exact λy hy=>ho _ (h.all c' z y hy)
  ·rw[mem_singleton.mp z];exact hn
def Lc{ks:No}{xs:NE}(h:∀z∈xs,tk z∈ks):∀q∈aI xs,q.1∈ks:=jL (Pk:=λj=>j∈ks) 1 (dQ xs) [] (λq hq=>by cases hq) λp hp=>by
 obtain⟨z,hz,rfl⟩:=mem_map.mp hp;exact h z hz
def QA:cz ([(1,[.gr [.one [90,113] 1] 9])],0):=DP (P9 ⟨cons_ne_nil _ _,λt ht=>by
 rw[mem_singleton.mp ht]
 exact⟨cons_ne_nil _ _,(λu hu=>by rw[mem_singleton.mp hu];exact⟨⟨90,[113],rfl,by decide,by decide,by decide⟩,by decide,by decide⟩),by decide,by decide⟩,by decide,by decide⟩) 0e2 0e2
def YN:("(Zq)9" :Str)=⟨(fL ([(1,[.gr [.one [90,113] 1] 9])],0)).toArray⟩:=by decide+kernel
def Ug{H:Hp}{kk:PP}(h:Hc H kk):¬(Sum.inr ("(Zq)9" :Str):Key)∈kk.map 1e4:=λm=>by
 obtain⟨q,hq,e⟩:=mem_map.mp m;obtain⟨x,p,D,rfl,ok,_,hD⟩:=h q hq;have e:(Sum.inr (⟨(fL x).toArray⟩:Str):Key)=Sum.inr ("(Zq)9" :Str):=e;injection e with e;rw[YN] at e;injection e with e;have e:fL x=fL ([(1,[.gr [.one [90,113] 1] 9])],0):=by simpa using congrArg Array.toList e
 have:=KR ok QA e;exact hD.2.2.2 _ _ (by rw[this])
def YO{H:Hp}{ch kn:Py}{cl:Ix}{cs:List (List Tm×List Tm)}{kk:PP}(h:Wd H ch kn cl cs kk)(hc:1<=cs.length):∃q r,kk=q::r:=by
 match cs,kk,h,hc with
 |c::_,q::r,_,_=>exact⟨q,r,U⟩
 |c::_,[],h,_=>
  have hG:=h.g c 1e0;obtain⟨z,hz⟩:=List.exists_mem_of_ne_nil _ hG.1.1;have:=h.all c 1e0 z (mem_append_left _ hz);cases this
def we.ok{kvs:PP}(hA:Qw kvs){rs mv:List cJ}(hR:∀r∈rs,t4 (kvs.map 1e4) r){W:PP}(h:we kvs rs W mv):aY W/\W.map 1e4=kvs.map 1e4/\(∀k,i4 W k=i4 kvs k)/\mv.length<=rs.length:=by
 rcases h with ⟨rfl,_,rfl⟩ | ⟨rfl,rfl⟩
 ·exact⟨qF _ hA.int,fE rfl hR,λk=>K0 k _ hA.int hA.nd hR,le_refl _⟩
 ·exact⟨hA.int,U,λ_=>rfl,zero_le _⟩
def we.same{kvs:PP}(hA:Qw kvs){rs ss mv GU:List cJ}(hR:∀r∈rs,t4 (kvs.map 1e4) r)(hS:∀r∈ss,t4 (kvs.map 1e4) r)(hl:rs.length=ss.length)(hz:∀k,mr rs k=mr ss k){W X:PP}(h:we kvs rs W mv)(h':we kvs ss X GU)(e:mv.length=GU.length):W=X:=by
 rcases h with ⟨rfl,_,rfl⟩ | ⟨rfl,rfl⟩<;>rcases h' with ⟨rfl,_,rfl⟩ | ⟨rfl,rfl⟩
 ·exact OS hA hR hS hz
 ·rw[List.eq_nil_of_length_eq_zero (show mv.length=0 from e)];rfl
 ·rw[List.eq_nil_of_length_eq_zero (show GU.length=0 from e.symm)];rfl
 ·rfl
variable {uC uP uI uD uL uT fG fH fI uG uS:Tok}{Ch HE Sh St:Py}
inductive Uh(K:1e8)(vs:List V)(H:Hp)(Q:VK)(E:XK):Prop
 |mk (a:Addr) (ns:List Int) (bM:vs=[.ref a]) (bV:bh K H a (ns.map V.int)) (b8:ns.length<=63) (cS:∀H',Q (.bl true) H')
def EK(K:Uu):Sp:=Uh K
def wj{H H':Hp}{st dx St:Py}(s:au H H')(h1:H' st=none)(h2:H' dx=none):au H (upd (upd H' dx (.own st)) st (.ins St dx [])):=λb o z=>by
 rw[ah (af (s _ _ z) h1),ah (af (s _ _ z) h2)];exact s _ _ z
def O1(ns:List Int):∃ms:List Int,j5 (ns.map V.int) (some 11) (some 17)=ms.map V.int/\ms.length<=6:=by
 obtain⟨ms,e,_⟩:=zw ns (some 11) (some 17);refine⟨ms,e,?_⟩;have:=congrArg List.length e;unfold j5 at this;rw[length_take] at this;simp only [length_map] at this
 have h1:HT.u6 ns.length ns.length (some 17)<=HT.u6 ns.length 0 (some 11)+6:=by
  unfold HT.u6;simp;omega
 omega
def Ld{ks:List (List Nat)}(h:o5 ks):ks.length<=3:=by
 obtain⟨a,b,c,n,_,_,_,_,_,_,_,_,rfl⟩:=h;rw[length_take];exact Nat.min_le_right _ _
def fF:ay ["_law_script","_law_kinds_here","_law_changes","_law_known","_law_k","_law_sides","_law_many","_law_name","_law_counts","_law_most","_law_amounts","_law_x","_law_row","_law_cell","_law_at","_law_handed","_law_stores"] ["_law_script"] (ao xp):=dE
def Ui{f:Py}{fd:FuncData}(F:GR K "law" "law" xp f fd)(T:Ua K mg C R G Pc Fo St HE Sh uK uN uB uE uM uC uP uI uD uL uT)(c1:bp P w K mg base 1 "_law_here" ["_law_script","_law_place"] (Km K))(c2:bp P w K mg base 2 "_law_kinds" ["_law_cell"] Az)(c3:bp P w K mg base 4 "_law_even" ["_law_cell","_law_kinds_here"] Eu)(c4:bp P w K mg base 1 "_law_shaken" ["_law_cell","_law_many"] nJ)(c5:Iz P w K mg base q5 17 St ["self","amounts"] (D9 St))(c6:bp P w K mg base 21 "_law_gone" ["_law_store","_law_changes","_law_row","_law_amounts"] (K8 St))(c7:aJ P w K mg base 1 St "went" 1e1 (yk St))(c8:aJ P w K mg base 1 St "stocks" 1e1 (sY St))(c9:aJ P w K mg base 15 St "have" ["self","text"] (CC St))(c10:bp P w K mg base 16 "_law_totals" ["_law_store","_law_kinds_here","_law_known","_law_amounts"] (wg St)):
  fO P w K mg base q5 22 f fd ["_law_script"] (EK K):=by
 obtain⟨_,_,il⟩:=c1;obtain⟨_,_,GL⟩:=c2;obtain⟨_,_,Le⟩:=c3;obtain⟨_,_,ie⟩:=c4;obtain⟨_,_,bB⟩:=c5;obtain⟨_,_,AQ⟩:=c6;obtain⟨_,_,bK⟩:=c7;obtain⟨_,_,bU⟩:=c8;obtain⟨_,_,jJ⟩:=c9;obtain⟨_,_,tR⟩:=c10;have wk:=bB.b0;have wm:Vals [] []:= .nil;refine F.ok fF 0e6 (λbg A outer s H vs Q E hr h=>?_)
 ·obtain⟨a,ns,rfl,_⟩:=h;rfl
 ·obtain⟨a,ns,rfl,hS,hlen,q⟩:=h;have hu:=di hr;have hu0:=hr.Bh;have K':=hr.units;have big:=bgL
  refine⟨_,(ai (aA (i:=1) fF.nd rfl 0e3 (dR GL hr (aa (dR il hr (aa 1e6 (aa aq aj))) aj))) (ai (aA (i:=2) fF.nd rfl 0e3 (bO aj)) (ai (aA (i:=3) fF.nd rfl 0e3 eC) (ai (bF PassesOwn.never rfl (gQ rfl T.lz (aa (av bC aq (av bN (dR il hr (aa 1e6 (aa aq aj))) aq)) aj)) (aF (i:=4) fF.nd rfl 0e3) (ai (aA (i:=5) fF.nd rfl 0e3 (dR Le hr (aa (dR il hr (aa 1e6 (aa (av bC aq (pv 4)) aj))) (aa (pv 1) aj)))) (ai (bR (aO gf (av bN (av gW (dR il hr (aa 1e6 (aa aq aj))) (bq a8 (bO (Mn (.int (.int (.int (.int .nil)))))) (pv 4) 1e3)) aq) aq (aT _)) (ak (aA (i:=5) fF.nd rfl 0e3 (bW (aa (bq j6 (pv 5) aq 1e3) (aa (bq j6 (pv 5) aq 1e3) aj)))))
        aS) (ai (a7 (eU PySem.F.plainAttrs_list PySem.F.slot_list_append PySem.F.type_list_append cn (pv 2) (aa (pv 5) aj))) (ak (bF PassesOwn.never rfl (cA (av l5 (bq j6 (pv 5) aq 1e3) (bq j6 (pv 5) aq 1e3))) (eX rfl (aP (aF (i:=6) fF.nd rfl 0e3) (aP (aF (i:=7) fF.nd rfl 0e3) (aP (aF (i:=8) fF.nd rfl 0e3) cL)))) (ak (cP hu (pv 3) (pv 7) (pv 8) rfl)))))))) (ai (aA (i:=9) fF.nd rfl 0e3 (bq a8 (bO (aa aq (aa aq (aa aq (aa (av Hn aq aq) aj))))) (av bN (av gW (dR il hr (aa 1e6 (aa aq aj))) aq) aq) 1e3)) (ai (aA (i:=10) fF.nd rfl 0e3 eC) (ai (bF PassesOwn.never rfl (RM rfl T.YE (aa (bx (kj rfl) rfl T.n_list iz (aa (pv 3) aj)) (aa (dR ie hr (aa (dR il hr (aa 1e6 (aa aq aj))) (aa (bG Bo rfl T.iD fe (aa (pv 3) aj)) aj))) aj))) (eX rfl (aP (aF (i:=7) fF.nd rfl 0e3) (aP (aF (i:=11) fF.nd rfl 0e3) cL))) (ak (cP hu (pv 10) (pv 7) (av bN (av bC (av dm (pv 11) aq) (av dm (av dm (pv 11) (pv 11)) (av Hn aq aq))) (pv 9)) rfl))) (ai (aA (i:=12) fF.nd rfl 0e3 (bO aj)) (ai (bF PassesOwn.never rfl (cA (eF k7 1e6 (cY aq) (cY aq))) (aF (i:=13) fF.nd rfl 0e3) (ak (a7 (eU PySem.F.plainAttrs_list PySem.F.slot_list_append PySem.F.type_list_append cn (pv 12) (aa (bW (aa (av bN (pv 13) (bG cp rfl T.iD fe (aa (pv 2) aj))) (aa (av bN (av gW (pv 13) (bG cp rfl T.iD fe (aa (pv 2) aj))) aq) aj))) aj))))) (ai (aA (i:=14) fF.nd rfl 0e3 (av bN (dR il hr (aa 1e6 (aa aq aj))) (av bC (bG cp rfl T.iD fe (aa (pv 12) aj)) aq))) (ai (aA (i:=15) fF.nd rfl 0e3 (bx gU rfl T.kJ jf (aa (pv 10) aj))) (ai (aA (i:=16) fF.nd rfl 0e3 (bO (aa (eY bB.m bB.ok (hr.mono 0e2) rfl T.D7 wk wm bb (aa (pv 15) aj)) (aa (eY bB.m bB.ok (hr.mono 0e2) rfl T.D7 wk wm bb (aa (pv 10) aj)) aj)))) (ai (cP hu (pv 15) aZ aq rfl) (ai (a7 (Dl (pv 15) (iy (gi (bq a8 (bx (kj rfl) rfl T.n_list iz (aa (pv 3) aj)) aq 1e3) aq ix) rfl rfl 0e7 0e2) ⟨U,U,U,U⟩)) (ai (bR (n5 (i9 (dR AQ hr (aa (bq a8 (pv 16) aq 1e3) (aa (pv 2) (aa (pv 12) (aa (pv 10) aj))))))) (ak (aH o8))
      aS) (ai (bR (n5 (i9 (dR AQ hr (aa (bq a8 (pv 16) aq 1e3) (aa (pv 2) (aa (av l5 (eF k7 (pv 12) (cY (pv 14)) p9) (eF k7 (pv 12) p9 (cY (pv 14)))) (aa (pv 10) aj))))))) (ak (aH o8))
      aS) (ai (bR (PW.pt (wB (aO gf (bG cp rfl T.iD fe (aa (aM (bq a8 (pv 16) aq 1e3) T.bB bK.m bK.ok (hr.mono 0e2) bK.b .nil bb) aj)) (bG cp rfl T.iD fe (aa (aM (bq a8 (pv 16) aq 1e3) T.bB bK.m bK.ok (hr.mono 0e2) bK.b .nil bb) aj)) (aT _)) (pX (aO (HI hu0) (aM (bq a8 (pv 16) aq 1e3) T.bB bU.m bU.ok (hr.mono 0e2) bU.b .nil bb) (aM (bq a8 (pv 16) aq 1e3) T.bB bU.m bU.ok (hr.mono 0e2) bU.b .nil bb) (aT _))))) (ak (aH o8))
      aS) (ai (bR (aO mD (pR jJ hr T.bB (bq a8 (pv 16) aq 1e3) (aa aZ aj)) aq (aT _)) (ak (aH o8))
      aS) (ak (aH (Hh (dR tR hr (aa (bq a8 (pv 16) aq 1e3) (aa (pv 1) (aa (pv 3) (aa (pv 10) aj))))) (Hg (dR tR hr (aa (bq a8 (pv 16) aq 1e3) (aa (pv 1) (aa (pv 3) (aa (pv 10) aj))))))))))))))))))))))))))),?_⟩
  refine⟨_,U,a,ns,0,U,hS,λn0 H0 e0=>⟨n0,U,λkl ks H1 ux nkl nC e1=>?_⟩⟩;have X2:=e0.trans e1;have hS1:=X2.seq hS;clear X2 e0 e1 nkl;refine⟨(by show 0<=sizeLine;decide),λch CY=>λkn GN=>?_⟩;have nck:ch≠kn:=λz=>by rw[z,ag] at GN;cases GN
  have nkn:H1 kn=none:=by rw[ah (Ne.symm nck)] at GN;exact GN
  have s3:au H1 (upd (upd H1 ch (.lst [])) kn (.dK [])):=(au.new CY).trans (au.new GN);have Uj:(upd (upd H1 ch (.lst [])) kn (.dK [])) ch=some (.lst []):=by rw[ah nck];exact ag
  have Uk:(upd (upd H1 ch (.lst [])) kn (.dK [])) kn=some (.dK []):=ag;generalize upd (upd H1 ch (.lst [])) kn (.dK [])=H3 at s3 Uj Uk |-;clear GN;have W3:Wd H3 ch kn [] [] []:=⟨Uj, .nil,(λc hc=>by cases hc),Uk,nodup_nil,(λq hq=>by cases hq),λc hc=>by cases hc⟩;dsimp only [bL];refine i5 (fun σ' H'=>∃(cl:Ix) (cs:List (List Tm×List Tm)) (kk:PP) (v4 v5 v6 v7 v8:Option V),σ'=[some (.ref a),some (.ref kl),some (.ref ch),some (.ref kn),v4,v5,v6,v7,v8,none,none,none,none,none,none,none,none]/\Wd H' ch kn cl cs kk/\1<=cs.length/\cs.length<=4/\kk.length<=32/\au H1 H') (λN hN=>?_) ?_
  ·refine⟨_,U,a,ns,1,U,s3.seq hS1,λn1 H4 e4=>⟨_,_,U,U,(by show (0 :Int) <4;decide),_,_,U,U,_,U,?_,?_,gR (λi σ H'=>∃(cl:Ix) (cs:List (List Tm×List Tm)) (kk:PP) (v4 v5 v6 v7 v8:Option V),σ=[some (.ref a),some (.ref kl),some (.ref ch),some (.ref kn),v4,v5,v6,v7,v8,none,none,none,none,none,none,none,none]/\Wd H' ch kn cl cs kk/\cs.length=i/\kk.length<=8*i/\au H1 H') ⟨[],[],[],none,none,none,none,none,U,W3.same e4,U,le_refl _,s3.trans e4⟩ ?_ ?_⟩⟩
   ·omega
   ·omega
   ·rintro i σ H' hi ⟨cl,cs,kk,v4,v5,v6,v7,v8,rfl,W,Nw,TN,e'⟩;have hi4:i<4:=by omega
    refine⟨_,U,_,U,_,_,U,U,a,ns,_,U,e'.seq hS1,λnk H5 e5=>⟨_,U,nk,kl,ks,U,(e'.trans e5) _ _ nC,ux,λt l r xs ys H6 nt ht hl jU hV h9 e6=>?_⟩⟩;have e56:=e5.trans e6;have W6:=W.same e56;have e16:=e'.trans e56;clear e5 e6 nt;dsimp only [bL];refine i5 (fun σ' H7=>∃(t':Py) (c:List Tm×List Tm),σ'=[some (.ref a),some (.ref kl),some (.ref ch),some (.ref kn),some (.int (0+i)),some (.ref t'),v6,v7,v8,none,none,none,none,none,none,none,none]/\EF H7 t' c/\GoodC c/\au H6 H7) (λN2 hN2=>?_) ?_
    ·refine⟨_,U,a,ns,_,U,e16.seq hS1,λn6 H8 e8=>⟨(by show 4<=sizeLine;decide),λp4 hp4=>?_⟩⟩;obtain⟨wv,hw,yp⟩:=l7 (xs:=[V.int 1,V.int 2,V.int 4,V.int 8]) (i:=0+(i:Int)) 0e1 (by show 0+(i:Int) <4;omega)
     obtain⟨dv,rfl,d0,d1⟩:∃dv:Int,wv= .int dv/\0<dv/\dv<18446744073709551616:=by
      simp only [mem_cons,not_mem_nil,or_false] at hw;rcases hw with rfl|rfl|rfl|rfl<;>exact⟨_,U,by decide,by decide⟩
     have s9:=e8.trans (au.new (o:= .lst [V.int 1,V.int 2,V.int 4,V.int 8]) hp4);refine⟨_,U,p4,_,_, .int dv,U,U,bh.of ag,yp,_,_,U,U,⟨d0,d1⟩,_,_,U,U,(by show (0 :Int) <2;decide),U,_,U,fJ (λ_=>?_) λ_=>?_⟩
     ·refine⟨_,U,t,_,_, .ref r,U,U,gE.of (s9 _ _ ht),U,_,U,t,_,_, .ref l,U,U,gE.of (s9 _ _ ht),U,1e2,λt' nt'=>hN2 _ _ ⟨t',(ys,xs),U,?_,GoodC.swap ⟨hV,h9⟩,s9.trans (au.new nt')⟩⟩;have Fg:=s9.trans (au.new (o:= .tup [.ref r, .ref l]) nt');exact⟨r,l,ag,jU.same Fg,hl.same Fg⟩
     ·exact hN2 _ _ ⟨t,(xs,ys),rfl,⟨l,r,s9 _ _ ht,hl.same s9,jU.same s9⟩,⟨hV,h9⟩,s9⟩
    ·rintro σ' H7 ⟨t',c,rfl,hT,hG,e7⟩;have W7:=W6.same e7;have e17:=e16.trans e7;clear W6 W e16 e7 e56 e' hl jU hV h9 ht;obtain⟨l',r',A7,A5,Qf⟩:=id hT;have nl:=yD W7.c W7.p A5 hG.1.1;have nr:=yD W7.c W7.p Qf hG.1.2.1;obtain⟨ts,h1,h2⟩:=A5;obtain⟨us,h3,h4⟩:=Qf;have hP2:=jI h2 h4;have Ul:=Paired.length hP2;have h8:=hG.1.2.2.2.2.1;have XY:=Paired.length W7.p;have ntc:t'≠ch:=bj A7 W7.c 0e7;refine⟨_,U, .inl ⟨U,_,bh.of W7.c⟩,_,U,ch,_, .ref t',U,U,W7.c,by rw[length_map];omega,?_⟩;have k9:∀b o,H7 b=some o->b≠ch->(upd H7 ch (.lst (cl.map V.ref++[V.ref t']))) b=some o:=λb o z n=>by rw[ah n];exact z
     have Um:(upd H7 ch (.lst (cl.map V.ref++[V.ref t']))) ch=some (.lst (cl.map V.ref++[V.ref t'])):=ag;generalize upd H7 ch (.lst (cl.map V.ref++[V.ref t']))=H9 at k9 Um |-;refine⟨_,U,t',_,_, .ref l',U,U,gE.of (k9 _ _ A7 ntc),U,_,U,t',_,_, .ref r',U,U,gE.of (k9 _ _ A7 ntc),U,l',r',_,_,U,U,k9 _ _ h1 nl,k9 _ _ h3 nr,?_,λpp npp=>?_⟩
     ·rw[length_append] at Ul;rw[length_append] at Ul;rw[length_map,length_map];omega
     rw[<-map_append];have QB:∀b o,H7 b=some o->b≠ch->(upd H9 pp (.lst ((ts++us).map V.ref))) b=some o:=λb o z n=>by rw[ah (af (k9 _ _ z n) npp)];exact k9 _ _ z n
     have QC:(upd H9 pp (.lst ((ts++us).map V.ref))) ch=some (.lst ((cl++[t']).map V.ref)):=by rw[ah (af Um npp),map_append];exact Um
     have EL:(upd H9 pp (.lst ((ts++us).map V.ref))) pp=some (.lst ((ts++us).map V.ref)):=ag;generalize upd H9 pp (.lst ((ts++us).map V.ref))=yH at QB QC EL |-;have YQ:=QB _ _ W7.k (Ne.symm nck);have npk:pp≠kn:=bj EL YQ 0e7;refine⟨pp,U,⟨_,bh.of EL⟩,du (K:=K) (a:=pp) (xs:=(ts++us).map V.ref) (λj σ Kv=>∃(tQ:PP) (w6 w7 w8:Option V),σ=[some (.ref a),some (.ref kl),some (.ref ch),some (.ref kn),some (.int (0+i)),some (.ref t'),w6,w7,w8,none,none,none,none,none,none,none,none]/\Kv=upd yH kn (.dK tQ)/\(tQ.map 1e4).Nodup/\Hc H7 tQ/\(∀x∈kk.map (·.1),x∈tQ.map 1e4)/\(∀z∈(c.1++c.2).take j,tk z∈tQ.map 1e4)/\tQ.length<=kk.length+j) ⟨kk,_,_,_,U,(cH YQ).symm,W7.nd,W7.e,(λx hx=>hx),(λz hz=>by cases hz),le_refl _⟩ (λj σ Kv _ ⟨_,_,_,_,_,z,_⟩=>by rw[z];exact bh.of (by rw[ah npk];exact EL)) ?_ ?_⟩
     ·rintro j x σ Kv hj ⟨tQ,w6,w7,w8,rfl,rfl,G',hE,hold,gy,vY⟩;rw[getElem?_map] at hj;obtain⟨u,Ki,rfl⟩:=gMp hj;obtain⟨z,hz,d,Dz,OH,hd,hCt⟩:=bc hP2 Ki
      have hjl:j<8:=by
       have h1:=(List.getElem?_eq_some_iff.mp hz).1;have h2:(c.1++c.2).length=c.1.length+c.2.length:=length_append;omega
      have Nv:cz z.2:=by
       rcases mem_append.mp (mem_of_getElem? hz) with m|m
       ·exact(hG.1.2.2.1 z m).2.2
       ·exact(hG.1.2.2.2.1 z m).2.2
      have hu11:(upd yH kn (.dK tQ)) u=some (.tup [.int z.1, .str ⟨(fL z.2).toArray⟩, .ref d]):=by
       rw[ah (bj OH W7.k 0e7)];exact QB _ _ OH (bj OH W7.c 0e7)
      refine⟨u,_,U,gE.of hu11,U,_,_,U,_,_,U,_,_,U,U,?_⟩;have hlp:(putK tQ (tk z) (.ref d)).length<=tQ.length+1:=cE _ _ _;refine⟨_,U,_,U,_,U,kn,_,U,iU.k (k:=tk z) ag 0e1,?_⟩;refine⟨putK tQ (tk z) (.ref d),_,_,_,U,by rw[gI],ma G',λq hq=>?_,λx hx=>nH (hold x hx),λy hy=>?_,by omega⟩
      ·rcases qz hq with hq|hq
       ·exact hE q hq
       ·exact⟨z.2,d,Dz,hq,Nv,hd,hCt⟩
      ·rw[take_snoc hz] at hy;rcases mem_append.mp hy with m|m
       ·exact nH (gy y m)
       ·rw[mem_singleton.mp m];exact yl _ _ _
     ·rintro σ Kv ⟨tQ,w6,w7,w8,rfl,rfl,G',hE,hold,gy,vY⟩;rw[length_map,Ul] at vY gy;rw[take_length] at gy;have hl8:(c.1++c.2).length<=8:=by rw[length_append];exact h8
      refine⟨cl++[t'],cs++[c],tQ,_,_,_,_,_,U,W7.more hG hT (by rw[ah nck];exact QC) ag (λb o z n1 n2=>by rw[ah n2];exact QB _ _ z n1) G' hE hold gy,by rw[length_append,Nw];rfl,by omega,λb o z=>?_⟩;rw[ah (af z nkn)];exact QB _ _ (e17 _ _ z) (af z CY)
   ·rintro σ H' ⟨cl,cs,kk,v4,v5,v6,v7,v8,rfl,W,Nw,TN,e'⟩;exact hN _ _ ⟨cl,cs,kk,v4,v5,v6,v7,v8,rfl,W,by omega,by omega,by omega,e'⟩
  ·rintro σ' H4 ⟨cl,cs,kk,v4,v5,v6,v7,v8,rfl,W,hc1,hc4,hkk,e4⟩;clear W3 Uj Uk s3;have hS4:=e4.seq hS1;have YR:=e4 _ _ nC;refine⟨_,_,U,U,⟨by decide,by decide,by decide⟩,(by show 4<=sizeLine;decide),λpm npm=>?_⟩;have s5:=au.new (o:= .lst [V.int 61,V.int 61,V.int 61,V.int (10^(60 :Int).toNat)]) npm;refine⟨_,U,a,ns,_,U,s5.seq hS4,λn1 H5 e5=>?_⟩;obtain⟨wv,hw,yp⟩:=l7 (xs:=[V.int 61,V.int 61,V.int 61,V.int (10^(60 :Int).toNat)]) (i:=n1/4%4) 0e1 (by show n1/4%4<4;omega)
   obtain⟨mo,rfl,m0⟩:∃mo:Int,wv= .int mo/\0<mo:=by
    simp only [mem_cons,not_mem_nil,or_false] at hw;rcases hw with rfl|rfl|rfl|rfl<;>exact⟨_,U,by decide⟩
   refine⟨_,_,U,U,⟨by decide,by decide⟩,_,_,U,U,(by show (0 :Int) <4;decide),pm,_,_, .int mo,U,U,bh.of (e5 _ _ ag),yp,?_⟩;have M5:=s5.trans e5;refine λam nam=>?_;have s6:=M5.trans (au.new (o:= .dK []) nam);have Uo:(upd H5 am (.dK [])) am=some (.dK []):=ag;have Up:H4 am=none:=none_back M5 nam;generalize upd H5 am (.dK [])=H6 at s6 Uo |-;clear s5 e5 M5 nam npm yp hw;have W6:=W.same s6;have nka:kn≠am:=af W.k Up;dsimp only [bL];refine i5 (fun σ' H'=>∃(kvs:PP) (v7 v11:Option V),σ'=[some (.ref a),some (.ref kl),some (.ref ch),some (.ref kn),v4,v5,v6,v7,v8,some (.int mo),some (.ref am),v11,none,none,none,none,none]/\H' am=some 2e2/\Qw kvs/\kvs.map 1e4=kk.map 1e4/\au H4 H') (λN hN=>?_) ?_
   ·refine⟨_,U,kn,kk,U, .inl W6.k,λlk QD=>?_⟩;have s7:=au.new (o:= .lst (kk.map λq=>kV q.1)) QD;have YS:(upd H6 lk (.lst (kk.map λq=>kV q.1))) lk=some (.lst (kk.map λq=>kV q.1)):=ag;generalize upd H6 lk (.lst (kk.map λq=>kV q.1))=H7 at s7 YS |-;refine⟨_,U,a,ns,_,U,(s6.trans s7).seq hS4,λn7 H8 e8=>⟨_,U,kn,kk,U, .inl ((s7.trans e8) _ _ W6.k),n7,_,U,by omega,by omega,λsl xs H9 pT hxm O2 NC e9=>?_⟩⟩;have QE:=e8.trans e9;have Uq:=QE _ _ YS;have CQ:=s7.trans QE;have uH:=CQ _ _ Uo;have nla:lk≠am:=bj Uq uH 0e7;have nsa:sl≠am:=bj NC uH 0e7;refine⟨lk,sl,U,⟨_,bh.of Uq⟩,⟨_,bh.of NC⟩,Ms (K:=K) (a:=lk) (c:=sl) (xs:=kk.map λq=>kV q.1) (zs:=xs.map V.int) (λi σ H'=>∃(kvs:PP) (v7 v11:Option V),σ=[some (.ref a),some (.ref kl),some (.ref ch),some (.ref kn),v4,v5,v6,v7,v8,some (.int mo),some (.ref am),v11,none,none,none,none,none]/\H' am=some 2e2/\aY kvs/\(∀k,0<=aG kvs k)/\kvs.map 1e4=(kk.take i).map 1e4/\∀b o,H9 b=some o->b≠am->H' b=some o) ⟨[],_,_,U,uH,(λp hp=>by cases hp),(λk=>Int.le_refl _),U,λb o z _=>z⟩ (λi σ H' ⟨_,_,_,_,_,_,_,_,z⟩=>⟨bh.of (z _ _ Uq nla),bh.of (z _ _ NC nsa)⟩) ?_ ?_⟩
    ·rintro i x z p σ H' hx hz np ⟨kvs,v7,v11,rfl,O3,hI,hnn,yu,k'⟩;rw[getElem?_map] at hx hz
     obtain⟨qq,hqi,rfl⟩:∃q,kk[i]? =some q/\x=kV q.1:=by
      cases hh:kk[i]? with
      |none=>rw[hh] at hx;cases hx
      |some m=>rw[hh] at hx;exact⟨m,U,(Option.some.inj hx).symm⟩
     obtain⟨y,hyi,rfl⟩:=gMp hz;have hy:=hxm y (mem_of_getElem? hyi);have YT:¬qq.1∈kvs.map 1e4:=by rw[yu];exact take_out W.nd hqi
     have hlv:kvs.length<=32:=by
      have:=congrArg List.length yu;rw[length_map,length_map,length_take] at this;omega
     have Tj:(upd H' p (.tup [kV qq.1, .int y])) am=some 2e2:=by rw[ah (af O3 np)];exact O3
     refine⟨p,_,U,gE.of ag,U,_,_,U,_,_,U,U,?_⟩;have GZ:=hy.1;have hy2:=hy.2;have yy:y*y<2^64:=Int.lt_of_le_of_lt (mul_le_mul 0e1 0e1 GZ 0e2) (show (1999999973 :Int)*1999999973<2^64 by decide);have y0:=mul_nonneg GZ GZ;refine⟨_,U,_,_,U,U, .inl ⟨by omega,by omega⟩,_,U,_,U,_,_,U,U, .inl ⟨by omega,by omega⟩,_,_,U,U,⟨by decide,by decide,by decide⟩,_,_,U,U, .inl ⟨by omega,by omega⟩,_,_,U,U,_,U,_,_,U,U,m0,_,U,_,U,am,_,U,iU.k (k:=qq.1) Tj 0e1,?_⟩;rw[yv YT];have hv0:=emod_nonneg (y*1000003+y*y*10^(40 :Int).toNat) (b:=mo) 0e1;generalize (y*1000003+y*y*10^(40 :Int).toNat) %mo=v at hv0 |-;refine⟨_,_,_,U,ag,λp hp=>?_,λk=>?_,?_,λb o z nb=>?_⟩
     ·rcases mem_append.mp hp with m|m
      ·exact hI p m
      ·rw[mem_singleton.mp m];exact⟨_,U⟩
     ·rw[<-yv YT,dN];split
      ·exact hv0
      ·exact hnn k
     ·rw[take_snoc hqi,map_append,map_append,yu];rfl
     ·rw[ah nb,ah (af (k' _ _ z nb) np)];exact k' _ _ z nb
    ·rintro σ H' ⟨kvs,v7,v11,rfl,O3,hI,hnn,yu,k'⟩
     have em:min (kk.map λq=>kV q.1).length (xs.map V.int).length=kk.length:=by
      rw[length_map,length_map];omega
     rw[em,take_length] at yu;refine hN _ _ ⟨kvs,v7,v11,rfl,O3,⟨hI,by rw[yu];exact W.nd,λq hq=>?_,hnn,?_⟩,yu,λb o z=>k' _ _ ((s6.trans CQ) _ _ z) (af z Up)⟩
     ·have:q.1∈kk.map 1e4:=by rw[<-yu];exact mem_map_of_mem hq
      obtain⟨q2,PJ,e2⟩:=mem_map.mp this;obtain⟨x,_,_,rfl,ok,_⟩:=W.e q2 PJ;exact⟨x,ok,e2.symm⟩
     ·have:=congrArg List.length yu;rw[length_map,length_map] at this;omega
   ·rintro σ' H7 ⟨kvs,v7',v11,rfl,tD,hA,yu,e47⟩;have W7:=W.same e47;have hS7:=e47.seq hS4;have YU:=e47 _ _ YR
    have npa:∀q∈kk,∀p,q.2= .ref p->p≠am:=λq hq p ep=>by
     obtain⟨x,p',D',rfl,_,hp,_⟩:=W.e q hq;have ep:V.ref p'=V.ref p:=ep;injection ep with ep;rw[<-ep];exact af hp Up
    clear W6 W s6 Uo hS4 YR e47 e4;refine⟨(by show 0<=sizeLine;decide),λL nL=>?_⟩;have s8:=au.new (o:= .lst []) nL;have hL8:(upd H7 L (.lst [])) L=some (.lst []):=ag;generalize upd H7 L (.lst [])=H8 at s8 hL8 |-;dsimp only [bL];obtain⟨ms,ems,lms⟩:=O1 ns;have Nw:=Paired.length W7.p;refine i5 (fun σ' H'=>∃(ts:Ix) (rs:List cJ) (G7:Option V),σ'=[some (.ref a),some (.ref kl),some (.ref ch),some (.ref kn),v4,v5,v6,v7',v8,some (.int mo),some (.ref am),v11,some (.ref L),G7,none,none,none]/\H' L=some (.lst (ts.map V.ref))/\Paired (OT cs H') ts rs/\(∀r∈rs,t4 (kvs.map 1e4) r)/\(∀r∈rs,∀z∈r.xs++r.ys,z.1<=999)/\rs.length<=6/\au H7 H') (λN hN=>?_) ?_
    ·refine⟨_,U,11,U,17,U,a,_,U,s8.seq hS7,λp np=>?_⟩;rw[ems];have s9:=au.new (o:= .lst (ms.map V.int)) np;have hp9:(upd H8 p (.lst (ms.map V.int))) p=some (.lst (ms.map V.int)):=ag;generalize upd H8 p (.lst (ms.map V.int))=H9 at s9 hp9 |-;have hL9:=s9 _ _ hL8;have npL:p≠L:=λz=>by rw[z,hL8] at np;cases np
     have s79:=s8.trans s9;refine⟨p,U,⟨_,bh.of hp9⟩,du (K:=K) (a:=p) (xs:=ms.map V.int) (λi σ H'=>∃(ts:Ix) (rs:List cJ) (G7:Option V),σ=[some (.ref a),some (.ref kl),some (.ref ch),some (.ref kn),v4,v5,v6,v7',v8,some (.int mo),some (.ref am),v11,some (.ref L),G7,none,none,none]/\H' L=some (.lst (ts.map V.ref))/\Paired (OT cs H') ts rs/\(∀r∈rs,t4 (kvs.map 1e4) r)/\(∀r∈rs,∀z∈r.xs++r.ys,z.1<=999)/\rs.length=i/\∀b o,H9 b=some o->b≠L->H' b=some o) ⟨[],[],_,U,hL9, .nil,(λr hr=>by cases hr),(λr hr=>by cases hr),U,λb o z _=>z⟩ (λi σ H' _ ⟨_,_,_,_,_,_,_,_,_,z⟩=>bh.of (z _ _ hp9 npL)) ?_ ?_⟩
     ·rintro i x σ H' hi ⟨ts,rs,G7,rfl,tV,hP,hR,VE,hl,k'⟩
      obtain⟨cell,rfl⟩:∃c:Int,x=V.int c:=by
       rw[getElem?_map] at hi
       cases hm:ms[i]? with
       |none=>rw[hm] at hi;cases hi
       |some k=>rw[hm] at hi;exact⟨k,(Option.some.inj hi).symm⟩
      have zm:i<6:=by
       have:=(List.getElem?_eq_some_iff.mp hi).1;rw[length_map] at this;omega
      have fP:=Paired.length hP;have YV:H' ch=some (.lst (cl.map V.ref)):=k' _ _ (s79 _ _ W7.c) (af W7.c nL);have hlc:(0 :Int) < ((cl.map V.ref).length:Nat):=by rw[length_map];omega
      have hlc2:(((cl.map V.ref).length:Nat):Int) <18446744073709551616:=by rw[length_map];omega
      have hk0:=emod_nonneg cell (b:=(((cl.map V.ref).length:Nat):Int)) 0e1;have VF:=emod_lt_of_pos cell hlc;refine⟨_,U, .inl ⟨U,_,bh.of tV⟩,_,U,_,U,ch,_,U, .inl (bh.of YV),_,_,U,U,hlc,_,U,_,U,ch,_,U, .inl (bh.of YV),_,_,U,U,⟨hlc,hlc2⟩,_,_,U,U,(by show (0 :Int) <4;decide),1e2,λt nt=>?_⟩;obtain⟨k,ek⟩:=eq_ofNat_of_zero_le hk0;have nC:k<cs.length:=by rw[ek,length_map] at VF;omega
      rw[ek];have Fg:=au.new (o:= .tup [.int (k:Nat), .int (cell/((cl.map V.ref).length:Nat) %4)]) nt;have Ku:(upd H' t (.tup [.int (k:Nat), .int (cell/((cl.map V.ref).length:Nat) %4)])) t=some (.tup [.int (k:Nat), .int (cell/((cl.map V.ref).length:Nat) %4)]):=ag;have m0':0<=cell/((cl.map V.ref).length:Nat) %4:=emod_nonneg _ 0e2
      have m3':cell/((cl.map V.ref).length:Nat) %4<=3:=by
       have:=emod_lt_of_pos (cell/((cl.map V.ref).length:Nat)) (b:=4) 0e2;omega
      generalize cell/((cl.map V.ref).length:Nat) %4=mm at Fg Ku m0' m3' |-;generalize upd H' t (.tup [.int (k:Nat), .int mm])=yH at Fg Ku |-;refine⟨L,_, .ref t,U,U,Fg _ _ tV,by rw[length_map];omega,?_⟩;have QB:∀b o,yH b=some o->b≠L->(upd yH L (.lst (ts.map V.ref++[V.ref t]))) b=some o:=λb o z n=>by rw[ah n];exact z
      have kR:∀{u:Py} {r:cJ},OT cs yH u r->OT cs (upd yH L (.lst (ts.map V.ref++[V.ref t]))) u r:=fun {u r} z=>by
       obtain⟨k,h1,h2⟩:=z;exact⟨k,QB _ _ h1 (bj h1 (Fg _ _ tV) 0e7),h2⟩
      have hcm:=getElem_mem nC;have YD:cs[k]? =some (cs[k].1,cs[k].2):=getElem?_eq_getElem nC;have hG:=W7.g _ hcm;have E7:=W7.all _ hcm;refine⟨ts++[t],rs++[⟨cs[k].1,cs[k].2,Txt.join " -> " [tX cs[k].1,tX cs[k].2],mm⟩],_,U,by rw[ag,map_append];rfl,aB (λ_ _ z=>kR z) (bH ⟨k,Ku,YD⟩ (aB (λ_ _ z=>z.same Fg) hP)),λr hr=>?_,λr hr=>?_,by rw[length_append,hl];rfl,λb o z n=>QB _ _ (Fg _ _ (k' _ _ z n)) n⟩
      ·rcases mem_append.mp hr with z|z
       ·exact hR r z
       ·rw[mem_singleton.mp z];exact⟨hG.1,U,Lc λz hz=>by rw[yu];exact E7 z (mem_append_left _ hz),Lc λz hz=>by rw[yu];exact E7 z (mem_append_right _ hz),m0',m3'⟩
      ·rcases mem_append.mp hr with z|z
       ·exact VE r z
       ·rw[mem_singleton.mp z];exact hG.2
     ·rintro σ H' ⟨ts,rs,G7,rfl,tV,hP,hR,VE,hl,k'⟩;rw[length_map] at hl;exact hN _ _ ⟨ts,rs,G7,rfl,tV,hP,hR,VE,by omega,λb o z=>k' _ _ (s79 _ _ z) (af z nL)⟩
    ·rintro σ' H9 ⟨ts,rs,G7,rfl,hL,hP,hR,VE,hl6,QE⟩;have W9:=W7.same QE;have uH:=QE _ _ tD;have hS9:=QE.seq hS7;have YW:=QE _ _ YU;have fP:=Paired.length hP;have hlA:=hA.len
     have QF:∀q∈kvs,∃x,q.1=Sum.inr x/\D8 x:=λq hq=>by
      obtain⟨x,ok,ex⟩:=hA.told q hq;exact⟨_,ex,x,ok,U⟩
     clear W7 hS7 YU hL8 s8 nL QE tD;refine⟨_,U,a,ns,_,U,hS9,λn8 yH Ep=>⟨_,U,L,_,U, .inl (bh.of (Ep _ _ hL)),_,_,U,U,_,_,U,U,(by rw[length_map];omega),?_⟩⟩;have ha0:0<=n8%(((ts.map V.ref).length:Nat)+1):=emod_nonneg _ 0e1;generalize n8%(((ts.map V.ref).length:Nat)+1)=at8 at ha0 |-;obtain⟨i8,rfl⟩:=eq_ofNat_of_zero_le ha0;refine⟨_,U,am,_,U, .inl (Ep _ _ uH),λhd VC=>?_⟩;have G5:=Ep.trans (au.new (o:= .dK kvs) VC);have Lf:(upd yH hd 2e2) hd=some 2e2:=ag;have YX:=none_back Ep VC;generalize upd yH hd 2e2=Kv at G5 Lf |-;clear Ep VC;refine⟨_,U,λst dx VB XZ nds=>?_⟩;have s2:au Kv (upd (upd Kv dx (.own st)) st (.ins St dx [])):=wj (au.refl _) VB XZ;refine⟨st,dx, .ref hd,kvs,U,ag, .inr ⟨hd,U,s2 _ _ Lf⟩,hA.int,hA.nd,QF,by omega,λd g Vn nd ng B9 hSt NH O4 XB=>⟨U,?_⟩⟩;have Cz:au Kv Vn:=λb o z=>XB _ _ (s2 _ _ z) (af z VB);have YY:=none_back G5 VB;have ng9:=none_back (G5.trans s2) ng;have YZ:hd≠d:=af (s2 _ _ Lf) nd;clear XB s2 nd ng VB XZ nds;have G6:=G5.trans Cz;have Ur:=Cz _ _ Lf;refine⟨_,U,λnV jT Lg Y0 nds2=>?_⟩;have s2:au Vn (upd (upd Vn jT (.own nV)) nV (.ins St jT [])):=wj (au.refl _) Lg Y0;refine⟨nV,jT, .ref am,kvs,U,ag, .inr ⟨am,U,s2 _ _ (G6 _ _ uH)⟩,hA.int,hA.nd,QF,by omega,λd2 g2 Vo nd2 ng2 ndg2 Us NJ Ut Vf=>⟨U,1e2,λsl O2=>?_⟩⟩;have NI:au Vn Vo:=λb o z=>Vf _ _ (s2 _ _ z) (af z Lg);obtain⟨dxa,Lh⟩:=hSt;obtain⟨dxb,QG⟩:=Us;have nss:st≠nV:=af Lh Lg;have ngg:g≠g2:=af (s2 _ _ O4) ng2;have Y2:hd≠d2:=af (s2 _ _ Ur) nd2;have QH:=none_back G6 Lg;have Y3:=none_back (G6.trans s2) ng2;clear Vf s2 nd2 ng2 Lg Y0 nds2;have LM:=au.new (o:= .lst [.ref st, .ref nV]) O2;have EM:(upd Vo sl (.lst [.ref st, .ref nV])) sl=some (.lst [.ref st, .ref nV]):=ag;generalize upd Vo sl (.lst [.ref st, .ref nV])=Ou at LM EM |-;have nslg:sl≠g:=λz=>by rw[z] at O2;rw[NI _ _ O4] at O2;cases O2
     have Y4:sl≠g2:=λz=>by rw[z] at O2;rw[Ut] at O2;cases O2
     have Uv:au H9 Ou:=(G6.trans NI).trans LM;have AR:=NI.trans LM;have CT:=AR _ _ Ur;have Li:=AR _ _ Lh;have Y5:=AR _ _ NH;have Uw:=AR _ _ O4;have CU:=LM _ _ QG;have QI:=LM _ _ NJ;have Lj:=LM _ _ Ut;clear Ur Lh NH O4 QG NJ Ut AR LM O2 NI G6 Cz G5 Lf;refine⟨_,U,hd,_,U,iU.k (k:=Sum.inr ("(Zq)9" :Str)) CT 0e1,?_⟩;have k15:∀b o,Ou b=some o->b≠hd->(upd Ou hd (.dK (putK kvs (Sum.inr ("(Zq)9" :Str)) (.int 7)))) b=some o:=λb o z n=>by rw[ah n];exact z
     have CV:(upd Ou hd (.dK (putK kvs (Sum.inr ("(Zq)9" :Str)) (.int 7)))) hd=some (.dK (putK kvs (Sum.inr ("(Zq)9" :Str)) (.int 7))):=ag;have hlp:(putK kvs (Sum.inr ("(Zq)9" :Str)) (.int 7)).length<=kvs.length+1:=cE _ _ _;generalize upd Ou hd (.dK (putK kvs (Sum.inr ("(Zq)9" :Str)) (.int 7)))=Vp at k15 CV |-;generalize putK kvs (Sum.inr ("(Zq)9" :Str)) (.int 7)=kz at CV hlp;obtain⟨q0,r0,hq0⟩:=YO W9 hc1;refine⟨_,U,hd,U, .inl ⟨_, .inl CV⟩,λdp ndp=>?_⟩;have Ux:au H9 Vp:=λb o z=>k15 _ _ (Uv _ _ z) (af z YX);have Lk:hd≠dp:=af CV ndp;have nkd:kn≠dp:=af (Ux _ _ W9.k) ndp;refine⟨_,U,kn,kk,U, .inl (by rw[ah nkd];exact Ux _ _ W9.k),λlk QD=>⟨lk,_,_,kV q0.1,U,U,bh.of ag,by rw[hq0];exact qa (j:=0) rfl,?_⟩⟩;have Yr:dp≠lk:=λz=>by rw[<-z,ag] at QD;cases QD
     refine⟨by rw[ah Yr];exact ag,[(q0.1, .int 1000)],U,(by show 1<=15;decide),?_⟩;have nhl:hd≠lk:=λz=>by rw[<-z,ah Lk,CV] at QD;cases QD
     refine⟨dp,kz,_,U,by rw[ah Lk,ah nhl,ah Lk];exact CV,ag,Lk,?_,?_⟩
     ·show kz.length+1<=sizeLine;omega
     have LN:∀b o,Ou b=some o->b≠hd->(upd (upd (upd (upd Vp dp (.dK [])) lk (.lst (kk.map λq=>kV q.1))) dp (.dK (bD [] [(q0.1, .int 1000)]))) hd (.dK (bD kz (bD [] [(q0.1, .int 1000)])))) b=some o:=λb o z n=>by
      have z1:=k15 _ _ z n;have n1:=af z1 ndp;have z2:(upd Vp dp (.dK [])) b=some o:=by rw[ah n1];exact z1
      rw[ah n,ah n1,ah (af z2 QD)];exact z2
     generalize upd (upd (upd (upd Vp dp (.dK [])) lk (.lst (kk.map λq=>kV q.1))) dp (.dK (bD [] [(q0.1, .int 1000)]))) hd (.dK (bD kz (bD [] [(q0.1, .int 1000)])))=H16 at LN |-;have O5:au H9 H16:=λb o z=>LN _ _ (Uv _ _ z) (af z YX);have AS:=LN _ _ Li (bj Li CT 0e7);have Y6:=LN _ _ Y5 (Ne.symm YZ);have O6:=LN _ _ Uw (bj Uw CT 0e7);have CW:=LN _ _ CU (bj CU CT 0e7);have EN:=LN _ _ QI (Ne.symm Y2);have Ll:=LN _ _ Lj (bj Lj CT 0e7);have EO:=LN _ _ EM (bj EM CT 0e7);clear LN k15 CV Ux Lk nkd Yr nhl ndp QD Li Y5 Uw CU QI Lj EM CT Uv Y2 YZ hlp;refine⟨_,U,sl,_,_, .ref st,U,U,bh.of EO,U,_,U,_,U,_,U,st,d,g,ch,L,am,H9,kvs,cl,ts,cs,rs,U,O5,YY,ng9,⟨_,AS⟩,Y6,O6,uH,hA,W9.c,W9.p,O5 _ _ hL,af hL ng9,hP,hR,VE,by omega,λda W1 gs1 rs1 Tw hSt1 Y7 Y8 Y9 hW1 VG=>?_⟩;refine⟨_,U,d4 ?_⟩;obtain⟨dxc,QJ⟩:=hSt1;have O7:au H9 Tw:=λb o z=>VG _ _ (O5 _ _ z) (af z YY) (af z ng9);have Lm:=VG _ _ CW (Ne.symm nss) (bj CW O6 0e7);have QK:=VG _ _ EN (bj EN AS 0e7) (bj EN O6 0e7);have Ln:=VG _ _ Ll (bj Ll AS 0e7) (Ne.symm ngg);have Lp:=VG _ _ EO (bj EO AS 0e7) nslg;clear VG CW EN Ll EO AS Y6 O6 O5;refine⟨_,U,sl,_,_, .ref nV,U,U,bh.of Lp,U,_,U,_,U,_,U,_,U,L,_,U,bh.of (O7 _ _ hL),λp1 np1=>?_⟩;rw[HV,<-List.map_drop];have Ox:=au.new (o:= .lst ((ts.drop i8).map V.ref)) np1;have Uy:(upd Tw p1 (.lst ((ts.drop i8).map V.ref))) p1=some (.lst ((ts.drop i8).map V.ref)):=ag;generalize upd Tw p1 (.lst ((ts.drop i8).map V.ref))=H18 at Ox Uy |-;refine⟨_,U,_,U,_,U,L,_,U,bh.of (Ox _ _ (O7 _ _ hL)),λp2 np2=>?_⟩;rw[HU,<-map_take];have Qm:=au.new (o:= .lst ((ts.take i8).map V.ref)) np2;have Uz:(upd H18 p2 (.lst ((ts.take i8).map V.ref))) p2=some (.lst ((ts.take i8).map V.ref)):=ag;generalize upd H18 p2 (.lst ((ts.take i8).map V.ref))=H19 at Qm Uz |-;have uc:(ts.drop i8).length+(ts.take i8).length=ts.length:=by rw[length_drop,length_take];omega
     refine⟨p1,p2,_,_,U,U,Qm _ _ Uy,Uz,by rw[length_map,length_map];omega,λp3 np3=>?_⟩;rw[<-map_append];have Lq:=(Ox.trans Qm).trans (au.new (o:= .lst ((ts.drop i8++ts.take i8).map V.ref)) np3);have UA:(upd H19 p3 (.lst ((ts.drop i8++ts.take i8).map V.ref))) p3=some (.lst ((ts.drop i8++ts.take i8).map V.ref)):=ag;have np3g:p3≠g2:=Ne.symm (af ((Ox.trans Qm) _ _ Ln) np3);generalize upd H19 p3 (.lst ((ts.drop i8++ts.take i8).map V.ref))=H20 at Lq UA |-;have UB:=O7.trans Lq;have Lr:=Lq _ _ QJ;have O8:=Lq _ _ Y7;have UC:=Lq _ _ Y8;have QL:Paired (cj H20) gs1 rs1:=aB (λa b (z:cj Tw a b)=>(Lq _ _ z:cj _ a b)) Y9;have o7:=Lq _ _ Lm;have QM:=Lq _ _ QK;have AU:=Lq _ _ Ln;have Ls:=Lq _ _ Lp;clear QJ Y7 Y8 Y9 Lm QK Ln Lp Lq Qm Ox Uy Uz np1 np2 np3 O7 uc;have ip:∀r∈rs.drop i8++rs.take i8,t4 (kvs.map 1e4) r:=λr hr=>hR r (by rcases mem_append.mp hr with z|z;exact mem_of_mem_drop z;exact mem_of_mem_take z);have pM:(rs.drop i8++rs.take i8).length=rs.length:=by rw[length_append,length_drop,length_take];omega
     have PK:∀k,mr rs k=mr (rs.drop i8++rs.take i8) k:=λk=>by
      have e:=EE (rs.take i8) (rs.drop i8) k;rw[take_append_drop] at e;rw[EE,e];omega
     refine⟨_,U,nV,d2,g2,ch,p3,am,H9,kvs,cl,_,cs,rs.drop i8++rs.take i8,U,UB,QH,Y3,⟨_,o7⟩,QM,AU,uH,hA,W9.c,W9.p,UA,np3g,jI (pA i8 hP) (pz i8 hP),ip,λr hr=>VE r (by rcases mem_append.mp hr with z|z;exact mem_of_mem_drop z;exact mem_of_mem_take z),by omega,λdb W2 gs2 rs2 H21 Us QN Y' hPg2 hW2 UD=>?_⟩;refine⟨_,U,d4 ?_⟩;obtain⟨dxd,tS⟩:=Us;have e921:au H9 H21:=λb o z=>UD _ _ (UB _ _ z) (af z QH) (af z Y3);have tT:=UD _ _ Lr nss (bj Lr AU 0e7);have UE:=UD _ _ O8 (bj O8 o7 0e7) (bj O8 AU 0e7);have hg21:=UD _ _ UC (bj UC o7 0e7) ngg;have Za:Paired (cj H21) gs1 rs1:=aB (λa b (z:cj H20 a b)=>(UD _ _ z (bj z o7 0e7) (bj z AU 0e7):cj _ a b)) QL;have tU:=UD _ _ Ls (bj Ls o7 0e7) Y4;clear UD Lr O8 UC QL Ls o7 QM AU UB UA;obtain⟨SS,VF,hT1,hn1⟩:=hW1.ok hA hR;obtain⟨Jz,hk2,hT2,C6⟩:=hW2.ok hA ip;have UG:(W1.map 1e4).Nodup:=by rw[VF];exact hA.nd
     have hnd2:(W2.map 1e4).Nodup:=by rw[hk2];exact hA.nd
     have uc:W1.length<=900:=by
      have:=congrArg List.length VF;rw[length_map,length_map] at this;omega
     have hl2':W2.length<=900:=by
      have:=congrArg List.length hk2;rw[length_map,length_map] at this;omega
     dsimp only [Hj];refine i5 (fun σ' H'=>σ'=[some (.ref a),some (.ref kl),some (.ref ch),some (.ref kn),v4,v5,v6,v7',v8,some (.int mo),some (.ref am),v11,some (.ref L),G7,some (.int i8),some (.ref hd),some (.ref sl)]/\au H21 H') (λN hN=>?_) ?_
     ·refine⟨_,U,sl,_,_, .ref st,U,U,bh.of tU,U,st,dxc,_,U,tT,fU _ _ 0e4 0e4,st,da,g,gs1,rs1,U,⟨_,tT⟩,hg21,Za,by omega,λL1 us1 H22 nL1 hL1 hPu1 VH=>⟨L1,_,U, .inl (bh.of hL1),?_⟩⟩;refine⟨_,U,sl,_,_, .ref nV,U,U,bh.of (VH _ _ tU),U,nV,dxd,_,U,VH _ _ tS,fU _ _ 0e4 0e4,nV,db,g2,gs2,rs2,U,⟨_,VH _ _ tS⟩,VH _ _ Y',aB (λa b (z:cj H21 a b)=>(VH _ _ z:cj _ a b)) hPg2,by omega,λL2 us2 H23 nL2 vC La e23=>⟨L2,_,U, .inl (bh.of vC),?_⟩⟩;have wo:=VH.trans e23;refine⟨U,_,U,fJ (λec=>?_) λ_=>d4 (hN _ _ ⟨U,wo⟩)⟩
      have el:rs1.length=rs2.length:=by
       have h1:=Paired.length hPu1;have h2:=Paired.length La;simp at ec;omega
      have eW:=hW1.same hA hR ip pM.symm PK hW2 el;subst eW;have fl:ph (jK W1):=λp' zj=>by obtain⟨i,e⟩:=SS p' (mem_filter.mp zj).1;rw[e];rfl
      have hnp:((jK W1).map 1e4).Nodup:=UG.sublist (filter_sublist.map _);refine⟨_,U,sl,_,_, .ref st,U,U,bh.of (wo _ _ tU),U,st,dxc,_,U,wo _ _ tT,fU _ _ 0e4 0e4,st,da,g,W1,U,⟨_,wo _ _ tT⟩,wo _ _ UE,SS,UG,uc,λua H24 nua hua e24=>?_⟩;have AV:=wo.trans e24;refine⟨_,U,sl,_,_, .ref nV,U,U,bh.of (AV _ _ tU),U,nV,dxd,_,U,AV _ _ tS,fU _ _ 0e4 0e4,nV,db,g2,W1,U,⟨_,AV _ _ tS⟩,AV _ _ QN,SS,UG,uc,λub H25 nub YJ e25=>?_⟩;refine⟨ua,ub,_,_,U,U, .inl (e25 _ _ hua), .inl YJ,fl,fl,λ_ _=>?_⟩;rw[q9 hnp fl];exact⟨_,U,d4 (hN _ _ ⟨U,AV.trans e25⟩)⟩
     ·rintro σ' H26 ⟨rfl,Zb⟩;refine⟨_,U,sl,_,_, .ref st,U,U,bh.of (Zb _ _ tU),U,st,dxc,_,U,Zb _ _ tT,fU _ _ 0e4 0e4,st,da,g,"(Zq)9",W1,U,⟨_,Zb _ _ tT⟩,Zb _ _ UE,SS,⟨_,QA,YN⟩,λH27 e27=>?_⟩;rw[fX (by rw[VF,yu];exact Ug W9.e)];refine⟨U,_,U,d4 ?_⟩;have AW:=Zb.trans e27;have O9:=e921.trans AW;have W27:=W9.same O9;have lks:=Ld ux;refine⟨_,U,sl,_,_, .ref st,U,U,bh.of (AW _ _ tU),U,_,U,_,U,_,U,st,da,g,kl,kn,am,ks,W1,kvs,kk,U,O9 _ _ YW,lks,⟨_,AW _ _ tT⟩,AW _ _ UE,SS,VF,hT1,O9 _ _ uH,hA,⟨W27.k,W27.nd,W27.e⟩,yu.symm,nka,npa,λH28 e28=>⟨_,U,je ?_⟩⟩;have Lu:=AW.trans e28;have Zc:=O9.trans e28;have W28:=W27.same e28;exact⟨_,U,sl,_,_, .ref nV,U,U,bh.of (Lu _ _ tU),U,_,U,_,U,_,U,nV,db,g2,kl,kn,am,ks,W2,kvs,kk,U,Zc _ _ YW,lks,⟨_,Lu _ _ tS⟩,Lu _ _ QN,Jz,hk2,hT2,Zc _ _ uH,hA,⟨W28.k,W28.nd,W28.e⟩,yu.symm,nka,npa,λH29 e29=>q _⟩
end
def all_mk{l:PySem.W.OpenLaw}{w:World}{K:Uu}{h:Heap}{mg:Wp}{fa C Gr Pc Fo Rd Rc Ch St HE Sh UH:Py}{Zd QO:UF}{Ze:Array (Option Value)}{Zf QP QQ QR Lv QS:Ps}{uK uN uB uE uM uC uP uI uD uL uT fG fH fI uG uS:Tok}(X:K.In h)(G:h.Ns mainGlobals mg)(hfa:mg "law" =some (.ref fa))
  (aC:mg "Atom" =some (.ref C))
  (aGr:mg "Group" =some (.ref Gr))
  (aPc:mg "Piece" =some (.ref Pc))
  (aFo:mg "Formula" =some (.ref Fo))
  (aRd:mg "Reader" =some (.ref Rd))
  (aRc:mg "ChangeReader" =some (.ref Rc))
  (aCh:mg "Change" =some (.ref Ch))
  (aSt:mg "Store" =some (.ref St))
  (aHE:mg "HallError" =some (.ref HE))
  (aSh:mg "Short" =some (.ref Sh))
  (T:jW K mg C Rd Gr Pc Fo uK uN uB uE uM uC uP uI uD uL uT)
  (TH:Jt K mg C Rc Gr Pc Fo Ch uK uN uB uE uM uC uP uI uD uL uT fG fH fI)
  (TK:oO K mg C Rc Gr Pc Fo Ch uK uN uB uE uM uC uP uI uD uL uT fG fH fI uG uS)
  (TL:Nn K mg C Rc Gr Pc Fo Ch uK uN uB uE uM uC uP uI uD uL uT fG fH fI)
  (TM:X3 K mg C Rc Gr Pc Fo Ch uK uN uB uE uM uC uP uI uD uL uT fG fH fI uG uS)
  (TO:XW K mg C Rc Gr Pc Fo Ch St uK uN uB uE uM uC uP uI uD uL uT fG fH fI uG uS)
  (TS:sX K mg C Rd Gr Pc Fo St uK uN uB uE uM uC uP uI uD uL uT)
  (TF:Xu K mg C Rd Gr Pc Fo uK uN uB uE uM uC uP uI uD uL uT)
  (TE:N0 K mg HE Sh)
  (Zg:Def K mg "is_great" "is_great" BK ["sign"])
  (Zh:Def K mg "is_small" "is_small" BL ["sign"])
  (Zi:Def K mg "is_figure" "is_figure" xf ["sign"])
  (Zj:Def K mg "count_shown" "count_shown" km ["count"])
  (Zk:Def K mg "parts_shown" "parts_shown" mR ["parts"])
  (UI:j8 K C "Atom.__init__" IF ["self","kind","count"] [1])
  (Zl:a9 K C "shown" "Atom.shown" BM 1e1)
  (Zm:j8 K Gr "Group.__init__" BN ["self","parts","count"] [1])
  (Zn:a9 K Gr "shown" "Group.shown" mS 1e1)
  (Zo:j8 K Pc "Piece.__init__" BO ["self","parts","count"] [1])
  (Zp:a9 K Pc "shown" "Piece.shown" kr 1e1)
  (Zq:Def K mg "refuse_too_long" "refuse_too_long" rF ["text"])
  (Zr:Def K mg "charge_shown" "charge_shown" jj ["charge"])
  (Zs:j8 K Fo "Formula.__init__" BP ["self","pieces","charge"] [0])
  (Zt:a9 K Fo "shown" "Formula.shown" qg 1e1)
  (Zu:j8 K Rd "Reader.__init__" xh ["self","text"] [])
  (Zv:j8 K Rc "Reader.__init__" xh ["self","text"] [])
  (Zw:a9 K Rd "sign" "Reader.sign" Dt 1e1)
  (Zx:a9 K Rc "sign" "Reader.sign" Dt 1e1)
  (Zy:a9 K Rd "take" "Reader.take" Du ["self","sign"])
  (Zz:a9 K Rc "take" "Reader.take" Du ["self","sign"])
  (ZA:a9 K Rd "take_all" "Reader.take_all" mT ["self","signs"])
  (ZC:a9 K Rc "take_all" "Reader.take_all" mT ["self","signs"])
  (ZD:a9 K Rd "take_end" "Reader.take_end" rH 1e1)
  (ZE:a9 K Rd "read_whole" "Reader.read_whole" qh 1e1)
  (ZF:a9 K Rc "read_whole" "Reader.read_whole" qh 1e1)
  (ZG:a9 K Rd "read_electron" "Reader.read_electron" jk 1e1)
  (ZH:a9 K Rc "read_electron" "Reader.read_electron" jk 1e1)
  (UJ:a9 K Rd "read_parts" "Reader.read_parts" mU ["self","around"])
  (UK:a9 K Rc "read_parts" "Reader.read_parts" mU ["self","around"])
  (ZI:a9 K Rd "read_part" "Reader.read_part" rJ ["self","around"])
  (ZJ:a9 K Rc "read_part" "Reader.read_part" rJ ["self","around"])
  (ZK:a9 K Rd "read_group" "Reader.read_group" lu ["self","around"])
  (ZL:a9 K Rc "read_group" "Reader.read_group" lu ["self","around"])
  (UL:a9 K Rd "read_atom" "Reader.read_atom" xi 1e1)
  (UM:a9 K Rc "read_atom" "Reader.read_atom" xi 1e1)
  (ZM:a9 K Rd "read_count" "Reader.read_count" qi 1e1)
  (ZN:a9 K Rc "read_count" "Reader.read_count" qi 1e1)
  (ZO:a9 K Rd "read_number" "Reader.read_number" mV ["self","longest"])
  (ZP:a9 K Rc "read_number" "Reader.read_number" mV ["self","longest"])
  (UN:a9 K Rd "read_charge" "Reader.read_charge" mW 1e1)
  (UO:a9 K Rc "read_charge" "Reader.read_charge" mW 1e1)
  (ZQ:Def K mg "read_formula" "read_formula" oq ["text"])
  (QT:Def K mg "parts_counts" "parts_counts" ko ["parts","times"])
  (ZR:a9 K C "counts" "Atom.counts" xg 1e1)
  (ZS:a9 K Gr "counts" "Group.counts" kq 1e1)
  (ZT:a9 K Pc "counts" "Piece.counts" ji 1e1)
  (ZU:a9 K Fo "counts" "Formula.counts" rG 1e1)
  (ZV:j8 K Ch "Change.__init__" BQ ["self","lefts","rights"] [])
  (ZW:Def K mg "formula_amounts" "formula_amounts" rK ["formula"])
  (ZX:a9 K Ch "kinds" "Change.kinds" BR 1e1)
  (ZY:a9 K Rc "read_term" "ChangeReader.read_term" BS 1e1)
  (UP:a9 K Rc "read_lefts" "ChangeReader.read_lefts" xj 1e1)
  (UQ:a9 K Rc "read_rights" "ChangeReader.read_rights" rL 1e1)
  (UR:a9 K Rc "read_sides" "ChangeReader.read_sides" xk 1e1)
  (Pa:Def K mg "read_change" "read_change" rM ["text"])
  (ZZ:Def K mg "side_counts" "side_counts" ku ["terms"])
  (Z0:Def K mg "gains" "gains" xm ["change"])
  (Z2:Def K mg "side_amounts" "side_amounts" jm ["terms"])
  (Z3:a9 K Ch "lost" "Change.lost" zE 1e1)
  (Z4:Def K mg "read_even" "read_even" ou ["text"])
  (Z5:Def K mg "turns_of" "turns_of" rN ["amount","taken","gain"])
  (Z6:Def K mg "most_turns" "most_turns" gX ["change","amounts"])
  (Z7:Def K mg "turned" "turned" xn ["change","times","amounts"])
  (US:Def K mg "refuse_short" "refuse_short" jo ["change","times","amounts","step"])
  (Lw:ID K mg "Short" Sh HE "Short.__init__" BV ["self","step","turn","formula","lack"])
  (Z8:Iy K St "Store.__init__" BU ["self","amounts"])
  (Z9:a9 K St "have" "Store.have" IG ["self","text"])
  (Z':a9 K St "put" "Store.put" Sk ["self","text","many"])
  (aaa:a9 K St "go_all" "Store.go_all" xo ["self","rows"])
  (aab:a9 K St "stocks" "Store.stocks" qj 1e1)
  (aac:a9 K St "went" "Store.went" Dw 1e1)
  (aad:Def K mg "counts_weight" "counts_weight" sCW ["counts","weights"])
  (aae:a9 K Fo "weight" "Formula.weight" rO ["self","weights"])
  (aaf:a9 K St "total" "Store.total" xq ["self","kind"])
  (aag:Def K mg "_law_here" "_law_here" IH ["_law_script","_law_place"])
  (aah:Def K mg "_law_shaken" "_law_shaken" xr ["_law_cell","_law_many"])
  (aai:Def K mg "_law_kinds" "_law_kinds" xt ["_law_cell"])
  (aaj:Def K mg "_law_num" "_law_num" Sl ["_law_many"])
  (aak:Def K mg "_law_charge" "_law_charge" rP ["_law_charge_here"])
  (aal:Def K mg "_law_formula" "_law_formula" ow ["_law_number","_law_kinds_here"])
  (aam:Def K mg "_law_even" "_law_even" xu ["_law_cell","_law_kinds_here"])
  (aan:Def K mg "_law_line" "_law_line" II ["_law_sides"])
  (aao:Def K mg "_law_step" "_law_step" IJ ["_law_stocks","_law_sides","_law_times","_law_step_here"])
  (aap:Def K mg "_law_plain" "_law_plain" BW ["_law_amounts","_law_changes","_law_row"])
  (aaq:Def K mg "_law_above" "_law_above" BX ["_law_stocks"])
  (aar:Def K mg "_law_gone" "_law_gone" Dv ["_law_store","_law_changes","_law_row","_law_amounts"])
  (aas:Def K mg "_law_totals" "_law_totals" qk ["_law_store","_law_kinds_here","_law_known","_law_amounts"])
  (alaw:mg "law" =some (.ref UH))
  (llaw:K.lookup UH=some ⟨Zf,Zd, .func (fnOf "law" "law" (dJ xp) (b5 xp) (ao xp) .none QP QQ QR QO Lv QS),Ze⟩)
  (claw:PySem.W.codeIn K Lv "law" =true)
  (klaw:keepIn K (.ref UH)=true)
  (aat:mg "zip" =none)
  :∃fd:FuncData,(∀(s:Os) (v:Ps),BindsTo s fd ⟨[v],[]⟩ [("_law_script",v)])/\∀base:Heap,K.In base->base.Ns mainGlobals mg->fO l.prog w K mg base q5 22 fa fd ["_law_script"] (EK K):=by
 have e:=hfa.symm.trans (alaw);cases e;obtain⟨_,_,_,UT,_⟩:=id Lw;have Flaw:=Rz (st:=xp) llaw claw klaw;refine⟨fnOf "law" "law" (dJ xp) (b5 xp) (ao xp) .none QP QQ QR QO Lv QS,λs v=> .of_eq rfl,λbase _ _=>?_⟩;have TA:oA K mg C:=T.tor8.toug.tooA;have Pb:=IX (P:=l.prog) (w:=w) (base:=base) Zg;have aau:=IY (P:=l.prog) (w:=w) (base:=base) Zh;have aav:=FF (P:=l.prog) (w:=w) (base:=base) Zi;have Pd:=sJ (P:=l.prog) (w:=w) (base:=base) Zj TA;have aaw:=M9 (P:=l.prog) (w:=w) (base:=base) UI TA;have q_sh:=Jp Zl TA Pd;have aax:=Jq (P:=l.prog) (w:=w) (base:=base) Zm T;have aay:=Jr (P:=l.prog) (w:=w) (base:=base) Zo T;have Pe:=Js (P:=l.prog) (w:=w) (base:=base) Zs T;have aaz:=Ce (P:=l.prog) (w:=w) (base:=base) Zq T;have q_ri:=zH (P:=l.prog) (w:=w) (base:=base) Zu T.tor8.toug;have GO:=DF (P:=l.prog) (w:=w) (base:=base) Zw T.tor8.toug;have Pf:=DG Zy T.tor8.toug GO;have q_ra:=rY ZA T.tor8.toug Pf;have q_rn:=vw ZO T.tor8.toug GO aav;have Pg:=vy ZM T.tor8.toug q_rn;have aaA:=zJ UL T.tor8.toug GO Pb aau Pg aaw;have aaB:=sk ZK ZI UJ T.tor8 GO Pb aaA Pf Pg aax 2;have aaC:=sv UN T.toXp GO Pf Pg;have q_rl:=nv 2 ZG T q_ra Pe;have q_rw:=vI 2 ZE T GO Pf Pg aaB aaC q_rl aay Pe;have q_re:=B4 (P:=l.prog) (w:=w) (base:=base) ZD T.tor8.toug;have aaD:=zP 2 ZQ TF aaz q_ri q_rw q_re;have q_ps:=vJ Zk Zn T.tor8 q_sh Pd 2;have q_pS:=sH 2 Zp T q_ps Pd;have q_ch:=oM Zr T Pd;have q_fS:=Co 2 Zt T q_pS q_ch;have q_co:=FZ (P:=l.prog) (w:=w) (base:=base) ZR TA;have q_pc:=sP QT ZS T.tor8 q_co 2;have q_pC:=pV 2 ZT T q_pc;have q_pP:=zY 2 QT T q_pC;have UU:=z4 2 ZU T q_pP;have p_ri:=zH (P:=l.prog) (w:=w) (base:=base) Zv TH.tojW.tor8.toug;have GP:=DF (P:=l.prog) (w:=w) (base:=base) Zx TH.tojW.tor8.toug;have Lx:=DG Zz TH.tojW.tor8.toug GP;have UW:=rY ZC TH.tojW.tor8.toug Lx;have aaE:=vw ZP TH.tojW.tor8.toug GP aav;have Ph:=vy ZN TH.tojW.tor8.toug aaE;have aaF:=zJ UM TH.tojW.tor8.toug GP Pb aau Ph aaw;have aaG:=sk ZL ZJ UK TH.tojW.tor8 GP Pb aaF Lx Ph aax 2;have aaH:=sv UO TH.tojW.toXp GP Lx Ph;have p_rl:=nv 2 ZH TH.tojW UW Pe;have p_rw:=vI 2 ZF TH.tojW GP Lx Ph aaG aaH p_rl aay Pe;have q_ci:=Jw (P:=l.prog) (w:=w) (base:=base) ZV TH;have aaI:=JD ZY TK aaE Lx p_rw;have aaJ:=F5 UP TK aaI UW;have aaK:=Cq UQ TK aaI UW;have aaL:=F7 UR TK aaJ aaK q_ci;have UX:=Cu Pa TK aaz p_ri aaL;have UY:=ur ZZ TK q_fS;have aaM:=JJ Z0 TK UY;have q_am:=Cy ZW TH UU;have q_kd:=JQ ZX TL UU;have q_sa:=sV Z2 TL q_am;have q_lo:=NG Z3 TL q_sa q_kd;have q_ev:=Av Z4 TK UX q_lo;have q_to:=CF (P:=l.prog) (w:=w) (base:=base) Z5;have q_mo:=Ob Z6 TM UY aaM q_to;have aaN:=Gk Z7 TK aaM;have aaO:=Ka (P:=l.prog) (w:=w) (base:=base) Lw TE;have aaP:=Gh US TK TE q_mo aaN UY aaO;have aaQ:=Ke aaa TO q_ev aaP aaN;have aaR:=NP Z9 TS aaD;have q_pu:=SW Z' TS aaR;have q_si:=JZ Z8 TS q_pu;have aaS:=Gb (P:=l.prog) (w:=w) (base:=base) aab TS;have aaT:=Kh (P:=l.prog) (w:=w) (base:=base) aac TS;have q_cw:=XM (P:=l.prog) (w:=w) (base:=base) aad;have q_fW:=Ak 2 aae T q_cw UU;have aaU:=J2 aaf TS aaD q_fW;have TG:Tq K mg C:=⟨TA,TS.Al⟩;have q_lh:=Oh (P:=l.prog) (w:=w) (base:=base) aag TG;have UZ:=Gp (P:=l.prog) (w:=w) (base:=base) aah TG;have q_lK:=Gu aai TA UZ;have U0:=Tv (P:=l.prog) (w:=w) (base:=base) aaj TA;have aaV:=CK aak T U0;have q_lf:=Kt aal TA U0 aaV;have q_le:=KG aam TS UZ q_lf U0 aaV;have q_ll:=OD (P:=l.prog) (w:=w) (base:=base) aan TA;have q_ls:=OG (P:=l.prog) (w:=w) (base:=base) aao TA;have q_lp:=K3 aap TS q_ls;have q_la:=KJ (P:=l.prog) (w:=w) (base:=base) aaq;have TY:Ua K mg C Rd Gr Pc Fo St HE Sh uK uN uB uE uM uC uP uI uD uL uT:=⟨TS,TE,IE _,aat⟩;have q_lg:=GF aar TY UT q_ll aaQ q_lp aaS q_la aaT;have q_lT:=GK aas TS aaU;exact Ui Flaw TY q_lh q_lK q_le UZ q_si q_lg aaT aaS aaR q_lT
def walk{l:PySem.W.OpenLaw}{q:Op}{loose:On}{XP:(Str->Option Value)->Heap->Prop}{YP:World->Heap->Prop}{d:DefRec}{K:Params->PySem.W.Frag}(hn:l.most=some 63)(WA:d.params.defaults=[])
  (hY:∀(w:World) (h:Heap),YP w h->(K w.params).In h)
  (F:∀(w:World) (mg:Wp) (fa:Py) (h:Heap),(K w.params).In h->h.Ns mainGlobals mg->mg d.name=some (.ref fa)->
   ∃fd:FuncData,(∀(s:Os) (u:Ps),BindsTo s fd ⟨[u],[]⟩ [("_law_script",u)])/\∀base:Heap,(K w.params).In base->base.Ns mainGlobals mg->fO l.prog w (K w.params) mg base q5 22 fa fd ["_law_script"] (EK (K w.params))):
  PySem.W.WalkO q loose XP YP l.row.toRowW d [] (λf vs=>PySem.call f vs):=
 L2.Md (n:=63) (k:=22) (x:="_law_script") (CX:=λ_=>q5) (sp:=λw=>EK (K w.params)) hn 0e2 WA ⟨rfl,by decide,by decide⟩ hY F (λ_ _ a ns hl _ hS=>⟨a,ns,rfl,hS,hl,λ_=>rfl⟩) λ_ _ _ _ _ z=>z
end K83
open PySem PySem.W PyProof.Rows
set_option maxRecDepth 100000 in
set_option maxHeartbeats 0 in
theorem PySem.Challenge.cw_balancehall_k83_whole_rows_of_changes_holds : PySem.Challenge.rw_balancehall_k83_whole_rows_of_changes.Holds := by
 refine PySem.Challenge.hd ?_
 k_fill
 refine K83.walk (l:=PySem.Challenge.rw_balancehall_k83_whole_rows_of_changes) rfl rfl (fun w h Y=>Y) ?F
 case F=>
  intro w mg fa h KX G WB
  apply K83.all_mk KX G WB
  all_goals repeat' first|k_is|exact PySem.W.mg_of KX G (by k_is) |exact PySem.W.mg_none_of KX G (by k_is) |exact(show PySem.W.findIn _ (.ref _) _=some none by k_is) |exact L2.zr|exact L2.mK|exact L2.Xh KX G (by k_is) ⟨⟨_,⟨⟨_,_,_,_,_,_,_,_,_,rfl,by k_is,by k_is⟩,by k_is⟩⟩,by k_is⟩ (by first|exact L2.ba1 fun _ _ _ _ _ _ _=>rfl|exact L2.ba2 fun _ _ _ _ _ _ _ _=>rfl|exact L2.ba3 fun _ _ _ _ _ _ _ _ _=>rfl|exact L2.ba4 fun _ _ _ _ _ _ _ _ _ _=>rfl|exact L2.ba5 fun _ _ _ _ _ _ _ _ _ _ _=>rfl) |exact L2.Xi (by k_is) ⟨⟨_,⟨⟨_,_,_,_,_,_,_,_,_,rfl,by k_is,by k_is⟩,by k_is⟩⟩,by k_is⟩ (by first|exact L2.ba1 fun _ _ _ _ _ _ _=>rfl|exact L2.ba2 fun _ _ _ _ _ _ _ _=>rfl|exact L2.ba3 fun _ _ _ _ _ _ _ _ _=>rfl|exact L2.ba4 fun _ _ _ _ _ _ _ _ _ _=>rfl|exact L2.ba5 fun _ _ _ _ _ _ _ _ _ _ _=>rfl) |exact L2.Xj (by k_is) (by k_is) (by k_is) ⟨⟨_,⟨⟨_,_,_,_,_,_,_,_,_,rfl,by k_is,by k_is⟩,by k_is⟩⟩,by k_is⟩ (by first|exact L2.ba1 fun _ _ _ _ _ _ _=>rfl|exact L2.ba2 fun _ _ _ _ _ _ _ _=>rfl|exact L2.ba3 fun _ _ _ _ _ _ _ _ _=>rfl|exact L2.ba4 fun _ _ _ _ _ _ _ _ _ _=>rfl|exact L2.ba5 fun _ _ _ _ _ _ _ _ _ _ _=>rfl) |exact L2.Xk ⟨⟨_,_,_,_,_,_,_,_,_,_,_,_,_,_,by k_is⟩,by k_is,by k_is,by k_is,by k_is,by k_is⟩ (PySem.W.mg_of KX G (by k_is)) (by k_is) ⟨⟨_,⟨⟨_,_,_,_,_,_,_,_,_,rfl,by k_is,by k_is⟩,by k_is⟩⟩,by k_is⟩ (by first|exact L2.ba1 fun _ _ _ _ _ _ _=>rfl|exact L2.ba2 fun _ _ _ _ _ _ _ _=>rfl|exact L2.ba3 fun _ _ _ _ _ _ _ _ _=>rfl|exact L2.ba4 fun _ _ _ _ _ _ _ _ _ _=>rfl|exact L2.ba5 fun _ _ _ _ _ _ _ _ _ _ _=>rfl) |exact L2.Sj (by k_is) (by k_is) (by k_is) (by k_is) (by k_is) (by k_is) (by k_is) (by k_is) (fun _ _ _ _ _ _ _ _ _=>⟨_,rfl,rfl⟩) (fun _ _ _ _ _ _ _ _ _ _=>⟨_,rfl,rfl⟩) |exact L2.Xl (by k_is) (by k_is) (by k_is) (by k_is) (by k_is) (by k_is) (by k_is) (by k_is) (fun _ _ _ _ _ _ _ _=>⟨_,rfl,rfl⟩) (fun _ _ _ _ _ _ _ _ _=>⟨_,rfl,rfl⟩) |exact⟨_,_,_,_,_,_,_,_,_,_,_,_,_,_,_,_,_,by k_is,by decide+kernel⟩ |exact⟨_,_,_,_,_,_,_,_,_,_,_,_,_,_,by k_is⟩ |constructor
