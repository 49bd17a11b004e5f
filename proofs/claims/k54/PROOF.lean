import PyProof.Rows.All
import Wide.All
import OpenK.AllK
import Wide.FinOn
import Lean
import PyProof.EqAt
import PyProof.EqKinds
import PyProof.TupleCall
import PySem.Challenge.RW_balancehall_k54_rows_go_or_stay
set_option Elab.async false
set_option linter.all false
set_option maxRecDepth 100000
namespace Tq
open PySem PySem.W
def pkO : Obj → Option Obj
  | ⟨_, _, .freed, _⟩ => none
  | o => some o
def pk : List Obj → Nat → List Nat → List (Option Obj)
  | [], _, _ => []
  | o :: os, i, as => match as with
    | [] => []
    | a :: r => match Nat.beq a i with
      | true => pkO o :: pk os (i + 1) r
      | false => pk os (i + 1) as
theorem pk_ok : ∀ (l : List Obj) (i : Nat) (as : List Nat), (pk l i as).length = as.length → ∀ p ∈ as.zip (pk l i as), i ≤ p.1 ∧ (l[p.1 - i]?).bind pkO = p.2
  | [], _, as, h, p, m => by
    cases as with
    | nil => cases m
    | cons a r => cases h
  | o :: os, i, [], _, p, m => by cases m
  | o :: os, i, a :: r, h, p, m => by
    have step : ∀ {q : Nat × Option Obj}, i + 1 ≤ q.1 ∧ (os[q.1 - (i + 1)]?).bind pkO = q.2 → i ≤ q.1 ∧ ((o :: os)[q.1 - i]?).bind pkO = q.2 := by
      intro q z
      have e : q.1 - i = q.1 - (i + 1) + 1 := by omega
      rw [e, List.getElem?_cons_succ]
      exact ⟨by omega, z.2⟩
    unfold pk at h m
    cases c : Nat.beq a i with
    | true =>
      have e := Nat.eq_of_beq_eq_true c
      subst e
      simp only [c] at h m
      rw [List.zip_cons_cons] at m
      cases m with
      | head => exact ⟨Nat.le_refl _, by simp⟩
      | tail _ m => exact step (pk_ok os (a + 1) r (by simpa using h) p m)
    | false =>
      simp only [c] at h m
      exact step (pk_ok os (i + 1) (a :: r) h p m)
theorem get_pk (h : Heap) (a : Addr) : h.get? a = (h.objs.toList[a]?).bind pkO := by
  unfold Heap.get?
  rw [Array.getElem?_toList]
  rcases h.objs[a]? with _ | ⟨_, _, d, _⟩
  · rfl
  · cases d <;> rfl
theorem map_pk {h : Heap} : ∀ {as : List Nat} {vs : List (Option Obj)}, vs.length = as.length → (∀ p ∈ as.zip vs, h.get? p.1 = p.2) → as.map h.get? = vs
  | [], [], _, _ => rfl
  | [], _ :: _, e, _ => by cases e
  | _ :: _, [], e, _ => by cases e
  | a :: as, v :: vs, e, z => by
    rw [List.map_cons, z (a, v) (.head _), map_pk (by simpa using e) fun p m => z p (.tail _ m)]
def hkP (K : Params → Frag) (as : List Addr) (e : ∀ P, as = (K P).map (·.1)) : Hook :=
  ⟨List (Option Obj), fun s => pk s.heap.objs.toList 0 as, fun w => (K w.params).map fun p => some p.2, InK K, fun w s x => InK.of e w s (by
    have n : (pk s.heap.objs.toList 0 as).length = as.length := by rw [x, e w.params, List.length_map, List.length_map]
    rw [← x]
    exact map_pk n fun p m => by rw [get_pk]; have z := pk_ok _ 0 as n p m; simpa using z.2), InK.keeps⟩
end Tq
open PySem PySem.W in
local macro_rules | `(tactic| o_head ($_ $K $a $e)) => `(tactic| o_head (Tq.hkP $K $a $e : PySem.W.Hook))
open Lean in
local macro_rules
|`(command|#check [$xs,*])=>do return mkNullNode (← xs.getElems.flatMapM fun x=>x.raw[1].getArgs.mapM fun y=>`(command|def $(mkIdent ((`PySem.W.Fast).str ("tw"++toString ((`PySem.Challenge.hd).str (x.raw[0].getId.toString++toString (y.isNatLit?.getD 0))).hash))):ident:True:=⟨⟩))
#check [env_ 41,heap_ 39 46 1022,o_ 45 46 49 53 55 56 57 59 60 63 64 66 67 68 71 73 75 76 79 80 83 85 86 87 88 89 90 93 95 97 98 101 102 105 107 108 109 110 111 112 115 117 119 120 123 124 127 129 130 131 132 133 134 137 139 141 142 145 146 149 151 152 153 154 155 156 159 161 163 164 167 168 171 173 174 175 176 177 178 181 183 185 186 189 190 193 195 196 197 198 199 200 205 207 208 209 212 214 215 216 217 221 223 224 225 228 230 231 232 235 236 237 240 242 243 244 247 249 250 251 253 254 257 258 261 263 264 265 267 268 269 270 273 275 277 278 281 282 286 288 289 290 293 295 296 297 300 302 303 304 305 306 307 310 312 314 315 318 319 323 325 326 327 330 332 333 334 337 339 340 341 342 343 344 347 349 351 352 355 356 360 362 363 364 367 369 370 371 374 376 377 378 379 380 381 386 388 389 390 391 395 397 398 399 401 402 405 406 410 412 413 414 417 418 419 422 424 425 426 429 431 432 433 434 435 436 437 438 441 444 445 448 449 452 454 455 456 459 461 462 463 466 468 469 470 473 475 476 477 480 482 483 484 487 489 490 491 494 496 497 498 501 503 504 505 508 510 511 512 515 517 518 519 522 524 525 526 529 531 532 533 536 538 539 540 543 545 546 547 548 549 550 551 552 557 558 561 562 565 567 568 569 572 574 575 576 579 581 582 583 586 588 589 590 593 595 596 597 600 602 603 604 607 609 610 611 614 616 617 618 621 623 624 625 628 630 631 632 635 637 638 639 643 647 649 650 651 654 656 657 658 661 662 663 666 668 669 670 673 675 676 677 680 682 683 684 685 688 689 692 693 696 698 699 700 703 705 706 707 710 712 713 714 717 719 720 721 724 725 726 727 728 729 730 731 734 736 738 739 742 743 746 748 749 750 753 755 756 757 760 762 763 764 767 769 770 771 773 774 779 781 782 783 784 788 789 790 793 795 796 797 800 802 803 804 807 808 809 812 814 815 816 819 821 822 823 824 827 828 831 832 836 838 839 840 843 845 846 847 850 852 853 854 858 860 861 862 865 866 867 870 872 873 874 877 878 879 882 883 884 887 888 889 890 891 892 893 894 897 901 903 904 905 908 910 911 912 915 917 918 919 922 924 925 926 929 931 932 933 936 938 939 940 943 944 945 948 949 950 953 954 955 958 960 961 962 965 967 968 969 972 974 975 976 979 980 981 982 986 988 989 990 993 995 996 997 1000 1001 1002 1005 1006 1007 1010 1012 1013 1014 1017 1019 1020 1021,sts_ 49 71 93 115 137 159 181 217 273 310 347 391 441 643 685 734 784 824 897 982,tree_ 47 70 92 114 136 158 180 216 272 309 346 390 440 554 639 684 733 783 823 896 981 1021,view_ 39]
def PySem.W.Fast.tw13563033553163300321:True:=⟨⟩
def PySem.W.Fast.tw11634986435809201374:True:=⟨⟩
def PySem.W.Fast.tw11600456348607369291:True:=⟨⟩
def PySem.W.Fast.tw5949480926448383572:True:=⟨⟩
open PySem PySem.W PyProof.Rows in
set_option maxHeartbeats 0 in
open_top PySem.Challenge.hd for PySem.Challenge.rw_balancehall_k54_rows_go_or_stay
local macro_rules|`(tactic|omega)=>`(tactic|lia)
set_option maxHeartbeats 4000000
set_option Elab.async false
set_option compiler.extract_closed false in
set_option hygiene false in
local macro_rules|`(0e0)=>`(λf a9 A outer s H vs Q E hr h=>?_)|`(0e1)=>`(by decide)|`(0e2)=>`(by omega)|`(0e3)=>`(Or.inl rfl)|`(0e4)=>`(λvs H Q E h=>?_)|`(0e5)=>`(by decide+kernel)|`(0e6)=>`(Inv X pins σ H s)|`(0e7)=>`(by intro z;cases z)|`(0e8)=>`(model X.prog X.w)|`(0e9)=>`(by show 2<=sizeLine;decide)|`(1e0)=>`(["self"])|`(1e1)=>`(hr.mono 0e1)|`(1e2)=>`(s.heap.objs.size+1)|`(1e3)=>`(pv 0)|`(1e4)=>`(model prog w)|`(1e5)=>`(PySem.W.Frag)|`(1e6)=>`(λ_ _=>rfl)|`(1e7)=>`(.ListComp elt [⟨tg,iter,ifs,0⟩] scope pos)|`(1e8)=>`(mem_cons_self ..)|`(1e9)=>`(pk K mg C R G Pc Fo Ch uK uN uB uE uM uC uP uI uD uL uT fT fU fV uG uS)|`(2e0)=>`(Str->Option Value)|`(2e1)=>`((·.1))|`(2e2)=>`(m8 K mg C R G Pc Fo uK uN uB uE uM uC uP uI uD uL uT)|`(2e3)=>`(by simp)|`(2e4)=>`(∀vs H Q E,sp vs H Q E->vs.length=ps.length)|`(2e5)=>`(⟨by decide,by decide⟩)|`(2e6)=>`(aQ 1e3 rfl)|`(2e7)=>`(rK K mg C R G Pc Fo St uK uN uB uE uM uC uP uI uD uL uT)|`(2e8)=>`((x==("__debug__" :Str))=false)|`(2e9)=>`(.dK kvs)|`(3e0)=>`(⟨k.toArray⟩)|`(3e1)=>`(le_refl _)|`(3e2)=>`((backTo pos (starEach es X.env)).any 2e1=false)|`(3e3)=>`(⟨ok.mod,ok.kind,ok.glob,ok.blt,ok.above,ok.inj,ok.has,ok.N4,ok.hd,ok.frames,ok.QW,ok.Wm,ok.bs,ok.EI,ok.x5,ok.wa,ok.lE,ok.IZ⟩)|`(3e4)=>`(⟨_,k, .inr ⟨o,af⟩,U,hv.symm⟩)|`(3e5)=>`(⟨_,rfl⟩)|`(3e6)=>`(pv 1)|`(3e7)=>`({ s with toks:=s.toks+1 })|`(3e8)=>`(.lst ys)|`(3e9)=>`(["self","around"])|`(4e0)=>`(A.deeper (envOfC q (ak st) s.heap.objs.size f a9))|`(4e1)=>`(ki X pins N scope cl fp s3 H3)|`(4e2)=>`({ cls:= .type "list",data:= .seq ([]:UF).toArray })|`(4e3)=>`({ nx:=λ_ H'=>Q .cR H',rt:=Q })|`(4e4)=>`(ki X pins N scope (rD scope X.env) fp s H)|`(4e5)=>`({ s with heap:=(s.heap.push (PySem.W.mY us)).push (PySem.W.lU C s.heap.objs.size) })|`(4e6)=>`(ki X pins N scope cl fp s H)|`(4e7)=>`(.builtin "object.__class__")|`(4e8)=>`(bu 1e3 T.aw ay.m ay.ok 1e1 ay.b .nil ck)|`(4e9)=>`(.ref C)|`(5e0)=>`(post_val_or_str ⟨le_trans (Txt.slice_le y _ _) hz,λt' k=>⟨.str _,H,I.tok k,⟨t',rfl⟩,q⟩⟩)|`(5e1)=>`(cU acc 19e1 (p.2*t))|`(5e2)=>`(List V)|`(5e3)=>`(b5 W0 r.xs r.ys j)|`(5e4)=>`(cg (ha pos pins s σ H _ I h) λus s1 ⟨vs,H1,I1,r,q⟩=>⟨I1.jq,?_⟩)|`(5e5)=>`(pv 2)|`(5e6)=>`(⟨(fL x).toArray⟩)|`(5e7)=>`({ cls:= .type "list",data:= .seq its.toArray n })|`(5e8)=>`(Or.inr rfl)|`(5e9)=>`(he pins s σ H _ I h)|`(6e0)=>`(fP P w K mg base 1 "NoFormula" NF HE 14e9 (lB NF "place"))|`(6e1)=>`(ao (gu rfl aL (gq aG.z aG.ok 1e1 rfl aG.g aG.kp aG.b 17e5)))|`(6e2)=>`(rs.take i)|`(6e3)=>`((false,eval e X.env))|`(6e4)=>`(.lst (ts.map V.ref))|`(6e5)=>`(by show 3<=sizeLine;decide)|`(6e6)=>`(by show 1<=sizeLine;decide)|`(6e7)=>`(["self","parts","count"])|`(6e8)=>`(.ref e)|`(6e9)=>`(aV P w K mg base 3 R "take" ["self","sign"] (kR NF R))|`(7e0)=>`(bU P w K mg base 1 R "sign" 1e0 (kJ R))|`(7e1)=>`(mem_append_right _ (mem_append_right _ (gU hb e)))|`(7e2)=>`((∀σ' H',N σ' H'->∃m',m'<m/\W 12e0 m' σ' H'))|`(7e3)=>`((∀b o,H b=none->H' b=some o->cM b=some o))|`(7e4)=>`({ s with heap:=h' })|`(7e5)=>`(aF r.xs)|`(7e6)=>`(⟨_,U⟩)|`(7e7)=>`(ha pins s σ H _ I h)|`(7e8)=>`(uo K mg C R G uK uN uB uE uM)|`(7e9)=>`(aF xs)|`(8e0)=>`(mem_of_getElem? hi)|`(8e1)=>`(aB cx (aB cT 1e3 aq) aq)|`(8e2)=>`(.lst (ys++[y]))|`(8e3)=>`(.ref f)|`(8e4)=>`(.Call (.Name x p) (e::es) [] pos)|`(8e5)=>`({ cls:= .type "dict",data:= .dict #[] })|`(8e6)=>`(("+" :Str))|`(8e7)=>`(fB X.prog X.w X.K X.mg X.base CX k f fd ps sp)|`(8e8)=>`(World)|`(8e9)=>`(fnOf "__init__" q (eM st) (bY st) (ak st) (.ref td) kV doc pm an a9 ct)|`(9e0)=>`(EP X pins σ Q)|`(9e1)=>`(⟨rfl,I.turned (t':=s.toks) (λb o hb e=>eb b o hb e) f0 f1 f3 f4 f5⟩)|`(9e2)=>`(.Call (.Attribute o m apos) (e::es) [] pos)|`(9e3)=>`({ cls:= .type "dict_items",data:= .fields #[.ref a] })|`(9e4)=>`(.gO o 2e9)|`(9e5)=>`(kvs.any λkv=>decide (kv.1=k))|`(9e6)=>`(.lst [])|`(9e7)=>`(Addr)|`(9e8)=>`(.inl rfl)|`(9e9)=>`(by simp_all)
set_option compiler.extract_closed false in
set_option hygiene false in
local macro_rules|`(10e0)=>`(⟨(fL y.2).toArray⟩)|`(10e1)=>`(cu I q 2e3)|`(10e2)=>`(⟨U,U,U,U⟩)|`(10e3)=>`(jt xs ys)|`(10e4)=>`(L' K mg C R G Pc Fo Ch uK uN uB uE uM uC uP uI uD uL uT fT fU fV)|`(10e5)=>`(Heap.lt_size e)|`(10e6)=>`((∃m,W 0 m σ H))|`(10e7)=>`(["self","step","turn","formula","lack"])|`(10e8)=>`([.int mo, .ref t2])|`(10e9)=>`(List bG)|`(11e0)=>`(.builtin "getset_descriptor.__get__")|`(11e1)=>`(aV P w K mg base 4 R "read_count" 1e0 (iZ NF R))|`(11e2)=>`(aa 3e6 aj)|`(11e3)=>`(X.env.scope.names.lookup n=some .local)|`(11e4)=>`({ s with heap:=h',toks:=t' })|`(11e5)=>`(mem_cons_of_mem _ hy)|`(11e6)=>`(["_law_store","_law_amounts_here","_law_went"])|`(11e7)=>`(backToKw pos (keywordEach [] X.env))|`(11e8)=>`(hr.mono 0e2)|`(11e9)=>`([.str r.x, .int r.m])|`(12e0)=>`(i+1)|`(12e1)=>`(Def K mg "parts_counts" "parts_counts" l6 ["parts","times"])|`(12e2)=>`({ cls:= .type "list",data:= .seq vs.toArray })|`(12e3)=>`(bA P w K mg base 1 "count_shown" ["count"] l9)|`(12e4)=>`(fB X.prog X.w X.K X.mg X.base (Cu X.prog X.w) k f fd ps sp)|`(12e5)=>`(["_law_script","_law_at","_law_world_here"])|`(12e6)=>`(λp hp=>by cases hp)|`(12e7)=>`(by show 1<1000;decide)|`(12e8)=>`(["self","text"])|`(12e9)=>`(A.deeper (envOfC qual (ak st) s.heap.objs.size f a9))|`(13e0)=>`([.str "H -> H", .int 1])|`(13e1)=>`(by rw[length_map];omega)|`(13e2)=>`(x.length<=1000)|`(13e3)=>`(λz=>nomatch z)|`(13e4)=>`(⟨dx,hR⟩)|`(13e5)=>`({ s with heap:=h',toks:=tk })|`(13e6)=>`((⟨(nq d y).toArray⟩:Str))|`(13e7)=>`(X.fn x=true\/X.env.scope.names.lookup x=some .local)|`(13e8)=>`(["_law_script","_law_k"])|`(13e9)=>`(start N vs)|`(14e0)=>`((∀b∈fp,H' b=none))|`(14e1)=>`(by show 1<=100;decide)|`(14e2)=>`(List (κ×V))|`(14e3)=>`(List 19e8)|`(14e4)=>`(wpAny_pure ?_)|`(14e5)=>`(⟨by omega,by omega⟩)|`(14e6)=>`(PySem.W.findIn K 4e9 "__init__" =some (some 8e3))|`(14e7)=>`(["_law_amounts_here","_law_row_here"])|`(14e8)=>`(["self","pieces","charge"])|`(14e9)=>`(["self","place"])|`(15e0)=>`(["self","kind","left","right"])|`(15e1)=>`(.type "ValueError")|`(15e2)=>`((Obj.mapFields (·.setIfInBounds 3 Value.none)))|`(15e3)=>`((cW 1 z.2.1).map 2e1)|`(15e4)=>`(Array (Option Value))|`(15e5)=>`(aa 1e3 aj)|`(15e6)=>`(eh C G Pc Fo Ch H c xs ys)|`(15e7)=>`(Binds X.K fd ps ds)|`(15e8)=>`(["change","times","amounts","step"])|`(15e9)=>`(Array Value)|`(16e0)=>`(some dx)|`(16e1)=>`(by show 0<=sizeLine;decide)|`(16e2)=>`(Heap.lt_size q)|`(16e3)=>`(ax N ps (ak st))|`(16e4)=>`(["self","many"])|`(16e5)=>`(["change","times","amounts"])|`(16e6)=>`(aa aq aj)|`(16e7)=>`(Sum.inr s)|`(16e8)=>`(p<=x.length)|`(16e9)=>`(assign (.Name y py) X.env)|`(17e0)=>`(List Str)|`(17e1)=>`(by show 0<1000;decide)|`(17e2)=>`(.ref s.heap.objs.size)|`(17e3)=>`(.ref Ub)|`(17e4)=>`(FuncData)|`(17e5)=>`(aa 2e6 aj)|`(17e6)=>`(["_law_store","_law_texts_here"])|`(17e7)=>`(List (List Key×V))|`(17e8)=>`(λ_ _ _ _=>gk)|`(17e9)=>`(λ_ _=>False)|`(18e0)=>`(dX R H r x p)|`(18e1)=>`(sf x p)|`(18e2)=>`(.ref a)|`(18e3)=>`(aO _)|`(18e4)=>`(mem_cons_of_mem _ hq)|`(18e5)=>`(["_law_cell","_law_world_here"])|`(18e6)=>`(.ref l)|`(18e7)=>`(lD P w H h)|`(18e8)=>`(List Env)|`(18e9)=>`(Array Keyed)|`(19e0)=>`(["_law_row_here","_law_cell"])|`(19e1)=>`(Sum.inr p.1)|`(19e2)=>`(pv 3)|`(19e3)=>`(Heap.get?_push_of_some _ e)|`(19e4)=>`(List Nat)|`(19e5)=>`(X.calm=true)|`(19e6)=>`(.ref Sh)|`(19e7)=>`(Str×Addr)|`(19e8)=>`(Key×V)|`(19e9)=>`(aM 10e3 q.1)
set_option compiler.extract_closed false in
set_option hygiene false in
local macro_rules|`(20e0)=>`(List ia)|`(20e1)=>`(I.ok.hd hc)
noncomputable section
abbrev Qp:=PySem.Result->PySem.Shared->Prop
abbrev XV:=PySem.Value->PySem.Shared->Prop
abbrev ZB:=Unit->PySem.Shared->Prop
abbrev Wp:=PySem.Str->Option PySem.Value
abbrev W1:=List (Option Nat)
abbrev WF:=List (PySem.Addr×PySem.Obj)
abbrev WP:=List (PySem.Str×Int)
abbrev Uf:=PySem.W.Frag
abbrev Uu:=Option PySem.Addr
abbrev UF:=List PySem.Value
abbrev UV:=List PySem.Addr
abbrev Ix:=List PySem.Expr
abbrev IN:=List Nat
abbrev IR:=List PySem.Str
abbrev On:=PySem.Program
abbrev Op:=PySem.Shared
abbrev Os:=PySem.Around
abbrev Pn:=PySem.Value
abbrev Ps:=PySem.Addr
set_option linter.all false
set_option maxRecDepth 100000
theorem U.{u}{α:Sort u}{a:α}:a=a:=rfl
open PySem.W (keepIn kitOne fnOf nsIn)
open List (mem_filter mem_cons_of_mem mem_cons mem_append mem_append_left getElem?_set_self getElem?_set_ne mem_append_right size_toArray length_map append_nil nodup_cons of_mem_zip getElem?_map mem_of_getElem? find?_cons map_cons map_nil length_nil length_append mem_map map_append mem_cons_self mem_map_of_mem all_eq_true drop_eq_nil_of_le drop_eq_getElem_cons getElem_mem map_map getElem?_eq_getElem not_mem_nil length_cons contains_cons foldl_cons append_assoc nil_append map_congr_left sum_cons length_eq_zero_iff foldl_append nodup_nil flatMap_cons all_append take_append_drop length_take take_add_one append_of_mem length_take_le' take_length flatMap_append flatMap_nil mem_singleton filter_append sum_append mem_flatMap mem_of_mem_take length_set)
open Nat (lt_of_lt_of_le lt_irrefl ne_of_lt le_trans ne_of_gt le_refl zero_le le_of_eq le_succ lt_trans lt_of_le_of_lt log2_lt not_lt le_total)
open Int (mul_one zero_mul add_mul mul_assoc add_zero zero_add eq_ofNat_of_zero_le emod_nonneg emod_lt_of_pos one_mul mul_zero mul_nonneg mul_le_mul)
open Option (isSome_iff_exists map_some map_eq_some_iff bind_some)
open Bool (and_eq_true)
namespace L2
open PySem PySem.Spec PyProof.Rows
abbrev Key:=Sum Int Str
abbrev _root_.P3:=List Key
noncomputable def sS:Key->Value->Bool
 | .inl k,v=>Value.isInt k v
 | .inr x,v=>Value.isStrOf x v
noncomputable def keyH(w:8e8):Key->Int
 | .inl k=>hashInt k
 | .inr x=>hashStr w x
def cN:∀{k:Key} {v:Pn},sS k v=true->(∃i t,k=Sum.inl i/\v=Value.int i t)\/(∃x t,k=Sum.inr x/\v=Value.str x t)
 | .inl i,v,h=>by
   obtain⟨t,e⟩:=Value.isInt_shape (k:=i) (v:=v) h;exact .inl ⟨i,t,rfl,e⟩
 | .inr x,v,h=>by
   obtain⟨t,e⟩:=Value.isStrOf_shape (x:=x) (v:=v) h;exact .inr ⟨x,t,rfl,e⟩
def GP(i:Int)(t:Tok):sS (.inl i) (.int i t)=true:=by simp [sS,Value.isInt]
def GQ(x:Str)(t:Tok):sS (.inr x) (.str x t)=true:=by simp [sS,Value.isStrOf]
def Sn(a b:Int):decide ((Sum.inl a:Key)=Sum.inl b)=(a==b):=by
 lia
def So(a b:Str):decide ((Sum.inr a:Key)=Sum.inr b)=decide (a=b):=by
 lia
def Sr(a:Int)(b:Str):decide ((Sum.inl a:Key)=Sum.inr b)=false:=decide_eq_false (λq=>nomatch q)
def Ss(a:Str)(b:Int):decide ((Sum.inr a:Key)=Sum.inl b)=false:=decide_eq_false (λq=>nomatch q)
noncomputable def bQ(prog:On)(w:8e8):PySem.KeyKind prog w Key where
 is:=sS
 hash:=keyH w
 inj:=λv a b ha hb=>by
  rcases cN ha with ⟨i,t,rfl,rfl⟩ | ⟨x,t,rfl,rfl⟩
  ·rcases cN hb with ⟨j,u,rfl,e⟩ | ⟨y,u,rfl,e⟩
   ·injection e with e1 _;rw[e1]
   ·exact nomatch e
  ·rcases cN hb with ⟨j,u,rfl,e⟩ | ⟨y,u,rfl,e⟩
   ·exact nomatch e
   ·injection e with e1 _;rw[e1]
 byValue:=λk v h=>by
  rcases cN h with ⟨i,t,rfl,rfl⟩ | ⟨x,t,rfl,rfl⟩<;>rfl
 pyHash:=λhv h=>by
  rcases cN hv with ⟨i,t,rfl,rfl⟩ | ⟨x,t,rfl,rfl⟩
  ·exact wpAny_pyHash_int h
  ·exact wpAny_pyHash_str h
 eqBool:=λhu hv h=>by
  rcases cN hu with ⟨i,t,rfl,rfl⟩ | ⟨x,t,rfl,rfl⟩
  ·rcases cN hv with ⟨j,u,rfl,rfl⟩ | ⟨y,u,rfl,rfl⟩
   ·rw[Sn] at h;exact wpAny_eqBool_int h
   ·rw[Sr] at h;exact SeqAt.EqAt.int_str i t y u _ _ _ _ h
  ·rcases cN hv with ⟨j,u,rfl,rfl⟩ | ⟨y,u,rfl,rfl⟩
   ·rw[Ss] at h;exact SeqAt.EqAt.str_int x t j u _ _ _ _ h
   ·rw[So] at h;exact wpAny_eqBool_str h
 «strs» :=λk x t v h=>by
  rcases cN h with ⟨i,u,rfl,e⟩ | ⟨y,u,rfl,e⟩
  ·exact nomatch e
  ·injection e with e1 _;subst e1;cases v<;>rfl
def sU(prog:On)(w:8e8)(k:Key)(v:Pn):(bQ prog w).is k v=sS k v:=rfl
def Ai(prog:On)(w:8e8)(i:Int)(t:Tok):(bQ prog w).is (.inl i) (.int i t)=true:=GP i t
def Aj(prog:On)(w:8e8)(x:Str)(t:Tok):(bQ prog w).is (.inr x) (.str x t)=true:=GQ x t
inductive V where
 |cR|bl (b:Bool) |int (i:Int) |str (x:Str) |CA (b:Array UInt8) |QU (b:UInt64) |ref (a:9e7) |ty (n:String)
 deriving DecidableEq
abbrev _root_.KB:=List V
abbrev _root_.Py:=List 19e8
def RelV:V->Value->Prop
 | .cR,u=>u=Value.none
 | .bl b,u=>u=Value.bool b
 | .int i,u=>∃t,u=Value.int i t
 | .str x,u=>∃t,u=Value.str x t
 | .CA b,u=>∃t,u=Value.bytes b t
 | .QU b,u=>∃t,u=Value.float b t
 | .ref a,u=>u=Value.ref a
 | .ty n,u=>u=Value.type n
abbrev Vals:List V->List Value->Prop:=Paired RelV
theorem Vals.length{xs:KB}{us:UF}(r:Vals xs us):xs.length=us.length:=Paired.length r
theorem Vals.get:∀{xs:KB} {us:UF} {i:Nat} {x:V},Vals xs us->xs[i]? =some x->∃u,us[i]? =some u/\RelV x u
 |_,_,_,_, .nil,e=>by simp at e
 |_,_,0,_, .cons r _,e=>by simp at e;subst e;exact⟨_,U,r⟩
 |_,_,i+1,x, .cons _ t,e=>by
  obtain⟨u,h1,h2⟩:=Vals.get (i:=i) (x:=x) t (by simpa using e);simp_all
theorem Vals.set{x:V}{u:Pn}(r:RelV x u):∀{xs:KB} {us:UF} (i:Nat),Vals xs us->Vals (xs.set i x) (us.set i u)
 |_,_,_, .nil=> .nil
 |_,_,0, .cons _ t=> .cons r t
 |_,_,i+1, .cons q t=> .cons q (Vals.set r i t)
theorem Vals.append:∀{xs ys:KB} {us ws:UF},Vals xs us->Vals ys ws->Vals (xs++ys) (us++ws)
 |_,_,_,_, .nil,s=>s
 |_,_,_,_, .cons r t,s=> .cons r (Vals.append t s)
def iF:Option V->Option Value->Prop
 |some v,some u=>RelV v u
 |none,none=>True
 |_,_=>False
def KV{κ:Type}:List (κ×V)->List (κ×Value)->Prop:=Paired λ(p:κ×V) (q:κ×Value)=>p.1=q.1/\RelV p.2 q.2
noncomputable def kV:Key->V
 | .inl i=> .int i
 | .inr x=> .str x
inductive HO where
 |lst (xs:5e2)
 |tup (xs:5e2)
 |dK (kvs:14e3) |dT (kvs:17e7)
 |set (S:Int->Bool) (n:Nat)
 |ins (C dx:9e7) (fs:List (Str×V))
 |own (x:9e7)
 |xd (fs:List (Str×V))
 |met (f x:9e7)
 |rng (lo hi:Int)
 |gO (o:Obj) (u:HO)
 |QV (ps:15e9)
 |ext (φ:Heap->Prop)
abbrev Hp:=Addr->Option HO
noncomputable def upd(H:Hp)(a:Ps)(o:HO):Hp:=λb=>if b=a then some o else H b
def af{H:Hp}{a:Ps}{o:HO}:upd H a o a=some o:=by unfold upd;rw[if_pos rfl]
def ah{H:Hp}{a b:Ps}{o:HO}(h:b≠a):upd H a o b=H b:=by unfold upd;rw[if_neg h]
def kj{H:Hp}{a:Ps}{o u:HO}:upd (upd H a o) a u=upd H a u:=by
 funext b;unfold upd;split<;>rfl
def bC{H:Hp}{a b:Ps}{o u:HO}(h:H a=some o)(h':H b=some u)(d:o≠u):a≠b:=by
 lia
def ag{H:Hp}{a b:Ps}{o:HO}(h:H a=some o)(h':H b=none):a≠b:=by
 lia
section
variable (P:On)(w:8e8)
def cK(H:Hp)(h:Heap)(a:Ps):HO->Prop
 | .lst xs=>xs.length<=sizeLine/\∃(its:UF) (n:Nat),Vals xs its/\h.get? a=some 5e7
 | .tup xs=>xs.length<=sizeLine/\∃its:List Value,Vals xs its/\IsTup h a its.toArray
 | .dK kvs=>kvs.length<=sizeLine/\(a==sysModules)=false/\∃vs,KV kvs vs/\h.DictOf (bQ P w) a vs
 | .dT kvs=>kvs.length<=sizeLine/\(a==sysModules)=false/\∃xs:List (List Key×Addr×Value),
   Paired (λ(p:List Key×V) (q:List Key×Addr×Value)=>p.1=q.1/\H q.2.1=some (.tup (p.1.map kV))/\RelV p.2 q.2.2) kvs xs/\
   ∃o es ep,h.get? a=some o/\o.ExactDict/\o.data= .dict es ep/\es.toList=xs.map (entryOfKey (tupleKind (bQ P w)))/\(xs.map 2e1).Nodup
 | .set S n=>h.SetOf (intKind P w) a S n
 | .ins C dx fs=>H dx=some (.own a)/\fs.length<=1000/\dx≠a/\h.get? a=some (PySem.W.instObj C dx)/\
   ∃mA,h.Ns1 dx mA/\(∀f,iF (fs.lookup f) (mA f))/\PySem.Within mA (fs.map 2e1)
 | .own _=>∃o,h.get? a=some o
 | .xd fs=>∃mA,h.Ns1 a mA/\∀f,iF (fs.lookup f) (mA f)
 | .rng lo hi=>∃t u v,h.get? a=some { cls:= .type "range",data:= .fields #[.int lo t, .int hi u, .int 1 v] }
 | .gO o u=>h.get? a=some o/\cK H h a u
 | .QV ps=>h.get? a=some { cls:= .none,data:= .fields ps }
 | .met f x=>h.get? a=some (PySem.W.methodObj 8e3 (.ref x))
 | .ext φ=>φ h/\(∃o,h.get? a=some o)/\∀h1 h2:Heap,φ h1->(∀o,h1.get? a=some o->h2.get? a=some o)->φ h2
def lD(H:Hp)(h:Heap):Prop:=∀a o,H a=some o->cK P w H h a o
end
section
variable {P:On}{w:8e8}{H H':Hp}{h h':Heap}{a:Ps}{o:HO}
theorem cK.lt(x:cK P w H h a o):a<h.objs.size:=by
 cases o with
 |lst xs=>obtain⟨_,_,_,_,e⟩:=x;exact Heap.lt_size e
 |tup xs=>obtain⟨_,_,_,p⟩:=x;exact p.lt
 |dK kvs=>obtain⟨_,_,_,_,o,_,_,e,_⟩:=x;exact Heap.lt_size e
 |dT kvs=>obtain⟨_,_,_,_,o,_,_,e,_⟩:=x;exact Heap.lt_size e
 |set S n=>obtain⟨o,_,_,_,e,_⟩:=x;exact Heap.lt_size e
 |ins C dx fs=>obtain⟨_,_,_,e,_⟩:=x;exact Heap.lt_size e
 |own y=>obtain⟨_,e⟩:=x;exact Heap.lt_size e
 |xd fs=>obtain⟨_,⟨_,_,_,e,_⟩,_⟩:=x;exact Heap.lt_size e
 |rng lo hi=>obtain⟨_,_,_,e⟩:=x;exact Heap.lt_size e
 |gO ob u=>obtain⟨e,_⟩:=x;exact Heap.lt_size e
 |QV ps=>exact Heap.lt_size (show h.get? a=some _ from x)
 |met f y=>exact Heap.lt_size (show h.get? a=some _ from x)
 |ext φ=>obtain⟨_,⟨_,e⟩,_⟩:=x;exact Heap.lt_size e
theorem Paired.Su{α β:Type}{F G:α->β->Prop}:∀{l₁:List α} {l₂:List β},Paired F l₁ l₂->(∀a b,F a b->G a b)->Paired G l₁ l₂
 |_,_, .nil,_=> .nil
 |_,_, .cons r t,f=> .cons (f _ _ r) (Paired.Su t f)
def cK.sV(x:cK P w H h a o)(k:∀b u,(b=a\/H b=some (.own a))->h.get? b=some u->h'.get? b=some u)
  (ho:∀b,H b=some (.own a)->H' b=some (.own a)) (ht:∀b xs,H b=some (.tup xs)->H' b=some (.tup xs)):cK P w H' h' a o:=by
 induction o with
 |lst xs=>obtain⟨z,its,n,r,e⟩:=x;exact⟨z,its,n,r,k _ _ 9e8 e⟩
 |tup xs=>obtain⟨z,its,r,ob,e,c⟩:=x;exact⟨z,its,r,ob,k _ _ 9e8 e,c⟩
 |dK kvs=>obtain⟨z,y,vs,r,ob,es,ep,e,c⟩:=x;exact⟨z,y,vs,r,ob,es,ep,k _ _ 9e8 e,c⟩
 |dT kvs=>
  obtain⟨z,y,xs,r,ob,es,ep,e,c⟩:=x;exact⟨z,y,xs,Paired.Su r λp q z=>⟨z.1,ht _ _ z.2.1,z.2.2⟩,ob,es,ep,k _ _ 9e8 e,c⟩
 |set S n=>obtain⟨ob,es,ep,t,e,c⟩:=x;exact⟨ob,es,ep,t,k _ _ 9e8 e,c⟩
 |ins C dx fs=>
  obtain⟨d,z,ne,e,mA,⟨od,es,ep,e2,c⟩,r⟩:=x;exact⟨ho _ d,z,ne,k _ _ 9e8 e,mA,⟨od,es,ep,k _ _ (.inr d) e2,c⟩,r⟩
 |own y=>obtain⟨ob,e⟩:=x;exact⟨ob,k _ _ 9e8 e⟩
 |xd fs=>obtain⟨mA,⟨od,es,ep,e,c⟩,r⟩:=x;exact⟨mA,⟨od,es,ep,k _ _ 9e8 e,c⟩,r⟩
 |rng lo hi=>obtain⟨t,u,v,e⟩:=x;exact⟨t,u,v,k _ _ 9e8 e⟩
 |gO ob u ih=>obtain⟨e,q⟩:=x;exact⟨k _ _ 9e8 e,ih q⟩
 |QV ps=>
  have e:h.get? a=some { cls:= .none,data:= .fields ps }:=x;show h'.get? a=some { cls:= .none,data:= .fields ps };exact k a _ 9e8 e
 |met f y=>
  have e:h.get? a=some (PySem.W.methodObj 8e3 (.ref y)):=x;show h'.get? a=some (PySem.W.methodObj 8e3 (.ref y));exact k a _ 9e8 e
 |ext φ=>obtain⟨p,⟨o,e⟩,st⟩:=x;exact⟨st _ _ p λo q=>k _ _ 9e8 q,⟨o,k _ _ 9e8 e⟩,st⟩
theorem lD.lt(x:18e7)(e:H a=some o):a<h.objs.size:=(x a o e).lt
def lD.fresh(x:18e7)(e:h.objs.size<=a):H a=none:=by
 cases q:H a with
 |none=>rfl
 |some u=>exact absurd (lt_of_lt_of_le (x.lt q) e) (lt_irrefl _)
def lD.kept(x:18e7)(k:∀b u,h.get? b=some u->h'.get? b=some u):lD P w H h':=λa o e=>
 (x a o e).sV (λb u _ q=>k b u q) (λ_ q=>q) λ_ _ q=>q
def lD.laid(x:18e7)(k:∀b u,h.get? b=some u->h'.get? b=some u)(hp:h.objs.size<=a)(new:cK P w (upd H a o) h' a o):lD P w (upd H a o) h':=λb u e=>by
 have hn:=x.fresh hp;by_cases hb:b=a
 ·subst hb;rw[af] at e;cases e;exact new
 ·rw[ah hb] at e;exact(x b u e).sV (λc v _ q=>k c v q) (λc q=>by rw[ah (ag q hn)];exact q) λc xs q=>by rw[ah (ag q hn)];exact q
end
def Rd(H:Hp)(a:Ps)(u:HO):Prop:=H a=some u\/∃o,H a=some (.gO o u)
def Rd.ok{P:On}{w:8e8}{H:Hp}{h:Heap}{a:Ps}{u:HO}(r:Rd H a u)(x:18e7):cK P w H h a u:=by
 rcases r with r| ⟨o,r⟩
 ·exact x a u r
 ·obtain⟨_,q⟩:=x a _ r;exact q
def W6:Option HO->Prop
 |some (.lst _)=>True
 |some (.dK _)=>True
 |some (.dT _)=>True
 |some (.set _ _)=>True
 |some (.ins _ _ _)=>True
 |some (.ext _)=>True
 |_=>False
section
variable {P:On}{w:8e8}{H:Hp}{h h':Heap}{x e:Ps}{o':HO}
def lD.write(ok:18e7)(mu:W6 (H x))(he:e=x\/H e=some (.own x))(k:∀b u,b≠e->h.get? b=some u->h'.get? b=some u)(W7:∃u,h'.get? e=some u)
  (new:cK P w (upd H x o') h' x o'):lD P w (upd H x o') h':=λb u q=>by
 have nown:∀c y,H c=some (.own y)->c≠x:=λc y r z=>by subst z;rw[r] at mu;exact mu
 have ntup:∀c xs,H c=some (.tup xs)->c≠x:=λc xs r z=>by subst z;rw[r] at mu;exact mu
 by_cases hb:b=x
 ·subst hb;rw[af] at q;cases q;exact new
 ·rw[ah hb] at q;by_cases hbe:b=e
  ·have q':H b=some (.own x):=by
    lia
   rw[q] at q';cases q';obtain⟨v,hv⟩:=W7;exact⟨v,by rw[hbe];exact hv⟩
  ·refine(ok b u q).sV (λc v hc r=>k c v ?_ r) (λc r=>by rw[ah (nown c b r)];exact r) λc xs r=>by rw[ah (ntup c xs r)];exact r
   grind
end
structure Un(fs ex:List Addr)(H H':Hp)(h h':Heap):Prop where
 keep:∀b o,h.get? b=some o->H b=none->b∉fs->b∉ex->h'.get? b=some o
 slot:∀b o,h.get? b=some o->H b=none->b∈fs->b∉ex->∃sl,h'.get? b=some { o with slots:=sl }
 free:∀b o,h.get? b=some o->H b=none->b∉ex->H' b=none
 there:∀b o,h.get? b=some o->b∉ex->∃o',h'.get? b=some o'
 pL:∀b xs,H b=some (.tup xs)->H' b=some (.tup xs)
 pM:∀b o u,H b=some (.gO o u)->H' b=some (.gO o u)
 pN:∀b ps,H b=some (.QV ps)->∃more,H' b=some (.QV (ps++more))
section
variable {fs N0 ex ex':UV}{H H1 H2:Hp}{h h1 h2 h':Heap}{a x e:Ps}{o:HO}
def Un.any(u:Un fs ex H H1 h h1){b:Ps}{ob:Obj}(q:h.get? b=some ob)(n:H b=none)(hx:b∉ex):∃sl,h1.get? b=some { ob with slots:=sl }:=by
 by_cases hb:b∈fs
 ·exact u.slot b ob q n hb hx
 ·exact⟨ob.slots,u.keep b ob q n hb hx⟩
def Un.kept(k:∀b u,h.get? b=some u->h'.get? b=some u):Un fs ex H H h h':=
 ⟨λb ob q _ _ _=>k b ob q,λb ob q _ _ _=>⟨ob.slots,k b ob q⟩,λ_ _ _ n _=>n,λb ob q _=>⟨ob,k b ob q⟩,λ_ _ q=>q,λ_ _ _ q=>q,λ_ ps q=>⟨#[],by rw[q];simp⟩⟩
def Un.refl:Un fs ex H H h h:=Un.kept λ_ _ q=>q
def Un.laid(k:∀b u,h.get? b=some u->h'.get? b=some u)(hp:h.objs.size<=a)(hn:H a=none):Un fs ex H (upd H a o) h h' where
 keep:=λb u q _ _ _=>k b u q
 slot:=λb u q _ _ _=>⟨u.slots,k b u q⟩
 free:=λb u q n _=>by rw[ah (ne_of_lt (lt_of_lt_of_le 16e2 hp))];exact n
 there:=λb u q _=>⟨u,k b u q⟩
 pL:=λb xs q=>by rw[ah (ag q hn)];exact q
 pM:=λb u xs q=>by rw[ah (ag q hn)];exact q
 pN:=λb ps q=>⟨#[],by rw[ah (ag q hn),q];simp⟩
def Un.write(mu:W6 (H x))(he:e=x\/H e=some (.own x))(k:∀b u,b≠e->h.get? b=some u->h'.get? b=some u)(W7:∃u,h'.get? e=some u):Un fs ex H (upd H x o) h h':=by
 have hx:∀b,H b=none->b≠x:=λb n z=>by subst z;rw[n] at mu;exact mu
 have hb:∀b,H b=none->b≠e:=λb n z=>by
  lia
 have hm:∀b u,H b=some u->¬W6 (some u)->b≠x:=λb u q nm z=>by lia
 refine⟨λb u q n _ _=>k b u (hb b n) q,λb u q n _ _=>⟨u.slots,k b u (hb b n) q⟩,λb u q n _=>by rw[ah (hx b n)];exact n,λb u q _=>?_,
  λb xs q=>by rw[ah (hm b _ q λz=>z)];exact q,λb u xs q=>by rw[ah (hm b _ q λz=>z)];exact q,λb ps q=>⟨#[],by rw[ah (hm b _ q λz=>z),q];simp⟩⟩
 grind
end
noncomputable def trk(h:Heap)(H:Hp):List Addr:=(List.range h.objs.size).filter λa=>(H a).isSome
def x4(h:Heap)(H:Hp):Heap:=PySem.W.hideAll h (trk h H)
def GR(h:Heap)(H:Hp):(x4 h H).objs.size=h.objs.size:=PySem.W.hideAll_size _ _
def Jp{h:Heap}{H:Hp}{b:Ps}{o:Obj}(e:h.get? b=some o)(n:H b=none):(x4 h H).get? b=some o:=
 PySem.W.hideAll_get _ e λhm=>by
  have q:(H b).isSome=true:=(mem_filter.mp hm).2;rw[n] at q;simp at q
def N2{h:Heap}{H:Hp}{b:Ps}{o:Obj}(e:(x4 h H).get? b=some o):h.get? b=some o/\H b=none:=by
 have e':h.get? b=some o:=PySem.W.of_hideAll (trk h H) e;refine⟨e',?_⟩
 cases q:H b with
 |none=>rfl
 |some x=>
  have hm:b∈trk h H:=mem_filter.mpr ⟨List.mem_range.mpr (Heap.lt_size e'),by simp [q]⟩;have z:(x4 h H).get? b=none:=PySem.W.hideAll_none (trk h H) hm;rw[z] at e;cases e
noncomputable def N3(g h:Heap)(L:Ps):List (Addr×Obj):=(List.range h.objs.size).filterMap λa=>if a=L\/(g.get? a).isSome=true then none else (h.get? a).map λo=>(a,o)
noncomputable def rest(g h:Heap)(L d:Ps):List (Addr×Obj):=(N3 g h L).filter λp=>decide (p.1≠d)
structure Mod(K:1e5)(mg:2e0)(base:Heap):Prop where
 g9:K.In base
 glob:base.Ns mainGlobals mg
 blt:∃mb,base.Ns builtinsNs mb/\∀x:Str,x≠"__name__" ->mb x=bootBuiltins x
 nolimit:base.NoLimit
structure Cx where
 prog:Program
 w:World
 K:PySem.W.Frag
 mg:Str->Option Value
 base:Heap
 A:Around
 N:List Str
 s₀:Shared
 H₀:Hp
 env:Env
 outer:List Env
 stack:List Env
 ex:List Addr
 fn:Str->Bool
 calm:Bool
 pn:List (Addr×Obj)
 xe:Value->Shared->Prop
noncomputable def rq(l:18e8):List Addr:=l.filterMap (·.frame)
abbrev Cx.fs(X:Cx):List Addr:=rq X.outer
def Vis(sc:Scope)(x:Str):Prop:=sc.names.lookup x=some .local\/sc.names.lookup x=some .cell\/sc.names.lookup x=some .free
def Loc(sc:Scope)(x:Str):Prop:=sc.names.lookup x=some .local\/sc.names.lookup x=some .cell
def Look(env:Env)(h:Heap)(m:Wp)(x:Str)(u:Pn):Prop:=
 (env.kindOf x=some .local/\m x=some u)\/((env.kindOf x=some .cell\/env.kindOf x=some .free)/\∃c,env.cells.lookup x=some c/\h.IsCell c (some u))
structure Cx.Ok(X:Cx):Prop where
 mod:Mod X.K X.mg X.base
 kind:X.env.scope.kind= .function
 glob:X.env.globals=mainGlobals
 blt:X.env.builtins=builtinsNs
 above:X.s₀.heap.objs.size<=X.env.locals
 inj:∀x y c,X.env.cells.lookup x=some c->X.env.cells.lookup y=some c->x=y
 has:∀x,(X.env.kindOf x=some .cell\/X.env.kindOf x=some .free)->∃c,X.env.cells.lookup x=some c
 N4:∀x c,X.fn x=true->X.env.cells.lookup x=some c->X.s₀.heap.objs.size<=c
 hd:X.calm=true->X.A.handled=none
 frames:X.A.frames=some X.stack
 QW:X.stack=X.outer\/(X.stack=X.env::X.outer/\X.env.frame=some X.env.locals)
 Wm:∀b∈X.ex,b≠X.env.locals/\∀x c,X.env.cells.lookup x=some c->c≠b
 bs:∀b o,X.base.get? b=some o->X.s₀.heap.get? b=some o/\X.H₀ b=none
 EI:X.base.objs.size<=X.s₀.heap.objs.size
 x5:∀b o,X.base.get? b=some o->b∉X.ex
 wa:∀b∈X.ex,b∉X.fs
 lE:X.s₀.heap.FunFrames X.base X.outer
 IZ:∀b∈X.fs,X.H₀ b=none
structure Inv(X:Cx)(pins:List (Addr×Obj))(σ:List (Option V))(H:Hp)(s:Shared):Prop where
 ok:X.Ok
 os:s.os=X.s₀.os
 bare:AllBare s.gens
 base:Un X.fs X.ex X.H₀ H X.s₀.heap s.heap
 loc:∃m,s.heap.Ns X.env.locals m/\∀(i:Nat) (x:Str) (v:V),X.N[i]? =some x->σ[i]? =some (some v)->Vis X.env.scope x->∃u,RelV v u/\Look X.env s.heap m x u
 cell:∀x c,X.env.cells.lookup x=some c->∃v,s.heap.IsCell c v
 free:H X.env.locals=none
 iA:∀x c,X.env.cells.lookup x=some c->H c=none
 pin:∀p∈X.pn++pins,s.heap.get? p.1=some p.2/\H p.1=none/\p.1≠X.env.locals/\p.1∉X.fs/\∀v,p.2.data≠ .cell v
 aP:lD X.prog X.w H s.heap
 len:σ.length=X.N.length
section
variable {X:Cx}{pins:WF}{σ:List (Option V)}{H H':Hp}{s:Op}{h':Heap}
def Cx.Ok.nofr(ok:X.Ok){b:Ps}{o:Obj}(e:X.base.get? b=some o):b∉X.fs:=λhb=>by
 have:=(ok.lE.mem hb).1
 lia
theorem Inv.bs(I:0e6):∀b o,X.base.get? b=some o->s.heap.get? b=some o/\H b=none:=λb o e=>
 ⟨I.base.keep b o (I.ok.bs b o e).1 (I.ok.bs b o e).2 (I.ok.nofr e) (I.ok.x5 b o e),I.base.free b o (I.ok.bs b o e).1 (I.ok.bs b o e).2 (I.ok.x5 b o e)⟩
def Inv.bk(I:0e6):∀b o,X.base.get? b=some o->s.heap.get? b=some o:=λb o e=>(I.bs b o e).1
theorem Inv.mod(I:0e6):Mod X.K X.mg X.base:=I.ok.mod
def Inv.jq(I:0e6):X.K.In s.heap:=I.ok.mod.g9.keeps I.bk
theorem Inv.lt(I:0e6):X.env.locals<s.heap.objs.size:=let ⟨_,hn,_⟩:=I.loc;hn.lt
def Inv.sz(I:0e6):X.s₀.heap.objs.size<=s.heap.objs.size:=le_trans I.ok.above (Nat.le_of_lt I.lt)
def Inv.nofs(I:0e6){a:Ps}(h:s.heap.objs.size<=a):a∉X.fs:=λhb=>by
 obtain⟨_,o,ho,_⟩:=I.ok.lE.mem hb;exact absurd (lt_of_lt_of_le (Heap.lt_size ho) (le_trans I.sz h)) (lt_irrefl _)
def Inv.N5(I:0e6):∀x c,X.env.cells.lookup x=some c->c≠X.env.locals:=λx c e z=>by
 obtain⟨v,o,ho,hd⟩:=I.cell x c e;obtain⟨m,⟨o',es,ep,Ak,dH,_⟩,_⟩:=I.loc
 lia
theorem Inv.lE(I:0e6):s.heap.FunFrames X.base X.outer:=by
 have all:∀(l:18e8),(∀b∈rq l,b∈X.fs)->X.s₀.heap.FunFrames X.base l->s.heap.FunFrames X.base l:=by
  intro l
  induction l with
  |nil=>intro _ _;trivial
  |cons env r ih=>
   intro hs hl;obtain⟨hk,⟨L,o,hf,hn,ho,hd⟩,hr⟩:=hl;have hL:L∈X.fs:=hs L (by unfold rq;simp_all);obtain⟨sl,e⟩:=I.base.slot L o ho (I.ok.IZ L hL) hL λz=>I.ok.wa L z hL;exact⟨hk,⟨L,_,hf,hn,e,hd⟩,ih (λb hb=>hs b (by unfold rq;rw[List.filterMap_cons,hf];exact mem_cons_of_mem _ hb)) hr⟩
 exact all X.outer (λ_ hb=>hb) I.ok.lE
theorem Inv.stack(I:0e6):s.heap.FunFrames X.base X.stack:=by
 rcases I.ok.QW with e| ⟨e,hf⟩
 ·rw[e];exact I.lE
 ·rw[e];obtain⟨m,hn,_⟩:=I.loc;refine .cons (by rw[I.ok.kind];decide) hf hn ?_ I.lE;exact Heap.get?_none_of_le (le_trans I.ok.EI I.ok.above)
def Inv.x6(I:0e6):∀b∈rq X.stack,b∈X.env.locals::X.fs:=λb hb=>by
 rcases I.ok.QW with e| ⟨e,hf⟩
 ·simp_all
 ·rw[e] at hb;unfold rq at hb;rw[List.filterMap_cons,hf] at hb;exact hb
def Inv.x8(I:0e6):∀b∈rq X.stack,H b=none:=λb hb=>by
 rcases mem_cons.mp (I.x6 b hb) with e|hb
 ·rw[e];exact I.free
 ·obtain⟨_,o,ho,_⟩:=I.ok.lE.mem hb;exact I.base.free b o ho (I.ok.IZ b hb) λz=>I.ok.wa b z hb
def Inv.step{g':Array GenState}{t':Nat}{d':Drawn}{ch:UV}(I:0e6)
  (Ja:∀b∈ch,(b∈X.ex\/X.s₀.heap.objs.size<=b)/\b≠X.env.locals/\(∀x c,X.env.cells.lookup x=some c->c≠b)/\∀p∈X.pn++pins,p.1≠b)
  (keep:∀b o,b≠X.env.locals->b∉X.fs->b∉ch->s.heap.get? b=some o->H b=none->h'.get? b=some o)
  (slot:∀b o,b≠X.env.locals->b∈X.fs->b∉ch->s.heap.get? b=some o->H b=none->∃sl,h'.get? b=some { o with slots:=sl }) (free:∀b o,b∉ch->s.heap.get? b=some o->H b=none->H' b=none)
  (there:∀b o,b∉ch->s.heap.get? b=some o->∃o',h'.get? b=some o')
  (pL:∀b xs,H b=some (.tup xs)->H' b=some (.tup xs)) (pM:∀b o u,H b=some (.gO o u)->H' b=some (.gO o u)) (pN:∀b ps,H b=some (.QV ps)->∃more,H' b=some (.QV (ps++more)))
  (ns:∀m,s.heap.Ns X.env.locals m->h'.Ns X.env.locals m) (aP:lD X.prog X.w H' h') (hg:AllBare g'):
  Inv X pins σ H' { s with heap:=h',gens:=g',drawn:=d',toks:=t' }:=by
 have W8:∀b o,X.s₀.heap.get? b=some o->b≠X.env.locals:=λb o e=>ne_of_lt (lt_of_lt_of_le 10e5 I.ok.above)
 have Wn:∀b o,X.s₀.heap.get? b=some o->b∉X.ex->b∉ch:=λb o e hx hb=>by
  rcases (Ja b hb).1 with z|z
  ·exact hx z
  ·exact absurd (lt_of_lt_of_le 10e5 z) (lt_irrefl _)
 have cellK:∀x c,X.env.cells.lookup x=some c->∀v,s.heap.IsCell c v->h'.IsCell c v:=λx c e v ⟨o,ho,hd⟩=>by
  have Sv:c∉ch:=λz=>(Ja c z).2.2.1 x c e rfl;by_cases hc:c∈X.fs
  ·obtain⟨sl,q⟩:=slot c o (I.N5 x c e) hc Sv ho (I.iA x c e);exact⟨_,q,hd⟩
  ·exact⟨o,keep c o (I.N5 x c e) hc Sv ho (I.iA x c e),hd⟩
 refine⟨I.ok,I.os,hg,⟨λb o e n hb hx=>?_,λb o e n hb hx=>?_,λb o e n hx=>?_,λb o e hx=>?_,λb xs e=>pL b xs (I.base.pL b xs e),λb o xs e=>pM b o xs (I.base.pM b o xs e),λb ps e=>?_⟩,?_,λx c e=>?_,?_,λx c e=>?_,λp hp=>?_,aP,I.len⟩
 ·exact keep b o (W8 b o e) hb (Wn b o e hx) (I.base.keep b o e n hb hx) (I.base.free b o e n hx)
 ·obtain⟨sl,e1⟩:=I.base.slot b o e n hb hx;obtain⟨Sw,e2⟩:=slot b _ (W8 b o e) hb (Wn b o e hx) e1 (I.base.free b o e n hx);exact⟨Sw,e2⟩
 ·obtain⟨o',e1⟩:=I.base.there b o e hx;exact free b o' (Wn b o e hx) e1 (I.base.free b o e n hx)
 ·obtain⟨o',e1⟩:=I.base.there b o e hx;exact there b o' (Wn b o e hx) e1
 ·obtain⟨m1,e1⟩:=I.base.pN b ps e;obtain⟨m2,e2⟩:=pN b _ e1;exact⟨m1++m2,by rw[e2,Array.append_assoc]⟩
 ·obtain⟨m,hn,hl⟩:=I.loc;refine⟨m,ns m hn,λi x v e1 e2 e3=>?_⟩;obtain⟨u,r,l⟩:=hl i x v e1 e2 e3;refine⟨u,r,?_⟩;rcases l with l| ⟨k,c,e,z⟩
  ·exact .inl l
  ·exact .inr ⟨k,c,e,cellK x c e _ z⟩
 ·obtain⟨v,z⟩:=I.cell x c e;exact⟨v,cellK x c e v z⟩
 ·obtain⟨m,⟨o,_,_,ho,_⟩,_⟩:=I.loc;exact free _ o (λz=>(Ja _ z).2.1 rfl) ho I.free
 ·obtain⟨v,o,ho,hd⟩:=I.cell x c e;exact free c o (λz=>(Ja c z).2.2.1 x c e rfl) ho (I.iA x c e)
 ·obtain⟨e,n,ne,nf,d⟩:=I.pin p hp;have Sv:p.1∉ch:=λz=>(Ja p.1 z).2.2.2 p hp rfl;exact⟨keep p.1 p.2 ne nf Sv e n,free p.1 p.2 Sv e n,ne,nf,d⟩
def Inv.un{t':Nat}(I:0e6)(u:Un X.fs [] H H' s.heap h')(aP:lD X.prog X.w H' h'):Inv X pins σ H' 11e4:=by
 obtain⟨m,⟨o,es,ep,ho,r⟩,_⟩:=id I.loc;obtain⟨sl,hL⟩:=u.any ho I.free 2e3
 exact I.step (g':=s.gens) (d':=s.drawn) (ch:=[]) (λ_ z=>nomatch z) (λb o _ hb _ e n=>u.keep b o e n hb 2e3) (λb o _ hb _ e n=>u.slot b o e n hb 2e3) (λb o _ e n=>u.free b o e n 2e3) (λb o _ e=>u.there b o e 2e3) u.pL u.pM u.pN (λm' hm=>by
  obtain⟨o',Wo,Wq,Ak,r'⟩:=hm;rw[ho] at Ak;cases Ak
  exact⟨_,Wo,Wq,hL,r'⟩) aP I.bare
def Inv.call{g':Array GenState}{t':Nat}{d':Drawn}{ch:UV}(I:0e6)(u:Un (rq X.stack) ch H H' s.heap h')(aP:lD X.prog X.w H' h')(hg:AllBare g')
  (Ja:∀b∈ch,(b∈X.ex\/X.s₀.heap.objs.size<=b)/\b≠X.env.locals/\(∀x c,X.env.cells.lookup x=some c->c≠b)/\∀p∈X.pn++pins,p.1≠b):
  Inv X pins σ H' { s with heap:=h',gens:=g',drawn:=d',toks:=t' }:=by
 obtain⟨m,⟨o,es,ep,ho,r⟩,_⟩:=id I.loc;obtain⟨sl,hL⟩:=u.any ho I.free λz=>(Ja _ z).2.1 rfl
 exact I.step (ch:=ch) Ja (λb o hL hb hc e n=>u.keep b o e n (λz=>(mem_cons.mp (I.x6 b z)).elim hL hb) hc) (λb o _ _ hc e n=>u.any e n hc) (λb o hc e n=>u.free b o e n hc) (λb o hc e=>u.there b o e hc) u.pL u.pM u.pN (λm' hm=>by
  obtain⟨o',Wo,Wq,Ak,r'⟩:=hm;rw[ho] at Ak;cases Ak
  exact⟨_,Wo,Wq,hL,r'⟩) aP hg
def Inv.turned{t':Nat}{it:Ps}(I:0e6)(k:∀b o,b≠it->s.heap.get? b=some o->h'.get? b=some o)(hn:H it=none)(hL:it≠X.env.locals)
  (h1:it∈X.ex\/X.s₀.heap.objs.size<=it) (h2:∀x c,X.env.cells.lookup x=some c->c≠it) (h3:∀p∈X.pn++pins,p.1≠it):Inv X pins σ H 11e4:=by
 have nit:∀b u,H b=some u->b≠it:=λb u e z=>by lia
 refine I.step (g':=s.gens) (d':=s.drawn) (ch:=[it]) (λb hb=>?_) (λb o _ _ hc e _=>k b o (λz=>hc (by simp [z])) e) (λb o _ _ hc e _=>⟨o.slots,k b o (λz=>hc (by simp [z])) e⟩) (λ_ _ _ _ n=>n)
  (λb o hc e=>⟨o,k b o (λz=>hc (by simp [z])) e⟩) (λ_ _ e=>e) (λ_ _ _ e=>e) (λb ps e=>⟨#[],by rw[e];simp⟩) (λm hm=>?_) (λb u e=>?_) I.bare
 ·have e:b=it:=by simpa using hb
  subst e;exact⟨h1,hL,h2,h3⟩
 ·obtain⟨o,es,ep,ho,r⟩:=hm;exact⟨o,es,ep,k _ o (Ne.symm hL) ho,r⟩
 ·refine(I.aP b u e).sV (λc v hc q=>k c v ?_ q) (λ_ q=>q) λ_ _ q=>q
  lia
def Inv.tok(I:0e6)(t:Nat):Inv X pins σ H { s with toks:=t }:=I.un (h':=s.heap) (t':=t) Un.refl I.aP
theorem Inv.kept{t':Nat}(I:0e6)(k:∀b u,s.heap.get? b=some u->h'.get? b=some u):Inv X pins σ H 11e4:=I.un (Un.kept k) (I.aP.kept k)
theorem Inv.laid{a:Ps}{o:HO}{t':Nat}(I:0e6)(k:∀b u,s.heap.get? b=some u->h'.get? b=some u)(hp:s.heap.objs.size<=a)(new:cK X.prog X.w (upd H a o) h' a o):
  Inv X pins σ (upd H a o) 11e4:=I.un (Un.laid k hp (I.aP.fresh hp)) (I.aP.laid k hp new)
theorem Inv.write{x e:Ps}{o:HO}{t':Nat}(I:0e6)(mu:W6 (H x))(he:e=x\/H e=some (.own x))(k:∀b u,b≠e->s.heap.get? b=some u->h'.get? b=some u)(W7:∃u,h'.get? e=some u)
  (new:cK X.prog X.w (upd H x o) h' x o):Inv X pins σ (upd H x o) 11e4:=I.un (Un.write mu he k W7) (I.aP.write mu he k W7 new)
def Inv.rN{pins':WF}(I:0e6)(h:∀p∈pins',s.heap.get? p.1=some p.2/\H p.1=none/\p.1≠X.env.locals/\p.1∉X.fs/\∀v,p.2.data≠ .cell v):Inv X pins' σ H s:=
 ⟨I.ok,I.os,I.bare,I.base,I.loc,I.cell,I.free,I.iA,λp hp=>(mem_append.mp hp).elim (λz=>I.pin p (mem_append_left _ z)) (h p),I.aP,I.len⟩
def sW{N:IR}(hN:N.Nodup){i j:Nat}{x:Str}(a:N[i]? =some x)(b:N[j]? =some x):i=j:=by
 obtain⟨h1,e1⟩:=List.getElem?_eq_some_iff.mp a;obtain⟨h2,e2⟩:=List.getElem?_eq_some_iff.mp b;exact(List.getElem_inj hN).mp (e1.trans e2.symm)
def pO{M:Model}{A:Os}{E:XV}{i:Nat}{x:Str}{v:V}{u:Pn}{Q:ZB}(I:0e6)(hN:X.N.Nodup)(hi:X.N[i]? =some x)(hx:Loc X.env.scope x)(r:RelV v u)
  (h:∀s',Inv X pins (σ.set i (some v)) H s'->(∃a,Heap.SameBut a s.heap s'.heap/\(a=X.env.locals\/X.env.cells.lookup x=some a))->Q () s') (hf:13e7:=by first|exact .inl rfl|exact .inr rfl|assumption):wpAny M A (storeName X.env x u) Q E s:=by
 obtain⟨m,hn,hl⟩:=id I.loc;have Sx:(X.env.scope.kind== .class||(X.env.scope.kind== .module&&X.env.locals != X.env.globals))=false:=by rw[I.ok.kind];rfl
 have hiσ:i<σ.length:=by rw[I.len];exact(List.getElem?_eq_some_iff.mp hi).1
 have N5:=I.N5
 have tracked:∀{a:Ps} {h':Heap},(∃o,s.heap.get? a=some o/\H a=none)->Heap.SameBut a s.heap h'->lD X.prog X.w H h':=fun {a h'} ha hs b ob e=>by
  obtain⟨_,_,hfree⟩:=ha;refine(I.aP b ob e).sV (λc w' hc q=>(hs.2 c ?_).trans q) (λ_ q=>q) λ_ _ q=>q
  lia
 rcases hx with hk|hk
 ·refine wpAny_storeName_local hk hn (λh' N6 hs=>?_) Sx;obtain⟨oL,_,_,Wr,_⟩:=id hn;refine h _ ⟨I.ok,I.os,I.bare,⟨λb o e n hb hx=>?_,λb o e n hb hx=>?_,I.base.free,λb o e hx=>?_,I.base.pL,I.base.pM,I.base.pN⟩,⟨_,N6,λj y v' e1 e2 e3=>?_⟩,λy c e=>?_,I.free,I.iA,λp hp=>?_,tracked ⟨oL,Wr,I.free⟩ hs,by simpa using I.len⟩ ⟨_,hs, .inl rfl⟩
  ·exact(hs.2 b (ne_of_lt (lt_of_lt_of_le 10e5 I.ok.above))).trans (I.base.keep b o e n hb hx)
  ·obtain⟨sl,e1⟩:=I.base.slot b o e n hb hx;exact⟨sl,(hs.2 b (ne_of_lt (lt_of_lt_of_le 10e5 I.ok.above))).trans e1⟩
  ·obtain⟨o',e1⟩:=I.base.there b o e hx;exact⟨o',(hs.2 b (ne_of_lt (lt_of_lt_of_le 10e5 I.ok.above))).trans e1⟩
  ·by_cases hj:j=i
   ·subst hj;rw[hi] at e1;cases e1;rw[getElem?_set_self hiσ] at e2;cases e2;exact⟨u,r, .inl ⟨hk,by simp⟩⟩
   ·rw[getElem?_set_ne (Ne.symm hj)] at e2;obtain⟨u',r',q⟩:=hl j y v' e1 e2 e3;refine⟨u',r',?_⟩;rcases q with ⟨k,e⟩ | ⟨k,c,e,z⟩
    ·refine .inl ⟨k,?_⟩;have:y≠x:=λe=>hj (sW hN e1 (e▸hi));simp [this,e]
    ·exact .inr ⟨k,c,e,z.sameBut hs (N5 y c e)⟩
  ·obtain⟨w',z⟩:=I.cell y c e;exact⟨w',z.sameBut hs (N5 y c e)⟩
  ·obtain⟨e,n,ne,nf,d⟩:=I.pin p hp;exact⟨(hs.2 p.1 ne).trans e,n,ne,nf,d⟩
 ·have hfn:X.fn x=true:=by
   rcases hf with z|z
   ·exact z
   ·rw[z] at hk;cases hk
  obtain⟨c,hc⟩:=I.ok.has x (.inl hk);obtain⟨w',z⟩:=I.cell x c hc;refine wpAny_storeName_cell I.ok.kind hk hc z (λh' N7 hs=>?_);obtain⟨oc,hoc,hocd⟩:=id z;refine h 7e4 ⟨I.ok,I.os,I.bare,⟨λb o e n hb hx=>?_,λb o e n hb hx=>?_,I.base.free,λb o e hx=>?_,I.base.pL,I.base.pM,I.base.pN⟩,⟨m,hn.sameBut hs (Ne.symm (N5 x c hc)),λj y v' e1 e2 e3=>?_⟩,λy c' e=>?_,I.free,I.iA,λp hp=>?_,tracked ⟨oc,hoc,I.iA x c hc⟩ hs,by simpa using I.len⟩ ⟨c,hs, .inr hc⟩
  ·exact(hs.2 b (ne_of_lt (lt_of_lt_of_le 10e5 (I.ok.N4 x c hfn hc)))).trans (I.base.keep b o e n hb hx)
  ·obtain⟨sl,e1⟩:=I.base.slot b o e n hb hx;exact⟨sl,(hs.2 b (ne_of_lt (lt_of_lt_of_le 10e5 (I.ok.N4 x c hfn hc)))).trans e1⟩
  ·obtain⟨o',e1⟩:=I.base.there b o e hx;exact⟨o',(hs.2 b (ne_of_lt (lt_of_lt_of_le 10e5 (I.ok.N4 x c hfn hc)))).trans e1⟩
  ·by_cases hj:j=i
   ·subst hj;rw[hi] at e1;cases e1;rw[getElem?_set_self hiσ] at e2;cases e2;exact⟨u,r, .inr ⟨.inl hk,c,hc,N7⟩⟩
   ·rw[getElem?_set_ne (Ne.symm hj)] at e2;obtain⟨u',r',q⟩:=hl j y v' e1 e2 e3;refine⟨u',r',?_⟩;rcases q with q| ⟨k,c',e,z'⟩
    ·exact .inl q
    ·refine .inr ⟨k,c',e,z'.sameBut hs ?_⟩;rintro rfl;exact hj (sW hN e1 (I.ok.inj _ _ _ e hc▸hi))
  ·by_cases hcc:c'=c
   ·subst hcc;exact⟨_,N7⟩
   ·obtain⟨w2,z2⟩:=I.cell y c' e;exact⟨w2,z2.sameBut hs hcc⟩
  ·obtain⟨e,n,ne,nf,d⟩:=I.pin p hp;refine⟨(hs.2 p.1 ?_).trans e,n,ne,nf,d⟩;intro q;rw[q,hoc] at e;have q':oc=p.2:=Option.some.inj e;exact d w' (by rw[<-q'];exact hocd)
def store_ok{M:Model}{A:Os}{E:XV}{i:Nat}{x:Str}{v:V}{u:Pn}{Q:ZB}(I:0e6)(hN:X.N.Nodup)(hi:X.N[i]? =some x)(hx:Loc X.env.scope x)(r:RelV v u)
  (h:∀s',Inv X pins (σ.set i (some v)) H s'->Q () s') (hf:13e7:=by first|exact .inl rfl|exact .inr rfl|assumption):wpAny M A (storeName X.env x u) Q E s:=
 pO I hN hi hx r (λs' I' _=>h s' I') hf
def Inv.Al{s':Op}{ch:UV}(I:0e6)(ho:s'.os=s.os)(u:Un (rq X.stack) ch H H' s.heap s'.heap)(aP:lD X.prog X.w H' s'.heap)(hg:AllBare s'.gens)
  (Ja:∀b∈ch,(b∈X.ex\/X.s₀.heap.objs.size<=b)/\b≠X.env.locals/\(∀x c,X.env.cells.lookup x=some c->c≠b)/\∀p∈X.pn++pins,p.1≠b):Inv X pins σ H' s':=by
 obtain⟨h',g',d',t',o'⟩:=s';have e:o'=s.os:=ho;subst e;exact I.call (g':=g') (t':=t') (d':=d') u aP hg Ja
end
abbrev XK:=Value->Option Addr->Hp->Prop
abbrev St:=List (Option V)
abbrev VK:=V->Hp->Prop
abbrev TE:=St->Hp->VK->Prop
abbrev TT:=St->Hp->(Bool->Hp->Prop)->Prop
abbrev TA:=St->Hp->(List V->Hp->Prop)->Prop
structure Ends where
 nx:St->Hp->Prop
 rt:VK
 bk:St->Hp->Prop:=λ_ _=>False
 ct:St->Hp->Prop:=λ_ _=>False
abbrev TS:=Ends->St->Hp->Prop
inductive EP(X:Cx)(pins:List (Addr×Obj))(σ:St)(Q:VK)(u:Value)(s':Shared):Prop
 |mk (v H':_) (bJ:Inv X pins σ H' s') (bT:RelV v u) (cw:Q v H')
def TP(X:Cx)(pins:WF)(σ:St)(Q:Bool->Hp->Prop)(b:Bool)(s':Op):Prop:=∃H',Inv X pins σ H' s'/\Q b H'
inductive AP(X:Cx)(pins:List (Addr×Obj))(σ:St)(Q:List V->Hp->Prop)(us:List Value)(s':Shared):Prop
 |mk (vs H':_) (bJ:Inv X pins σ H' s') (bT:Vals vs us) (cw:Q vs H')
def SP(X:Cx)(pins:WF)(D:Ends)(f:Flow)(s':Op):Prop:=
 match f with
 | .next=>∃σ' H',Inv X pins σ' H' s'/\D.nx σ' H'
 | .brk=>∃σ' H',Inv X pins σ' H' s'/\D.bk σ' H'
 | .cont=>∃σ' H',Inv X pins σ' H' s'/\D.ct σ' H'
 | .ret u=>∃v σ' H',Inv X pins σ' H' s'/\RelV v u/\D.rt v H'
def PE(X:Cx)(e:Expr)(t:TE):Prop:=
 ∀(pins:WF) (s:Op) (σ:St) (H:Hp) (Q:VK),Inv X pins σ H s->t σ H Q->wpAny 0e8 X.A (eval e X.env) 9e0 X.xe s
def PT(X:Cx)(e:Expr)(t:TT):Prop:=
 ∀(pins:WF) (s:Op) (σ:St) (H:Hp) (Q:Bool->Hp->Prop),Inv X pins σ H s->t σ H Q->wpAny 0e8 X.A (isTrue e X.env (eval e X.env)) (TP X pins σ Q) X.xe s
def PW(X:Cx)(e:Expr)(t:TT):Prop:=
 ∀(whole:Sem Value) (pins:WF) (s:Op) (σ:St) (H:Hp) (Q:Bool->Hp->Prop),Inv X pins σ H s->t σ H Q->wpAny 0e8 X.A (isTrue e X.env whole) (TP X pins σ Q) X.xe s
def PW.pt{X:Cx}{e:Expr}{t:TT}(h:PW X e t):PT X e t:=h _
def PA(X:Cx)(es:Ix)(t:TA):Prop:=
 ∀(pos:Pos) (pins:WF) (s:Op) (σ:St) (H:Hp) (Q:List V->Hp->Prop),Inv X pins σ H s->t σ H Q->wpAny 0e8 X.A (spliced (backTo pos (starEach es X.env))) (AP X pins σ Q) X.xe s
def PS(X:Cx)(st:Stmt)(t:TS):Prop:=
 ∀(pins:WF) (s:Op) (σ:St) (H:Hp) (D:Ends),Inv X pins σ H s->t D σ H->wpAny 0e8 X.A (exec st X.env) (SP X pins D) X.xe s
def ni(X:Cx)(st:List Stmt)(t:TS):Prop:=
 ∀(pins:WF) (s:Op) (σ:St) (H:Hp) (D:Ends),Inv X pins σ H s->t D σ H->wpAny 0e8 X.A (execs st X.env) (SP X pins D) X.xe s
def cg{α:Type}{t:Sem α}{Q Q':α->Shared->Prop}{M:Model}{A:Os}{E:XV}{s:Op}(h:wpAny M A t Q E s)(hQ:∀a s,Q a s->Q' a s):wpAny M A t Q' E s:=wpAny_mono h hQ λ_ _ x=>x
section
variable {X:Cx}
inductive RV(i:Nat)(σ:St)(H:Hp)(Q:VK):Prop
 |mk (v:V) (e:σ[i]? =some (some v)) (q:Q v H)
def lK(i:Nat):TE:=fun σ H Q=>RV i σ H Q
def tC(v:V):TE:=λ_ H Q=>Q v H
def Sy{i:Nat}{x:Str}{pos:Pos}(hN:X.N[i]? =some x)(hv:Vis X.env.scope x)(hd:2e8:=by decide)(rA:(x==("__classdict__" :Str))=false:=by decide):PE X (.Name x pos) (lK i):=by
 intro pins s σ H Q I h;obtain⟨v,e,h⟩:=h;obtain⟨m,hn,hl⟩:=I.loc;obtain⟨u,r,l⟩:=hl i x v hN e hv;have fin:EP X pins σ Q u s:=⟨v,H,I,r,h⟩;rcases l with ⟨hk,hm⟩ | ⟨hk,c,hc,QX⟩
 ·exact wpAny_Name (wpAny_loadName_local I.ok.kind hk hn hm fin) hd
 ·rcases hk with hk|hk
  ·exact wpAny_Name (wpAny_loadName_cell I.ok.kind hk hc QX fin) hd
  ·exact wpAny_Name (wpAny_loadName_free I.ok.kind hk hc QX fin rA) hd
def aq{i j pos}:PE X (.Constant (.int i) j pos) (tC (.int i)):=λ_ _ _ H _ I h=>wpAny_Constant_int ⟨.int i,H,I.tok _,3e5,h⟩
def qO{b j pos}:PE X (.Constant (.bool b) j pos) (tC (.bl b)):=λ_ _ _ H _ I h=>Constant_bool ⟨.bl b,H,I,rfl,h⟩
def pP{j pos}:PE X (.Constant .none j pos) (tC .cR):=λ_ _ _ H _ I h=>Constant_none ⟨.cR,H,I,rfl,h⟩
def aU{x j pos}:PE X (.Constant (.str x) j pos) (tC (.str x)):=λ_ _ _ H _ I h=>Calls.Constant_str ⟨.str x,H,I.tok _,3e5,h⟩
def Gl(X:Cx)(x:Str):Prop:=X.env.kindOf x=some .globalImplicit
def iG{E:XV}{pins:WF}{s:Op}{σ:St}{H:Hp}{x:Str}{u:Pn}{pos:Pos}{Q:XV}(I:0e6)(hg:Gl X x)(hm:X.mg x=some u)(h:Q u s)
  (hd:2e8:=by decide):wpAny 0e8 X.A (eval (.Name x pos) X.env) Q E s:=
 Calls.Name_function_global I.ok.kind hg (Calls.loadGlobal_global (by rw[I.ok.glob];exact I.mod.glob.keeps I.bk) hm h) hd
def pQ{E:XV}{pins:WF}{s:Op}{σ:St}{H:Hp}{x:Str}{u:Pn}{pos:Pos}{Q:XV}(I:0e6)(hg:Gl X x)(hm:X.mg x=none)(hv:bootBuiltins x=some u)(h:Q u s)
  (hn:x≠"__name__" :=by decide) (hd:2e8:=by decide):wpAny 0e8 X.A (eval (.Name x pos) X.env) Q E s:=by
 obtain⟨mb,h1,h2⟩:=I.mod.blt;exact Calls.Name_function_global I.ok.kind hg (Calls.loadGlobal_builtin (by rw[I.ok.glob];exact I.mod.glob.keeps I.bk) hm (by rw[I.ok.blt];exact h1.keeps I.bk) ((h2 x hn).trans hv) h) hd
def bo{x:Str}{v:V}{u:Pn}{pos:Pos}(hg:Gl X x)(hm:X.mg x=some u)(r:RelV v u)(hd:2e8:=by decide):PE X (.Name x pos) (tC v):=
 λ_ _ _ H _ I h=>iG I hg hm ⟨v,H,I,r,h⟩ hd
def oh{x:Str}{v:V}{u:Pn}{pos:Pos}(hg:Gl X x)(hm:X.mg x=none)(hv:bootBuiltins x=some u)(r:RelV v u)(hn:x≠"__name__" :=by decide)(hd:2e8:=by decide):PE X (.Name x pos) (tC v):=
 λ_ _ _ H _ I h=>pQ I hg hm hv ⟨v,H,I,r,h⟩ hn hd
variable {a b:Expr}{ta tb:TE}{pos:Pos}
def PC(X:Cx)(op:CmpOp)(a b:Expr)(t:TE):Prop:=
 ∀(pins:WF) (s:Op) (σ:St) (H:Hp) (Q:VK),Inv X pins σ H s->t σ H Q->
  wpAny 0e8 X.A (eval a X.env) (λv s₁=>wpAny 0e8 X.A (eval b X.env) (λu s₂=>wpAny 0e8 X.A (compareOp op v u) 9e0 X.xe s₂) X.xe s₁) X.xe s
def Jq(b:Expr){op:CmpOp}(h:op≠ .In)(h2:op≠ .NotIn):behindInMarks op b=false:=by
 have e1:(op==CmpOp.In)=false:=by cases op<;>first|rfl|exact absurd rfl h
 have e2:(op==CmpOp.NotIn)=false:=by lia
 cases b<;>simp [behindInMarks,e1,e2]
def tIsN(ta:TE):TE:=fun σ H Q=>ta σ H λx H1=>Q (.bl (decide (x= .cR))) H1
def W9(ta:TE):TE:=fun σ H Q=>ta σ H λx H1=>Q (.bl (!decide (x= .cR))) H1
def RelV.Am{x:V}{v:Pn}(r:RelV x v):(v==Value.none)=decide (x= .cR):=by
 cases x with
 |cR=>cases r;rfl
 |bl _=>cases r;rfl
 |int _=>obtain⟨t,rfl⟩:=r;rfl
 |str _=>obtain⟨t,rfl⟩:=r;rfl
 |CA _=>obtain⟨t,rfl⟩:=r;rfl
 |QU _=>obtain⟨t,rfl⟩:=r;rfl
 |ref _=>cases r;rfl
 |ty _=>cases r;rfl
def x9{j pos'}(ha:PE X a ta):PC X .Is a (.Constant .none j pos') (tIsN ta):=by
 intro pins s σ H Q I h;refine cg 7e7 λv s1 ⟨x,H1,I1,r1,q1⟩=>?_;exact Constant_none (is_none_gen ⟨.bl _,H1,I1,by rw[r1.Am];rfl,q1⟩)
def ya{j pos'}(ha:PE X a ta):PC X .IsNot a (.Constant .none j pos') (W9 ta):=by
 intro pins s σ H Q I h;refine cg 7e7 λv s1 ⟨x,H1,I1,r1,q1⟩=>?_;exact Constant_none (isnot_none_gen ⟨.bl _,H1,I1,by rw[r1.Am];rfl,q1⟩)
def tB(t:TE):TT:=fun σ H Q=>t σ H λx H1=>∃c,x= .bl c/\Q c H1
def nG{op:CmpOp}{t:TE}(h:PC X op a b t)(h1:behindInMarks op b=false:=by first|exact Jq _ (by decide) (by decide) |rfl):PT X (.Compare a [op] [b] pos) (tB t):=by
 intro pins s σ H Q I hw;refine wpAny_isTrue_Compare1 (cg (h pins s σ H _ I hw) λv s1 h1=>cg h1 λu s2 h2=>cg h2 λc s3 ⟨x,H1,I1,r1,q1⟩=>?_) h1;obtain⟨d,rfl,q⟩:=q1;cases r1;exact wpAny_truthy_bool ⟨H1,I1,q⟩
def gT{e:Expr}{t:TE}(h:PE X e t)(he:∀whole,isTrue e X.env whole=(do let v<-whole;standAt e.pos;holding [v] (truthy v)):=by intro _;rfl):PT X e (tB t):=by
 intro pins s σ H Q I hw;refine isTrue_plain (cg (h pins s σ H _ I hw) λv s1 ⟨x,H1,I1,r1,q1⟩=>?_) (he _);obtain⟨d,rfl,q⟩:=q1;cases r1;exact wpAny_truthy_bool ⟨H1,I1,q⟩
variable {tA tB':TT}{rest:Ix}
def tAnd(t u:TT):TT:=fun σ H Q=>t σ H λc H1=>if c=true then u σ H1 Q else Q false H1
def tOr(t u:TT):TT:=fun σ H Q=>t σ H λc H1=>if c=true then Q true H1 else u σ H1 Q
def tNot(t:TT):TT:=fun σ H Q=>t σ H λc H1=>Q (!c) H1
def oj(ha:PT X a tA):PW X (.BoolOp .And [a] pos) tA:=by
 intro wh pins s σ H Q I h;refine isTrue_and (cg (ha pins s σ H Q I h) λc s1 e=>?_)
 cases c with
 |true=>exact isTrue_and_nil e
 |false=>exact e
def lL(ha:PT X a tA):PW X (.BoolOp .Or [a] pos) tA:=by
 intro wh pins s σ H Q I h;refine isTrue_or (cg (ha pins s σ H Q I h) λc s1 e=>?_)
 cases c with
 |false=>exact isTrue_or_nil e
 |true=>exact e
def sX(ha:PT X a tA)(hb:PW X (.BoolOp .And (b::rest) pos) tB'):PW X (.BoolOp .And (a::b::rest) pos) (tAnd tA tB'):=by
 intro wh pins s σ H Q I h;refine isTrue_and (cg 7e7 λc s1 ⟨H1,I1,q1⟩=>?_)
 cases c with
 |true=>exact hb wh pins s1 σ H1 Q I1 q1
 |false=>exact⟨H1,I1,q1⟩
def om(ha:PT X a tA)(hb:PW X (.BoolOp .Or (b::rest) pos) tB'):PW X (.BoolOp .Or (a::b::rest) pos) (tOr tA tB'):=by
 intro wh pins s σ H Q I h;refine isTrue_or (cg 7e7 λc s1 ⟨H1,I1,q1⟩=>?_)
 cases c with
 |true=>exact⟨H1,I1,q1⟩
 |false=>exact hb wh pins s1 σ H1 Q I1 q1
def nH(ha:PT X a tA):PT X (.UnaryOp .Not a pos) (tNot tA):=by
 intro pins s σ H Q I h;exact isTrue_not (ha pins s σ H (λc H1=>Q (!c) H1) I h)
def W'(ta tb:TE):TE:=fun σ H Q=>ta σ H λx H1=>∃c,x= .bl c/\if c=true then tb σ H1 Q else Q (.bl false) H1
def Xa(ta:TE):TE:=fun σ H Q=>ta σ H λx H1=>∃c,x= .bl c/\Q (.bl (!c)) H1
def Jr{op}{t:TE}(h:PE X a t):PE X (.BoolOp op [a] pos) t:=λpins s σ H Q I hw=>BoolOp_one (h pins s σ H Q I hw)
def Js(ha:PE X a ta)(hb:PE X (.BoolOp .And (b::rest) pos) tb):PE X (.BoolOp .And (a::b::rest) pos) (W' ta tb):=by
 intro pins s σ H Q I h;refine BoolOp_and (cg 7e7 λv s1 ⟨x,H1,I1,r1,q1⟩=>?_);obtain⟨c,rfl,q1⟩:=q1;cases r1;refine wpAny_truthy_bool ?_
 cases c with
 |true=>exact hb pins s1 σ H1 Q I1 q1
 |false=>exact⟨.bl false,H1,I1,U,q1⟩
def Sz(ha:PE X a ta):PE X (.UnaryOp .Not a pos) (Xa ta):=by
 intro pins s σ H Q I h;refine UnaryOp_ (cg 7e7 λv s1 ⟨x,H1,I1,r1,q1⟩=>?_);obtain⟨c,rfl,q1⟩:=q1;cases r1;exact not_of (wpAny_truthy_bool ⟨.bl (!c),H1,I1,rfl,q1⟩)
def tIf(t:TT)(ta tb:TE):TE:=fun σ H Q=>t σ H λc H1=>if c=true then ta σ H1 Q else tb σ H1 Q
def An{c:Expr}(hc:PT X c tA)(ha:PE X a ta)(hb:PE X b tb):PE X (.IfExp c a b pos) (tIf tA ta tb):=by
 intro pins s σ H Q I h;refine wpAny_IfExp (cg (hc pins s σ H _ I h) λd s1 ⟨H1,I1,q1⟩=>?_)
 cases d with
 |true=>exact ha pins s1 σ H1 Q I1 q1
 |false=>exact hb pins s1 σ H1 Q I1 q1
end
def bH(K:Uf)(H:Hp)(a:Ps)(xs:KB):Prop:=
 Rd H a (.lst xs)\/
  ∃(o:Obj) (its:15e9) (n:Nat),K.lookup a=some o/\o.cls= .type "list" /\o.dict=none/\o.data= .seq its n/\its.size<=sizeLine/\Vals xs its.toList
def iB(K:Uf)(H:Hp)(a:Ps)(xs:KB):Prop:=
 Rd H a (.tup xs)\/
  ∃(o:Obj) (its:15e9) (n:Nat),K.lookup a=some o/\o.cls= .type "tuple" /\o.data= .seq its n/\its.size<=sizeLine/\Vals xs its.toList
noncomputable def absV:Value->Option V
 | .none=>some .cR
 | .bool b=>some (.bl b)
 | .int i _=>some (.int i)
 | .str x _=>some (.str x)
 | .bytes b _=>some (.CA b)
 | .float b _=>some (.QU b)
 | .ref a=>some 18e2
 | .type n=>some (.ty n)
 |_=>none
def RelV.abs{x:V}{u:Pn}(r:RelV x u):absV u=some x:=by
 cases x with
 |cR=>cases r;rfl
 |bl _=>cases r;rfl
 |int _=>obtain⟨t,rfl⟩:=r;rfl
 |str _=>obtain⟨t,rfl⟩:=r;rfl
 |CA _=>obtain⟨t,rfl⟩:=r;rfl
 |QU _=>obtain⟨t,rfl⟩:=r;rfl
 |ref _=>cases r;rfl
 |ty _=>cases r;rfl
theorem RelV.inj{x y:V}{u:Pn}(r:RelV x u)(q:RelV y u):x=y:=Option.some.inj (r.abs.symm.trans q.abs)
theorem Vals.inj:∀{xs ys:KB} {us:UF},Vals xs us->Vals ys us->xs=ys
 |_,_,_, .nil, .nil=>rfl
 |_,_,_, .cons r t, .cons r' t'=>by rw[r.inj r',Vals.inj t t']
section
variable {X:Cx}{pins:WF}{σ:St}{H:Hp}{s:Op}{a:Ps}{xs ys:KB}
def bH.of{K:Uf}(h:H a=some (.lst xs)):bH K H a xs:= .inl (.inl h)
def iB.of{K:Uf}(h:H a=some (.tup xs)):iB K H a xs:= .inl (.inl h)
def Inv.list(I:0e6)(h:bH X.K H a xs):∃its:List Value,Vals xs its/\PlainL s.heap a its.toArray/\xs.length<=sizeLine:=by
 rcases h with h| ⟨o,its,n,hk,hc,hd,hs,hz,r⟩
 ·obtain⟨z,its,n,r,e⟩:=h.ok I.aP;exact⟨its,r,⟨_,n,e,U,U,U⟩,z⟩
 ·refine⟨its.toList,r,⟨o,n,I.jq a o hk,hc,hd,by simpa using hs⟩,?_⟩;have e:=r.length;simp_all
def Inv.tuple(I:0e6)(h:iB X.K H a xs):∃its:List Value,Vals xs its/\IsTup s.heap a its.toArray/\xs.length<=sizeLine:=by
 rcases h with h| ⟨o,its,n,hk,hc,hs,hz,r⟩
 ·obtain⟨z,its,r,p⟩:=h.ok I.aP;exact⟨its,r,p,z⟩
 ·refine⟨its.toList,r,⟨o,I.jq a o hk,hc,n,by simpa using hs⟩,?_⟩;have e:=r.length;simp_all
def Inv.Ao(I:0e6)(h:bH X.K H a xs)(h':bH X.K H a ys):xs=ys:=by
 obtain⟨its,r,⟨o,n,e,_,_,d⟩,_⟩:=I.list h;obtain⟨its',r',⟨o',n',e',_,_,d'⟩,_⟩:=I.list h';rw[e] at e';cases e';rw[d] at d';injection d' with d1 _;have:its=its':=by lia
 subst this;exact r.inj r'
end
noncomputable abbrev Cx.iH(X:Cx)(E:Value->Shared->Prop):Cx:={ X with xe:=E }
noncomputable abbrev Cx.Jt(X:Cx):Cx:=X.iH λ_ _=>False
theorem Cx.Ok.iH{X:Cx}(ok:X.Ok)(E:XV):(X.iH E).Ok:=
 3e3
def Cx.Ok.eL{X:Cx}{E:XV}(ok:(X.iH E).Ok):X.Ok:=
 3e3
section
variable {X:Cx}{pins:WF}{σ:St}{H:Hp}{s:Op}{E:XV}
theorem Inv.iH(I:0e6)(E:XV):Inv (X.iH E) pins σ H s:=⟨I.ok.iH E,I.os,I.bare,I.base,I.loc,I.cell,I.free,I.iA,I.pin,I.aP,I.len⟩
theorem Inv.eL(I:Inv (X.iH E) pins σ H s):Inv X pins σ H s:=⟨I.ok.eL,I.os,I.bare,I.base,I.loc,I.cell,I.free,I.iA,I.pin,I.aP,I.len⟩
theorem SP.eL{D:Ends}{f:Flow}{s':Op}(h:SP (X.iH E) pins D f s'):SP X pins D f s':=by
 cases f with
 |next=>obtain⟨σ',H',I,q⟩:=h;exact⟨σ',H',I.eL,q⟩
 |brk=>obtain⟨σ',H',I,q⟩:=h;exact⟨σ',H',I.eL,q⟩
 |cont=>obtain⟨σ',H',I,q⟩:=h;exact⟨σ',H',I.eL,q⟩
 |ret u=>obtain⟨v,σ',H',I,r,q⟩:=h;exact⟨v,σ',H',I.eL,r,q⟩
theorem ni.Jt{st:List Stmt}{t:TS}(h:ni X.Jt st t):ni X st t:=λpins s σ H D I hw=>
 wpAny_mono (h pins s σ H D (I.iH _) hw) (λ_ _ q=>q.eL) λ_ _ z=>False.elim z
end
section
variable {X:Cx}{st:Stmt}{rest:List Stmt}{t u:TS}{e:Expr}{te:TE}{pos:Pos}
def Ap:TS:=λD σ H=>D.nx σ H
def yb(t u:TS):TS:=λD σ H=>t { D with nx:=u D } σ H
def aN:ni X [] Ap:=λ_ _ σ H _ I h=>wpAny_execs_nil ⟨σ,H,I,h⟩
def ai(h1:PS X st t)(h2:ni X rest u):ni X (st::rest) (yb t u):=by
 intro pins s σ H D I h;refine wpAny_execs_cons (cg (h1 pins s σ H { D with nx:=u D } I h) λf s1 q=>?_)
 cases f with
 |next=>
  obtain⟨σ',H',I',q⟩:=q;exact h2 pins s1 σ' H' D I' q
 |ret v=>exact q
 |brk=>exact q
 |cont=>exact q
def ao(h1:PS X st t):ni X [st] t:=by
 intro pins s σ H D I h;refine wpAny_execs_cons (cg (h1 pins s σ H D I h) λf s1 q=>?_)
 cases f with
 |next=>exact wpAny_execs_nil q
 |ret v=>exact q
 |brk=>exact q
 |cont=>exact q
def Inv.quiet{pins:WF}{σ:St}{H:Hp}{s:Op}(I:0e6):interactive X.env=false:=by simp [interactive,I.ok.kind]
def Xb(te:TE):TS:=λD σ H=>te σ H λ_ H1=>D.nx σ H1
def a8(he:PE X e te)(hs:swapsWith e none pos.line X.env=pure false:=by rfl):PS X (.Expr e pos) (Xb te):=by
 intro pins s σ H D I h;exact wpAny_Expr_any (cg 5e9 λv s1 ⟨x,H1,I1,r1,q1⟩=>⟨σ,H1,I1,q1⟩) I.quiet hs
def tRet(te:TE):TS:=λD σ H=>te σ H D.rt
def aD(he:PE X e te):PS X (.Return (some e) pos) (tRet te):=by
 intro pins s σ H D I h;exact wpAny_Return_some (cg 5e9 λv s1 ⟨x,H1,I1,r1,q1⟩=>⟨x,σ,H1,I1,r1,q1⟩)
def Xc:TS:=λD _ H=>D.rt .cR H
def N8:PS X (.Return none pos) Xc:=λ_ _ σ H _ I h=>wpAny_Return_none ⟨.cR,σ,H,I,rfl,h⟩
def SA(c:TT)(t u:TS):TS:=λD σ H=>c σ H λb H1=>if b=true then t D σ H1 else u D σ H1
def bK{c:Expr}{a b:List Stmt}{tc:TT}(hc:PT X c tc)(ha:ni X a t)(hb:ni X b u):PS X (.If c a b pos) (SA tc t u):=by
 intro pins s σ H D I h;refine wpAny_If (cg (hc pins s σ H _ I h) λd s1 ⟨H1,I1,q1⟩=>?_)
 cases d with
 |true=>exact ha pins s1 σ H1 D I1 q1
 |false=>exact hb pins s1 σ H1 D I1 q1
end
abbrev TG:=V->St->Hp->(St->Hp->Prop)->Prop
abbrev Nz:=List V->St->Hp->(St->Hp->Prop)->Prop
def PG(X:Cx)(target:Expr)(t:TG):Prop:=
 ∀(pins:WF) (s:Op) (σ:St) (H:Hp) (v:V) (u:Pn) (Q:St->Hp->Prop),Inv X pins σ H s->RelV v u->t v σ H Q->
  wpAny 0e8 X.A (assign target X.env u) (λ_ s'=>∃σ' H',Inv X pins σ' H' s'/\Q σ' H') X.xe s
def Ws(X:Cx)(ts:Ix)(t:Nz):Prop:=
 ∀(pins:WF) (s:Op) (σ:St) (H:Hp) (vs:KB) (us:UF) (Q:St->Hp->Prop),Inv X pins σ H s->Vals vs us->t vs σ H Q->
  wpAny 0e8 X.A (assignInOrder ((assignEach ts X.env).map (·.2)) us) (λ_ s'=>∃σ' H',Inv X pins σ' H' s'/\Q σ' H') X.xe s
abbrev SD:=V->V->V->Hp->(Hp->Prop)->Prop
def Xd(X:Cx)(t:SD):Prop:=
 ∀(pins:WF) (s:Op) (σ:St) (H:Hp) (o i v:V) (ov iv u:Pn) (Q:Hp->Prop),Inv X pins σ H s->RelV o ov->RelV i iv->RelV v u->t o i v H Q->
  wpAny 0e8 X.A (setItem ov iv u) (λ_ s'=>∃H',Inv X pins σ H' s'/\Q H') X.xe s
section
variable {X:Cx}{pos:Pos}
def bX(i:Nat):TG:=λv σ H Q=>Q (σ.set i (some v)) H
def aE{i:Nat}{x:Str}(hN:X.N.Nodup)(hi:X.N[i]? =some x)(hx:Loc X.env.scope x)(hf:13e7:=by first|exact .inl rfl|exact .inr rfl|assumption):PG X (.Name x pos) (bX i):=by
 intro pins s σ H v u Q I r h;exact wpAny_assign_Name (store_ok I hN hi hx r (λs' I'=>⟨_,H,I',h⟩) hf)
def gNil:Nz:=λvs σ H Q=>vs=[]/\Q σ H
inductive SE(t:TG)(u:Nz)(vs:5e2)(σ:St)(H:Hp)(Q:St->Hp->Prop):Prop
 |mk (v r:_) (bJ:vs=v::r) (bT:t v σ H fun σ' H'=>u r σ' H' Q)
def Xe(t:TG)(u:Nz):Nz:=SE t u
def dR:Ws X [] gNil:=by
 intro pins s σ H vs us Q I r h;obtain⟨e,h⟩:=h;subst e;cases r;exact assignInOrder_nil ⟨σ,H,I,h⟩
def aX{e:Expr}{es:Ix}{t:TG}{u:Nz}(h1:PG X e t)(h2:Ws X es u)
  (hs:(assignEach (e::es) X.env).map (·.2)=assign e X.env::(assignEach es X.env).map (·.2):=by rfl):Ws X (e::es) (Xe t u):=by
 intro pins s σ H vs us Q I r h;obtain⟨v,vr,e1,h⟩:=h;subst e1
 cases r with
 |cons r rr=>
  rw[hs];refine assignInOrder_cons (cg (h1 pins s σ H _ _ _ I r h) λ_ s1 ⟨σ1,H1,I1,q1⟩=>?_);exact h2 pins s1 σ1 H1 _ _ Q I1 rr q1
inductive Xf(K:1e5)(n:Nat)(t:Nz)(v:V)(σ:St)(H:Hp)(Q:St->Hp->Prop):Prop
 |mk (a xs:_) (bJ:v= .ref a) (bT:iB K H a xs) (cw:xs.length=n) (dh:t xs σ H Q)
def Xg(K:Uf)(n:Nat)(t:Nz):TG:=Xf K n t
def il{es:Ix}{k:Nat}{t:Nz}{n:Nat}(hc:19e5)(h:Ws X es t)
  (hn:(assignEach es X.env).length=n:=by rfl) (fJ:(assignEach es X.env).findIdx? 2e1=none:=by rfl):PG X (.Tuple es k pos) (Xg X.K n t):=by
 intro pins s σ H v u Q I r hw;obtain⟨a,xs,e1,hq,hl,hw⟩:=hw;subst e1;cases r;obtain⟨its,rv,ht,hz⟩:=I.tuple hq;refine assign_Tuple_tuple 20e1 ht (by simp [hn,<-hl,rv.length]) fJ λh' hx=>?_;have I1:Inv X pins σ H 7e4:=I.kept (t':=s.toks) λb o e=>hx b o (ne_of_lt 10e5) e;exact h pins _ σ H xs _ Q I1 (by simpa using rv) hw
def gSub(to ti:TE)(t:SD):TG:=λv σ H Q=>to σ H λo H1=>ti σ H1 λi H2=>t o i v H2 λH3=>Q σ H3
def SF{o i:Expr}{to ti:TE}{t:SD}(ho:PE X o to)(hi:PE X i ti)(hs:Xd X t)
  (ha:∀v,assign (.Subscript o i pos) X.env v=(do
   let ov<-holding [v] (eval o X.env)
   let iv<-holding [v,ov] (eval i X.env)
   standAt pos
   holding [v,ov,iv] (setItem ov iv v)
   release [v,ov,iv] []):=by intro _;rfl):PG X (.Subscript o i pos) (gSub to ti t):=by
 intro pins s σ H v u Q I r h;rw[ha];refine wpAny_bind (wpAny_holding (cg (ho pins s σ H _ I h) λov s1 ⟨x,H1,I1,r1,q1⟩=>?_));refine wpAny_bind (wpAny_holding (cg (hi pins s1 σ H1 _ I1 q1) λiv s2 ⟨y,H2,I2,r2,q2⟩=>?_));refine wpAny_bind (wpAny_standAt (wpAny_bind (wpAny_holding (cg (hs pins s2 σ H2 x y v ov iv u _ I2 r1 r2 r q2) λ_ s3 ⟨H3,I3,q3⟩=>?_))));exact wpAny_release ⟨σ,H3,I3,q3⟩
def Ju(te:TE)(g:TG):TS:=λD σ H=>te σ H λx H1=>g x σ H1 D.nx
def CB{tg e:Expr}{te:TE}{g:TG}(he:PE X e te)(hg:PG X tg g)(hs:swapsWithSole [tg] e pos.line X.env=pure false:=by rfl)(hw:swappedStores [tg] e X.env=pure none:=by rfl)
  (h1:(assignEach [tg] X.env).map (·.2)=[assign tg X.env]:=by rfl):PS X (.Assign [tg] e pos) (Ju te g):=by
 intro pins s σ H D I h;refine wpAny_Assign_stores (cg 5e9 λv s1 ⟨x,H1,I1,r1,q1⟩=>?_) hs hw;rw[h1];exact cg (hg pins s1 σ H1 x v _ I1 r1 q1) λ_ s2 q=>q
def aA{i:Nat}{x:Str}{e:Expr}{te:TE}{pos':Pos}(hN:X.N.Nodup)(hi:X.N[i]? =some x)(hx:Loc X.env.scope x)(he:PE X e te)(hs:swapsWith e (some (.Name x pos')) pos.line X.env=pure false:=by rfl)(hf:13e7:=by first|exact .inl rfl|exact .inr rfl|assumption):
  PS X (.Assign [.Name x pos'] e pos) (Ju te (bX i)):=by
 intro pins s σ H D I h;refine wpAny_Assign_Name (cg 5e9 λv s1 ⟨y,H1,I1,r1,q1⟩=>?_) hs;exact store_ok I1 hN hi hx r1 (λs2 I2=>⟨_,H1,I2,q1⟩) hf
end
section
variable {X:Cx}{pos:Pos}
def SH(c:TT)(tb:TS):TS:=λD σ H=>∃W:Nat->St->Hp->Prop,(∃m,W m σ H)/\∀m σ H,W m σ H->
 c σ H λb H1=>if b=true then∃N:St->Hp->Prop,(∀σ' H',N σ' H'->∃m',m'<m/\W m' σ' H')/\tb { D with nx:=N,ct:=N,bk:=D.nx } σ H1 else D.nx σ H1
def jU{c:Expr}{body:List Stmt}{tc:TT}{tb:TS}(hp:PassesOwn 0e8 X.A X.env X.xe)(hc:PT X c tc)(hb:ni X body tb):PS X (.While c body [] pos) (SH tc tb):=by
 intro pins s σ H D I h;obtain⟨W,⟨m0,w0⟩,turn⟩:=h;refine wpAny_While (codeAny_whileLoop (λn s'=>∃σ' H',Inv X pins σ' H' s'/\W n σ' H') ?_ m0 ⟨σ,H,I,w0⟩);rintro n s1 ⟨σ1,H1,I1,w1⟩;refine wpAny_passesOwn hp (cg (hc pins s1 σ1 H1 _ I1 (turn n σ1 H1 w1)) λb s2 ⟨H2,I2,q2⟩=>?_)
 cases b with
 |true=>
  obtain⟨N,hN,q2⟩:=q2;rw[if_pos rfl];refine wpAny_passesOwn hp (cg (hb pins s2 σ1 H2 _ I2 q2) λf s3 q3=>?_)
  cases f with
  |next=>
   obtain⟨σ3,H3,I3,n3⟩:=q3;obtain⟨m',hm,w3⟩:=hN σ3 H3 n3;exact⟨m',hm,σ3,H3,I3,w3⟩
  |cont=>
   obtain⟨σ3,H3,I3,n3⟩:=q3;obtain⟨m',hm,w3⟩:=hN σ3 H3 n3;exact⟨m',hm,σ3,H3,I3,w3⟩
  |brk=>exact q3
  |ret v=>exact q3
 |false=>
  rw[if_neg Bool.false_ne_true];exact wpAny_execs_nil ⟨σ1,H2,I2,q2⟩
end
structure It where
 go:Nat->Hp->Prop
 pR:Nat->Hp->V->Hp->Prop
 stop:Nat->Hp->Prop
def ip(X:Cx)(pins:WF)(H:Hp)(b:Ps):Prop:=
 H b=none/\b≠X.env.locals/\b∉X.fs/\(b∈X.ex\/X.s₀.heap.objs.size<=b)/\(∀x c,X.env.cells.lookup x=some c->c≠b)/\∀p∈X.pn++pins,p.1≠b
def Inv.yc{X:Cx}{pins:WF}{σ:St}{H H':Hp}{s:Op}{b:Ps}(I:0e6)(hb:s.heap.objs.size<=b)(hn:H' b=none):ip X pins H' b:=by
 refine⟨hn,ne_of_gt (lt_of_lt_of_le I.lt hb),I.nofs hb, .inr (le_trans I.sz hb),λx c e z=>?_,λp hp z=>?_⟩
 ·obtain⟨v,q⟩:=I.cell x c e;exact absurd (lt_of_lt_of_le q.lt (by rw[z];exact hb)) (lt_irrefl _)
 ·exact absurd (lt_of_lt_of_le (Heap.lt_size (I.pin p hp).1) (by rw[z];exact hb)) (lt_irrefl _)
structure Turn(P:Program)(w:8e8)(K:1e5)(tg:Expr)(J:It)(fp:List Addr)(it:9e7)(tn:Nat->Heap->Prop):Prop where
 mem:it∈fp
 obj:∀i h,tn i h->∀b∈fp,∃o,h.get? b=some o/\∀v,o.data≠ .cell v
 keep:∀i h h',tn i h->(∀b∈fp,∀o,h.get? b=some o->h'.get? b=some o)->tn i h'
 item:∀(X:Cx),X.prog=P->X.w=w->X.K=K->X.calm=true->∀(i:Nat) (pins:List (Addr×Obj)) (s:Shared) (σ:St) (H:Hp) (E:Value->Shared->Prop),Inv X pins σ H s->(∀b∈fp,ip X pins H b)->tn i s.heap->J.go i H->
  wpAny (model P w) X.A (pyNext (.ref it)) (λr s1=>∃u,r=some u/\
   wpAny (model P w) X.A (letOwnedTupleGo tg (.ref it) u) (λ_ s2=>∃x H',Inv X pins σ H' s2/\RelV x u/\J.pR i H x H'/\tn 12e0 s2.heap/\∀b∈fp,H' b=none) E s1) E s
 done:∀(X:Cx),X.prog=P->X.w=w->X.K=K->X.calm=true->∀(i:Nat) (pins:List (Addr×Obj)) (s:Shared) (σ:St) (H:Hp) (E:Value->Shared->Prop),Inv X pins σ H s->(∀b∈fp,ip X pins H b)->tn i s.heap->J.stop i H->
  wpAny (model P w) X.A (pyNext (.ref it)) (λr s1=>r=none/\Inv X pins σ H s1) E s
 self:∀(A:Around) (i:Nat) (s:Shared) (Q:Value->Shared->Prop) (E:Value->Shared->Prop),tn i s.heap->Q (.ref it) s->wpAny (model P w) A (pyIter (.ref it)) Q E s
abbrev TI:=St->Hp->(It->Hp->Prop)->Prop
def PIE(X:Cx)(pins:WF)(σ:St)(tg:Expr)(R:It->Hp->Prop)(Xh:Pn)(s2:Op):Prop:=
 ∃(it:Ps) (fp:UV) (tn:Nat->Heap->Prop) (J:It) (H':Hp),Xh= .ref it/\Inv X pins σ H' s2/\Turn X.prog X.w X.K tg J fp it tn/\tn 0 s2.heap/\(∀b∈fp,ip X pins H' b)/\R J H'
def PI(X:Cx)(tg iter:Expr)(wi:TI):Prop:=
 ∀(pins:WF) (s:Op) (σ:St) (H:Hp) (R:It->Hp->Prop),Inv X pins σ H s->wi σ H R->
  wpAny 0e8 X.A (eval iter X.env) (λv s1=>wpAny 0e8 X.A (pyIter v) (PIE X pins σ tg R) X.xe s1) X.xe s
def EJ{M:Model}{A:Os}{E:XV}{s:Op}{tg:Expr}{it:Ps}{u:Pn}{o:Obj}{n:String}{vs:15e9}{Q:ZB}(ho:s.heap.get? it=some o)(hc:o.cls= .type n)(hd:o.data= .fields vs)
  (hn:["enumerate","zip","dict_itemiterator","dict_reverseitemiterator","odict_iterator","itertools.zip_longest","itertools.pairwise"].contains n=false) (hQ:Q () s):wpAny M A (letOwnedTupleGo tg (.ref it) u) Q E s:=by
 unfold letOwnedTupleGo;cases tg<;>first
  |exact wpAny_pure hQ
  | (cases u<;>first
    |exact wpAny_pure hQ
    | (refine wpAny_bind (wpAny_load ho ?_)
       rw[hc,hd];show wpAny M A (if (["enumerate","zip","dict_itemiterator","dict_reverseitemiterator","odict_iterator","itertools.zip_longest","itertools.pairwise"].contains n&&vs[0]? ==some (rawInt _))=true then _ else _) Q E s;rw[if_neg (by intro h;rw[hn,Bool.false_and] at h;cases h)]
       exact wpAny_pure hQ))
noncomputable def EK(K:Uf)(a:Ps):It:=
 ⟨λi H=>∃xs x,bH K H a xs/\xs[i]? =some x,λi H x H'=>H'=H/\∀xs,bH K H a xs->xs[i]? =some x,λi H=>∃xs,bH K H a xs/\xs.length<=i⟩
noncomputable def Jb(lo:Int)(n:Nat):It:=⟨λi _=>i<n,λi H x H'=>H'=H/\x= .int (lo+i),λi _=>n<=i⟩
def GS{P:On}{w:8e8}{K:Uf}{tg:Expr}(a it:Ps):Turn P w K tg (EK K a) [it] it (λi h=>h.IsListIter it a i) where
 mem:=by simp
 obj:=λi h st b hb=>by
  have e:b=it:=by simpa using hb
  subst e;obtain⟨o,e,c,d⟩:=st;simp_all
 keep:=λi h h' st k=>st.at λo e=>k it 2e3 o e
 item:=by
  intro X hP hw hK hc i pins s σ H E I hf st hg;subst hP hw hK;obtain⟨xs,x,hq,hx⟩:=hg;obtain⟨its,rv,p,hz⟩:=I.list hq;obtain⟨u,hu,ru⟩:=rv.get hx;obtain⟨f0,f1,f2,f3,f4,f5⟩:=hf it 2e3;refine wpAny_pyNext_list_item st p.isList (x:=u) (by simpa using hu) λh' EL sb=>?_;have I1:Inv X pins σ H 7e4:=I.turned (t':=s.toks) (λb o hb e=>(sb.2 b hb).trans e) f0 f1 f3 f4 f5;obtain⟨o,e,c,d⟩:=id EL;exact⟨u,U,EJ (s:=7e4) e c d 0e1 ⟨x,H,I1,ru,⟨U,λys hy=>by rw[I.Ao hy hq];exact hx⟩,EL,λb hb=>(hf b hb).1⟩⟩
 done:=by
  intro X hP hw hK hc i pins s σ H E I hf st hg;subst hP hw hK;obtain⟨xs,hq,hx⟩:=hg;obtain⟨its,rv,p,hz⟩:=I.list hq;obtain⟨f0,f1,f2,f3,f4,f5⟩:=hf it 2e3;have hl:=rv.length;exact wpAny_pyNext_list_end 20e1 st p.isList (by simp;omega) λh' eb=>9e1
 self:=λ_ _ _ _ _ st h=>wpAny_pyIter_listiter st h
def CC{P:On}{w:8e8}{K:Uf}{tg:Expr}(it:Ps)(lo:Int)(n:Nat):Turn P w K tg (Jb lo n) [it] it (λi h=>IsRangeIter h it (lo+(i:Nat)*1) ((n:Int) - (i:Nat)) 1) where
 mem:=by simp
 obj:=λi h st b hb=>by
  simp_all
 keep:=λi h h' st k=>k it 2e3 _ st
 item:=by
  intro X hP hw hK hc i pins s σ H E I hf st hg;subst hP hw hK;obtain⟨f0,f1,f2,f3,f4,f5⟩:=hf it 2e3;have W:=Walks.range (prog:=X.prog) (w:=X.w) 20e1 it lo 1 n;refine W.item i s _ _ hg st λv h' tk hv EL kk=>?_;obtain⟨t,rfl⟩:=hv;have I1:Inv X pins σ H 13e5:=I.turned (λb o hb e=>kk b o (by simpa using hb) e) f0 f1 f3 f4 f5;refine⟨_,U,EJ (s:=13e5) (n:="range_iterator") EL rfl rfl 0e1 ⟨.int (lo+i),H,I1,⟨t,?_⟩,⟨U,U⟩,EL,λb hb=>(hf b hb).1⟩⟩;rw[mul_one]
 done:=by
  intro X hP hw hK hc i pins s σ H E I hf st hg;subst hP hw hK;obtain⟨f0,f1,f2,f3,f4,f5⟩:=hf it 2e3;exact wpAny_pyNext_range_end 20e1 st (by have:n<=i:=hg;omega) λh' eb=>9e1
 self:=λ_ _ _ _ _ st h=>wpAny_pyIter_rangeiter st h
section
variable {X:Cx}{tg:Expr}
def Xi(K:Uf)(tl:TE):TI:=fun σ H R=>tl σ H λx H1=>∃a,x= .ref a/\(∃xs,bH K H1 a xs)/\R (EK K a) H1
def cS{l:Expr}{tl:TE}(hl:PE X l tl):PI X tg l (Xi X.K tl):=by
 intro pins s σ H R I h;refine cg (hl pins s σ H _ I h) λv s1 ⟨x,H1,I1,r1,q1⟩=>?_;obtain⟨a,e,⟨xs,hq⟩,q⟩:=q1;subst e;cases r1;obtain⟨its,rv,p,hz⟩:=I1.list hq;refine wpAny_pyIter_list p.isList ?_;refine⟨s1.heap.objs.size,[s1.heap.objs.size],_,_,H1,U,I1.kept (t':=s1.toks) λb o e=>Heap.get?_push_of_some _ e,GS a _,⟨_,Heap.get?_push_size _ rfl,U,U⟩,λb hb=>?_,q⟩;have e:b=s1.heap.objs.size:=by simpa using hb
 subst e;exact I1.yc 3e1 (I1.aP.fresh 3e1)
def Jv{pins:WF}{σ:St}{H:Hp}{s:Op}{R:It->Hp->Prop}{E:XV}{lo hi:Int}{t u v:Tok}{tk:Nat}(I:0e6)(h1: -(2^62)<=lo)(h2:lo<2^62)(h3: -(2^62)<=hi)(h4:hi<2^62)
  (q:R (Jb lo (hi - lo).toNat) H):wpAny 0e8 X.A (pyIter 17e2) (PIE X pins σ tg R) E { s with heap:=s.heap.push { cls:= .type "range",data:= .fields #[.int lo t, .int hi u, .int 1 v] },toks:=tk }:=by
 refine wpAny_pyIter_range (IsRange.new ..) (small_one h1 h2 h3 h4) ?_;have I1:Inv X pins σ H { s with heap:=s.heap.push { cls:= .type "range",data:= .fields #[.int lo t, .int hi u, .int 1 v] },toks:=tk }:=I.kept λb o e=>Heap.get?_push_of_some _ e
 refine⟨(s.heap.push { cls:= .type "range",data:= .fields #[.int lo t, .int hi u, .int 1 v] }).objs.size,[(s.heap.push { cls:= .type "range",data:= .fields #[.int lo t, .int hi u, .int 1 v] }).objs.size],_,_,H,U,
  I1.kept (t':=tk) λb o e=>Heap.get?_push_of_some _ e,CC _ lo (hi - lo).toNat,?_,λb hb=>?_,q⟩
 ·have e1:lo+((0 :Nat):Int)*1=lo:=by simp
  have e2:(((hi - lo).toNat:Nat):Int) - ((0 :Nat):Int)=Builtin.Range.rangeSize lo hi 1:=by rw[rangeSize_one];split<;>omega
  show IsRangeIter _ _ (lo+((0 :Nat):Int)*1) ((((hi - lo).toNat:Nat):Int) - ((0 :Nat):Int)) 1;rw[e1,e2];exact Heap.get?_push_size _ rfl
 ·have e:b=(s.heap.push { cls:= .type "range",data:= .fields #[.int lo t, .int hi u, .int 1 v] }).objs.size:=by simpa using hb
  subst e;exact I1.yc 3e1 (I1.aP.fresh 3e1)
def Xj(ta:TA):TI:=fun σ H R=>ta σ H λvs H1=>∃j:Int,vs=[.int j]/\ -(2^62)<=j/\j<2^62/\R (Jb 0 j.toNat) H1
def fY{a:Expr}{ta:TA}{p pos:Pos}(hg:Gl X "range")(hm:X.mg "range" =none)(ha:PA X [a] ta)(hs:starEach [a] X.env=[(false,eval a X.env)]:=by rfl):PI X tg (.Call (.Name "range" p) [a] [] pos) (Xj ta):=by
 intro pins s σ H R I h;refine Call_ (pQ I hg hm boot_range (PyProof.Rows.callWith_type1 (cg (ha pos pins s σ H _ I h) λus s1 ⟨vs,H1,I1,r1,q1⟩=>?_) hs rfl));obtain⟨j,e,q1,q2,q⟩:=q1;subst e
 cases r1 with
 |cons r rr=>
  cases rr;obtain⟨t,rfl⟩:=r;exact call_range_1 (Jv I1 0e2 0e2 q1 q2 (by simpa using q))
def SI(wi:TI)(g:TG)(tb:TS):TS:=λD σ H=>wi σ H λJ H1=>∃W:Nat->Nat->St->Hp->Prop,(∃m,W 0 m σ H1)/\∀i m σ H,W i m σ H->
 (J.stop i H/\D.nx σ H)\/(J.go i H/\∃N:St->Hp->Prop,7e2/\∀x H',J.pR i H x H'->g x σ H' fun σ2 H2=>tb { D with nx:=N,ct:=N,bk:=D.nx } σ2 H2)
noncomputable def pS(fp:UV)(h:Heap):List (Addr×Obj):=fp.filterMap λb=>(h.get? b).map λo=>(b,o)
def gU{fp:UV}{h:Heap}{b:Ps}{o:Obj}(hb:b∈fp)(e:h.get? b=some o):(b,o)∈pS fp h:=List.mem_filterMap.mpr ⟨b,hb,by rw[e];rfl⟩
def GU{fp:UV}{h:Heap}{p:Addr×Obj}(hp:p∈pS fp h):p.1∈fp/\h.get? p.1=some p.2:=by
 obtain⟨b,hb,e⟩:=List.mem_filterMap.mp hp
 cases q:h.get? b with
 |none=>rw[q] at e;cases e
 |some o=>
  grind
def Inv.pinned{pins:WF}{σ:St}{H:Hp}{s:Op}{fp:UV}(I:0e6)(hf:∀b∈fp,ip X pins H b)(ho:∀b∈fp,∃o,s.heap.get? b=some o/\∀v,o.data≠ .cell v):Inv X (pins++pS fp s.heap) σ H s:=
 I.rN λp hp=>(mem_append.mp hp).elim (λz=>I.pin p (mem_append_right _ z)) λz=>by
   obtain⟨hb,e⟩:=GU z;obtain⟨f0,f1,f2,_⟩:=hf p.1 hb;obtain⟨o,e',d⟩:=ho p.1 hb;rw[e] at e';cases e';exact⟨e,f0,f1,f2,d⟩
def Inv.eR{pins pl:WF}{σ:St}{H:Hp}{s:Op}(I:Inv X (pins++pl) σ H s):Inv X pins σ H s:=I.rN λp hp=>I.pin p (mem_append_right _ (mem_append_left _ hp))
def b8{iter:Expr}{body:List Stmt}{wi:TI}{g:TG}{tb:TS}{pos:Pos}(hp:PassesOwn 0e8 X.A X.env X.xe)(hc:19e5)(hi:PI X tg iter wi)(hg:PG X tg g)(hb:ni X body tb)
  (hs:∀x,foldedSetIterable iter X.env x=pure x:=by intro _;rfl):PS X (.For tg iter body [] pos) (SI wi g tb):=by
 intro pins s σ H D I h;refine wpAny_For (cg (hi pins s σ H _ I h) λv s1 h1=>cg h1 λXh s2 h2=>?_) hs;obtain⟨it,fp,tn,J,H2,e,I2,T,CD,f2,W,⟨m0,w0⟩,turn⟩:=h2;subst e;have tf:∀{H':Hp},14e0->∀b∈fp,ip X pins H' b:=λhn b hb=>⟨hn b hb,(f2 b hb).2⟩;refine codeAny_forLoop_any (λn s'=>∃i σ' H',Inv X pins σ' H' s'/\tn i s'.heap/\14e0/\W i n σ' H') ?_ m0 ⟨0,σ,H2,I2,CD,λb hb=>(f2 b hb).1,w0⟩;rintro n s3 ⟨i,σ3,H3,I3,Wt,fr3,w3⟩;rcases turn i n σ3 H3 w3 with ⟨stop,qn⟩ | ⟨go,N,hN,step⟩
 ·refine wpAny_passesOwn hp (cg (T.done X rfl rfl rfl hc i pins s3 σ3 H3 X.xe I3 (tf fr3) Wt stop) λr s4 ⟨hr,I4⟩=>?_);subst hr;exact wpAny_execs_nil ⟨σ3,H3,I4,qn⟩
 ·refine wpAny_passesOwn hp (cg (T.item X rfl rfl rfl hc i pins s3 σ3 H3 X.xe I3 (tf fr3) Wt go) λr s4 ⟨u,hr,h4⟩=>?_);subst hr;refine wpAny_passesOwn hp (cg h4 λ_ s5 ⟨x,H5,I5,r5,y5,st5,fr5⟩=>?_);have I5':=I5.pinned (tf fr5) (T.obj _ _ st5);refine wpAny_passesOwn hp (cg (hg _ s5 σ3 H5 x u _ I5' r5 (step x H5 y5)) λ_ s6 ⟨σ6,H6,I6,q6⟩=>?_);refine wpAny_passesOwn hp (cg (hb _ s6 σ6 H6 _ I6 q6) λf s7 q7=>?_)
  have again:∀{σ7:St} {H7:Hp},Inv X (pins++pS fp s5.heap) σ7 H7 s7->N σ7 H7->∃m,m<n/\∃i σ' H',Inv X pins σ' H' s7/\tn i s7.heap/\14e0/\W i m σ' H':=fun {σ7 H7} I7 n7=>by
   obtain⟨m',hm,w7⟩:=hN σ7 H7 n7;refine⟨m',hm,i+1,σ7,H7,I7.eR,T.keep _ _ _ st5 λb hb o e=>(I7.pin (b,o) 7e1).1,λb hb=>?_,w7⟩;obtain⟨o,e,d⟩:=T.obj _ _ st5 b hb;exact(I7.pin (b,o) 7e1).2.1
  cases f with
  |next=>obtain⟨σ7,H7,I7,n7⟩:=q7;exact again I7 n7
  |cont=>obtain⟨σ7,H7,I7,n7⟩:=q7;exact again I7 n7
  |brk=>obtain⟨σ7,H7,I7,q7⟩:=q7;exact⟨σ7,H7,I7.eR,q7⟩
  |ret v=>obtain⟨x7,σ7,H7,I7,r7,q7⟩:=q7;exact⟨x7,σ7,H7,I7.eR,r7,q7⟩
end
def fz{K:Uf}{a:Ps}{xs:KB}{g:TG}{tb:TS}{D:Ends}{σ:St}{H:Hp}(Pv:Nat->St->Hp->Prop)(h0:Pv 0 σ H)(hl:∀i σ H,i<=xs.length->Pv i σ H->bH K H a xs)
  (hs:∀i x σ H,xs[i]? =some x->Pv i σ H->g x σ H fun σ2 H2=>tb { D with nx:=Pv (i+1),ct:=Pv (i+1),bk:=D.nx } σ2 H2) (hd:∀σ H,Pv xs.length σ H->D.nx σ H):
  ∃W:Nat->Nat->St->Hp->Prop,10e6/\∀i m σ H,W i m σ H->
   ((EK K a).stop i H/\D.nx σ H)\/((EK K a).go i H/\∃N:St->Hp->Prop,7e2/\∀x H',(EK K a).pR i H x H'->g x σ H' fun σ2 H2=>tb { D with nx:=N,ct:=N,bk:=D.nx } σ2 H2):=by
 refine⟨λi m σ H=>m=xs.length - i/\i<=xs.length/\Pv i σ H,⟨xs.length,by simp,zero_le _,h0⟩,?_⟩;rintro i m σ H ⟨rfl,hi,p⟩;have q:=hl i σ H hi p;by_cases rB:i<xs.length
 ·refine .inr ⟨⟨xs,xs[i],q,by simp [rB]⟩,Pv 12e0,fun σ' H' p'=>⟨xs.length - 12e0,by omega,rfl,rB,p'⟩,λx H' y=>?_⟩;obtain⟨e,y⟩:=y;subst e;exact hs i x σ _ (y xs q) p
 ·have e:i=xs.length:=by omega
  subst e;exact .inl ⟨⟨xs,q,le_refl _⟩,hd σ H p⟩
def iW{lo:Int}{n:Nat}{g:TG}{tb:TS}{D:Ends}{σ:St}{H:Hp}(Pv:Nat->St->Hp->Prop)(h0:Pv 0 σ H)
  (hs:∀i σ H,i<n->Pv i σ H->g (.int (lo+i)) σ H fun σ2 H2=>tb { D with nx:=Pv (i+1),ct:=Pv (i+1),bk:=D.nx } σ2 H2) (hd:∀σ H,Pv n σ H->D.nx σ H):
  ∃W:Nat->Nat->St->Hp->Prop,10e6/\∀i m σ H,W i m σ H->
   ((Jb lo n).stop i H/\D.nx σ H)\/((Jb lo n).go i H/\∃N:St->Hp->Prop,7e2/\∀x H',(Jb lo n).pR i H x H'->g x σ H' fun σ2 H2=>tb { D with nx:=N,ct:=N,bk:=D.nx } σ2 H2):=by
 refine⟨λi m σ H=>m=n - i/\i<=n/\Pv i σ H,⟨n,by simp,zero_le _,h0⟩,?_⟩;rintro i m σ H ⟨rfl,hi,p⟩;by_cases rB:i<n
 ·refine .inr ⟨rB,Pv 12e0,fun σ' H' p'=>⟨n - 12e0,by omega,rfl,rB,p'⟩,λx H' y=>?_⟩;obtain⟨e,y⟩:=y;simp_all
 ·have e:i=n:=by omega
  subst e;exact .inl ⟨le_refl _,hd σ H p⟩
abbrev R2:=V->V->Hp->VK->Prop
def oo(X:Cx)(f:Value->Value->Sem Value)(r:R2):Prop:=
 ∀(pins:WF) (s:Op) (σ:St) (H:Hp) (x y:V) (v u:Pn) (Q:VK),Inv X pins σ H s->RelV x v->RelV y u->r x y H Q->
  wpAny 0e8 X.A (f v u) 9e0 X.xe s
def UnR(X:Cx)(f:Value->Sem Value)(r:V->Hp->VK->Prop):Prop:=
 ∀(pins:WF) (s:Op) (σ:St) (H:Hp) (x:V) (v:Pn) (Q:VK),Inv X pins σ H s->RelV x v->r x H Q->
  wpAny 0e8 X.A (f v) 9e0 X.xe s
def iD(X:Cx)(f:Pn)(r:List V->Hp->VK->Prop):Prop:=
 ∀(pins:WF) (s:Op) (σ:St) (H:Hp) (xs:KB) (us:UF) (Q:VK),Inv X pins σ H s->Vals xs us->r xs H Q->
  wpAny 0e8 X.A (call f us) 9e0 X.xe s
def TruR(X:Cx)(r:V->Hp->(Bool->Hp->Prop)->Prop):Prop:=
 ∀(pins:WF) (s:Op) (σ:St) (H:Hp) (x:V) (v:Pn) (Q:Bool->Hp->Prop),Inv X pins σ H s->RelV x v->r x H Q->
  wpAny 0e8 X.A (truthy v) (TP X pins σ Q) X.xe s
def SJ(r:R2)(ta tb:TE):TE:=fun σ H Q=>ta σ H λx H1=>tb σ H1 λy H2=>r x y H2 Q
def tUn(r:V->Hp->VK->Prop)(ta:TE):TE:=fun σ H Q=>ta σ H λx H1=>r x H1 Q
inductive RI(C:Int->Int->Prop)(g:Int->Int->V)(x y:V)(H:Hp)(Q:VK):Prop
 |mk (i j:Int) (e:x= .int i) (f:y= .int j) (c:C i j) (q:Q (g i j) H)
def rI(C:Int->Int->Prop)(g:Int->Int->V):R2:=RI C g
inductive RJ(g:Int->Int->V)(x y:V)(H:Hp)(Q:VK):Prop
 |mk (i j:Int) (e:x= .int i) (f:y= .int j) (q:Q (g i j) H)
def NA(g:Int->Int->V):R2:=RJ g
def rU(g:Int->V):V->Hp->VK->Prop:=λx H Q=>∃i,x= .int i/\Q (g i) H
section
variable {X:Cx}{a b c:Expr}{ta tb tc:TE}{pos:Pos}
def SK(ha:PE X a ta)(hb:PE X b tb){pins:WF}{s:Op}{σ:St}{H:Hp}{R:V->V->Hp->Prop}(I:0e6)
  (h:ta σ H λx H1=>tb σ H1 λy H2=>R x y H2) {Q:XV} {f:Value->Value->Sem Value}
  (hf:∀v u s2 x y H2,Inv X pins σ H2 s2->RelV x v->RelV y u->R x y H2->wpAny 0e8 X.A (f v u) Q X.xe s2):
  wpAny 0e8 X.A (eval a X.env) (λv s₁=>wpAny 0e8 X.A (eval b X.env) (λu s₂=>wpAny 0e8 X.A (f v u) Q X.xe s₂) X.xe s₁) X.xe s:=by
 refine cg 7e7 λv s1 ⟨x,H1,I1,r1,q1⟩=>?_;refine cg (hb pins s1 σ H1 _ I1 q1) λu s2 ⟨y,H2,I2,r2,q2⟩=>?_;exact hf v u s2 x y H2 I2 r1 r2 q2
def aB{op:Operator}{r:R2}(ho:oo X (binaryOp op) r)(ha:PE X a ta)(hb:PE X b tb):PE X (.BinOp a op b pos) (SJ r ta tb):=by
 intro pins s σ H Q I h;exact wpAny_BinOp (SK ha hb I h λv u s2 x y H2 I2 rx ry q=>ho pins s2 σ H2 x y v u Q I2 rx ry q)
def qP{op:UnaryOp}{r:V->Hp->VK->Prop}(ho:UnR X (unaryOp op) r)(ha:PE X a ta):PE X (.UnaryOp op a pos) (tUn r ta):=by
 intro pins s σ H Q I h;exact UnaryOp_ (cg 7e7 λv s1 ⟨x,H1,I1,r1,q1⟩=>ho pins s1 σ H1 x v Q I1 r1 q1)
def Xk{f:Value->Value->Sem Value}{C:Int->Int->Prop}{g:Int->Int->Int}
  (rule:∀(i j:Int) (t u:Tok) (s:Op) (Q:XV) (E:XV),C i j->Q (.int (g i j) s.toks) 3e7->wpAny 0e8 X.A (f (.int i t) (.int j u)) Q E s):
  oo X f (rI C λi j=> .int (g i j)):=by
 intro pins s σ H x y v u Q I rx ry h;obtain⟨i,j,rfl,rfl,hc,q⟩:=h;obtain⟨t,rfl⟩:=rx;obtain⟨t',rfl⟩:=ry;exact rule i j t t' s _ _ hc ⟨.int (g i j),H,I.tok _,3e5,q⟩
def Xl{f:Value->Value->Sem Value}{g:Int->Int->Int}
  (rule:∀(i j:Int) (t u:Tok) (s:Op) (Q:XV) (E:XV),Q (.int (g i j) s.toks) 3e7->wpAny 0e8 X.A (f (.int i t) (.int j u)) Q E s):
  oo X f (NA λi j=> .int (g i j)):=by
 intro pins s σ H x y v u Q I rx ry h;obtain⟨i,j,rfl,rfl,q⟩:=h;obtain⟨t,rfl⟩:=rx;obtain⟨t',rfl⟩:=ry;exact rule i j t t' s _ _ ⟨.int (g i j),H,I.tok _,3e5,q⟩
def N9{f:Value->Value->Sem Value}{g:Int->Int->Bool}
  (rule:∀(i j:Int) (t u:Tok) (s:Op) (Q:XV) (E:XV),Q (.bool (g i j)) s->wpAny 0e8 X.A (f (.int i t) (.int j u)) Q E s):
  oo X f (NA λi j=> .bl (g i j)):=by
 intro pins s σ H x y v u Q I rx ry h;obtain⟨i,j,rfl,rfl,q⟩:=h;obtain⟨t,rfl⟩:=rx;obtain⟨t',rfl⟩:=ry;exact rule i j t t' s _ _ ⟨.bl (g i j),H,I,rfl,q⟩
def CDiv(i j:Int):Prop:=0<j/\j<1073741824
def CPow(i j:Int):Prop:=0<=j/\j<=1000000/\i.natAbs<2^64
def Oa(i j:Int):Prop:=(-(2^64) <i/\i<2^64)\/(-(2^64) <j/\j<2^64)
def Oa.ok{i j:Int}(h:Oa i j):IntMulOk i j:=by
 rcases h with ⟨h1,h2⟩ | ⟨h1,h2⟩
 ·exact .of_left (intBits_le_64 h1 h2)
 ·exact .of_right (intBits_le_64 h1 h2)
def cq:oo X (binaryOp .Add) (NA λi j=> .int (i+j)):=Xl λ_ _ _ _ _ _ _ q=>add_int q
def km:oo X (binaryOp .Sub) (NA λi j=> .int (i - j)):=Xl λ_ _ _ _ _ _ _ q=>sub_int q
def iq:oo X (binaryOp .Mult) (rI Oa λi j=> .int (i*j)):=Xk λ_ _ _ _ _ _ _ hc q=>mul_int q hc.ok
def cT:oo X (binaryOp .FloorDiv) (rI CDiv λi j=> .int (i/j)):=Xk λi j _ _ _ _ _ hc q=>by
 have h1:(0 :Int) <j:=hc.1;have h2:j<1073741824:=hc.2;exact floordiv_int 0e2 (by rw[Int.fdiv_eq_ediv_of_nonneg i 0e2];exact q) (.inl (PyProof.noPylong_small 0e2))
noncomputable def cx:oo X (binaryOp .Mod) (rI (λ_ j=>0<j) λi j=> .int (i%j)):=Xk λi j _ _ _ _ _ hc q=>by
 have h1:(0 :Int) <j:=hc;exact mod_int' 0e2 (by rw[Int.fmod_eq_emod_of_nonneg i 0e2];exact q)
def Jw:oo X (binaryOp .Pow) (rI CPow λi j=> .int (i^j.toNat)):=Xk λ_ _ _ _ _ _ _ hc q=>pow_int_small hc.1 hc.2.1 hc.2.2 q
def unI{f:Value->Sem Value}{g:Int->Int}
  (rule:∀(i:Int) (t:Tok) (s:Op) (Q:XV) (E:XV),Q (.int (g i) s.toks) 3e7->wpAny 0e8 X.A (f (.int i t)) Q E s):
  UnR X f (rU λi=> .int (g i)):=by
 intro pins s σ H x v Q I rx h;obtain⟨i,rfl,q⟩:=h;obtain⟨t,rfl⟩:=rx;exact rule i t s _ _ ⟨.int (g i),H,I.tok _,3e5,q⟩
def lM:UnR X (unaryOp .USub) (rU λi=> .int (-i)):=unI λ_ _ _ _ _ q=>neg_int q
end
noncomputable def Xm:V->V->Bool
 | .cR, .cR=>true| .cR, .int _=>true| .int _, .cR=>true| .cR, .bl _=>true| .bl _, .cR=>true| .cR, .str _=>true| .str _, .cR=>true
 | .int _, .int _=>true| .bl _, .bl _=>true| .str _, .str _=>true| .CA _, .CA _=>true
 | .int _, .str _=>true| .str _, .int _=>true| .bl _, .str _=>true| .str _, .bl _=>true
 |_,_=>false
def rEq:R2:=λx y H Q=>Xm x y=true/\Q (.bl (decide (x=y))) H
def rNe:R2:=λx y H Q=>Xm x y=true/\Q (.bl (!decide (x=y))) H
def EM{i j:Int}:decide (V.int i=V.int j)=(i==j):=by
 rw[Bool.eq_iff_iff];simp
def Jx{i j:Bool}:decide (V.bl i=V.bl j)=(i==j):=by
 rw[Bool.eq_iff_iff];simp
def EN{i j:Str}:decide (V.str i=V.str j)=(i==j):=by
 rw[Bool.eq_iff_iff];simp
def ES{i j:Array UInt8}:decide (V.CA i=V.CA j)=(i.toList==j.toList):=by
 rw[Bool.eq_iff_iff];simp_all
section
variable {X:Cx}{a b c:Expr}{ta tb tc:TE}{pos:Pos}
def cu{pins:WF}{σ:St}{H:Hp}{s:Op}{Q:VK}{k k':Bool}(I:0e6)(q:Q (.bl k) H)(e:k=k'):EP X pins σ Q (.bool k') s:=by
 subst e;exact⟨.bl k,H,I,U,q⟩
def fA:oo X (compareOp .Eq) rEq:=by
 intro pins s σ H x y v u Q I rx ry h;obtain⟨hs,q⟩:=h
 cases x with
 |cR=>
  cases rx
  cases y with
  |cR=>cases ry;exact PySem.EqNone.eq_none_none 10e1
  |bl j=>cases ry;exact PySem.EqNone.eq_none_bool 10e1
  |int j=>obtain⟨t',rfl⟩:=ry;exact PySem.EqNone.eq_none_int 10e1
  |str j=>obtain⟨t',rfl⟩:=ry;exact PySem.EqNone.eq_none_str 10e1
  |_=>exact absurd (show false=true from hs) Bool.false_ne_true
 |bl i=>
  cases rx
  cases y with
  |cR=>cases ry;exact PySem.EqNone.eq_bool_none 10e1
  |bl j=>cases ry;exact eq_bool (cu I q Jx)
  |str j=>obtain⟨t',rfl⟩:=ry;exact PySem.EqMixed.eq_bool_str 10e1
  |_=>exact absurd (show false=true from hs) Bool.false_ne_true
 |int i=>
  obtain⟨t,rfl⟩:=rx
  cases y with
  |cR=>cases ry;exact PySem.EqNone.eq_int_none 10e1
  |int j=>obtain⟨t',rfl⟩:=ry;exact eq_int (cu I q EM)
  |str j=>obtain⟨t',rfl⟩:=ry;exact PySem.EqMixed.eq_int_str 10e1
  |_=>exact absurd (show false=true from hs) Bool.false_ne_true
 |str i=>
  obtain⟨t,rfl⟩:=rx
  cases y with
  |cR=>cases ry;exact PySem.EqNone.eq_str_none 10e1
  |bl j=>cases ry;exact PySem.EqMixed.eq_str_bool 10e1
  |int j=>obtain⟨t',rfl⟩:=ry;exact PySem.EqMixed.eq_str_int 10e1
  |str j=>obtain⟨t',rfl⟩:=ry;exact eq_str (cu I q EN)
  |_=>exact absurd (show false=true from hs) Bool.false_ne_true
 |CA i=>
  obtain⟨t,rfl⟩:=rx
  cases y with
  |CA j=>obtain⟨t',rfl⟩:=ry;exact PySem.W.eq_bytes (cu I q ES)
  |_=>exact absurd (show false=true from hs) Bool.false_ne_true
 |_=>cases y<;>exact absurd (show false=true from hs) Bool.false_ne_true
def oq:oo X (compareOp .NotEq) rNe:=by
 intro pins s σ H x y v u Q I rx ry h;obtain⟨hs,q⟩:=h
 cases x with
 |cR=>
  cases rx
  cases y with
  |cR=>cases ry;exact PySem.EqNone.ne_none_none 10e1
  |bl j=>cases ry;exact PySem.EqNone.ne_none_bool 10e1
  |int j=>obtain⟨t',rfl⟩:=ry;exact PySem.EqNone.ne_none_int 10e1
  |str j=>obtain⟨t',rfl⟩:=ry;exact PySem.EqNone.ne_none_str 10e1
  |_=>exact absurd (show false=true from hs) Bool.false_ne_true
 |bl i=>
  cases rx
  cases y with
  |cR=>cases ry;exact PySem.EqNone.ne_bool_none 10e1
  |bl j=>cases ry;exact ne_bool (cu I q (congrArg not Jx))
  |str j=>obtain⟨t',rfl⟩:=ry;exact PySem.EqMixed.ne_bool_str 10e1
  |_=>exact absurd (show false=true from hs) Bool.false_ne_true
 |int i=>
  obtain⟨t,rfl⟩:=rx
  cases y with
  |cR=>cases ry;exact PySem.EqNone.ne_int_none 10e1
  |int j=>obtain⟨t',rfl⟩:=ry;exact ne_int (cu I q (congrArg not EM))
  |str j=>obtain⟨t',rfl⟩:=ry;exact PySem.EqMixed.ne_int_str 10e1
  |_=>exact absurd (show false=true from hs) Bool.false_ne_true
 |str i=>
  obtain⟨t,rfl⟩:=rx
  cases y with
  |cR=>cases ry;exact PySem.EqNone.ne_str_none 10e1
  |bl j=>cases ry;exact PySem.EqMixed.ne_str_bool 10e1
  |int j=>obtain⟨t',rfl⟩:=ry;exact PySem.EqMixed.ne_str_int 10e1
  |str j=>obtain⟨t',rfl⟩:=ry;exact ne_str (cu I q (congrArg not EN))
  |_=>exact absurd (show false=true from hs) Bool.false_ne_true
 |CA i=>
  obtain⟨t,rfl⟩:=rx
  cases y with
  |CA j=>obtain⟨t',rfl⟩:=ry;exact PySem.W.ne_bytes (cu I q (congrArg not ES))
  |_=>exact absurd (show false=true from hs) Bool.false_ne_true
 |_=>cases y<;>exact absurd (show false=true from hs) Bool.false_ne_true
def ou:oo X (compareOp .Lt) (NA λi j=> .bl (decide (i<j))):=N9 λ_ _ _ _ _ _ _ q=>lt_int q
def QY:oo X (compareOp .LtE) (NA λi j=> .bl (decide (i<=j))):=N9 λ_ _ _ _ _ _ _ q=>le_int q
def lN:oo X (compareOp .Gt) (NA λi j=> .bl (decide (j<i))):=N9 λ_ _ _ _ _ _ _ q=>gt_int q
def Xn:oo X (compareOp .GtE) (NA λi j=> .bl (decide (j<=i))):=N9 λ_ _ _ _ _ _ _ q=>ge_int q
def aO(b:Expr){op:CmpOp}(h:op≠ .In:=by decide)(h2:op≠ .NotIn:=by decide):behindInMarks op b=false:=by
 have e1:(op==CmpOp.In)=false:=by cases op<;>first|rfl|exact absurd rfl h
 have e2:(op==CmpOp.NotIn)=false:=by lia
 cases b<;>simp [behindInMarks,e1,e2]
def ow{op:CmpOp}{r:R2}(ho:oo X (compareOp op) r)(ha:PE X a ta)(hb:PE X b tb)(hm:behindInMarks op b=false):PE X (.Compare a [op] [b] pos) (SJ r ta tb):=by
 intro pins s σ H Q I h;exact wpAny_Compare1 (SK ha hb I h λv u s2 x y H2 I2 rx ry q=>ho pins s2 σ H2 x y v u Q I2 rx ry q) hm
def Xo(t:TE):TT:=fun σ H Q=>t σ H λx H'=>∃k,x= .bl k/\Q k H'
def aJ{op:CmpOp}{r:R2}(ho:oo X (compareOp op) r)(ha:PE X a ta)(hb:PE X b tb)(hm:behindInMarks op b=false):PT X (.Compare a [op] [b] pos) (Xo (SJ r ta tb)):=by
 intro pins s σ H Q I h
 refine wpAny_isTrue_Compare1 (cg 7e7 λv s1 ⟨x,H1,I1,r1,q1⟩=>cg (hb pins s1 σ H1 _ I1 q1) λu s2 ⟨y,H2,I2,r2,q2⟩=>
  cg (ho pins s2 σ H2 x y v u _ I2 r1 r2 q2) λc s3 ⟨z,H3,I3,r3,k,e,q3⟩=>?_) hm
 subst e;cases r3;exact wpAny_truthy_bool ⟨H3,I3,q3⟩
def SM(r r':R2)(ta tb tc:TE):TE:=fun σ H Q=>ta σ H λx H1=>tb σ H1 λy H2=>r x y H2 λz H3=>∃k,z= .bl k/\
 (if k=true then tc σ H3 λw' H4=>r' y w' H4 Q else Q (.bl false) H3)
def tj{op op':CmpOp}{r r':R2}(ho:oo X (compareOp op) r)(Ak:oo X (compareOp op') r')(ha:PE X a ta)(hb:PE X b tb)(hc:PE X c tc)
  (hm:lastMarks [op,op'] [b,c]=false:=by with_unfolding_all rfl):PE X (.Compare a [op,op'] [b,c] pos) (SM r r' ta tb tc):=by
 intro pins s σ H Q I h
 refine Compare_chain (cg 7e7 λv s1 ⟨x,H1,I1,r1,q1⟩=>chain_link (cg (hb pins s1 σ H1 _ I1 q1) λu s2 ⟨y,H2,I2,r2,q2⟩=>
  cg (ho pins s2 σ H2 x y v u _ I2 r1 r2 q2) λd s3 ⟨z,H3,I3,r3,k,e,q3⟩=>?_)) hm
 subst e;cases r3;refine wpAny_truthy_bool ?_
 cases k with
 |false=>exact ite_ff ⟨.bl false,H3,I3,rfl,q3⟩
 |true=>exact ite_tt (chain_last (cg (hc pins s3 σ H3 _ I3 q3) λw' s4 ⟨z',H4,I4,r4,q4⟩=>Ak pins s4 σ H4 y z' u w' Q I4 r2 r4 q4))
def Xp(K:Uf)(x:V)(H:Hp)(k:Bool):Prop:=
 match x with
 | .cR=>k=false
 | .bl b=>k=b
 | .int i=>k=(i != 0)
 | .str y=>y.length<=sizeLine/\k=((y.length:Int) != 0)
 | .CA y=>y.size<=sizeLine/\k=((y.size:Int) != 0)
 | .ref p=>(∃xs,bH K H p xs/\k=!xs.isEmpty)\/(∃xs,iB K H p xs/\k=!xs.isEmpty)\/∃kvs,H p=some 2e9/\k=!kvs.isEmpty
 |_=>False
def CF{κ:Type}{kvs:14e2}{vs:List (κ×Value)}(r:KV kvs vs):(!vs.isEmpty)=!kvs.isEmpty:=by
 cases r<;>rfl
def tq{xs:KB}{its:UF}(r:Vals xs its):(!its.toArray.isEmpty)=!xs.isEmpty:=by
 cases r<;>simp
def nI:(sizeLine:Nat) <2^63:=by rw[sizeLine_eq];decide
def SQ:TruR X (λx H Q=>∃k,Xp X.K x H k/\Q k H):=by
 intro pins s σ H x v Q I rx h;obtain⟨k,e,q⟩:=h;have hl:=nI;have hs:sizeLine=16777216:=sizeLine_eq
 cases x with
 |cR=>
  cases rx;have e':k=false:=e;subst e';exact truthy_none ⟨H,I,q⟩
 |bl b=>
  cases rx;have e':k=b:=e;subst e';exact wpAny_truthy_bool ⟨H,I,q⟩
 |int i=>
  obtain⟨t,rfl⟩:=rx;have e':k=(i != 0):=e;subst e';exact PySem.P.truthy_int ⟨H,I,q⟩
 |str y=>
  obtain⟨t,rfl⟩:=rx;obtain⟨hy,e'⟩:y.length<=sizeLine/\k=((y.length:Int) != 0):=e;subst e';exact PySem.P.truthy_str 0e2 ⟨H,I.tok _,q⟩
 |CA y=>
  obtain⟨t,rfl⟩:=rx;obtain⟨hy,e'⟩:y.size<=sizeLine/\k=((y.size:Int) != 0):=e;subst e';exact PySem.W.truthy_bytes 0e2 ⟨H,I.tok _,q⟩
 |ref p=>
  cases rx;have e':(∃xs,bH X.K H p xs/\k=!xs.isEmpty)\/(∃xs,iB X.K H p xs/\k=!xs.isEmpty)\/∃kvs,H p=some 2e9/\k=!kvs.isEmpty:=e;rcases e' with ⟨xs,hx,e'⟩ | ⟨xs,hx,e'⟩ | ⟨kvs,hx,e'⟩
  ·subst e';obtain⟨its,r,pl,hz⟩:=I.list hx;have hlen:=r.length;exact wpAny_truthy_list pl.isList (by simp only [size_toArray];omega) ⟨H,I.tok _,by rw[tq r];exact q⟩
  ·subst e';obtain⟨its,r,pl,hz⟩:=I.tuple hx;have hlen:=r.length;exact truthy_tuple pl (by simp only [size_toArray];omega) ⟨H,I.tok _,by rw[tq r];exact q⟩
  ·subst e';obtain⟨hz,hS,vs,r,m⟩:kvs.length<=sizeLine/\(p==sysModules)=false/\∃vs,KV kvs vs/\s.heap.DictOf (bQ X.prog X.w) p vs:=I.aP p _ hx;have hlen:kvs.length=vs.length:=Paired.length r;exact wpAny_truthy_dict hS m 0e2 ⟨H,I.tok _,by rw[CF r];exact q⟩
 |_=>exact(show False from e).elim
def tD(ha:PE X a ta)(he:∀whole,isTrue a X.env whole=(do let v<-whole;standAt a.pos;holding [v] (truthy v))):
  PT X a (fun σ H Q=>ta σ H λx H'=>∃k,Xp X.K x H' k/\Q k H'):=by
 intro pins s σ H Q I h;exact isTrue_plain (cg 7e7 λv s1 ⟨x,H1,I1,r1,q1⟩=>SQ pins s1 σ H1 x v Q I1 r1 q1) (he _)
inductive Aq(x:V)(y:V)(H:Hp)(Q:VK):Prop
 |mk (i j:_) (bJ:x= .str i) (bT:y= .str j) (cw:i.length+j.length<=sizeLine) (dh:Q (.str (i++j)) H)
def bB:oo X (binaryOp .Add) (Aq):=by
 intro pins s σ H x y v u Q I rx ry h;obtain⟨i,j,rfl,rfl,hz,q⟩:=h;obtain⟨t,rfl⟩:=rx;obtain⟨t',rfl⟩:=ry;exact add_str (λt' tk=>⟨.str (i++j),H,I.tok _,3e5,q⟩) hz
def vals1{x:V}{us:UF}(r:Vals [x] us):∃u,us=[u]/\RelV x u:=by
 cases r with
 |cons r1 r2=>cases r2;exact⟨_,U,r1⟩
def vals2{x y:V}{us:UF}(r:Vals [x,y] us):∃u w',us=[u,w']/\RelV x u/\RelV y w':=by
 cases r with
 |cons r1 r2=>
  cases r2 with
  |cons r3 r4=>cases r4;exact⟨_,_,U,r1,r3⟩
def As:iD X (.builtin "abs") (λxs H Q=>∃i,xs=[.int i]/\Q (.int (if i<0 then -i else i)) H):=by
 intro pins s σ H xs us Q I r h;obtain⟨i,rfl,q⟩:=h;obtain⟨u,rfl,t,rfl⟩:=vals1 r;exact call_abs_int λu tk=>⟨.int (if i<0 then -i else i),H,I.tok _,3e5,q⟩
def pU:iD X (.type "int") (λxs H Q=>(∃i,xs=[.int i]/\Q (.int i) H)\/∃k,xs=[.bl k]/\Q (.int (if k then 1 else 0)) H):=by
 intro pins s σ H xs us Q I r h;rcases h with ⟨i,rfl,q⟩ | ⟨k,rfl,q⟩
 ·obtain⟨u,rfl,t,rfl⟩:=vals1 r;exact call_int_int ⟨.int i,H,I,3e5,q⟩
 ·obtain⟨u,rfl,r1⟩:=vals1 r;cases r1;exact call_int_bool ⟨.int (if k then 1 else 0),H,I.tok _,3e5,q⟩
def kn:iD X (.type "str") (λxs H Q=>∃i,xs=[.int i]/\i.natAbs.log2<1920/\Q (.str (toString i)) H):=by
 intro pins s σ H xs us Q I r h;obtain⟨i,rfl,hz,q⟩:=h;obtain⟨u,rfl,t,rfl⟩:=vals1 r;exact PySem.P.str_of_int hz ⟨.str _,H,I.tok _,3e5,q⟩
end
structure CG(h:Heap)(x dx C:9e7)(mA:2e0):Prop where
 obj:h.get? x=some (PySem.W.instObj C dx)
 ns:h.Ns1 dx mA
 ne:dx≠x
def pV{h:Heap}{dx:Ps}{mA:Wp}(n:h.Ns1 dx mA):∃od,h.get? dx=some od/\∀name,PySem.W.lookIn name od=some (mA name):=by
 obtain⟨o,es,ep,ho,hd,hk,_,hm⟩:=n;refine⟨o,ho,λname=>?_⟩;have e:=hm name;unfold nsFind findBy at e;rw[<-Array.find?_toList] at e;unfold PySem.W.lookIn;rw[hd];dsimp only;split
 ·simp_all
 ·rename_i q
  rw[q] at e
  have a:es.toList.any (·.refKey)=false:=by
   rw[List.any_eq_false];intro y hy;obtain⟨z,t,hkey⟩:=hk y (Array.mem_toList_iff.mp hy);simp [DictEntry.refKey,hkey]
  simp_all
def CG.look{h:Heap}{x dx C:Ps}{mA:Wp}(I:CG h x dx C mA):∃od,PySem.W.InstAt h x (PySem.W.instObj C dx) C (some od)/\∀name,PySem.W.lookIn name od=some (mA name):=
 let ⟨od,ho,hl⟩:=pV I.ns
 ⟨od,⟨I.obj,rfl,rfl,ho⟩,hl⟩
section
variable {prog:On}{w:8e8}{A:Os}{E:XV}{s:Op}{K:Uf}{x dx C f:Ps}{mA:Wp}{name:Str}{v:Pn}
def get_map{expr:Bool}{Q:XV}(X:K.In s.heap)(I:CG s.heap x dx C mA)(hg:PySem.W.plainGet K C name=true)(hh:PySem.W.hasDictIn K C=true)
  (ha:PySem.W.findIn K 4e9 name=some none) (hv:mA name=some v) (Xq:PySem.W.handedIn v=true) (h:Q v 3e7):
  wpAny 1e4 A (getAttr (.ref x) name expr) Q E s:=by
 obtain⟨od,J,hl⟩:=I.look;exact PySem.W.get_value X J (PySem.W.plainGet_of hg).1 (PySem.W.findObj_own hh ha rfl (by rw[hl,hv])) Xq h
def Jy{pl:Sem Bool}{Q:Value×List Value->Shared->Prop}(X:K.In s.heap)(I:CG s.heap x dx C mA)(hg:PySem.W.plainGet K C name=true)
  (hf:PySem.W.findIn K 4e9 name=some (some 8e3)) (ht:PySem.W.isFn K 8e3=true) (hv:mA name=none) (h:Q (.ref f,[.ref x]) s):
  wpAny 1e4 A (getMethod (.ref x) name pl) Q E s:=by
 obtain⟨od,J,hl⟩:=I.look;exact PySem.W.method_fn X J (PySem.W.plainGet_of hg).1 (PySem.W.plainGet_of hg).2 hf (beq_iff_eq.mp ht) (by show (PySem.W.lookIn name od).map (·.isSome)=some false;rw[hl,hv];rfl) h
def Ob{ns:IR}{Q:ZB}(X:K.In s.heap)(I:CG s.heap x dx C mA)
  (hs:PySem.W.findIn K 4e9 "__setattr__" =some (some (.builtin "object.__setattr__"))) (hp:PySem.W.plainOver K C=true) (ht:PySem.W.takerIn K C name=some none) (hh:PySem.W.hasDictIn K C=true)
  (hw:PySem.Within mA ns) (hsz:ns.length<=sizeLine)
  (h:∀h',CG h' x dx C (λy=>if y=name then some v else mA y)->Heap.SameBut dx s.heap h'->Q () { s with heap:=h',toks:=s.toks+2 }):
  wpAny 1e4 A (setAttr (.ref x) name v) Q E s:=by
 obtain⟨od,J,hl⟩:=I.look;refine PySem.W.set_plain X J hs (PySem.W.osa_open (s:=3e7) (r:=none) X J hp ht λb=>?_);obtain⟨cd,hc,dH⟩:=PySem.W.any_some hh;have hx:s.heap.get? x=some ⟨.ref C,some dx, .plain,#[]⟩:=I.obj;refine wpAny_bind (wpAny_pure (wpAny_bind (wpAny_bind (wpAny_loadPart hx (wpAny_bind (PySem.W.Looks.here (s:=3e7) (PySem.W.looks_clsIn X hc) ?_))))));rw[dH];refine wpAny_pure (a:=some dx) (wpAny_bind (wpAny_pure (wpAny_bind ?_)));refine wpAny_nsSet1 (s:=3e7) I.ns λh' Oc hs2=>?_;obtain⟨oD,esD,epD,hoD,hdD,Od⟩:=Oc.count (PySem.Within.cons name v hw);refine wpAny_bind (wpAny_lookBehind hoD (by rw[hdD];exact pastItsLine_dict (le_trans Od 9e9)) ?_);exact wpAny_pure (h _ ⟨(hs2.2 _ (Ne.symm I.ne)).trans I.obj,Oc,I.ne⟩ hs2)
def Jz{R:Qp}{vs:UF}{kw:List (Str×Value)}(X:K.In s.heap)(hm:PySem.W.makesIn K C=true)
  (hi:14e6) (hf:PySem.W.typeIn K 8e3=some (.type "function"))
  (h:codeAny 1e4 (A.under (.builtin "type.__call__" ⟨.ref C::vs,kw⟩)) (.call 8e3 ⟨.ref 1e2::vs,kw⟩) (PySem.W.InitBack 1e2 R)
   { s with heap:=(s.heap.push PySem.W.emptyDict).push (PySem.W.instObj C s.heap.objs.size) }):
  codeAny 1e4 A (.call 4e9 ⟨vs,kw⟩) R s:=by
 obtain⟨hh,g,d,t,os⟩:=s;exact PySem.W.make_core (PySem.W.makes_of X hm) (PySem.W.looks_findIn X hi) (λself=>PySem.W.bind_fn X self hf) 9e8 h
end
noncomputable def di(f:Str)(v:V):List (Str×V)->List (Str×V)
 | []=>[(f,v)]
 | (g,x)::r=>if g=f then (g,v)::r else (g,x)::di f v r
theorem az(f g:Str)(v:V):∀fs:List (Str×V),(di f v fs).lookup g=if g=f then some v else fs.lookup g
 | []=>by
   show List.lookup g [(f,v)]=_
   grind
 | (k,x)::r=>by
   have ih:=az f g v r;rw[show di f v ((k,x)::r)=(if k=f then (k,v)::r else (k,x)::di f v r) from rfl]
   grind
theorem jV(f:Str)(v:V):∀fs:List (Str×V),f∈(di f v fs).map 2e1/\∀g,g∈fs.map 2e1->g∈(di f v fs).map 2e1
 | []=>⟨by simp [di],λg h=>by simp at h⟩
 | (k,x)::r=>by
   obtain⟨i1,i2⟩:=jV f v r;rw[show di f v ((k,x)::r)=(if k=f then (k,v)::r else (k,x)::di f v r) from rfl]
   grind
theorem fZ(f:Str)(v:V):∀fs:List (Str×V),(di f v fs).length<=fs.length+1
 | []=>by simp [di]
 | (k,x)::r=>by
   have ih:=fZ f v r;rw[show di f v ((k,x)::r)=(if k=f then (k,v)::r else (k,x)::di f v r) from rfl]
   grind
def iF.some_of{v:V}{o:Option Value}(r:iF (some v) o):∃u,o=some u/\RelV v u:=by
 cases o with
 |none=>exact(show False from r).elim
 |some u=>exact⟨u,U,r⟩
def iF.none_of{o:Option Value}(r:iF none o):o=none:=by
 cases o with
 |none=>rfl
 |some u=>exact(show False from r).elim
def wN{v:V}{u:Pn}(r:RelV v u):PySem.W.handedIn u=true:=by
 cases v with
 |cR=>cases (show u=Value.none from r);rfl
 |bl b=>cases (show u=Value.bool b from r);rfl
 |int i=>obtain⟨t,e⟩:=(show∃t,u=Value.int i t from r);cases e;rfl
 |str x=>obtain⟨t,e⟩:=(show∃t,u=Value.str x t from r);cases e;rfl
 |CA b=>obtain⟨t,e⟩:=(show∃t,u=Value.bytes b t from r);cases e;rfl
 |QU b=>obtain⟨t,e⟩:=(show∃t,u=Value.float b t from r);cases e;rfl
 |ref a=>cases (show u=Value.ref a from r);rfl
 |ty n=>cases (show u=Value.type n from r);rfl
section
variable {P:On}{w:8e8}{H H':Hp}{h h':Heap}{a C dx:Ps}{fs N0:List (Str×V)}
def rO(aP:18e7)(e:H a=some (.ins C dx fs)):∃mA,CG h a dx C mA/\(∀f,iF (fs.lookup f) (mA f))/\PySem.Within mA (fs.map 2e1)/\fs.length<=1000/\H dx=some (.own a):=by
 obtain⟨d,z,ne,ob,mA,n,r,q⟩:=(show cK P w H h a (.ins C dx fs) from aP a _ e);exact⟨mA,⟨ob,n,ne⟩,r,q,z,d⟩
end
structure vQ(K:1e5)(C:9e7):Prop where
 pg:PySem.W.plainGet K C Str.empty=true
 hd:PySem.W.hasDictIn K C=true
 po:PySem.W.plainOver K C=true
 sa:PySem.W.findIn K 4e9 "__setattr__" =some (some (.builtin "object.__setattr__"))
def vQ.get{K:Uf}{C:Ps}(c:vQ K C)(f:Str):PySem.W.plainGet K C f=true:=c.pg
def dj(K:Uf)(C:Ps)(f:Str):Prop:=PySem.W.findIn K 4e9 f=some none
def dj.Xr{K:Uf}{C:Ps}{f:Str}(n:dj K C f):PySem.W.takerIn K C f=some none:=by
 unfold PySem.W.takerIn;rw[show PySem.W.findIn K 4e9 f=some none from n];rfl
structure Meth(K:1e5)(C:9e7)(m:Str)(f:9e7):Prop where
 at_:PySem.W.findIn K 4e9 m=some (some 8e3)
 fn:PySem.W.isFn K 8e3=true
 kp:keepIn K 8e3=true
section
variable {X:Cx}{pins:WF}{σ:St}{H:Hp}{s:Op}{a C dx:Ps}{fs:List (Str×V)}{f:Str}{v:V}{A:Os}{E:XV}
def tE{b:Bool}{Q:XV}(I:0e6)(e:H a=some (.ins C dx fs))(c:vQ X.K C)(n:dj X.K C f)(l:fs.lookup f=some v)
  (h:∀u s',Inv X pins σ H s'->RelV v u->Q u s'):wpAny 0e8 A (getAttr 18e2 f b) Q E s:=by
 obtain⟨mA,O,r,_,_,_⟩:=rO I.aP e;obtain⟨u,hu,ru⟩:=iF.some_of (v:=v) (o:=mA f) (by rw[<-l];exact r f);exact get_map I.jq O (c.get f) c.hd n hu (wN ru) (h u _ (I.tok _) ru)
def ko{m:Str}{g:Ps}{pl:Sem Bool}{Q:Value×List Value->Shared->Prop}(I:0e6)(e:H a=some (.ins C dx fs))(c:vQ X.K C)(k:Meth X.K C m g)(l:fs.lookup m=none)
  (h:Q (.ref g,[.ref a]) s):wpAny 0e8 A (getMethod 18e2 m pl) Q E s:=by
 obtain⟨mA,O,r,_,_,_⟩:=rO I.aP e;have hn:mA m=none:=iF.none_of (by rw[<-l];exact r m);exact Jy I.jq O (c.get m) k.at_ k.fn hn h
def tF{y:V}{u:Pn}{Q:ZB}(I:0e6)(e:H a=some (.ins C dx fs))(c:vQ X.K C)(n:dj X.K C f)(hl:fs.length<1000)(ry:RelV y u)
  (h:∀s',Inv X pins σ (upd H a (.ins C dx (di f y fs))) s'->Q () s'):wpAny 0e8 A (setAttr 18e2 f u) Q E s:=by
 obtain⟨mA,O,r,wi,_,ho⟩:=rO I.aP e;have hz:(fs.map 2e1).length<=sizeLine:=by rw[length_map,sizeLine_eq];omega
 refine Ob I.jq O c.sa c.po n.Xr c.hd wi hz λh' O' sb=>h _ ?_;have hd:∃o,h'.get? dx=some o:=let ⟨o,_,_,e',_⟩:=O'.ns;⟨o,e'⟩;refine I.write (x:=a) (e:=dx) (by rw[e];exact True.intro) (.inr ho) (λb q hb z=>(sb.2 b hb).trans z) hd ?_;refine⟨by rw[ah O.ne];exact ho,?_,O.ne,O'.obj,_,O'.ns,λg=>?_,λg hg=>?_⟩
 ·have:=fZ f y fs;omega
 ·show iF ((di f y fs).lookup g) (if g=f then some u else mA g);rw[az];by_cases q:g=f
  ·rw[if_pos q,if_pos q];exact ry
  simp_all
 ·by_cases q:g=f
  ·rw[q];exact(jV f y fs).1
  ·refine(jV f y fs).2 g (wi g λz=>hg ?_)
   lia
def Inv.made(I:0e6):Inv X pins σ (upd (upd H s.heap.objs.size (.own 1e2)) 1e2 (.ins C s.heap.objs.size []))
  { s with heap:=(s.heap.push PySem.W.emptyDict).push (PySem.W.instObj C s.heap.objs.size) }:=by
 have e1:(s.heap.push PySem.W.emptyDict).get? s.heap.objs.size=some PySem.W.emptyDict:=Heap.get?_push_size s.heap rfl
 have e2:((s.heap.push PySem.W.emptyDict).push (PySem.W.instObj C s.heap.objs.size)).get? 1e2=some (PySem.W.instObj C s.heap.objs.size):=by
  have:=Heap.get?_push_size (s.heap.push PySem.W.emptyDict) (o:=PySem.W.instObj C s.heap.objs.size) rfl
  rwa [Heap.size_push] at this
 have e3:(s.heap.push PySem.W.emptyDict).Ns s.heap.objs.size (λ_=>none):=⟨PySem.W.emptyDict,#[],_,e1,rfl,(λe he=>absurd he 2e3),λ_=>rfl⟩;have I1:=I.laid (a:=s.heap.objs.size) (o:= .own 1e2) (h':=s.heap.push PySem.W.emptyDict) (t':=s.toks) (λb u q=>Heap.get?_push_of_some _ q) 3e1 ⟨_,e1⟩;refine I1.laid (a:=s.heap.objs.size+1) (o:= .ins C s.heap.objs.size []) (t':=s.toks) (λb u q=>Heap.get?_push_of_some _ q) (le_of_eq (Heap.size_push _ _)) ?_;have ne:s.heap.objs.size≠s.heap.objs.size+1:=ne_of_lt (Nat.lt_succ_self _);refine⟨by rw[ah ne,af],zero_le _,ne,e2,λ_=>none,(Heap.Ns1.of_empty e3).at λo q=>Heap.get?_push_of_some _ q,λ_=>True.intro,λy hy=>absurd rfl hy⟩
def ET{prog:On}{w:8e8}{env:Env}{e:Expr}{f:Str}{pos:Pos}{s:Op}{Q:XV}(hb:attributeBase e f env (eval e env)=eval e env)
  (h:wpAny 1e4 A (eval e env) (λo s₁=>wpAny 1e4 A (getAttr o f true) Q E s₁) E s):wpAny 1e4 A (eval (.Attribute e f pos) env) Q E s:=
 Attribute_any_ h (by rw[arm_eval_Attribute,hb])
end
inductive Xs(K:1e5)(f:Str)(Q:VK)(x:V)(H1:Hp):Prop
 |mk (a C dx fs v:_) (bJ:x= .ref a) (bT:H1 a=some (.ins C dx fs)) (cw:vQ K C) (dh:dj K C f) (eQ:fs.lookup f=some v) (ir:Q v H1)
def tFld(K:Uf)(ta:TE)(f:Str):TE:=fun σ H Q=>ta σ H (Xs K f Q)
inductive Xt(K:1e5)(f:Str)(D:Ends)(σ:St)(y:V)(x:V)(H2:Hp):Prop
 |mk (a C dx fs:_) (bJ:x= .ref a) (bT:H2 a=some (.ins C dx fs)) (cw:vQ K C) (dh:dj K C f) (eQ:fs.length<1000) (ir:D.nx σ (upd H2 a (.ins C dx (di f y fs))))
def sFld(K:Uf)(ta tv:TE)(f:Str):TS:=λD σ H=>tv σ H λy H1=>ta σ H1 (Xt K f D σ y)
def Xu(X:Cx)(op:Operator)(rd:V->V->Hp->VK->Prop):Prop:=
 ∀(pins:WF) (s:Op) (σ:St) (H:Hp) (x y:V) (u v:Pn) (Q:VK),Inv X pins σ H s->RelV x u->RelV y v->rd x y H Q->wpAny 0e8 X.A (inplaceOp op u v) 9e0 X.xe s
inductive JA(K:1e5)(tv:TE)(rd:V->V->Hp->VK->Prop)(f:Str)(D:Ends)(σ:St)(x:V)(H1:Hp):Prop
 |mk (a C dx fs v:_) (bJ:x= .ref a) (bT:H1 a=some (.ins C dx fs)) (cw:vQ K C) (dh:dj K C f) (eQ:fs.lookup f=some v) (ir:tv σ H1 λy H2=>rd v y H2 λz H3=>∃dM N0,H3 a=some (.ins C dM N0)/\N0.length<1000/\D.nx σ (upd H3 a (.ins C dM (di f z N0))))
def Oe(K:Uf)(ta tv:TE)(rd:V->V->Hp->VK->Prop)(f:Str):TS:=λD σ H=>ta σ H (JA K tv rd f D σ)
section
variable {X:Cx}{o e value:Expr}{f:Str}{pos pos' wb:Pos}{ta tv:TE}
def aQ(he:PE X e ta)(hb:attributeBase e f X.env (eval e X.env)=eval e X.env):PE X (.Attribute e f pos) (tFld X.K ta f):=by
 intro pins s σ H Q I h;refine ET hb (cg 5e9 λu s1 ⟨x,H1,I1,rx,a,C,dx,fs,v,ex,ea,c,n,l,q⟩=>?_);subst ex;obtain rfl:u=Value.ref a:=rx;exact tE I1 ea c n l λu' s2 I2 ru=>⟨v,H1,I2,ru,q⟩
def fO(ha:PE X o ta)(hv:PE X value tv)(hs:swapsWith value (some (.Attribute o f pos')) pos.line X.env=pure false):PS X (.Assign [.Attribute o f pos'] value pos) (sFld X.K ta tv f):=by
 intro pins s σ H D I h;refine plainObj_wpAny_Assign_Attribute (cg (hv pins s σ H _ I h) λu s1 ⟨y,H1,I1,ry,q⟩=>cg (ha pins s1 σ H1 _ I1 q) λov s2 ⟨x,H2,I2,rx,a,C,dx,fs,ex,ea,c,n,l,q2⟩=>?_) hs;subst ex;obtain rfl:ov=Value.ref a:=rx;exact tF I2 ea c n l ry λs3 I3=>⟨σ,_,I3,q2⟩
def mC{op:Operator}{rd:V->V->Hp->VK->Prop}(ha:PE X o ta)(hv:PE X value tv)(hop:Xu X op rd):PS X (.AugAssign (.Attribute o f wb) op value pos) (Oe X.K ta tv rd f):=by
 intro pins s σ H D I h;refine wpAny_AugAssign_AttributeAny (cg 7e7 λov s1 ⟨x,H1,I1,rx,a,C,dx,fs,v,ex,ea,c,n,l,q⟩=>?_);subst ex;obtain rfl:ov=Value.ref a:=rx;refine tE I1 ea c n l λu s2 I2 ru=>cg (hv pins s2 σ H1 _ I2 q) λw3 s3 ⟨y,H2,I3,ry,q3⟩=>cg (hop pins s3 σ H2 v y u w3 _ I3 ru ry q3) λw4 s4 ⟨z,H3,I4,rz,dM,N0,ea',l',q4⟩=>?_;exact tF I4 ea' c n l' rz λs5 I5=>⟨σ,_,I5,q4⟩
def rAdd:V->V->Hp->VK->Prop:=λx y H Q=>∃i j,x= .int i/\y= .int j/\Q (.int (i+j)) H
def yd:Xu X .Add rAdd:=by
 rintro pins s σ H x y u v Q I rx ry ⟨i,j,rfl,rfl,q⟩;obtain⟨t,rfl⟩:=(show∃t,u=Value.int i t from rx);obtain⟨t',rfl⟩:=(show∃t',v=Value.int j t' from ry);exact PyProof.Rows.iadd_int ⟨.int (i+j),H,I.tok _,3e5,q⟩
end
section
variable {X:Cx}{pins:WF}{σ:St}{H:Hp}{s:Op}{A:Os}{E:XV}{Q:XV}{c:Pn}{b:Bool}
inductive pW(K:1e5)(H:Hp):V->Value->Prop where
 |cR:pW K H .cR (.type "NoneType")
 |bl (x:Bool):pW K H (.bl x) (.type "bool")
 |int (i:Int):pW K H (.int i) (.type "int")
 |str (x:Str):pW K H (.str x) (.type "str")
 |QU (x:UInt64):pW K H (.QU x) (.type "float")
 |lst {a:9e7} {xs:5e2} (e:H a=some (.lst xs)):pW K H (.ref a) (.type "list")
 |gO {a:9e7} {o:Obj} {xs:5e2} (e:H a=some (.gO o (.lst xs))):pW K H (.ref a) (.type "list")
 |tup {a:9e7} {xs:5e2} (e:H a=some (.tup xs)):pW K H (.ref a) (.type "tuple")
 |dK {a:9e7} {kvs:14e3} (e:H a=some (.dK kvs)):pW K H (.ref a) (.type "dict")
 |dT {a:9e7} {kvs:17e7} (e:H a=some (.dT kvs)):pW K H (.ref a) (.type "dict")
 |ins {a C dx:9e7} {fs:List (Str×V)} (e:H a=some (.ins C dx fs)) (cl:vQ K C) (ha:PySem.W.findIn K (.ref C) "__class__" =some (some (.builtin "object.__class__")))
   (hn:PySem.W.specialIn K 4e7 "__get__" =some (some 11e0)) (wc:PySem.W.takesIn K 4e7=some true)
   (hm:PySem.W.mroIn K C (.type "object")=some true):pW K H 18e2 4e9
def GV{x:V}{u t:Pn}(I:0e6)(rx:RelV x u)(ty:pW X.K H x t)(e:kitOne X.K t c=some b)(h:∀tk,Q (.bool b) { s with toks:=tk }):
  wpAny 0e8 A (call (.builtin "isinstance") [u,c]) Q E s:=by
 cases ty with
 |cR=>cases (show u=Value.none from rx);exact PySem.W.kia_one PySem.W.kitx_none I.jq True.intro e 13e3 h
 |bl y=>cases (show u=Value.bool y from rx);exact PySem.W.kia_one PySem.W.kitx_bool I.jq True.intro e 13e3 h
 |int i=>obtain⟨t,q⟩:=(show∃t,u=Value.int i t from rx);cases q;exact PySem.W.kia_one PySem.W.kitx_int I.jq True.intro e 13e3 h
 |str y=>obtain⟨t,q⟩:=(show∃t,u=Value.str y t from rx);cases q;exact PySem.W.kia_one PySem.W.kitx_str I.jq True.intro e 13e3 h
 |QU y=>obtain⟨t,q⟩:=(show∃t,u=Value.float y t from rx);cases q;exact PySem.W.kia_one PySem.W.kitx_float I.jq True.intro e 13e3 h
 | @lst a xs ea=>
   cases (show u=Value.ref a from rx);obtain⟨_,_,n,_,h1⟩:=(show cK X.prog X.w H s.heap a (.lst xs) from I.aP a _ ea);exact PySem.W.kia_one PySem.W.kitx_list I.jq ⟨_,h1,rfl⟩ e 13e3 h
 | @gO a ob xs ea=>
   cases (show u=Value.ref a from rx);obtain⟨_,_,_,n,_,h1⟩:=(show cK X.prog X.w H s.heap a (.gO ob (.lst xs)) from I.aP a _ ea);exact PySem.W.kia_one PySem.W.kitx_list I.jq ⟨_,h1,rfl⟩ e 13e3 h
 | @tup a xs ea=>
   cases (show u=Value.ref a from rx);obtain⟨_,_,_,p⟩:=(show cK X.prog X.w H s.heap a (.tup xs) from I.aP a _ ea);obtain⟨o,h1,h2,_⟩:=p;exact PySem.W.kia_one PySem.W.kitx_tuple I.jq ⟨o,h1,h2⟩ e 13e3 h
 | @dK a kvs ea=>
   cases (show u=Value.ref a from rx);obtain⟨_,_,vs,_,p⟩:=(show cK X.prog X.w H s.heap a 2e9 from I.aP a _ ea);obtain⟨o,es,ep,h1,h2,_⟩:=p;exact PySem.W.kia_one PySem.W.kitx_dict I.jq ⟨o,h1,h2.1⟩ e 13e3 h
 | @dT a kvs ea=>
   cases (show u=Value.ref a from rx);obtain⟨_,_,xs,_,o,es,ep,h1,h2,_⟩:=(show cK X.prog X.w H s.heap a (.dT kvs) from I.aP a _ ea);exact PySem.W.kia_one PySem.W.kitx_dict I.jq ⟨o,h1,h2.1⟩ e 13e3 h
 | @ins a C dx fs ea cl ha hn wc hm=>
   cases (show u=Value.ref a from rx);obtain⟨mA,O,_⟩:=rO I.aP ea;obtain⟨od,J,_⟩:=O.look;exact PySem.W.kia_one (PySem.W.kitx_own (cl.get _) cl.hd ha hn wc hm) I.jq J e 13e3 h
end
structure cV(k:Nat)(A:Around):Prop where
 hd:A.handled=none
 dp:A.depth+3*k+5<recursionLimit
 un:A.units+16*k+200<cLine
def cV.mono{j k:Nat}{A:Os}(r:cV k A)(h:j<=k):cV j A:=⟨r.hd,by have:=r.dp;omega,by have:=r.un;omega⟩
theorem cV.deeper{k:Nat}{A:Os}(r:cV (k+1) A)(env:Env):cV k (A.deeper env):=
 ⟨r.hd,by have:=r.dp;show A.depth+1+3*k+5<_;omega,by have:=r.un;show A.units+3+16*k+200<_;omega⟩
def CH{A:Os}{C:Ps}{us:UF}{kw:List (Str×Value)}:(A.under (.builtin "type.__call__" ⟨.ref C::us,kw⟩)).depth=A.depth+1:=by
 first|rfl|simp [Around.under,Code.weight,Code.isCreation,Code.isGuard,Code.isCaller,Code.frames,Code.isFrame,guardIds]
def CI{A:Os}{C:Ps}{us:UF}{kw:List (Str×Value)}:(A.under (.builtin "type.__call__" ⟨.ref C::us,kw⟩)).units=A.units+1:=by
 first|rfl|simp [Around.under,Code.cUnits,Code.frames,Code.isFrame]
def cV.make{k:Nat}{A:Os}(r:cV (k+1) A)(C:Ps)(us:UF)(kw:List (Str×Value)):cV k (A.under (.builtin "type.__call__" ⟨.ref C::us,kw⟩)):=
 ⟨r.hd,by have:=r.dp;rw[CH];omega,by have:=r.un;rw[CI];omega⟩
theorem cV.depth{k:Nat}{A:Os}(r:cV k A):A.depth<recursionLimit:=by have:=r.dp;omega
theorem cV.units{k:Nat}{A:Os}(r:cV k A):A.units+64<cLine:=by have:=r.un;omega
def cV.pX{k:Nat}{A:Os}(r:cV k A):A.units<cLine:=by have:=r.un;omega
def SR:TA:=λ_ H Q=>Q [] H
def Xv(ta:TE)(tr:TA):TA:=fun σ H Q=>ta σ H λx H1=>tr σ H1 λxs H2=>Q (x::xs) H2
section
variable {X:Cx}{e:Expr}{es:Ix}{te:TE}{t:TA}{pos:Pos}
def aj:PA X [] SR:=λ_ _ _ _ H Q I h=>Calls.spliced_nil ⟨[],H,I, .nil,h⟩
def aa(ha:PE X e te)(hr:PA X es t)(hs:starEach (e::es) X.env=6e3::starEach es X.env:=by rfl):PA X (e::es) (Xv te t):=by
 intro pos pins s σ H Q I h;rw[hs];show wpAny _ _ (spliced (6e3::backTo pos (starEach es X.env))) _ _ s;refine Calls.spliced_cons (cg 7e7 λu s1 ⟨x,H1,I1,r1,q1⟩=>?_);exact cg (hr pos pins s1 σ H1 _ I1 q1) λus s2 ⟨xs,H2,I2,r2,q2⟩=>⟨x::xs,H2,I2, .cons r1 r2,q2⟩
def tTup(t:TA):TE:=fun σ H Q=>t σ H λxs H1=>xs.length<=sizeLine/\∀p,H1 p=none->Q (.ref p) (upd H1 p (.tup xs))
def tLst(t:TA):TE:=fun σ H Q=>t σ H λxs H1=>xs.length<=sizeLine/\∀p,H1 p=none->Q (.ref p) (upd H1 p (.lst xs))
def bq{x1}(h:PA X es t):PE X (.Tuple es x1 pos) (tTup t):=by
 intro pins s σ H Q I hq;refine wpAny_Tuple_spliced (cg (h pos pins s σ H _ I hq) λus s1 ⟨xs,H1,I1,r,z,q⟩=>⟨by rw[<-r.length];exact z,?_⟩);have hf:H1 s1.heap.objs.size=none:=I1.aP.fresh 3e1;refine⟨.ref s1.heap.objs.size,upd H1 s1.heap.objs.size (.tup xs),I1.laid (t':=s1.toks) (λb u e=>Heap.get?_push_of_some _ e) 3e1 ?_,U,q _ hf⟩;exact⟨z,us,r,⟨_,Heap.get?_push_size _ rfl,U,_,U⟩⟩
def cC(h:PA X es t):PE X (.List es pos) (tLst t):=by
 intro pins s σ H Q I hq;refine wpAny_List_spliced (cg (h pos pins s σ H _ I hq) λus s1 ⟨xs,H1,I1,r,z,q⟩=>⟨by rw[<-r.length];exact z,?_⟩);have hf:H1 s1.heap.objs.size=none:=I1.aP.fresh 3e1;refine⟨.ref s1.heap.objs.size,upd H1 s1.heap.objs.size (.lst xs),I1.laid (t':=s1.toks) (λb u e=>Heap.get?_push_of_some _ e) 3e1 ?_,U,q _ hf⟩;exact⟨z,us,0,r,Heap.get?_push_size _ rfl⟩
end
abbrev Sp:=List V->Hp->VK->XK->Prop
abbrev EU:=List Env->Hp->Shared->XK->Value->Shared->Prop
structure ye(P:Program)(w:8e8)(K:1e5)(mg:2e0)(base:Heap)(A:Around)(outer:18e8)(s:Shared)(H:Hp):Prop where
 frames:A.frames=some outer
 mod:Mod K mg base
 bs:∀b o,base.get? b=some o->s.heap.get? b=some o/\H b=none
 EI:base.objs.size<=s.heap.objs.size
 lE:s.heap.FunFrames base outer
 IZ:∀b∈rq outer,H b=none
 aP:lD P w H s.heap
 bare:AllBare s.gens
def CE(outer:18e8)(P:On)(w:8e8)(H:Hp)(s:Op)(Q:VK)(u:Pn)(s':Op):Prop:=
 ∃v H',s'.os=s.os/\AllBare s'.gens/\Un (rq outer) [] H H' s.heap s'.heap/\lD P w H' s'.heap/\RelV v u/\Q v H'
def CR(CX:EU)(outer:18e8)(P:On)(w:8e8)(H:Hp)(s:Op)(Q:VK)(E:XK)(r:Result)(s':Op):Prop:=
 match r with
 | .ok (.ret u)=>CE outer P w H s Q u s'
 | .ok _=>False
 | .error e=>CX outer H s E e s'
structure fB(P:Program)(w:8e8)(K:1e5)(mg:2e0)(base:Heap)(CX:EU)(k:Nat)(f:9e7)(fd:17e4)(ps:17e0)(sp:Sp):Prop where
 len:∀vs H Q E,sp vs H Q E->vs.length=ps.length
 run:∀(A:Around) (outer:18e8) (s:Shared) (H:Hp) (args:Args) (us:List Value) (vs:5e2) (Q:VK) (E:XK),cV k A->ye P w K mg base A outer s H->BindsTo s fd args (ps.zip us)->Vals vs us->sp vs H Q E->
  codeAny (model P w) A (.call 8e3 args) (CR CX outer P w H s Q E) s
def ye.make{P:On}{w:8e8}{K:Uf}{mg:Wp}{base:Heap}{A:Os}{outer:18e8}{s:Op}{H:Hp}(e:ye P w K mg base A outer s H)(C:Ps)(us:UF)(kw:List (Str×Value)):
  ye P w K mg base (A.under (.builtin "type.__call__" ⟨.ref C::us,kw⟩)) outer s H:=⟨by first|exact e.frames| (simpa [Around.under,Code.envs,Code.isFrame,pushEnvs] using e.frames),e.mod,e.bs,e.EI,e.lE,e.IZ,e.aP,e.bare⟩
section
variable {X:Cx}{pins:WF}{σ:St}{H:Hp}{s s':Op}
def Inv.JB(I:0e6):ye X.prog X.w X.K X.mg X.base X.A X.stack s H:=
 ⟨I.ok.frames,I.ok.mod,I.bs,le_trans I.ok.EI I.sz,I.stack,I.x8,I.aP,I.bare⟩
def Inv.after{Q:VK}{u:Pn}(I:0e6)(h:CE X.stack X.prog X.w H s Q u s'):EP X pins σ Q u s':=by
 obtain⟨v,H',os,bare,un,aP,r,q⟩:=h;obtain⟨hh,g,d,t,os'⟩:=s';obtain rfl:os'=s.os:=os;exact⟨v,H',I.call (h':=hh) (g':=g) (d':=d) (t':=t) (ch:=[]) un aP bare (λb z=>absurd z 2e3),r,q⟩
end
def QZ(sp:Sp)(kh:KB)(E:XK)(t:TA):TE:=fun σ H Q=>t σ H λvs H1=>sp (vs++kh) H1 Q E
inductive SS(C:9e7)(m:Str)(sp:Sp)(kh:5e2)(E:XK)(t:TA)(σ:St)(Q:VK)(x:V)(H1:Hp):Prop
 |mk (a dx fs:_) (bJ:x= .ref a) (bT:H1 a=some (.ins C dx fs)) (cw:fs.lookup m=none) (dh:t σ H1 λvs H2=>sp (x::(vs++kh)) H2 Q E)
def JC(C:Ps)(m:Str)(sp:Sp)(kh:KB)(E:XK)(ta:TE)(t:TA):TE:=fun σ H Q=>ta σ H (SS C m sp kh E t σ Q)
def Xw(C:Ps)(sp:Sp)(kh:KB)(E:XK)(t:TA):TE:=fun σ H Q=>t σ H λvs H1=>∀x dx,H1 x=none->H1 dx=none->dx≠x->
 sp (.ref x::(vs++kh)) (upd (upd H1 dx (.own x)) x (.ins C dx [])) (λv H2=>v= .cR/\Q (.ref x) H2) E
def Binds(K:Uf)(fd:17e4)(ps:IR)(ds:UF):Prop:=
 ∀(s:Op) (us:UF),K.In s.heap->(us++ds).length=ps.length->BindsTo s fd ⟨us,[]⟩ (ps.zip (us++ds))
def Binds.all{K:Uf}{fd:17e4}{ps:IR}(h:∀us:List Value,us.length=ps.length->bindArgs fd ⟨us,[]⟩=pure (ps.zip us)):Binds K fd ps []:=λs us _ hl=>by
 rw[append_nil] at hl |-;exact .of_eq (h us hl)
def Passes(CX:EU)(X:Cx)(E:XK):Prop:=∀(pins:WF) (σ:St) (H:Hp) (s:Op) (e:Pn) (s':Op),Inv X pins σ H s->CX X.stack H s E e s'->X.xe e s'
section
variable {X:Cx}{CX:EU}{k:Nat}{f C:Ps}{fd:17e4}{ps:IR}{sp:Sp}{kh:KB}{ds:UF}{E:XK}{x m:Str}{p pos apos:Pos}{e o:Expr}{es:Ix}{ta:TE}{t:TA}
def CJ{pins:WF}{σ:St}{H:Hp}{s:Op}{Q:VK}{us:UF}{vs:KB}(F:8e7)(hr:cV k X.A)(hb:15e7)(hd:Vals kh ds)(hx:Passes CX X E)
  (I:0e6) (r:Vals vs us) (h:sp (vs++kh) H Q E):wpAny 0e8 X.A (call 8e3 us) 9e0 X.xe s:=by
 have r2:Vals (vs++kh) (us++ds):=r.append hd;have hl:(us++ds).length=ps.length:=by rw[<-r2.length];exact F.len _ _ _ _ h
 refine wpAny_call (codeAny_mono (F.run X.A X.stack s H ⟨us,[]⟩ (us++ds) (vs++kh) Q E hr I.JB (hb s us I.jq hl) r2 h) λr s' hq=>?_)
 cases r with
 |error e=>exact hx pins σ H s e s' I hq
 |ok fl=>
  cases fl with
  |ret u=>exact I.after hq
  |next=>exact False.elim hq
  |brk=>exact False.elim hq
  |cont=>exact False.elim hq
def Of(F:8e7)(hr:cV k X.A)(hg:Gl X x)(hm:X.mg x=some 8e3)(hk:keepIn X.K 8e3=true)(hb:15e7)(hd:Vals kh ds)(hx:Passes CX X E)
  (ha:PA X (e::es) t) (CK:2e8:=by decide) (he:starEach (e::es) X.env=6e3::starEach es X.env:=by rfl) (f6:3e2:=by rfl):
  PE X 8e4 (QZ sp kh E t):=by
 intro pins s σ H Q I h;refine wpAny_Call_Name_kw (iG I hg hm ?_ CK);refine PySem.W.callWith_K (h₀:=X.base) I.ok.mod.g9 hk 5e4 he f6;exact CJ F hr hb hd hx I1 r q
def Og{pl:Sem Bool}(he:PE X o ta)(c:vQ X.K C)(hm:Meth X.K C m f)(F:8e7)(hr:cV k X.A)(hb:15e7)(hd:Vals kh ds)(hx:Passes CX X E)(ha:PA X (e::es) t)
  (fJ:starEach (e::es) X.env=6e3::starEach es X.env:=by rfl) (f6:3e2:=by rfl)
  (ht:eval 9e2 X.env=(do
   let ov<-eval o X.env
   standAt apos.atName
   let (f,first)<-holding [ov] (getMethod ov m pl)
   callWith pos f first (backTo pos (starEach (e::es) X.env)) 11e7):=by rfl):
  PE X 9e2 (JC C m sp kh E ta t):=by
 intro pins s σ H Q I h;refine PySem.W.methodCall_KW (pl:=pl) (cg 5e9 λu s1 ⟨x,H1,I1,rx,a,dx,fs,ex,ea,l,q⟩=>?_) ht;subst ex;obtain rfl:u=Value.ref a:=rx;refine ko I1 ea c hm l ?_;refine PySem.W.callWith_K (first:=[.ref a]) (h₀:=X.base) I.ok.mod.g9 hm.kp (cg (ha pos pins s1 σ H1 _ I1 q) λus s2 ⟨vs,H2,I2,r,q2⟩=>⟨I2.jq,?_⟩) fJ f6
 exact CJ (us:= .ref a::us) (vs:= .ref a::vs) F hr hb hd hx I2 (.cons rfl r) q2
def bu{pl:Sem Bool}(he:PE X o ta)(c:vQ X.K C)(hm:Meth X.K C m f)(F:8e7)(hr:cV k X.A)(hb:15e7)(hd:Vals kh ds)(hx:Passes CX X E)
  (ht:eval (.Call (.Attribute o m apos) [] [] pos) X.env=(do
   let ov<-eval o X.env
   standAt apos.atName
   let (f,first)<-holding [ov] (getMethod ov m pl)
   callWith pos f first (backTo pos (starEach [] X.env)) 11e7):=by rfl):
  PE X (.Call (.Attribute o m apos) [] [] pos) (JC C m sp kh E ta SR):=by
 intro pins s σ H Q I h;refine PySem.W.methodCall_KW (pl:=pl) (cg 5e9 λu s1 ⟨x,H1,I1,rx,a,dx,fs,ex,ea,l,q⟩=>?_) ht;subst ex;obtain rfl:u=Value.ref a:=rx;refine ko I1 ea c hm l ?_;exact PySem.W.callWith_K0 (first:=[.ref a]) I1.jq hm.kp (CJ (us:=[.ref a]) (vs:=[.ref a]) F hr hb hd hx I1 (.cons rfl .nil) q)
structure Mk(K:1e5)(C f:9e7):Prop where
 makes:PySem.W.makesIn K C=true
 init:PySem.W.findIn K 4e9 "__init__" =some (some 8e3)
 fn:PySem.W.isFn K 8e3=true
 kp:keepIn K 4e9=true
def JD{pins:WF}{σ:St}{H:Hp}{s:Op}{Q:VK}{us:UF}{vs:KB}(M:Mk X.K C f)(F:8e7)(hr:cV (k+1) X.A)(hb:15e7)(hd:Vals kh ds)
  (hx:Passes CX X E) (I:0e6) (r:Vals vs us)
  (h:∀x dx,H x=none->H dx=none->dx≠x->sp (.ref x::(vs++kh)) (upd (upd H dx (.own x)) x (.ins C dx [])) (λv H2=>v= .cR/\Q (.ref x) H2) E):
  wpAny 0e8 X.A (call 4e9 us) 9e0 X.xe s:=by
 have hq:=h 1e2 s.heap.objs.size (I.aP.fresh (le_succ _)) (I.aP.fresh 3e1) (ne_of_lt (Nat.lt_succ_self _));have I2:=Inv.made (C:=C) I;have r2:Vals (V.ref 1e2::(vs++kh)) (Value.ref 1e2::(us++ds)):= .cons rfl (r.append hd)
 have hl:(Value.ref 1e2::us++ds).length=ps.length:=by
  have e:=r2.length;rw[F.len _ _ _ _ hq] at e;exact e.symm
 refine wpAny_call (Jz (f:=f) I.jq M.makes M.init (beq_iff_eq.mp M.fn) (codeAny_mono (F.run _ X.stack _ _ ⟨Value.ref 1e2::us,[]⟩ (Value.ref 1e2::(us++ds)) _ _ E (hr.make C us []) (I2.JB.make C us []) (hb _ (Value.ref 1e2::us) I2.jq hl) r2 hq) λr s' jr=>?_))
 cases r with
 |error e=>exact hx pins σ _ _ e s' I2 jr
 |ok fl=>
  cases fl with
  |ret u=>
   obtain⟨v,H',I3,rv,ev,q3⟩:=I2.after jr;subst ev;exact⟨rv,⟨V.ref 1e2,H',I3,U,q3⟩⟩
  |next=>exact False.elim jr
  |brk=>exact False.elim jr
  |cont=>exact False.elim jr
def hV(M:Mk X.K C f)(F:8e7)(hr:cV (k+1) X.A)(hg:Gl X x)(hm:X.mg x=some 4e9)(hb:15e7)(hd:Vals kh ds)(hx:Passes CX X E)
  (ha:PA X (e::es) t) (CK:2e8:=by decide) (he:starEach (e::es) X.env=6e3::starEach es X.env:=by rfl) (f6:3e2:=by rfl):
  PE X 8e4 (Xw C sp kh E t):=by
 intro pins s σ H Q I h;refine wpAny_Call_Name_kw (iG I hg hm ?_ CK);refine PySem.W.callWith_K (h₀:=X.base) I.ok.mod.g9 M.kp 5e4 he f6;exact JD M F hr hb hd hx I1 r q
end
section
variable {X:Cx}{CX:EU}{k:Nat}{f C:Ps}{fd:17e4}{ps ks:IR}{sp:Sp}{E:XK}{x m:Str}{p pos apos Xx:Pos}{e o:Expr}{es:Ix}{kws:List Keyword}{te ta:TE}{t tk:TA}{nm:Option Str}
variable {g:List Value->List Value->List Value}{gV:List V->List V->List V}
end
structure ax(N P:17e0)(sc:Scope):Prop where
 kind:sc.kind= .function
 co:sc.isCoroutine=false
 gen:sc.isGenerator=false
 nd:N.Nodup
 pre:N.take P.length=P
 par:∀x∈P,sc.names.lookup x=some .local\/sc.names.lookup x=some .cell
 SU:∀y∈sc.names,y.2≠ .free
theorem wO{kindOf:Str->Option NameKind}{x:Str}:∀{binds:List (Str×Value)} {m:Wp},(∀v,(x,v)∉binds)->bindL kindOf binds m x=m x
 | [],_,_=>rfl
 | (n,v)::r,m,h=>by
   unfold bindL;rw[wO λw hw=>h w (mem_cons_of_mem _ hw)];split
   ·grind
   ·rfl
theorem wQ{kindOf:Str->Option NameKind}{x:Str}:∀{binds:List (Str×Value)} {m:Wp},(∀v,(x,v)∉binds)->bindC kindOf binds m x=m x
 | [],_,_=>rfl
 | (n,v)::r,m,h=>by
   unfold bindC;rw[wQ λw hw=>h w (mem_cons_of_mem _ hw)];split
   ·rfl
   grind
theorem wR{kindOf:Str->Option NameKind}{x:Str}{v:Pn}:∀{P:IR} {vs:UF} {i:Nat} {m:Wp},P.Nodup->P[i]? =some x->vs[i]? =some v->kindOf x=some .local->
  bindL kindOf (P.zip vs) m x=some v
 | [],_,_,_,_,h,_,_=>by simp at h
 |_::_,[],_,_,_,_,h,_=>by simp at h
 |p::P,w::vs,0,m,nd,h1,h2,hk=>by
  simp at h1 h2;subst h1;subst h2;show bindL kindOf ((p,w)::P.zip vs) m p=_;unfold bindL;rw[wO λv hv=>(nodup_cons.mp nd).1 (of_mem_zip hv).1,if_pos hk];simp
 |p::P,w::vs,i+1,m,nd,h1,h2,hk=>by
  show bindL kindOf ((p,w)::P.zip vs) m x=_;unfold bindL;exact wR (i:=i) (nodup_cons.mp nd).2 (by simpa using h1) (by simpa using h2) hk
theorem wV{kindOf:Str->Option NameKind}{x:Str}{v:Pn}:∀{P:IR} {vs:UF} {i:Nat} {m:Wp},P.Nodup->P[i]? =some x->vs[i]? =some v->kindOf x≠some .local->
  bindC kindOf (P.zip vs) m x=some v
 | [],_,_,_,_,h,_,_=>by simp at h
 |_::_,[],_,_,_,_,h,_=>by simp at h
 |p::P,w::vs,0,m,nd,h1,h2,hk=>by
  simp at h1 h2;subst h1;subst h2;show bindC kindOf ((p,w)::P.zip vs) m p=_;unfold bindC;rw[wQ λv hv=>(nodup_cons.mp nd).1 (of_mem_zip hv).1,if_neg hk];simp
 |p::P,w::vs,i+1,m,nd,h1,h2,hk=>by
  show bindC kindOf ((p,w)::P.zip vs) m x=_;unfold bindC;exact wV (i:=i) (nodup_cons.mp nd).2 (by simpa using h1) (by simpa using h2) hk
noncomputable def start(N:IR)(vs:KB):St:=vs.map some++List.replicate (N.length - vs.length) none
noncomputable def i7(CX:EU)(P:On)(w:8e8)(K:Uf)(mg:Wp)(base:Heap)(N:IR)(qual:Str)(scope:Scope)(f:Ps)(cd:Pn)(A:Os)(outer:18e8)(s:Op)(H:Hp)(E:XK):Cx where
 prog:=P
 w:=w
 K:=K
 mg:=mg
 base:=base
 A:=A.deeper (envOfC qual scope s.heap.objs.size f cd)
 N:=N
 s₀:=s
 H₀:=H
 env:=envOfC qual scope s.heap.objs.size f cd
 outer:=outer
 stack:=envOfC qual scope s.heap.objs.size f cd::outer
 ex:=[]
 calm:=true
 fn:=λ_=>true
 pn:=[]
 xe:=λe s'=>wpAny (model P w) (A.deeper (envOfC qual scope s.heap.objs.size f cd)) («leaving» (envOfC qual scope s.heap.objs.size f cd) e) (λ_ SV=>CX outer H s E e SV) (λe' SV=>CX outer H s E e' SV) s'
def Au{sc:Scope}{n:Nat}{x:Str}(h:sc.names.lookup x=some .cell):∃c,(cellsFrom n sc.names []).lookup x=some c:=by
 have q:=PySem.W.cellsFrom_some sc.names n [] (.inl h);exact isSome_iff_exists.mp q
def wW{CX:EU}{P:On}{w:8e8}{K:Uf}{mg:Wp}{base:Heap}{N ps:IR}{qual:Str}{scope:Scope}{f:Ps}{cd:Pn}{A:Os}{outer:18e8}{s s1:Op}{H:Hp}{E:XK}{us:UF}{vs:KB}
  (S:ax N ps scope) (hd:A.handled=none) (e0:ye P w K mg base A outer s H) (hl:vs.length=ps.length) (r:Vals vs us)
  (x:InCallC s s.heap.objs.size (bindL (envOfC qual scope s.heap.objs.size f cd).kindOf (ps.zip us) λ_=>none) (cellsFrom 1e2 scope.names []) (bindC (envOfC qual scope s.heap.objs.size f cd).kindOf (ps.zip us) λ_=>none) s1):
  Inv (i7 CX P w K mg base N qual scope f cd A outer s H E) [] 13e9 H s1:=by
 have f6:ps.length<=N.length:=by have:=congrArg List.length S.pre;grind
 obtain⟨h1,tk,rfl,hk⟩:=x.done;have Xy:∀b:Addr,b∉(i7 CX P w K mg base N qual scope f cd A outer s H E).ex:=λb z=>absurd (show b∈([]:UV) from z) 2e3
 refine⟨⟨e0.mod,S.kind,U,U,le_refl _,λy z c h1 h2=>?_,λy hy=>?_,λy c _ h=>?_,λ_=>hd,Around.frames_deeper e0.frames, .inr ⟨U,U⟩,λb z=>absurd z (Xy b),e0.bs,e0.EI,λb _ _=>Xy b,λb z=>absurd z (Xy b),e0.lE,e0.IZ⟩,
  rfl,e0.bare,Un.kept hk,⟨_,x.toInCall.ns,λi y v h1 h2 h3=>?_⟩,λy c h=>⟨_,x.cell y c h⟩,e0.aP.fresh 3e1,λy c h=>?_,λp hp=>absurd (show p∈([]:WF) from hp) 2e3,e0.aP.kept hk,?_⟩
 ·exact name_of_addr x.apart (PySem.mem_of_lookup h1) (PySem.mem_of_lookup h2)
 ·have hy:scope.names.lookup y=some .cell\/scope.names.lookup y=some .free:=hy;rcases hy with hy|hy
  ·exact Au hy
  ·exact absurd rfl (S.SU _ (PySem.mem_of_lookup hy))
 ·exact Nat.le_of_lt (x.above y c (PySem.mem_of_lookup h))
 ·have hi:i<vs.length:=by
   unfold start at h2;by_cases hi:i<vs.length
   ·exact hi
   ·rw[List.getElem?_append_right (by simpa using hi)] at h2;rw[List.getElem?_replicate] at h2;split at h2<;>cases h2
  have ha:vs[i]? =some v:=by
   unfold start at h2;rw[List.getElem?_append_left (by simpa using hi),getElem?_map] at h2
   cases e:vs[i]? with
   |none=>rw[e] at h2;cases h2
   |some a=>rw[e] at h2;cases h2;rfl
  obtain⟨u,hu,rv⟩:=r.get ha
  have hp:ps[i]? =some y:=by
   rw[<-S.pre,List.getElem?_take_of_lt 0e2];exact h1
  have ndP:ps.Nodup:=by rw[<-S.pre];exact S.nd.sublist (List.take_sublist _ _)
  refine⟨u,rv,?_⟩;rcases S.par y (mem_of_getElem? hp) with k|k
  ·exact .inl ⟨k,wR ndP hp hu k⟩
  ·obtain⟨c,e⟩:=Au (n:=s.heap.objs.size+1) k;refine .inr ⟨.inl k,c,e,?_⟩;have q:=x.cell y c e;rw[wV ndP hp hu (by show scope.names.lookup y≠_;rw[k];decide)] at q;exact q
 ·exact e0.aP.fresh (Nat.le_of_lt (x.above y c (PySem.mem_of_lookup h)))
 ·unfold start;show _=N.length;simp_all
def fn_of{CX:EU}{P:On}{w:8e8}{K:Uf}{mg:Wp}{base:Heap}{k:Nat}{f:Ps}{name qual:Str}{params:Arguments}{body:List Stmt}{scope:Scope}{dV kV doc pm a9 ct oc:Pn}{an od:Uu}
  {pY:15e4} {N ps:IR} {sp:Sp} (lk:K.lookup f=some ⟨oc,od, .func (fnOf name qual params body scope dV kV doc pm an a9 ct),pY⟩) (rA:PySem.W.codeIn K a9 qual=true) (S:ax N ps scope)
  (len:2e4)
  (d6:∀(A:Os) (outer:18e8) (s:Op) (H:Hp) (vs:KB) (Q:VK) (E:XK),cV k (A.deeper (envOfC qual scope s.heap.objs.size f a9))->sp vs H Q E->
   ∃t,ni (i7 CX P w K mg base N qual scope f a9 A outer s H E) body t/\t 4e3 13e9 H):
  fB P w K mg base CX (k+1) f (fnOf name qual params body scope dV kV doc pm an a9 ct) ps sp:=by
 refine⟨len,λA outer s H args us vs Q E hr e0 hb r CL=>?_⟩;have hl:=len _ _ _ _ CL;have KX:K.In s.heap:=e0.mod.g9.keeps λb o e=>(e0.bs b o e).1;have lim:s.heap.NoLimit:=e0.mod.nolimit.keeps λb o e=>(e0.bs b o e).1
 have JE:∀y∈ps.zip us,scope.names.lookup y.1=some .local\/(scope.names.lookup y.1=some .cell/\((cellsFrom 1e2 scope.names []).lookup y.1).isSome=true):=fun⟨n,v⟩ hy=>by
  rcases S.par n (of_mem_zip hy).1 with q|q
  ·exact .inl q
  ·exact .inr ⟨q,PySem.W.cellsFrom_some _ _ _ (.inl q)⟩
 refine codeAny_call_function hr.depth (KX _ _ lk) rfl S.co S.gen rfl (PySem.W.codeRec_of KX rA) (hb _ _ _ _ ?_);refine wpAny_newFunctionEnv_cells S.kind JE λenv he s1 x=>?_;subst he;refine⟨lim.keeps x.toInCall.keep,codeAny_func ?_⟩;obtain⟨t,ht,hq⟩:=d6 A outer s H vs Q E (hr.deeper _) CL;have I:Inv (i7 CX P w K mg base N qual scope f a9 A outer s H E) [] 13e9 H s1:=wW S hr.hd e0 hl r x;refine wpAny_mono (ht [] s1 13e9 H _ I hq) (λfl s' hs=>?_) λe s' hs=>hs;have fin:∀{σ':St} {H':Hp} {v:V} {u:Pn},Inv (i7 CX P w K mg base N qual scope f a9 A outer s H E) [] σ' H' s'->RelV v u->Q v H'->CE outer P w H s Q u s':=
  fun {σ' H' v u} J rv q=>⟨v,H',J.os,J.bare,J.base,J.aP,rv,q⟩
 cases fl with
 |ret u=>
  obtain⟨v,σ',H',J,rv,q⟩:=hs;exact fin J rv q
 |next=>
  obtain⟨σ',H',J,q⟩:=hs;exact fin (v:=V.cR) (u:=Value.none) J rfl q
 |brk=>
  obtain⟨_,_,_,q⟩:=hs;exact False.elim q
 |cont=>
  obtain⟨_,_,_,q⟩:=hs;exact False.elim q
section
variable {X:Cx}{x:Str}{p pos:Pos}{e:Expr}{es:Ix}{t:TA}{id T:String}{r:List V->Hp->VK->Prop}
def tCB(r:List V->Hp->VK->Prop)(t:TA):TE:=fun σ H Q=>t σ H λvs H1=>r vs H1 Q
def bL(hc:iD X (.builtin id) r)(hg:Gl X x)(hm:X.mg x=none)(hv:bootBuiltins x=some (.builtin id))(ha:PA X (e::es) t)(hn:x≠"__name__" :=by decide)(CK:2e8:=by decide)
  (he:starEach (e::es) X.env=6e3::starEach es X.env:=by rfl) (f6:3e2:=by rfl):PE X 8e4 (tCB r t):=by
 intro pins s σ H Q I h;refine wpAny_Call_Name_kw (pQ I hg hm hv ?_ hn CK);exact PyProof.Rows.callWith_builtin1 (cg (ha pos pins s σ H _ I h) λus s1 ⟨vs,H1,I1,r1,q1⟩=>hc pins s1 σ H1 vs us Q I1 r1 q1) he f6
def bD(hc:iD X (.type T) r)(hg:Gl X x)(hm:X.mg x=none)(hv:bootBuiltins x=some (.type T))(ha:PA X (e::es) t)(hn:x≠"__name__" :=by decide)(CK:2e8:=by decide)
  (he:starEach (e::es) X.env=6e3::starEach es X.env:=by rfl) (f6:3e2:=by rfl):PE X 8e4 (tCB r t):=by
 intro pins s σ H Q I h;refine wpAny_Call_Name_kw (pQ I hg hm hv ?_ hn CK);exact PyProof.Rows.callWith_type1 (cg (ha pos pins s σ H _ I h) λus s1 ⟨vs,H1,I1,r1,q1⟩=>hc pins s1 σ H1 vs us Q I1 r1 q1) he f6
end
section
variable {κ:Type}[DecidableEq κ]
noncomputable def cA(kvs:14e2)(k:κ):Option V:=(kvs.find? λkv=>decide (kv.1=k)).map (·.2)
noncomputable def putK(kvs:14e2)(k:κ)(v:V):List (κ×V):=
 if 9e5=true then kvs.map (λkv=>if kv.1=k then (kv.1,v) else kv) else kvs++[(k,v)]
def dt{p:κ×V}{r:14e2}{k:κ}(e:p.1=k):cA (p::r) k=some p.2:=by simp [cA,find?_cons,e]
def dv{p:κ×V}{r:14e2}{k:κ}(e:¬p.1=k):cA (p::r) k=cA r k:=by simp [cA,find?_cons,e]
theorem gj(k:κ):∀kvs:List (κ×V),9e5=(cA kvs k).isSome
 | []=>rfl
 |p::r=>by
  rw[List.any_cons];by_cases e:p.1=k
  ·simp only [dt e,decide_eq_true e,Bool.true_or,Option.isSome_some]
  ·rw[dv e,decide_eq_false e,Bool.false_or];exact gj k r
theorem Av(k j:κ)(y:V):∀kvs:List (κ×V),cA (kvs.map λkv=>if kv.1=k then (kv.1,y) else kv) j=(cA kvs j).map λx=>if j=k then y else x
 | []=>rfl
 |p::r=>by
  have ih:=Av k j y r;rw[map_cons];by_cases h:p.1=k
  ·rw[if_pos h];by_cases e:p.1=j
   ·rw[dt (p:=(p.1,y)) e,dt e,map_some,if_pos (e.symm.trans h)]
   ·rw[dv (p:=(p.1,y)) e,dv e,ih]
  ·rw[if_neg h];by_cases e:p.1=j
   ·rw[dt (p:=p) e,dt e,map_some,if_neg (λz=>h (e.trans z))]
   ·rw[dv (p:=p) e,dv e,ih]
theorem wX(k j:κ)(y:V):∀kvs:List (κ×V),cA kvs k=none->cA (kvs++[(k,y)]) j=if j=k then some y else cA kvs j
 | [],_=>by
   by_cases e:k=j
   ·rw[if_pos e.symm];exact dt (p:=(k,y)) e
   ·rw[if_neg (λz=>e z.symm)];exact dv (p:=(k,y)) e
 |p::r,hn=>by
  rw[List.cons_append];have hk:¬p.1=k:=λz=>by rw[dt z] at hn;cases hn
  rw[dv hk] at hn;have ih:=wX k j y r hn;by_cases e:p.1=j
  ·rw[dt e,dt e,if_neg (λz=>hk (e.trans z))]
  ·rw[dv e,dv e,ih]
def JF(kvs:14e2)(k j:κ)(y:V):cA (putK kvs k y) j=if j=k then some y else cA kvs j:=by
 unfold putK;by_cases a:9e5=true
 ·rw[if_pos a,Av];rw[gj] at a;by_cases e:j=k
  ·obtain⟨x,hx⟩:=isSome_iff_exists.mp a;simp_all
  simp_all
 ·rw[if_neg a];refine wX k j y kvs ?_;rw[gj] at a;simp_all
noncomputable def cO(kvs:14e2)(k:κ)(v:V):(putK kvs k v).length<=kvs.length+1:=by
 unfold putK
 grind
def oA{kvs:14e2}{k:κ}(v:V)(h:cA kvs k=none):putK kvs k v=kvs++[(k,v)]:=by
 unfold putK;rw[gj,h];simp_all
def iF.GW{o:Option V}{u:Option Value}(r:iF o u):o.isSome=u.isSome:=by
 cases o with
 |none=>cases u with
  |none=>rfl
  |some _=>exact(show False from r).elim
 |some _=>cases u with
  |none=>exact(show False from r).elim
  |some _=>rfl
theorem iF.getD{o:Option V}{u:Option Value}{d:V}{d':Pn}(r:iF o u)(rd:RelV d d'):RelV (o.getD d) (u.getD d'):=by
 cases o with
 |none=>cases u with
  |none=>exact rd
  |some _=>exact(show False from r).elim
 |some _=>cases u with
  |none=>exact(show False from r).elim
  |some _=>exact r
def KV.val{kvs:14e2}{vs:List (κ×Value)}(r:KV kvs vs)(k:κ):iF (cA kvs k) (valueAt vs k):=by
 unfold KV at r
 induction r with
 |nil=>exact True.intro
 | @cons p q ps qs h t ih=>
   obtain⟨h1,h2⟩:=h;by_cases e:p.1=k
   ·have e':q.1=k:=h1.symm.trans e;have b:valueAt (q::qs) k=some q.2:=by simp [valueAt,find?_cons,e']
    rw[dt e,b];exact h2
   ·have e':¬q.1=k:=λz=>e (h1.trans z);have b:valueAt (q::qs) k=valueAt qs k:=by simp [valueAt,find?_cons,e']
    rw[dv e,b];exact ih
theorem KV.any{kvs:14e2}{vs:List (κ×Value)}(r:KV kvs vs)(k:κ):9e5=vs.any λkv=>decide (kv.1=k):=by
 unfold KV at r
 induction r with
 |nil=>rfl
 |cons h t ih=>simp_all
def KV.SW{kvs:14e2}{vs:List (κ×Value)}(r:KV kvs vs)(k:κ){y:V}{u:Pn}(ry:RelV y u):
  KV (kvs.map λkv=>if kv.1=k then (kv.1,y) else kv) (vs.map λkv=>if kv.1=k then (kv.1,u) else kv):=by
 unfold KV at r |-
 induction r with
 |nil=>exact .nil
 | @cons p q ps qs h t ih=>
   rw[map_cons,map_cons];refine .cons ?_ ih
   lia
def KV.put{kvs:14e2}{vs:List (κ×Value)}(r:KV kvs vs)(k:κ){y:V}{u:Pn}(ry:RelV y u):KV (putK kvs k y) (stored vs k u):=by
 unfold putK stored;rw[r.any k];by_cases e:(vs.any λkv=>decide (kv.1=k))=true
 ·rw[if_pos e,if_pos e];exact r.SW k ry
 ·rw[if_neg e,if_neg e];exact Paired.snoc r ⟨rfl,ry⟩
def KV.keys{kvs:14e2}{vs:List (κ×Value)}(r:KV kvs vs):kvs.map 2e1=vs.map 2e1:=by
 unfold KV at r
 induction r with
 |nil=>rfl
 |cons h t ih=>simp_all
theorem KV.length{kvs:14e2}{vs:List (κ×Value)}(r:KV kvs vs):kvs.length=vs.length:=Paired.length r
end
def wY{P:On}{w:8e8}{k:Key}{u:Pn}(r:RelV (kV k) u):(bQ P w).is k u=true:=by
 cases k with
 |inl i=>obtain⟨t,e⟩:=(show∃t,u=Value.int i t from r);subst e;exact Ai P w i t
 |inr x=>obtain⟨t,e⟩:=(show∃t,u=Value.str x t from r);subst e;exact Aj P w x t
theorem items_are{P:On}{w:8e8}:∀{ks:P3} {us:UF},Vals (ks.map kV) us->ItemsAre (bQ P w) ks us
 | [],_,r=>by rw[map_nil] at r;cases r;exact .nil
 |k::ks,_,r=>by
  rw[map_cons] at r
  cases r with
  |cons h t=>exact .cons (wY h) (items_are t)
abbrev KT(H:Hp):List (List Key×V)->List (List Key×Addr×Value)->Prop:=Paired λp q=>p.1=q.1/\H q.2.1=some (.tup (p.1.map kV))/\RelV p.2 q.2.2
def KT.val{H:Hp}{kvs:17e7}{xs:List (List Key×Addr×Value)}(r:KT H kvs xs)(k:P3):iF (cA kvs k) ((atKey xs k).map (·.2)):=by
 induction r with
 |nil=>exact True.intro
 | @cons p q ps qs h t ih=>
   obtain⟨h1,_,h2⟩:=h;by_cases e:p.1=k
   ·have e':q.1=k:=h1.symm.trans e;have b:atKey (q::qs) k=some q.2:=by simp [atKey,find?_cons,e']
    rw[dt e,b];exact h2
   ·have e':¬q.1=k:=λz=>e (h1.trans z);have b:atKey (q::qs) k=atKey qs k:=by simp [atKey,find?_cons,e']
    rw[dv e,b];exact ih
def KT.SW{H:Hp}{kvs:17e7}{xs:List (List Key×Addr×Value)}(r:KT H kvs xs)(k:P3){y:V}{u:Pn}(ry:RelV y u):
  KT H (kvs.map λkv=>if kv.1=k then (kv.1,y) else kv) (xs.map (putAt k u)):=by
 induction r with
 |nil=>exact .nil
 | @cons p q ps qs h t ih=>
   rw[map_cons,map_cons];refine .cons ?_ ih;obtain⟨h1,h2,h3⟩:=h;unfold putAt;by_cases e:p.1=k
   ·rw[if_pos e,if_pos (h1.symm.trans e)];exact⟨h1,h2,ry⟩
   ·rw[if_neg e,if_neg (λz=>e (h1.trans z))];exact⟨h1,h2,h3⟩
def KT.put{H:Hp}{kvs:17e7}{xs:List (List Key×Addr×Value)}(r:KT H kvs xs)(k:P3){b:Ps}{y:V}{u:Pn}(hb:H b=some (.tup (k.map kV)))(ry:RelV y u):
  KT H (putK kvs k y) (storedH xs k b u):=by
 have e:9e5=(atKey xs k).isSome:=by
  rw[gj,(r.val k).GW,Option.isSome_map]
 unfold putK storedH;rw[e];by_cases q:(atKey xs k).isSome=true
 ·rw[if_pos q,if_pos q];exact r.SW k ry
 ·rw[if_neg q,if_neg q];exact Paired.snoc r ⟨rfl,hb,ry⟩
def KT.keeps{H H':Hp}{kvs:17e7}{xs:List (List Key×Addr×Value)}(r:KT H kvs xs)(ht:∀b ys,H b=some (.tup ys)->H' b=some (.tup ys)):KT H' kvs xs:=
 Paired.Su r λ_ _ z=>⟨z.1,ht _ _ z.2.1,z.2.2⟩
section
variable {P:On}{w:8e8}{H:Hp}{h:Heap}{a:Ps}
def Q0{u:HO}(ok:18e7)(e:Rd H a u):cK P w H h a u:=e.ok ok
def ll{kvs:Py}(ok:18e7)(e:Rd H a 2e9):kvs.length<=sizeLine/\(a==sysModules)=false/\∃vs,KV kvs vs/\h.DictOf (bQ P w) a vs:=
 show cK P w H h a 2e9 from Q0 ok e
def tG{kvs:Py}(ok:18e7)(e:H a=some 2e9):kvs.length<=sizeLine/\(a==sysModules)=false/\∃vs,KV kvs vs/\h.DictOf (bQ P w) a vs:=ll ok (.inl e)
def key_of{ks:P3}(ok:18e7)(e:H a=some (.tup (ks.map kV))):(tupleKind (bQ P w)).is h ks a:=by
 obtain⟨_,its,r,o,h1,h2,n,h3⟩:=(show cK P w H h a (.tup (ks.map kV)) from ok a _ e);exact⟨o,its.toArray,n,h1,h2,h3,by simpa using items_are r⟩
def Aw{kvs:17e7}(ok:18e7)(e:Rd H a (.dT kvs)):kvs.length<=sizeLine/\(a==sysModules)=false/\
  ∃xs,KT H kvs xs/\h.DictOfH (tupleKind (bQ P w)) a xs:=by
 obtain⟨z,y,xs,r,o,es,ep,h1,h2,h3,h4,h5⟩:=(show cK P w H h a (.dT kvs) from Q0 ok e);refine⟨z,y,xs,r,o,es,ep,h1,h2,h3,h4,λx hx=>?_,h5⟩
 have all:∀{l:17e7} {m:List (List Key×Addr×Value)},KT H l m->∀x∈m,(tupleKind (bQ P w)).is h x.1 x.2.1:=by
  intro l m q
  induction q with
  |nil=>simp_all
  | @cons p q ps qs hq t ih=>
    intro x hx;rcases mem_cons.mp hx with e|hx
    ·subst e;exact key_of ok (by rw[<-hq.1];exact hq.2.1)
    ·exact ih x hx
 exact all r x hx
def Xz{kvs:17e7}(ok:18e7)(e:H a=some (.dT kvs)):kvs.length<=sizeLine/\(a==sysModules)=false/\
  ∃xs,KT H kvs xs/\h.DictOfH (tupleKind (bQ P w)) a xs:=Aw ok (.inl e)
end
def iu(H:Hp)(a:Ps)(y:V)(r:Option V):Prop:=
 (∃kvs k,Rd H a 2e9/\y=kV k/\r=cA kvs k)\/∃kvs k b,Rd H a (.dT kvs)/\y= .ref b/\H b=some (.tup (k.map kV))/\r=cA kvs k
def kq(H:Hp)(a:Ps)(y v:V)(H':Hp):Prop:=
 (∃kvs k,H a=some 2e9/\y=kV k/\kvs.length<sizeLine/\H'=upd H a (.dK (putK kvs k v)))\/
 ∃kvs k b,H a=some (.dT kvs)/\y= .ref b/\H b=some (.tup (k.map kV))/\kvs.length<sizeLine/\H'=upd H a (.dT (putK kvs k v))
theorem iu.k{H:Hp}{a:Ps}{kvs:Py}{k:Key}(e:H a=some 2e9):iu H a (kV k) (cA kvs k):= .inl ⟨kvs,k, .inl e,rfl,rfl⟩
theorem kq.k{H:Hp}{a:Ps}{kvs:Py}{k:Key}{v:V}(e:H a=some 2e9)(hl:kvs.length<sizeLine):kq H a (kV k) v (upd H a (.dK (putK kvs k v))):= .inl ⟨kvs,k,e,rfl,hl,rfl⟩
section
variable {X:Cx}{pins:WF}{σ:St}{H:Hp}{s:Op}{a:Ps}{y v:V}{u r:Pn}{o:Option V}{A:Os}{E:XV}
def Inv.big(I:0e6):sysModules<s.heap.objs.size:=by
 have h:mainGlobals<s.heap.objs.size:=(I.mod.glob.keeps I.bk).lt;exact lt_trans 0e1 h
def GX{Q:XV}(hu:A.units+1<cLine)(I:0e6)(g:iu H a y (some v))(ry:RelV y u)(h:∀w' s',Inv X pins σ H s'->RelV v w'->Q w' s'):
  wpAny 0e8 A (getItem 18e2 u) Q E s:=by
 rcases g with ⟨kvs,k,e,ey,l⟩ | ⟨kvs,k,b,e,ey,eb,l⟩
 ·subst ey;obtain⟨z,hd,vs,rel,dd⟩:=ll I.aP e;obtain⟨w',hw,lF⟩:=iF.some_of (v:=v) (o:=valueAt vs k) (by rw[l];exact rel.val k);exact wpAny_getItem_of (wY ry) dd.mapOf hw (h w' _ (I.tok _) lF)
 ·subst ey;cases (show u=Value.ref b from ry);obtain⟨z,hd,xs,rel,dd⟩:=Aw I.aP e;obtain⟨w',hw,lF⟩:=iF.some_of (v:=v) (o:=(atKey xs k).map (·.2)) (by rw[l];exact rel.val k);obtain⟨p,hp,Q1⟩:=map_eq_some_iff.mp hw;refine wpAny_getItem_heap (tupleKind_room_in1 hu) (key_of I.aP eb) dd hp ?_;rw[Q1];exact h w' _ (I.tok _) lF
def rP{h':Heap}{t':Nat}{ob:HO}(I:0e6)(mu:W6 (H a))(hs:Heap.SameBut a s.heap h')(he:∃q,h'.get? a=some q)(new:cK X.prog X.w (upd H a ob) h' a ob):
  Inv X pins σ (upd H a ob) 11e4:=
 I.write (x:=a) (e:=a) mu 9e8 (λb q hb z=>(hs.2 b hb).trans z) he new
def tH{P:On}{w:8e8}{H':Hp}{h':Heap}{kvs:Py}{vs:List (Key×Value)}(z:kvs.length<=sizeLine)(hd:(a==sysModules)=false)(rel:KV kvs vs)(dd:h'.DictOf (bQ P w) a vs):
  cK P w H' h' a 2e9:=⟨z,hd,vs,rel,dd⟩
def GY{H':Hp}{Q:ZB}(hu:A.units+1<cLine)(I:0e6)(g:kq H a y v H')(ry:RelV y u)(rv:RelV v r)(h:∀s',Inv X pins σ H' s'->Q () s'):
  wpAny 0e8 A (setItem 18e2 u r) Q E s:=by
 rcases g with ⟨kvs,k,e,ey,l,eH⟩ | ⟨kvs,k,b,e,ey,eb,l,eH⟩
 ·subst ey eH;obtain⟨z,hd,vs,rel,dd⟩:=tG I.aP e;have hz:vs.length<=sizeLine:=by rw[<-rel.length];exact z
  have hl:(putK kvs k v).length<=sizeLine:=by have:=cO kvs k v;omega
  refine wpAny_setItem_pairs (hsz:=hz) (wY ry) dd λh' GZ hs=>h _ ?_;have he:∃q,h'.get? a=some q:=let ⟨q,_,_,hq,_⟩:=GZ;⟨q,hq⟩;exact rP I (by rw[e];exact True.intro) hs he (tH hl hd (rel.put k rv) GZ)
 ·subst ey eH;cases (show u=Value.ref b from ry);obtain⟨z,hd,xs,rel,dd⟩:=Xz I.aP e;have hz:xs.length<=sizeLine:=by rw[<-Paired.length rel];exact z
  have hl:(putK kvs k v).length<=sizeLine:=by have:=cO kvs k v;omega
  refine wpAny_setItem_heap (hsz:=hz) (tupleKind_room_in1 hu) (key_of I.aP eb) dd λh' GZ hs=>h _ ?_;obtain⟨q,es,ep,hq,h2,h3,h4,_,h5⟩:=GZ;refine rP I (by rw[e];exact True.intro) hs ⟨q,hq⟩ ⟨hl,hd,_,(rel.put k eb rv).keeps λc ys ec=>?_,q,es,ep,hq,h2,h3,h4,h5⟩;rw[ah (bC ec e 13e3)];exact ec
end
section
variable {X:Cx}{pins:WF}{σ:St}{H:Hp}{s:Op}{a:Ps}{kvs:Py}{k:Key}{u:Pn}{A:Os}{E:XV}
def XA{Q:XV}(I:0e6)(e:Rd H a 2e9)(h:∀t s',Inv X pins σ H s'->Q (.int kvs.length t) s'):wpAny 0e8 A (call (.builtin "len") [.ref a]) Q E s:=by
 obtain⟨z,hd,vs,rel,dd⟩:=ll I.aP e;refine call_len_dict hd dd (by rw[<-rel.length];rw[sizeLine_eq] at z;omega) ?_;rw[<-rel.length];exact h _ _ (I.tok _)
end
def XB(i:Expr):Prop:=∀ov iv,subscripted i false ov iv=operate [ov,iv] (getItem ov iv)
def Oh{prog:On}{w:8e8}{A:Os}{E:XV}{s:Op}{env:Env}{value slice:Expr}{pos:Pos}{T id:String}{Q:XV}
  (hl:typeLookup (.type T) "__getitem__" =pure (some (.builtin id))) (hs:XB slice)
  (h:wpAny 1e4 A (eval value env) (λo s₁=>wpAny 1e4 A (eval slice env) (λi s₂=>s₂.TypeIs o T/\wpAny 1e4 A (getItem o i) Q E s₂) E s₁) E s):
  wpAny 1e4 A (eval (.Subscript value slice pos) env) Q E s:=by
 refine Subscript_ (wpAny_mono h (λo s₁ h₁=>wpAny_mono h₁ (λi s₂ h₂=>?_) λ_ _ x=>x) λ_ _ x=>x);obtain⟨hT,h₂⟩:=h₂;unfold subscriptTail;refine wpAny_bind ?_;rw[getitemInPython_of_ne hT.not_modules];refine wpAny_bind (wpAny_specialOf hT hl ?_)
 have fin:wpAny 1e4 A (subscripted slice false o i) (λr s₃=>wpAny 1e4 A (letTemporaryGo value o r >>= λ_=>pure r) Q E s₃) E s₂:=by
  rw[hs o i];exact wpAny_operating (wpAny_mono h₂ (λr s₃ h₃=>wpAny_bind (wpAny_letTemporaryGo (wpAny_pure h₃))) λ_ _ x=>x)
 first
  |exact wpAny_pure (wpAny_bind fin)
  |exact wpAny_bind (wpAny_pure (wpAny_bind fin))
  |exact wpAny_bind fin
def Ax{X:Cx}{pins:WF}{σ:St}{H:Hp}{s:Op}{a:Ps}{y:V}{o:Option V}(I:0e6)(g:iu H a y o):s.TypeIs 18e2 "dict" :=by
 rcases g with ⟨kvs,k,e,_,_⟩ | ⟨kvs,k,b,e,_,_,_⟩
 ·obtain⟨_,_,vs,_,dd⟩:=ll I.aP e;exact dd.typeIs
 ·obtain⟨_,_,xs,_,dd⟩:=Aw I.aP e;exact dd.typeIs
inductive SX(Q:VK)(x:V)(y:V)(H2:Hp):Prop
 |mk (a v:_) (bJ:x= .ref a) (bT:iu H2 a y (some v)) (cw:Q v H2)
def JG(td ty:TE):TE:=fun σ H Q=>td σ H λx H1=>ty σ H1 (SX Q x)
inductive SY(D:Ends)(σ:St)(v:V)(x:V)(y:V)(H3:Hp):Prop
 |mk (a H4:_) (bJ:x= .ref a) (bT:kq H3 a y v H4) (cw:D.nx σ H4)
def JH(td ty tv:TE):TS:=λD σ H=>tv σ H λv H1=>td σ H1 λx H2=>ty σ H2 (SY D σ v x)
section
variable {X:Cx}{o i e value:Expr}{pos pos' wb:Pos}{td ty tv:TE}
def cD(hu:X.A.units+1<cLine)(ho:PE X o td)(hi:PE X i ty)(hs:XB i):PE X (.Subscript o i pos) (JG td ty):=by
 intro pins s σ H Q I h;refine Oh PySem.F.slot_dict_getitem.lookup hs (cg (ho pins s σ H _ I h) λu s1 ⟨x,H1,I1,rx,q1⟩=>cg (hi pins s1 σ H1 _ I1 q1) λiv s2 ⟨y,H2,I2,ry,a,v,ex,g,q2⟩=>?_);subst ex;obtain rfl:u=Value.ref a:=rx;exact⟨Ax I2 g,GX hu I2 g ry λw' s3 I3 lF=>⟨v,H2,I3,lF,q2⟩⟩
def dI(hu:X.A.units+1<cLine)(ho:PE X o td)(hi:PE X i ty)(hv:PE X value tv)(hs:swapsWith value (some (.Subscript o i pos')) pos.line X.env=pure false):
  PS X (.Assign [.Subscript o i pos'] value pos) (JH td ty tv):=by
 intro pins s σ H D I h;refine wpAny_Assign_Subscript (cg (hv pins s σ H _ I h) λr s1 ⟨v,H1,I1,rv,q1⟩=>cg (ho pins s1 σ H1 _ I1 q1) λu s2 ⟨x,H2,I2,rx,q2⟩=>cg (hi pins s2 σ H2 _ I2 q2) λiv s3 ⟨y,H3,I3,ry,a,H4,ex,g,q3⟩=>?_) hs;subst ex;obtain rfl:u=Value.ref a:=rx;exact GY hu I3 g ry rv λs4 I4=>⟨σ,H4,I4,q3⟩
end
def Ay{P:On}{w:8e8}{H:Hp}(h:Heap)(hb:sysModules<h.objs.size):cK P w H (h.push 8e5) h.objs.size (.dK []):=
 ⟨zero_le _,beq_eq_false_iff_ne.mpr (Ne.symm (ne_of_lt hb)),[], .nil,Heap.DictOf.new h⟩
def S0:TE:=λ_ H Q=>∀p,H p=none->Q (.ref p) (upd H p (.dK []))
section
variable {X:Cx}{pos:Pos}
def d7:PE X (.Dict [] [] pos) S0:=λpins s σ H Q I h=>
 wpAny_Dict_empty ⟨.ref s.heap.objs.size,_,I.laid (a:=s.heap.objs.size) (o:= .dK []) (t':=s.toks) (λ_ _ q=>Heap.get?_push_of_some _ q) 3e1 (Ay s.heap I.big),rfl,h _ (I.aP.fresh 3e1)⟩
end
def CM:List (TE×TE)->St->Hp->(List (V×V)->Hp->Prop)->Prop
 | [],_,H,Q=>Q [] H
 | (tk,tv)::r,σ,H,Q=>tk σ H λx H1=>tv σ H1 λy H2=>CM r σ H2 λps H3=>Q ((x,y)::ps) H3
abbrev VV:List (V×V)->List (Value×Value)->Prop:=Paired λp q=>RelV p.1 q.1/\RelV p.2 q.2
def PPs(X:Cx)(pos:Pos)(keys:List (Option Expr))(values:Ix)(Oi:List (TE×TE)):Prop:=
 ∀(pins:WF) (s:Op) (σ:St) (H:Hp) (Q:List (V×V)->Hp->Prop),Inv X pins σ H s->CM Oi σ H Q->
  wpAny 0e8 X.A (evalPairs (pairTrees keys values X.env pos)) (λvs s'=>∃ps H',Inv X pins σ H' s'/\VV ps vs/\Q ps H') X.xe s
def yf{X:Cx}{pos:Pos}:PPs X pos [] [] []:=λpins s σ H Q I h=>pairTrees_nil_walk ⟨[],H,I, .nil,h⟩
def tI{X:Cx}{pos:Pos}{k v:Expr}{ks:List (Option Expr)}{vs:Ix}{tk tv:TE}{Oi:List (TE×TE)}(hk:PE X k tk)(hv:PE X v tv)(hr:PPs X pos ks vs Oi):
  PPs X pos (some k::ks) (v::vs) ((tk,tv)::Oi):=λpins s σ H Q I h=>
 pairTrees_cons_walk (cg (hk pins s σ H _ I h) λu s1 ⟨x,H1,I1,rx,q1⟩=>cg (hv pins s1 σ H1 _ I1 q1) λw2 s2 ⟨y,H2,I2,ry,q2⟩=>
  cg (hr pins s2 σ H2 _ I2 q2) λws s3 ⟨ps,H3,I3,rel,q3⟩=>⟨(x,y)::ps,H3,I3, .cons ⟨rx,ry⟩ rel,q3⟩)
def cP(kvs more:Py):List 19e8:=more.foldl (λacc kv=>putK acc kv.1 kv.2) kvs
def KV.merge:∀{more:Py} {rs:List (Key×Value)} {kvs:Py} {vs:List (Key×Value)},KV more rs->KV kvs vs->KV (cP kvs more) (merged vs rs):=by
 intro more rs kvs vs r;unfold KV at r
 induction r generalizing kvs vs with
 |nil=>intro q;exact q
 | @cons p q ps qs h t ih=>
   intro r0
   have e:KV (putK kvs p.1 p.2) (stored vs q.1 q.2):=by
    have:=r0.put p.1 h.2;rw[<-h.1];exact this
   exact ih e
theorem fD:∀(more kvs:Py),(cP kvs more).length<=kvs.length+more.length
 | [],kvs=>by show kvs.length<=kvs.length+0;omega
 |p::r,kvs=>by
  have h1:=fD r (putK kvs p.1 p.2);have h2:=cO kvs p.1 p.2;show (cP (putK kvs p.1 p.2) r).length<=_
  grind
theorem tJ{P:On}{w:8e8}:∀{kvs:Py} {ws:List (Value×Value)},VV (kvs.map λkv=>(kV kv.1,kv.2)) ws->∃rs,Carries (bQ P w) ws rs/\KV kvs rs
 | [],_,r=>by rw[map_nil] at r;cases r;exact⟨[],True.intro, .nil⟩
 |p::kvs,_,r=>by
  rw[map_cons] at r
  cases r with
  | @cons a b as bs h t=>
    obtain⟨rs,c,q⟩:=tJ (P:=P) (w:=w) t;obtain⟨b1,b2⟩:=b;exact⟨(p.1,b2)::rs,⟨wY h.1,U,c⟩, .cons ⟨U,h.2⟩ q⟩
def XC(Oi:List (TE×TE)):TE:=fun σ H Q=>∀p,H p=none->CM Oi σ (upd H p (.dK [])) λps H2=>H2 p=some (.dK [])/\∃kvs:List (Key×V),ps=kvs.map (λkv=>(kV kv.1,kv.2))/\kvs.length<=15/\Q (.ref p) (upd H2 p (.dK (cP [] kvs)))
def yg{X:Cx}{pos:Pos}{keys:List (Option Expr)}{values:Ix}{Oi:List (TE×TE)}(h:PPs X pos keys values Oi)(lG:keys.all (·.isSome)=true)(hl:keys.length=values.length)(h0:keys≠[])
  (h15:keys.length<=15):PE X (.Dict keys values pos) (XC Oi):=by
 intro pins s σ H Q I q;have hn:=I.aP.fresh (le_refl s.heap.objs.size);have I1:=I.laid (a:=s.heap.objs.size) (o:= .dK []) (h':=s.heap.push 8e5) (t':=s.toks) (λ_ _ q=>Heap.get?_push_of_some _ q) 3e1 (Ay s.heap I.big);refine wpAny_Dict_walk (knd:=bQ X.prog X.w) lG hl h0 h15 (cg (h pins _ σ _ _ I1 (q _ hn)) λws s2 ⟨ps,H2,I2,rel,e,kvs,ep,lk,q2⟩=>?_);subst ep;obtain⟨rs,c,rk⟩:=tJ (P:=X.prog) (w:=X.w) rel;obtain⟨z,hd,vs0,r0,dd⟩:=tG I2.aP e;cases r0;refine⟨rs,c,dd,λh' GZ hs=>⟨.ref s.heap.objs.size,_,?_,U,q2⟩⟩
 have hz:(cP [] kvs).length<=sizeLine:=by
  have h1:=fD kvs [];rw[length_nil] at h1;rw[sizeLine_eq];omega
 have he:∃q,h'.get? s.heap.objs.size=some q:=let ⟨q,_,_,hq,_⟩:=GZ;⟨q,hq⟩;exact rP I2 (by rw[e];exact True.intro) hs he (tH hz hd (rk.merge .nil) GZ)
structure M1(X:Cx)(o:Expr)(m:Str)(apos:Pos)(e:Expr)(iw:Pos):Prop where
 base:attributeBase o m X.env (eval o X.env)=eval o X.env
 few:((backTo iw (starEach [e] X.env)).all (λx=>!x.1)&&(backToKw iw (keywordEach [] X.env)).all (λx=>x.1.isSome)
  &&decide (([e]:List Expr).length+([]:List Keyword).length+(if ([]:List Keyword).isEmpty then 0 else 1) <30))=true
 line:(apos.endLine==iw.line)=true
 trees:backTo iw (starEach [e] X.env)=[6e3]
structure M2(X:Cx)(o:Expr)(m:Str)(apos:Pos)(e f:Expr)(iw:Pos):Prop where
 base:attributeBase o m X.env (eval o X.env)=eval o X.env
 few:((backTo iw (starEach [e,f] X.env)).all (λx=>!x.1)&&(backToKw iw (keywordEach [] X.env)).all (λx=>x.1.isSome)
  &&decide (([e,f]:List Expr).length+([]:List Keyword).length+(if ([]:List Keyword).isEmpty then 0 else 1) <30))=true
 line:(apos.endLine==iw.line)=true
 trees:backTo iw (starEach [e,f] X.env)=[6e3,(false,eval f X.env)]
def IsD(H:Hp)(a:Ps):Prop:=(∃kvs,Rd H a 2e9)\/∃kvs,Rd H a (.dT kvs)
def JI{X:Cx}{pins:WF}{σ:St}{H:Hp}{s:Op}{a:Ps}(I:0e6)(d:IsD H a):
  s.TypeIs 18e2 "dict" /\(∀b,Value.ref a= .ref b->∃ob,s.heap.get? b=some ob/\ob.dict=none)/\(a==sysModules)=false:=by
 rcases d with ⟨kvs,e⟩ | ⟨kvs,e⟩
 ·obtain⟨_,hd,vs,_,dd⟩:=ll I.aP e;refine⟨dd.typeIs,λb q=>?_,hd⟩;cases q;obtain⟨ob,_,_,h1,h2,_⟩:=dd;exact⟨ob,h1,h2.2.1⟩
 ·obtain⟨_,hd,xs,_,dd⟩:=Aw I.aP e;refine⟨dd.typeIs,λb q=>?_,hd⟩;cases q;obtain⟨ob,_,_,h1,h2,_⟩:=dd;exact⟨ob,h1,h2.2.1⟩
section
variable {X:Cx}{pins:WF}{σ:St}{H:Hp}{s:Op}{a:Ps}{y d:V}{u r:Pn}{o:Option V}{A:Os}{E:XV}
def S4{Q:XV}(hu:A.units+1<cLine)(I:0e6)(g:iu H a y o)(ry:RelV y u)(rd:RelV d r)(h:∀w' s',Inv X pins σ H s'->RelV (o.getD d) w'->Q w' s'):
  wpAny 0e8 A (call (.builtin "dict.get") [.ref a,u,r]) Q E s:=by
 rcases g with ⟨kvs,k,e,ey,l⟩ | ⟨kvs,k,b,e,ey,eb,l⟩
 ·subst ey;obtain⟨z,hd,vs,rel,dd⟩:=ll I.aP e;refine call_meetsIn PySem.F.slot_dict_get dd.typeIs PySem.F.entry_dict_get (PySem.F.args_dict_get_3 _ _ _) (meets_dict_get_default (bQ X.prog X.w) a (wY ry) hd r) ⟨_,dd.mapOf,h _ _ (I.tok _) ?_⟩;rw[l];exact(rel.val k).getD rd
 ·subst ey;cases (show u=Value.ref b from ry);obtain⟨z,hd,xs,rel,dd⟩:=Aw I.aP e;refine call_meetsIn PySem.F.slot_dict_get dd.typeIs PySem.F.entry_dict_get (PySem.F.args_dict_get_3 _ _ _) (meetsH_dict_get_default (tupleKind (bQ X.prog X.w)) a b hd r) ⟨tupleKind_room_in1 hu,k,xs,key_of I.aP eb,dd,h _ _ (I.tok _) ?_⟩;rw[l];exact(rel.val k).getD rd
end
def CN(td ty tx:TE):TE:=fun σ H Q=>td σ H λx H1=>∃a,x= .ref a/\IsD H1 a/\ty σ H1 λy H2=>tx σ H2 λz H3=>∃o,iu H3 a y o/\Q (o.getD z) H3
section
variable {X:Cx}{o e f:Expr}{apos iw:Pos}{td ty tx:TE}
def cy(hu:X.A.units+1<cLine)(ho:PE X o td)(he:PE X e ty)(hf:PE X f tx)(m:M2 X o "get" apos e f iw):PE X (.Call (.Attribute o "get" apos) [e,f] [] iw) (CN td ty tx):=by
 intro pins s σ H Q I h;refine wpAny_Call_method m.base m.few m.line PySem.F.plainAttrs_dict PySem.F.slot_dict_get PySem.F.type_dict_get (cg (ho pins s σ H _ I h) λu s1 ⟨x,H1,I1,rx,a,ex,d,q1⟩=>?_);subst ex;obtain rfl:u=Value.ref a:=rx;obtain⟨t1,t2,_⟩:=JI I1 d;refine⟨t1,t2,?_⟩;rw[m.trees]
 refine Calls.callWith_builtin rfl (Calls.evalArgs_plain (Calls.spliced_cons (cg (he pins s1 σ H1 _ I1 q1) λiv s2 ⟨y,H2,I2,ry,q2⟩=>
  Calls.spliced_cons (cg (hf pins s2 σ H2 _ I2 q2) λfv s3 ⟨z,H3,I3,rz,ov,g,q3⟩=>Calls.spliced_nil ?_))))
 exact S4 hu I3 g ry rz λw' s4 I4 lF=>⟨_,H3,I4,lF,q3⟩
end
section
variable {X:Cx}{pins:WF}{σ:St}{H:Hp}{s:Op}{a:Ps}{kvs:Py}{A:Os}{E:XV}
def JJ{Q:XV}(I:0e6)(e:Rd H a 2e9)(h:∀p s',H p=none->Inv X pins σ (upd H p 2e9) s'->Q (.ref p) s'):wpAny 0e8 A (call (.type "dict") [.ref a]) Q E s:=by
 obtain⟨z,hd,vs,rel,dd⟩:=ll I.aP e;refine kt_call_dict hd dd (by rw[<-rel.length];exact z) λh' GZ hs=>?_;refine h _ _ (I.aP.fresh 3e1) (I.laid (a:=s.heap.objs.size) (o:= .dK kvs) (t':=s.toks) (λb q hq=>?_) 3e1 (tH z (beq_eq_false_iff_ne.mpr (Ne.symm (ne_of_lt I.big))) rel GZ));exact(hs.2 b (ne_of_lt (Heap.lt_size hq))).trans (Heap.get?_push_of_some _ hq)
end
section
variable {X:Cx}{pins:WF}{σ:St}{H:Hp}{s:Op}{a:Ps}{y:V}{u:Pn}{A:Os}{E:XV}
end
end L2
namespace HT
open PySem PyProof.Rows
section
open PySem.SeqAt
open PySem.AutoSeq1 (wpAny_loadPart')
open PySem.MeetsSeq PySem.MeetsSeq2 PySem.MeetsSeq3
end
section
variable {prog:On}{w:8e8}{A:Os}{E:XV}{s:Op}
end
end HT
namespace L2
open PySem PySem.Spec PyProof.Rows
abbrev TO:=St->Hp->(Option Int->Hp->Prop)->Prop
def PO(X:Cx)(e:Option Expr)(t:TO):Prop:=
 ∀(pins:WF) (s:Op) (σ:St) (H:Hp) (Q:Option Int->Hp->Prop),Inv X pins σ H s->t σ H Q->
  wpAny 0e8 X.A (evalPart e X.env) (λu s'=>∃o H',Inv X pins σ H' s'/\IsPart u o/\Q o H') X.xe s
def XD(t:TE):TO:=fun σ H Q=>t σ H λx H1=>∃i,x= .int i/\Q (some i) H1
def intsAre_of{ns:List Int}:∀{us:UF},Vals (ns.map V.int) us->IntsAre us ns:=by
 induction ns with
 |nil=>intro us r;rw[map_nil] at r;cases r;exact .nil
 |cons n ns ih=>
  intro us r;rw[map_cons] at r
  cases r with
  |cons r1 r2=>
   obtain⟨t,e⟩:=r1;subst e;exact .cons n t (ih r2)
section
variable {X:Cx}{e:Expr}{te:TE}{lo hi:Option Expr}{tl th:TO}{pos p2:Pos}
def ju(h:PE X e te):PO X (some e) (XD te):=by
 intro pins s σ H Q I hw;rw[evalPart_some];refine cg (h pins s σ H _ I hw) λu s1 ⟨x,H1,I1,r1,q1⟩=>?_;obtain⟨i,rfl,q⟩:=q1;obtain⟨t,rfl⟩:=r1;exact⟨some i,H1,I1, .int i t,q⟩
def SlR(X:Cx)(r:V->Option Int->Option Int->Hp->VK->Prop):Prop:=
 ∀(pins:WF) (s:Op) (σ:St) (H:Hp) (x:V) (v vl vu:Pn) (lo hi:Option Int) (sl:Ps) (Q:VK),Inv X pins σ H s->RelV x v->s.heap.IsSliceOf sl vl vu .none->IsPart vl lo->IsPart vu hi->r x lo hi H Q->
  ∃T id,typeLookup (.type T) "__getitem__" =pure (some (.builtin id))/\s.TypeIs v T/\wpAny 0e8 X.A (getItem v (.ref sl)) 9e0 X.xe s
def tSl(r:V->Option Int->Option Int->Hp->VK->Prop)(te:TE)(tl th:TO):TE:=fun σ H Q=>te σ H λx H1=>tl σ H1 λl H2=>th σ H2 λu H3=>r x l u H3 Q
def oB{r:V->Option Int->Option Int->Hp->VK->Prop}(hr:SlR X r)(he:PE X e te)(hl:PO X lo tl)(hu:PO X hi th):PE X (.Subscript e (.Slice lo hi none p2) pos) (tSl r te tl th):=by
 intro pins s σ H Q I h;refine Subscript_ (cg 5e9 λv s1 ⟨x,H1,I1,r1,q1⟩=>?_);refine wpAny_Slice (cg (hl pins s1 σ H1 _ I1 q1) λvl s2 ⟨l,H2,I2,pl,q2⟩=>cg (hu pins s2 σ H2 _ I2 q2) λvu s3 ⟨u,H3,I3,pu,q3⟩=>?_);rw[evalPart_none];refine wpAny_pure ?_;have I4:Inv X pins σ H3 { s3 with heap:=s3.heap.push { cls:= .type "slice",data:= .fields #[vl,vu, .none] } }:=I3.kept (t':=s3.toks) λb ob q=>Heap.get?_push_of_some _ q;obtain⟨T,id,hT,ht,hg⟩:=hr pins { s3 with heap:=s3.heap.push { cls:= .type "slice",data:= .fields #[vl,vu, .none] } } σ H3 x v vl vu l u s3.heap.objs.size Q I4 r1 (Heap.IsSliceOf.new ..) pl pu q3;show wpAny 0e8 X.A (subscriptTail e (.Slice lo hi none p2) v (.ref s3.heap.objs.size)) 9e0 X.xe { s3 with heap:=s3.heap.push { cls:= .type "slice",data:= .fields #[vl,vu, .none] } };exact tail_any (ops:=[.ref s3.heap.objs.size,v]) ht hT hg (by with_unfolding_all rfl)
end
noncomputable def Oj(n:Nat)(i:Int):Option Nat:=if 0<=i then (if i<n then some i.toNat else none) else if -(n:Int)<=i then some (i+n).toNat else none
noncomputable def yh{α:Type}(xs:List α)(i:Int):Option α:=(Oj xs.length i).bind λj=>xs[j]?
def EV{n:Nat}{i:Int}{j:Nat}(h:Oj n i=some j):seqIndex? i n=some j/\j<n/\ -(n:Int)<=i/\i<n:=by
 unfold Oj at h;by_cases h0:0<=i
 ·rw[if_pos h0] at h;by_cases h1:i<n
  ·rw[if_pos h1] at h;have e:i.toNat=j:=Option.some.inj h;exact⟨by rw[seqIndex_of h0 h1,e],by omega,by omega,h1⟩
  ·rw[if_neg h1] at h;cases h
 ·rw[if_neg h0] at h;by_cases h1: -(n:Int)<=i
  ·rw[if_pos h1] at h;have e:(i+n).toNat=j:=Option.some.inj h;exact⟨by rw[seqIndex_neg 0e2 h1,e],by omega,h1,by omega⟩
  ·rw[if_neg h1] at h;cases h
def yi{α:Type}{xs:List α}{i:Int}{v:α}(h:yh xs i=some v):∃j,seqIndex? i xs.length=some j/\xs[j]? =some v/\j<xs.length/\ -(xs.length:Int)<=i/\i<xs.length:=by
 unfold yh at h
 cases e:Oj xs.length i with
 |none=>rw[e] at h;cases h
 |some j=>
  rw[e] at h;obtain⟨h1,h2,h3,h4⟩:=EV e;exact⟨j,h1,h,h2,h3,h4⟩
def ku{α:Type}{xs:List α}{j:Nat}{v:α}(h:xs[j]? =some v):yh xs (j:Int)=some v:=by
 have hj:j<xs.length:=(List.getElem?_eq_some_iff.mp h).1
 have e:Oj xs.length (j:Int)=some j:=by
  unfold Oj;simp_all
 unfold yh;rw[e];exact h
def Ol(b:Expr):Prop:=∀o i,subscripted b false o i=operate [o,i] (getItem o i)
def XE(X:Cx)(r:R2):Prop:=
 ∀(value slice:Expr) (pins:WF) (s:Op) (σ:St) (H:Hp) (x y:V) (v u:Pn) (Q:VK),Inv X pins σ H s->RelV x v->RelV y u->r x y H Q->
  subscripted slice false v u=operate [v,u] (getItem v u)->wpAny 0e8 X.A (subscriptTail value slice v u) 9e0 X.xe s
def MtR(X:Cx)(id:String)(r:V->List V->Hp->VK->Prop):Prop:=
 ∀(pins:WF) (s:Op) (σ:St) (H:Hp) (x:V) (xs:KB) (v:Pn) (us:UF) (Q:VK),Inv X pins σ H s->RelV x v->Vals xs us->r x xs H Q->
  wpAny 0e8 X.A (call (.builtin id) (v::us)) 9e0 X.xe s
section
variable {X:Cx}{a b:Expr}{ta tb:TE}{pos:Pos}
def bF{r:R2}(hr:XE X r)(ha:PE X a ta)(hb:PE X b tb)(hs:Ol b):PE X (.Subscript a b pos) (SJ r ta tb):=by
 intro pins s σ H Q I h;exact Subscript_ (SK ha hb I h λv u s2 x y H2 I2 rx ry q=>hr a b pins s2 σ H2 x y v u Q I2 rx ry q (hs _ _))
inductive XF(K:1e5)(x:V)(y:V)(H:Hp)(Q:VK):Prop
 |mk (p xs i v:_) (bJ:x= .ref p) (bT:y= .int i) (cw:bH K H p xs) (dh:yh xs i=some v) (eQ:Q v H)
def rIxL(K:Uf):R2:=XF K
inductive XG(K:1e5)(x:V)(y:V)(H:Hp)(Q:VK):Prop
 |mk (p xs i v:_) (bJ:x= .ref p) (bT:y= .int i) (cw:iB K H p xs) (dh:yh xs i=some v) (eQ:Q v H)
def XH(K:Uf):R2:=XG K
inductive XI(x:V)(y:V)(H:Hp)(Q:VK):Prop
 |mk (z i c:_) (bJ:x= .str z) (bT:y= .int i) (cw:z.length<=sizeLine) (dh:yh z.cps.toList i=some c) (eQ:Q (.str ⟨#[c]⟩) H)
def rIxS:R2:=XI
def bV:XE X (rIxL X.K):=by
 intro value slice pins s σ H x y v u Q I rx ry h hs;obtain⟨p,xs,i,z,rfl,rfl,hq,he,q⟩:=h;cases rx;obtain⟨t,rfl⟩:=ry;obtain⟨its,r,pl,hz⟩:=I.list hq;obtain⟨j,h1,h2,h3,h4,h5⟩:=yi he;obtain⟨w,ew,lF⟩:=r.get h2;have hl:=r.length;have hn:=nI;have fin:EP X pins σ Q w s:=⟨z,H,I,lF,q⟩;by_cases h0:0<=i
 ·have hj:i.toNat=j:=by
   rw[seqIndex_of h0 h5] at h1;exact Option.some.inj h1
  exact item_listR pl.isList h0 0e2 (by rw[hj];simpa using ew) fin hs
 ·have hj:(i+(its.toArray.size:Int)).toNat=j:=by
   rw[seqIndex_neg 0e2 h4] at h1;simp_all
  exact subscriptTail_builtinR (x:=w) pl.isList.typeIs slot_list_getitem.lookup
   (wpAny_getItem_list_neg (Q:=λr s'=>r=w/\EP X pins σ Q r s') pl.isList 0e2 9e9 0e2 (by rw[hj];simpa using ew) ⟨rfl,fin⟩) hs
def eS:XE X (XH X.K):=by
 intro value slice pins s σ H x y v u Q I rx ry h hs;obtain⟨p,xs,i,z,rfl,rfl,hq,he,q⟩:=h;cases rx;obtain⟨t,rfl⟩:=ry;obtain⟨its,r,pl,hz⟩:=I.tuple hq;obtain⟨j,h1,h2,h3,h4,h5⟩:=yi he;obtain⟨w,ew,lF⟩:=r.get h2;have hl:=r.length;have hn:=nI;have fin:EP X pins σ Q w s:=⟨z,H,I,lF,q⟩;exact subscriptTail_builtinR (x:=w) pl.typeIs slot_tuple_getitem.lookup
  (getItem_tuple (j:=j) (Q:=λr s'=>r=w/\EP X pins σ Q r s') pl 0e2 0e2 9e9 (by simpa using ew) ⟨rfl,fin⟩) hs
def yj:XE X rIxS:=by
 intro value slice pins s σ H x y v u Q I rx ry h hs;obtain⟨z,i,c,rfl,rfl,hz,he,q⟩:=h;obtain⟨t,rfl⟩:=rx;obtain⟨t',rfl⟩:=ry;obtain⟨j,h1,h2,h3,h4,h5⟩:=yi he;have hl:z.cps.toList.length=z.length:=by simp [Str.length]
 rw[hl] at h1 h4 h5;have hn:=nI
 exact tail_any (typeIs_str s z t) slot_str_getitem.lookup (getItem_str (c:=c) (by
  have e1:decide (i< -(2^63 :Int))=false:=decide_eq_false 0e2;have e2:decide (i≥2^63)=false:=decide_eq_false 0e2
  rw[e1,e2,Bool.or_false]) (by rw[h1];simpa using h2) ⟨.str ⟨#[c]⟩,H,I.tok _,3e5,q⟩) hs
def CO(its:UF)(n j:Nat)(u:Pn):Obj.mapSeq (·.setIfInBounds j u) 5e7={ cls:= .type "list",data:= .seq (its.set j u).toArray n }:=by
 simp [Obj.mapSeq]
theorem Inv.lst{pins:WF}{σ:St}{H:Hp}{s:Op}{p:Ps}{xs:KB}(I:0e6)(h:H p=some (.lst xs)):
  ∃(its:UF) (n:Nat),Vals xs its/\s.heap.get? p=some 5e7/\xs.length<=sizeLine:=by
 obtain⟨z,its,n,r,e⟩:=I.aP p _ h;exact⟨its,n,r,e,z⟩
def Inv.S5{pins:WF}{σ:St}{H:Hp}{s:Op}{p:Ps}{xs ys:KB}{its its':UF}{n n':Nat}{f:Obj->Obj}(I:0e6)(h:H p=some (.lst xs))
  (ho:s.heap.get? p=some 5e7) (hf:f 5e7={ cls:= .type "list",data:= .seq its'.toArray n' }) (r:Vals ys its') (hz:ys.length<=sizeLine) (t:Nat):
  Inv X pins σ (upd H p 3e8) { s with heap:=s.heap.update p f,toks:=t }:=by
 have e:(s.heap.update p f).get? p=some { cls:= .type "list",data:= .seq its'.toArray n' }:=by
  rw[Heap.get?_update_self f ho (by rw[hf]<;>rfl),hf]
 refine I.write (x:=p) (e:=p) (by rw[h];trivial) 9e8 (λb u hb q=>(Heap.get?_update_other _ _ (Ne.symm hb)).trans q) ⟨_,e⟩ ?_;exact⟨hz,its',n',r,e⟩
def XJ:V->V->V->Hp->(Hp->Prop)->Prop:=λo i v H Q=>∃p xs k j,o= .ref p/\i= .int k/\H p=some (.lst xs)/\Oj xs.length k=some j/\Q (upd H p (.lst (xs.set j v)))
def set_list:Xd X XJ:=by
 intro pins s σ H o i v ov iv u Q I ro ri rv h;obtain⟨p,xs,k,j,rfl,rfl,hp,hj,q⟩:=h;cases ro;obtain⟨t,rfl⟩:=ri;obtain⟨its,n,r,ho,hz⟩:=I.lst hp;obtain⟨h1,h2,h3,h4⟩:=EV hj;have hl:=r.length;have hn:=nI;have I':Inv X pins σ (upd H p (.lst (xs.set j v))) { s with heap:=s.heap.update p (Obj.mapSeq (·.setIfInBounds j u)) }:=
  I.S5 hp ho (CO its n j u) (r.set rv j) 9e9 s.toks
 by_cases h0:0<=k
 ·have hk:k.toNat=j:=by
   rw[seqIndex_of h0 h4] at h1;exact Option.some.inj h1
  exact PySem.W.ki_setAt ho h0 0e2 9e9 (by rw[hk];exact⟨_,I',q⟩)
 ·have hk:(k+(its.toArray.size:Int)).toNat=j:=by
   rw[seqIndex_neg 0e2 h3] at h1;simp_all
  exact PySem.W.ki_setBack ho 0e2 9e9 0e2 (by rw[hk];exact⟨_,I',q⟩)
noncomputable def wZ:V->Bool
 | .cR=>true
 | .bl _=>true
 | .int _=>true
 | .str _=>true
 |_=>false
noncomputable def XM:V->V->Bool
 | .cR, .cR=>true
 | .bl a, .bl b=>a==b
 | .bl a, .int b=>(if a then 1 else 0)==b
 | .int a, .bl b=>a==(if b then 1 else 0)
 | .int a, .int b=>a==b
 | .str a, .str b=>a==b
 |_,_=>false
def S6{A:Os}{s:Op}{y x:V}{u v:Pn}(ry:RelV y u)(rx:RelV x v)(fy:wZ y=true)(fx:wZ x=true):SeqAt.EqAt A s u v (XM y x):=by
 cases y with
 |cR=>
  cases ry
  cases x with
  |cR=>cases rx;exact SeqAt.EqAt.same _
  |bl b=>cases rx;exact SeqAt.EqAt.none_bool b
  |int b=>obtain⟨t,rfl⟩:=rx;exact SeqAt.EqAt.none_int b t
  |str b=>obtain⟨t,rfl⟩:=rx;exact SeqAt.EqAt.none_str b t
  |_=>exact absurd (show false=true from fx) Bool.false_ne_true
 |bl a=>
  cases ry
  cases x with
  |cR=>cases rx;exact SeqAt.EqAt.bool_none a
  |bl b=>cases rx;exact SeqAt.EqAt.bool_bool a b
  |int b=>obtain⟨t,rfl⟩:=rx;exact SeqAt.EqAt.bool_int a b t
  |str b=>obtain⟨t,rfl⟩:=rx;exact SeqAt.EqAt.bool_str a b t
  |_=>exact absurd (show false=true from fx) Bool.false_ne_true
 |int a=>
  obtain⟨t',rfl⟩:=ry
  cases x with
  |cR=>cases rx;exact SeqAt.EqAt.int_none a t'
  |bl b=>cases rx;exact SeqAt.EqAt.int_bool a t' b
  |int b=>obtain⟨t,rfl⟩:=rx;exact SeqAt.EqAt.int_int a t' b t
  |str b=>obtain⟨t,rfl⟩:=rx;exact SeqAt.EqAt.int_str a t' b t
  |_=>exact absurd (show false=true from fx) Bool.false_ne_true
 |str a=>
  obtain⟨t',rfl⟩:=ry
  cases x with
  |cR=>cases rx;exact SeqAt.EqAt.str_none a t'
  |bl b=>cases rx;exact SeqAt.EqAt.str_bool a t' b
  |int b=>obtain⟨t,rfl⟩:=rx;exact SeqAt.EqAt.str_int a t' b t
  |str b=>obtain⟨t,rfl⟩:=rx;exact SeqAt.EqAt.str_str a t' b t
  |_=>exact absurd (show false=true from fx) Bool.false_ne_true
 |_=>exact absurd (show false=true from fy) Bool.false_ne_true
inductive wd(K:1e5)(xs:5e2)(H:Hp)(Q:VK):Prop
 |mk (p ys:_) (bJ:xs=[.ref p]) (bT:(bH K H p ys\/iB K H p ys)) (cw:Q (.int ys.length) H)
def dS:iD X (.builtin "len") (wd X.K):=by
 intro pins s σ H xs us Q I r h;obtain⟨p,ys,rfl,hq,q⟩:=h;obtain⟨u,rfl,rx⟩:=vals1 r;cases rx;have hn:=nI;rcases hq with hq|hq
 ·obtain⟨its,r',pl,hz⟩:=I.list hq;have hlen:=r'.length;exact Calls.call_len_list pl.isList (by simp only [size_toArray]<;>omega) ⟨.int ys.length,H,I.tok _,⟨s.toks+1,by rw[size_toArray,hlen]⟩,q⟩
 ·obtain⟨its,r',pl,hz⟩:=I.tuple hq;have hlen:=r'.length;exact len_tuple pl (by simp only [size_toArray]<;>omega) ⟨.int ys.length,H,I.tok _,⟨s.toks+1,by rw[size_toArray,hlen]⟩,q⟩
def iI:iD X (.builtin "len") (λxs H Q=>∃z,xs=[.str z]/\z.length<=sizeLine/\Q (.int z.length) H):=by
 intro pins s σ H xs us Q I r h;obtain⟨z,rfl,hz,q⟩:=h;obtain⟨u,rfl,t,rfl⟩:=vals1 r;have hn:=nI;exact len_str 0e2 ⟨.int z.length,H,I.tok _,3e5,q⟩
inductive we(K:1e5)(xs:5e2)(H:Hp)(Q:VK):Prop
 |mk (p ys:_) (bJ:xs=[.ref p]) (bT:(bH K H p ys\/iB K H p ys)) (cw:∀l,H l=none->Q 18e6 (upd H l 3e8))
def dU:iD X (.type "list") (we X.K):=by
 intro pins s σ H xs us Q I r h;obtain⟨p,ys,rfl,hq,q⟩:=h;obtain⟨u,rfl,rx⟩:=vals1 r;cases rx;have fin:∀(its:UF),Vals ys its->ys.length<=sizeLine->∀(h':Heap) (c':Nat),(∀b o',s.heap.get? b=some o'->h'.get? b=some o')->
   h'.get? s.heap.objs.size=some { cls:= .type "list",dict:=none,data:= .seq its.toArray c',slots:=#[] }->EP X pins σ Q 17e2 7e4:=λits r' hz h' c' kp e=>
  ⟨.ref s.heap.objs.size,_,I.laid (t':=s.toks) kp 3e1 (show cK X.prog X.w _ h' _ 3e8 from ⟨hz,its,c',r',e⟩),rfl,q _ (I.aP.fresh 3e1)⟩
 rcases hq with hq|hq
 ·obtain⟨its,r',pl,hz⟩:=I.list hq;have hlen:=r'.length;obtain⟨o,ho,hc,n,hd⟩:=pl.isList;exact call_list_seq p 9e8 ho hc hd (λh' c' kp e=>fin its r' hz h' c' kp e) (by simp only [size_toArray]<;>omega)
 ·obtain⟨its,r',pl,hz⟩:=I.tuple hq;have hlen:=r'.length;obtain⟨o,ho,hc,n,hd⟩:=pl;exact call_list_seq p (.inr rfl) ho hc hd (λh' c' kp e=>fin its r' hz h' c' kp e) (by simp only [size_toArray]<;>omega)
def tyV(K:Uf)(T:String)(x:V)(H:Hp):Prop:=match x with
 | .str _=>T="str"
 | .int _=>T="int"
 | .ref p=>(T="list" /\∃xs,bH K H p xs)\/(T="tuple" /\∃o,K.lookup p=some o/\o.cls= .type "tuple" /\o.dict=none)\/
   (T="dict" /\((∃kvs,H p=some 2e9)\/∃kvs,H p=some (.dT kvs)))\/(T="set" /\∃S n,H p=some (.set S n))
 |_=>False
def S7{pins:WF}{σ:St}{H:Hp}{s:Op}{T:String}{x:V}{v:Pn}(I:0e6)(r:RelV x v)(ty:tyV X.K T x H):
  s.TypeIs v T/\∀a,v= .ref a->∃ob,s.heap.get? a=some ob/\ob.dict=none:=by
 cases x with
 |str z=>
  obtain⟨t,rfl⟩:=r;cases (show T="str" from ty);exact⟨typeIs_str s z t,λ_ e=>nomatch e⟩
 |int i=>
  obtain⟨t,rfl⟩:=r;cases (show T="int" from ty);exact⟨typeIs_int s i t,λ_ e=>nomatch e⟩
 |ref p=>
  cases r;rcases ty with ⟨rfl,xs,hq⟩ | ⟨rfl,o,hk,hc,hd⟩ | ⟨rfl,hk⟩ | ⟨rfl,S,n,hk⟩
  ·obtain⟨its,_,pl,_⟩:=I.list hq;refine⟨pl.isList.typeIs,λa e=>?_⟩;cases e;obtain⟨o,n,e,c,hd,_⟩:=pl;exact⟨o,e,hd⟩
  ·refine⟨⟨o,I.jq p o hk,hc⟩,λa e=>?_⟩;cases e;exact⟨o,I.jq _ o hk,hd⟩
  ·have z:∃o,s.heap.get? p=some o/\o.ExactDict:=by
    rcases hk with ⟨kvs,hk⟩ | ⟨kvs,hk⟩
    ·obtain⟨_,_,_,_,o,_,_,e,ex,_⟩:=I.aP p _ hk;exact⟨o,e,ex⟩
    ·obtain⟨_,_,_,_,o,_,_,e,ex,_⟩:=I.aP p _ hk;exact⟨o,e,ex⟩
   obtain⟨o,e,ex⟩:=z;refine⟨⟨o,e,ex.1⟩,λa e2=>?_⟩;cases e2;exact⟨o,e,ex.2.1⟩
  ·obtain⟨o,_,_,_,e,ex,_⟩:=I.aP p _ hk;refine⟨⟨o,e,ex.1⟩,λa e2=>?_⟩;cases e2;exact⟨o,e,ex.2.1⟩
 |_=>exact False.elim ty
def tBM(K:Uf)(T:String)(r:V->List V->Hp->VK->Prop)(to:TE)(t:TA):TE:=fun σ H Q=>to σ H λx H1=>tyV K T x H1/\t σ H1 λxs H2=>r x xs H2 Q
variable {o e:Expr}{es:Ix}{to:TE}{t:TA}{name:Str}{apos iw:Pos}{T id:String}{r:V->List V->Hp->VK->Prop}
def gP(pa:PlainAttrs T)(slot:Slot T name id)(hty:typeOf (.builtin id)=pure (.type "method_descriptor"))(hm:MtR X id r)(ho:PE X o to)(ha:PA X (e::es) t)
  (XN:attributeBase o name X.env (eval o X.env)=eval o X.env:=by rfl)
  (hfew:((backTo iw (starEach (e::es) X.env)).all (λx=>!x.1)&&(backToKw iw (keywordEach [] X.env)).all (λx=>x.1.isSome)
   &&decide ((e::es).length+([]:List Keyword).length+(if ([]:List Keyword).isEmpty then 0 else 1) <30))=true:=by rfl)
  (JK:(apos.endLine==iw.line)=true:=by rfl) (hs:starEach (e::es) X.env=6e3::starEach es X.env:=by rfl) (S8:(backTo iw (starEach es X.env)).any 2e1=false:=by rfl):
  PE X (.Call (.Attribute o name apos) (e::es) [] iw) (tBM X.K T r to t):=by
 intro pins s σ H Q I h;refine wpAny_Call_method_late XN hfew JK rfl (cg (ho pins s σ H _ I h) λv s1 ⟨x,H1,I1,r1,ty,q1⟩=>?_);obtain⟨h1,h2⟩:=S7 I1 r1 ty;refine⟨T,id,pa,slot,hty,h1,h2,?_⟩;have hA:=ha iw pins s1 σ H1 _ I1 q1;rw[hs] at hA |-;refine Calls.callWith_builtin (by show (false||(backTo iw (starEach es X.env)).any 2e1)=false;rw[S8]<;>rfl) (Calls.evalArgs_plain ?_);exact cg hA λus s2 ⟨vs,H2,I2,r2,q2⟩=>hm pins s2 σ H2 x vs v us Q I2 r1 r2 q2
end
def MtM(X:Cx)(id:String)(r:V->List V->Hp->VK->Prop):Prop:=
 ∀(pins:WF) (s:Op) (σ:St) (H:Hp) (x:V) (xs:KB) (v:Pn) (us:UF) (Q:VK),Inv X pins σ H s->RelV x v->Vals xs us->r x xs H Q->
  wpAny 0e8 X.A (call (.builtin id) (v::us)) 9e0 X.xe s
def Vals.one:∀{x:V} {us:UF},Vals [x] us->∃u,us=[u]/\RelV x u
 |_,_, .cons r .nil=>⟨_,rfl,r⟩
section
variable {X:Cx}{pins:WF}{σ:St}{H:Hp}{s:Op}{l b:Ps}{xs ys zs:KB}
def Inv.XO{its its':UF}{n:Nat}{f:Array Value->Array Value}{t':Nat}(I:0e6)(hH:H l=some (.lst xs))
  (e:s.heap.get? l=some 5e7) (hf:f its.toArray=its'.toArray) (hv:Vals ys its') (hz:ys.length<=sizeLine):
  Inv X pins σ (upd H l 3e8) { s with heap:=s.heap.update l (Obj.mapSeq f),toks:=t' }:=by
 have q:=PySem.IsL.update e f;rw[hf] at q;refine I.write (x:=l) (e:=l) (by rw[hH];exact trivial) 9e8 (λb' u hb hu=>(Heap.get?_update_other s.heap (Obj.mapSeq f) (Ne.symm hb)).trans hu) ⟨_,q⟩ ?_;exact⟨hz,its',_,hv,q⟩
def Inv.S9{its:UF}{t':Nat}(I:0e6)(hv:Vals ys its)(hz:ys.length<=sizeLine):
  Inv X pins σ (upd H s.heap.objs.size 3e8) { s with heap:=s.heap.push { cls:= .type "list",data:= .seq its.toArray },toks:=t' }:=
 I.laid (λ_ _ q=>Heap.get?_push_of_some _ q) 3e1 ⟨hz,its,0,hv,Heap.get?_push_size _ rfl⟩
theorem Inv.fresh(I:0e6):H s.heap.objs.size=none:=I.aP.fresh 3e1
def Inv.G0(I:0e6)(hH:H l=some (.lst xs)):xs.length<=sizeLine/\∃(its:UF) (n:Nat),Vals xs its/\xs.length=its.length/\s.heap.get? l=some 5e7:=by
 obtain⟨z,its,n,r,e⟩:=I.aP l _ hH;exact⟨z,its,n,r,r.length,e⟩
def JL{n:Nat}(h:n<=sizeLine):Builtin.List.listTooLong n=false:=by
 unfold Builtin.List.listTooLong
 lia
end
section
variable {X:Cx}
def Om:V->List V->Hp->VK->Prop:=λx vs H Q=>∃l xs y,x= .ref l/\vs=[y]/\H l=some (.lst xs)/\xs.length<sizeLine/\Q .cR (upd H l (.lst (xs++[y])))
def cH:MtM X "list.append" Om:=by
 intro pins s σ H x vs v us Q I rx rv h;obtain⟨l,xs,y,rfl,rfl,hH,hz,q⟩:=h;cases rx;obtain⟨u,rfl,ru⟩:=rv.one;obtain⟨z,its,n,r,hl,e⟩:=I.G0 hH;refine call_meets F.slot_list_append ⟨_,e,rfl⟩ F.entry_list_append (F.args_list_append_2 _ _) (PySem.list_append l its.toArray n u 9e9) ⟨e,?_⟩;refine⟨.cR,_,I.XO (its':=its++[u]) hH e 2e3 (r.append (.cons ru .nil)) ?_,U,q⟩
 grind
def Oo:V->List V->Hp->VK->Prop:=λx vs H Q=>∃l b xs zs,x= .ref l/\vs=[.ref b]/\H l=some (.lst xs)/\H b=some (.lst zs)/\xs.length+zs.length<=sizeLine/\Q .cR (upd H l (.lst (xs++zs)))
def G1:MtM X "list.extend" Oo:=by
 intro pins s σ H x vs v us Q I rx rv h;obtain⟨l,b,xs,zs,rfl,rfl,hH,hB,hz,q⟩:=h;cases rx;obtain⟨u,rfl,ru⟩:=rv.one;cases ru;obtain⟨z,its,n,r,hl,e⟩:=I.G0 hH;obtain⟨z2,CP,n2,r2,vR,e2⟩:=I.G0 hB;have hsz:its.toArray.size+CP.toArray.size<=sizeLine:=by simp_all
 have XQ:¬(!its.toArray.isEmpty&&Builtin.List.listTooLong (its.toArray.size+CP.toArray.size))=true:=by
  rw[JL hsz,Bool.and_false]
  lia
 refine call_meets F.slot_list_extend ⟨_,e,rfl⟩ F.entry_list_extend (F.args_list_extend_2 _ _)
  (AutoSeq1.list_extend_list_list_0 l its.toArray n b CP.toArray n2 XQ (by lia) 0e2) ⟨e,e2,?_⟩
 refine⟨.cR,_,I.XO (its':=its++CP) hH e 2e3 (r.append r2) ?_,U,q⟩;rw[length_append];omega
inductive XR(x:V)(y:V)(H:Hp)(Q:VK):Prop
 |mk (l b xs zs:_) (bJ:x= .ref l) (bT:y= .ref b) (cw:H l=some (.lst xs)) (dh:H b=some (.lst zs)) (eQ:xs.length+zs.length<=sizeLine) (ir:∀p,H p=none->Q (.ref p) (upd H p (.lst (xs++zs))))
def rCat:R2:=XR
def nJ:oo X (binaryOp .Add) rCat:=by
 intro pins s σ H x y v u Q I rx ry h;obtain⟨l,b,xs,zs,rfl,rfl,hH,hB,hz,q⟩:=h;cases rx;cases ry;obtain⟨z,its,n,r,hl,e⟩:=I.G0 hH;obtain⟨z2,CP,n2,r2,vR,e2⟩:=I.G0 hB;refine PySem.P.add_list e e2 ?_ 9e9;have ea:its.toArray++CP.toArray=(its++CP).toArray:=by simp
 rw[ea];exact⟨.ref _,_,I.S9 (t':=s.toks) (r.append r2) (by rw[length_append];omega),U,q _ I.fresh⟩
end
section
variable {prog:On}{w:8e8}{A:Os}{E:XV}{s:Op}
end
section
variable {X:Cx}
end
end L2
namespace Att
open PySem PySem.W PySem.Calls PyProof.Rows
def rC{P:Params}{h:Heap}:∀(ns:List Int) (vs:UF),WellAll P h vs (ns.map WData.int)->IntsAre vs ns:=by
 intro ns
 induction ns with
 |nil=>
  intro vs w;rw[map_nil] at w;cases w;exact .nil
 |cons n ns ih=>
  intro vs w;rw[map_cons] at w
  cases w with
  |cons a b=>
   cases a;exact .cons _ _ (ih _ b)
def G2{l:OpenLaw}{n:Nat}(hn:l.most=some n){P:Params}{h:Heap}{args:List WData}{vals:UF}
  (Oq:l.row.toRowW.claim.pre args=true) (Ot:WellAll P h vals args):
  ∃a vs ns,vals=[Value.ref a]/\args=[WData.list (ns.map WData.int)]/\h.get? a=some 12e2/\IntsAre vs ns/\ns.length<=n:=by
 have JM:WShape.hasAll [] args [.list .int]=true:=(pre_splitW Oq).1;have hc:l.pre.holds [] { args:=args }=true:=(pre_splitW Oq).2;obtain⟨d,r,rfl,h1,h2⟩:=hasAllW_cons JM;obtain rfl:=hasAllW_nil h2;obtain⟨xs,rfl,h3⟩:=hasW_list h1;obtain⟨ns,rfl⟩:=items_int h3
 have hlen:ns.length<=n:=by
  unfold OpenLaw.pre at hc
  have h4:(WTm.not (.lt (.lit (.int (n:Int))) (.len (.arg 0)))).holds [] { args:=[.list (ns.map .int)] }=true:=by
   have h4:=(holds_andW hc).1;rw[hn] at h4;exact h4
  have h5:=condW_of h4 (w_not (w_lt w_lit (w_len_list (w_arg rfl))));simp_all
 cases Ot with
 |cons w1 w2=>
  cases w2
  cases w1 with
  |list ho lG=>exact⟨_,_,ns,U,U,ho,rC ns _ lG,hlen⟩
def G3(l:OpenLaw)(args:List WData):l.row.toRowW.claim.post args (.bool true) args=true:=
 postW_of (r:=l.row.toRowW) (X:=(true==true))
  (show WShape.has [] (.bool true) .bool=true by first|rfl|decide|simp [WShape.has,WShape.arms,WShape.armsAll])
  (show (WTm.eq .res (.lit (.bool true))).value [] { args:=args,res:=some (.bool true),after:=args }=some (.bool (true==true)) from w_eq_bool (w_res rfl) w_lit) rfl
def Az{l:OpenLaw}{n:Nat}{q:On}{loose:IR}{XP:(Str->Option Value)->Heap->Prop}{YP:World->Heap->Prop}{d:DefRec}
  (hn:l.most=some n) (XS:d.params.defaults=[])
  (call:∀(w:8e8) (s₀ s₁:Op) (mg mb:Wp) (fa:Ps) (o:Obj) (pm cd doc:Pn) (a:Ps) (vs:UF) (ns:List Int),
   Ground q loose [] XP w s₀ mg mb s₁.heap->YP w s₁.heap->
   s₁.heap.get? fa=some o->o.data= .func (docDef d.name d.params d.body d.scope pm cd doc)->s₁.heap.CodeRec cd d.name->mg d.name=some (.ref fa)->
   s₁.heap.get? a=some 12e2->IntsAre vs ns->ns.length<=n->s₁.gens=#[]->
   codeAny (model l.prog w) callerA (.call (.ref fa) ⟨[.ref a],[]⟩) (λr s'=>r= .ok (.ret (.bool true))/\OldK s₁.heap s'.heap/\s'.os=s₁.os/\AllBare s'.gens) s₁):
  WalkO q loose XP YP l.row.toRowW d [] (λf vs=>PySem.call f vs):=by
 intro w s₀ s₁ mg mb G Y fa o pm cd doc dV kV ho hd rA hD XT hg args vals as Oq hlay hrd Ot NB;obtain rfl:dV= .none:=Dflts.none hD XS;obtain rfl:kV= .none:=Dflts.noKw hD;obtain⟨a,vs,ns,rfl,rfl,S',hints,hlen⟩:=G2 hn Oq Ot;refine enter_call (codeAny_mono (call w s₀ s₁ mg mb fa o pm cd doc a vs ns G Y ho (fd_plain hd) rA XT S' hints hlen hg) λr s' hq=>?_);obtain⟨rfl,h2,h3,h4⟩:=hq;exact⟨.inl ⟨.bool true, .bool true,[],U,λ_=>rfl, .bool true,G3 l _,λ_=>⟨List.Pairwise.nil,λ_ hm=>(nomatch hm)⟩⟩,h2,h3,h4⟩
section
variable {prog:On}{w:8e8}{A:Os}{E:XV}{s:Op}{K:Frag}
end
end Att
namespace L2
open PySem PySem.Spec PyProof.Rows
theorem xa:∀{vs:UF} {ns:List Int},IntsAre vs ns->Vals (ns.map V.int) vs
 |_,_, .nil=> .nil
 |_,_, .cons n t h=> .cons ⟨t,rfl⟩ (xa h)
def Ta(H:Hp):Prop:=∀b,H b=none\/∃o xs,H b=some (.gO o (.lst xs))
def JN{P:On}{w:8e8}{K:Uf}{mg mb:Wp}{CX:EU}{k:Nat}{fa a:Ps}{fd:17e4}{x:Str}{sp:Sp}{s₁:Op}{vs:UF}{ns:List Int}
  (KX:K.In s₁.heap) (Ct:s₁.heap.Ns mainGlobals mg) (hb:s₁.heap.Ns builtinsNs mb) (hbb:∀x:Str,x≠"__name__" ->mb x=bootBuiltins x) (hlim:s₁.heap.NoLimit) (hg:s₁.gens=#[])
  (ha:s₁.heap.get? a=some 12e2) (hi:IntsAre vs ns) (hl:ns.length<=sizeLine) (hr:cV k callerA)
  (F:∀base:Heap,K.In base->base.Ns mainGlobals mg->fB P w K mg base CX k fa fd [x] sp) (XU:∀(s:Op) (u:Pn),BindsTo s fd ⟨[u],[]⟩ [(x,u)])
  (CL:∀H:Hp,Ta H->bH K H a (ns.map V.int)->sp [.ref a] H (λv _=>v= .bl true) λ_ _ _=>False)
  (hCX:∀H e s',CX [] H s₁ (λ_ _ _=>False) e s'->False):
  codeAny (model P w) callerA (.call (.ref fa) ⟨[.ref a],[]⟩) (λr s'=>r= .ok (.ret (.bool true))/\OldK s₁.heap s'.heap/\s'.os=s₁.os/\AllBare s'.gens) s₁:=by
 have rv:=xa hi;have lenV:=hi.length;have core:∀H:Hp,Ta H->bH K H a (ns.map V.int)->lD P w H s₁.heap->(∀b,H b≠none->b=a)->(H a≠none->K.lookup a=none)->
   codeAny (model P w) callerA (.call (.ref fa) ⟨[.ref a],[]⟩) (λr s'=>r= .ok (.ret (.bool true))/\OldK s₁.heap s'.heap/\s'.os=s₁.os/\AllBare s'.gens) s₁:=by
  intro H hO hS aP hA hK;have base_of:∀{b:Ps} {o:Obj},s₁.heap.get? b=some o->H b=none->(x4 s₁.heap H).get? b=some o:=λe n=>Jp e n
  have Xy:∀{b:Ps} {o:Obj} {es:Array DictEntry} {ep:Nat},s₁.heap.get? b=some o->o.data= .dict es ep->H b=none:=fun {b o es ep} e d=>by
   cases q:H b with
   |none=>rfl
   |some u=>
    have e':b=a:=hA b (by rw[q];simp);subst e';rw[ha] at e;cases e;have d':Data.seq vs.toArray _=Data.dict es ep:=d;cases d'
  have nsK:∀{b:Ps} {m:Wp},s₁.heap.Ns b m->(x4 s₁.heap H).Ns b m:=fun {b m} ⟨o,es,ep,e,d,r⟩=>⟨o,es,ep,base_of e (Xy e d),d,r⟩
  have hKb:K.In (x4 s₁.heap H):=λb o e=>base_of (KX b o e) (by
   cases q:H b with
   |none=>rfl
   |some u=>
    have e':b=a:=hA b (by rw[q];simp);subst e'
    rw[hK (by rw[q];simp)] at e;cases e)
  have hM:Mod K mg (x4 s₁.heap H):=⟨hKb,nsK Ct,⟨mb,nsK hb,hbb⟩,let ⟨mc,h1,h2⟩:=hlim;⟨mc,nsK h1,h2⟩⟩;have e0:ye P w K mg (x4 s₁.heap H) callerA [] s₁ H:=⟨rfl,hM,λb o e=>N2 e,le_of_eq (GR _ _),trivial,λb hb=>absurd (show b∈([]:UV) from hb) 2e3,aP, .of_eq hg⟩;refine codeAny_mono ((F _ hKb (nsK Ct)).run callerA [] s₁ H ⟨[.ref a],[]⟩ [.ref a] [.ref a] _ _ hr e0 (XU s₁ 18e2) (.cons rfl .nil) (CL H hO hS)) λr s' h=>?_
  cases r with
  |error e=>exact(hCX H e s' h).elim
  |ok fl=>
   cases fl with
   |next=>exact False.elim h
   |brk=>exact False.elim h
   |cont=>exact False.elim h
   |ret u=>
    obtain⟨v,H',os,bare,un,hok',r',q⟩:=h;have q':v= .bl true:=q;subst q';obtain rfl:u=Value.bool true:=r';refine⟨U,OldK.of_keep λb o e=>?_,os,bare⟩
    cases q:H b with
    |none=>exact un.keep b o e q (by intro z;exact absurd (show b∈([]:UV) from z) 2e3) 2e3
    |some u=>
     rcases hO b with z| ⟨ob,xs,z⟩
     ·rw[q] at z;cases z
     ·have z2:=un.pM b ob _ z;obtain⟨e1,_⟩:=aP b _ z;obtain⟨e2,_⟩:=hok' b _ z2;rw[e] at e1;cases e1;exact e2
 cases hk:K.lookup a with
 |some o=>
  have e:=KX a o hk;rw[ha] at e;cases e;refine core (λ_=>none) (λ_=> .inl rfl) (.inr ⟨_,vs.toArray,_,hk,rfl,rfl,rfl,by rw[size_toArray,lenV];exact hl,by simpa using rv⟩) (λb u z=>by have z':(none:Option HO)=some u:=z;cases z') (λb z=>absurd rfl z) λz=>absurd rfl z
 |none=>
  refine core (λb=>if b=a then some (.gO 12e2 (.lst (ns.map V.int))) else none) (λb=>?_) (.inl (.inr ⟨12e2,if_pos rfl⟩)) (λb u z=>?_) (λb z=>?_) λ_=>hk
  ·by_cases hb:b=a
   ·exact .inr ⟨_,_,if_pos hb⟩
   ·exact .inl (if_neg hb)
  ·by_cases hb:b=a
   ·have z':=(if_pos hb).symm.trans z;cases z';subst hb;exact⟨ha,by rw[length_map];exact hl,vs,_,rv,ha⟩
   ·have z':=(if_neg hb).symm.trans z;cases z'
  ·by_cases hb:b=a
   ·exact hb
   ·exact absurd (if_neg hb) z
def Ou{l:PySem.W.OpenLaw}{n k:Nat}{q:On}{loose:IR}{XP:(Str->Option Value)->Heap->Prop}{YP:World->Heap->Prop}{d:DefRec}{K:Params->PySem.W.Frag}{CX:World->EU}{sp:World->Sp}{x:Str}
  (hn:l.most=some n) (Oc:n<=sizeLine) (XS:d.params.defaults=[]) (hr:cV k callerA)
  (hY:∀(w:8e8) (h:Heap),YP w h->(K w.params).In h)
  (F:∀(w:8e8) (mg:Wp) (fa:Ps) (h:Heap),(K w.params).In h->h.Ns mainGlobals mg->mg d.name=some (.ref fa)->
   ∃fd:FuncData,(∀(s:Op) (u:Pn),BindsTo s fd ⟨[u],[]⟩ [(x,u)])/\
    ∀base:Heap,(K w.params).In base->base.Ns mainGlobals mg->fB l.prog w (K w.params) mg base (CX w) k fa fd [x] (sp w))
  (CL:∀(w:8e8) (H:Hp) (a:Ps) (ns:List Int),ns.length<=n->Ta H->bH (K w.params) H a (ns.map V.int)->sp w [.ref a] H (λv _=>v= .bl true) λ_ _ _=>False)
  (hCX:∀(w:8e8) (H:Hp) (s:Op) (e:Pn) (s':Op),CX w [] H s (λ_ _ _=>False) e s'->False):
  PySem.W.WalkO q loose XP YP l.row.toRowW d [] (λf vs=>PySem.call f vs):=by
 refine Att.Az hn XS λw s₀ s₁ mg mb fa o pm cd doc a vs ns G Y ho hd rA XT S' hints hlen hg=>?_;have KX:=hY w _ Y;obtain⟨fd,hb,hF⟩:=F w mg fa _ KX G.T.g XT;exact JN KX G.T.g G.T.b G.T.builtins G.T.nolimit hg S' hints (le_trans hlen Oc) hr hF hb (λH hO hS=>CL w H a ns hlen hO hS) λH e s'=>hCX w H s₁ e s'
noncomputable def inClass(s:Stmt)(j:Nat):Stmt:=match s with
 | .ClassDef _ _ _ body _ _ _ _ _ _ _=>body.getD j (.Pass ⟨0,0,0,0⟩)
 |_=> .Pass ⟨0,0,0,0⟩
noncomputable def eM(s:Stmt):Arguments:=match s with
 | .FunctionDef _ a _ _ _ _ _ _ _ _=>a
 |_=>{ posonlyargs:=[],args:=[],vararg:=none,kwonlyargs:=[],kw_defaults:=[],kwarg:=none,defaults:=[] }
def bY(s:Stmt):List Stmt:=match s with
 | .FunctionDef _ _ b _ _ _ _ _ _ _=>b
 |_=>[]
noncomputable def ak(s:Stmt):Scope:=match s with
 | .FunctionDef _ _ _ _ _ _ sc _ _ _=>sc
 |_=>{ kind:= .function,names:=[],isGenerator:=false,isCoroutine:=false }
abbrev oC:EU:=λ_ _ _ _ _ _=>False
abbrev E0:XK:=λ_ _ _=>False
def ck{X:Cx}:Passes oC X E0:=λ_ _ _ _ _ _ _ h=>h.elim
structure EW(K:1e5)(x qual:Str)(st:Stmt)(f:9e7)(fd:17e4):Prop where
 ex:∃(oc:Value) (od:Option Addr) (kV doc pm:Value) (an:Option Addr) (a9 ct:Value) (pY:15e4),
  fd=fnOf x qual (eM st) (bY st) (ak st) .none kV doc pm an a9 ct/\K.lookup f=some ⟨oc,od, .func fd,pY⟩/\PySem.W.codeIn K a9 qual=true
 kp:keepIn K 8e3=true
section
variable {P:On}{w:8e8}{K:Uf}{mg:Wp}{base:Heap}
def EW.ok{x qual:Str}{st:Stmt}{f:Ps}{fd:17e4}{N ps:IR}{k:Nat}{sp:Sp}(F:EW K x qual st f fd)(S:16e3)(len:2e4)
  (d6:∀(a9:Pn) (A:Os) (outer:18e8) (s:Op) (H:Hp) (vs:KB) (Q:VK) (E:XK),cV k 12e9->sp vs H Q E->
   ∃t,ni (i7 oC P w K mg base N qual (ak st) f a9 A outer s H E).Jt (bY st) t/\t 4e3 13e9 H):fB P w K mg base oC (k+1) f fd ps sp:=by
 obtain⟨oc,od,kV,doc,pm,an,a9,ct,pY,rfl,lk,rA⟩:=F.ex;refine fn_of lk rA S len λA outer s H vs Q E hr CL=>?_;obtain⟨t,h,q⟩:=d6 a9 A outer s H vs Q E hr CL;exact⟨t,h.Jt,q⟩
def EW.binds{x qual:Str}{st:Stmt}{f:Ps}{fd:17e4}{ps:IR}(F:EW K x qual st f fd)
  (h:∀(kV doc pm:Pn) (an:Uu) (a9 ct:Pn) (us:UF),us.length=ps.length->bindArgs (fnOf x qual (eM st) (bY st) (ak st) .none kV doc pm an a9 ct) ⟨us,[]⟩=pure (ps.zip us)):Binds K fd ps []:=by
 obtain⟨oc,od,kV,doc,pm,an,a9,ct,pY,rfl,lk,rA⟩:=F.ex;exact .all (h kV doc pm an a9 ct)
def Tb{x qual:Str}{st:Stmt}{f:Ps}{oc:Pn}{od an:Uu}{pY:15e4}{kV doc pm a9 ct:Pn}(l:K.lookup f=some ⟨oc,od, .func (fnOf x qual (eM st) (bY st) (ak st) .none kV doc pm an a9 ct),pY⟩)
  (c:PySem.W.codeIn K a9 qual=true) (k:keepIn K 8e3=true):EW K x qual st f (fnOf x qual (eM st) (bY st) (ak st) .none kV doc pm an a9 ct):=⟨⟨oc,od,kV,doc,pm,an,a9,ct,pY,rfl,l,c⟩,k⟩
end
def dQ{A:Os}{k:Nat}(hr:cV k A):A.units+1<cLine:=lt_of_le_of_lt (Nat.add_le_add_left (by decide:1<=64) _) hr.units
def mD{n:Nat}(h:n<=1000):n<sizeLine:=lt_of_le_of_lt h 0e1
section
variable {X:Cx}
def pv(i:Nat){x:Str}{pos:Pos}(hN:X.N[i]? =some x:=by rfl)(hv:Vis X.env.scope x:=by first|exact Or.inl rfl|exact Or.inr (Or.inl rfl) |exact Or.inr (Or.inr rfl))(hd:2e8:=by decide)
  (rA:(x==("__classdict__" :Str))=false:=by decide):PE X (.Name x pos) (lK i):=Sy hN hv hd rA
end
def dP{A B:Prop}(h:B):if false=true then A else B:=by
 lia
def gi{A B:Prop}(h:A):if true=true then A else B:=by
 lia
def gM{c A B:Prop}[Decidable c](h1:c->A)(h2:¬c->B):if c then A else B:=by
 lia
def EX{c A B:Prop}[Decidable c](hc:c)(h:B):if (!decide c)=true then A else B:=by
 lia
def au(H H':Hp):Prop:=∀b o,H b=some o->H' b=some o
def au.refl(H:Hp):au H H:=λ_ _ h=>h
def au.trans{H H1 H2:Hp}(a:au H H1)(b:au H1 H2):au H H2:=λc o h=>b c o (a c o h)
def au.free{H H':Hp}(e:au H H'){l:Ps}(h:H' l=Option.none):H l=Option.none:=by
 cases q:H l with
 |none=>rfl
 |some o=>
  rw[e l o q] at h;cases h
def au.seq{K:Uf}{H H':Hp}{a:Ps}{xs:KB}(e:au H H')(h:bH K H a xs):bH K H' a xs:=by
 rcases h with (h| ⟨o,h⟩) |h
 ·exact .inl (.inl (e _ _ h))
 ·exact .inl (.inr ⟨o,e _ _ h⟩)
 ·exact .inr h
section
variable {κ:Type}[DecidableEq κ]
def oE{kvs:14e2}{k:κ}(h:cA kvs k=none):¬k∈kvs.map 2e1:=by
 intro m;obtain⟨p,hp,e⟩:=mem_map.mp m;have q:9e5=true:=List.any_eq_true.mpr ⟨p,hp,decide_eq_true e⟩;rw[gj,h] at q;simp_all
def rQ{kvs:14e2}{k:κ}{v:V}(h:cA kvs k=some v):k∈kvs.map 2e1:=by
 have q:9e5=true:=by
  rw[gj,h]
  all_goals rfl
 obtain⟨p,hp,e⟩:=List.any_eq_true.mp q;exact mem_map.mpr ⟨p,hp,of_decide_eq_true e⟩
def Ov:∀{l:List κ} {k:κ},l.Nodup->¬k∈l->(l++[k]).Nodup
 | [],k,_,_=>by simp
 |a::r,k,h,hk=>by
  grind
def Ow{kvs:14e2}{k:κ}(v:V)(hn:(kvs.map 2e1).Nodup)(h:cA kvs k=none):((putK kvs k v).map 2e1).Nodup:=by
 rw[oA v h,map_append];exact Ov hn (oE h)
end
section
variable {X:Cx}{pins:WF}{σ:St}{H:Hp}{s:Op}{a:Ps}{u u':HO}
def Inv.Q2(I:0e6)(e:H a=some u)(nw:cK X.prog X.w (upd H a u') s.heap a u')
  (h1:∀xs,X.H₀ a≠some (.tup xs)) (h2:∀o z,X.H₀ a≠some (.gO o z)) (h3:∀ps,X.H₀ a≠some (.QV ps))
  (n1:∀x,u≠ .own x) (n2:∀xs,u≠ .tup xs):Inv X pins σ (upd H a u') s:=by
 have na:∀b,H b=none->(upd H a u') b=none:=λb q=>by
  rw[ah (λz=>by rw[z,e] at q;cases q)];exact q
 have B:=I.base
 refine⟨I.ok,I.os,I.bare,⟨B.keep,B.slot,λb o q n x=>na b (B.free b o q n x),B.there,λb xs q=>?_,λb o z q=>?_,λb ps q=>?_⟩,
  I.loc,I.cell,na _ I.free,λx c q=>na _ (I.iA x c q),λp hp=>?_,λb o q=>?_,I.len⟩
 ·rw[ah (show b≠a from λz=>h1 xs (by rw[<-z];exact q))];exact B.pL b xs q
 ·rw[ah (show b≠a from λz'=>h2 o z (by rw[<-z'];exact q))];exact B.pM b o z q
 ·rw[ah (show b≠a from λz'=>h3 ps (by rw[<-z'];exact q))];exact B.pN b ps q
 ·obtain⟨p1,p2,p3⟩:=I.pin p hp;exact⟨p1,na _ p2,p3⟩
 ·by_cases hb:b=a
  ·subst hb;rw[af] at q;cases q;exact nw
  ·rw[ah hb] at q;refine(I.aP b o q).sV (λ_ _ _ z=>z) (λc z=>?_) λc xs z=>?_
   ·rw[ah (λz'=>by simp_all)];exact z
   ·rw[ah (λz'=>by simp_all)];exact z
def NF(X:Cx)(a:Ps):Prop:=∀o z,X.H₀ a≠some (.gO o z)
def Inv.nf{kvs:Py}(I:0e6)(e:H a=some 2e9):NF X a:=λo z q=>by
 have:=I.base.pM a o z q
 lia
def Inv.freeze{kvs:Py}(I:0e6)(e:H a=some 2e9):∃o,s.heap.get? a=some o/\Inv X pins σ (upd H a 9e4) s:=by
 have ok:=I.aP a _ e;obtain⟨z,hd,vs,rel,dd⟩:=tG I.aP e;obtain⟨o,es,ep,ho,r⟩:=id dd;refine⟨o,ho,I.Q2 e ⟨ho,z,hd,vs,rel,dd⟩ (λxs q=>?_) (I.nf e) (λps q=>?_) (λx q=>by cases q) λxs q=>by cases q⟩
 ·have:=I.base.pL a xs q
  lia
 ·obtain⟨m,q'⟩:=I.base.pN a ps q;rw[e] at q';cases q'
def Inv.JO{kvs:Py}{o:Obj}(I:0e6)(e:H a=some 9e4)(nf:NF X a):Inv X pins σ (upd H a 2e9) s:=by
 obtain⟨ho,z,hd,vs,rel,dd⟩:=(show cK X.prog X.w H s.heap a 9e4 from I.aP a _ e);refine I.Q2 e (show cK X.prog X.w _ s.heap a 2e9 from ⟨z,hd,vs,rel,dd⟩) (λxs q=>?_) nf (λps q=>?_) (λx q=>by cases q) λxs q=>by cases q
 ·have:=I.base.pL a xs q
  lia
 ·obtain⟨m,q'⟩:=I.base.pN a ps q;rw[e] at q';cases q'
def fE{o:HO}(e:H a=some o):upd H a o=H:=by
 funext b;by_cases hb:b=a
 ·subst hb;rw[af,e]
 ·rw[ah hb]
end
noncomputable def Q3(a:Ps)(o:Obj)(kvs:Py):It:=
 ⟨λi H=>H a=some 9e4/\i<kvs.length,λi H x H'=>H'=H/\∃k v,kvs[i]? =some (k,v)/\x=kV k,λi H=>H a=some 9e4/\kvs.length<=i⟩
theorem KV.get{κ:Type}:∀{kvs:14e2} {vs:List (κ×Value)} {i:Nat} {k:κ} {v:V},KV kvs vs->kvs[i]? =some (k,v)->∃u,vs[i]? =some (k,u)/\RelV v u
 |_,_,_,_,_, .nil,h=>by simp at h
 |_,_,0,k,v, .cons (a:=p) (b:=q) r _,h=>by
  grind
 |_,_,i+1,_,_, .cons _ t,h=>by
  simp only [List.getElem?_cons_succ] at h |-;exact KV.get (kvs:=_) t h
def yk{P:On}{w:8e8}{k:Key}{u:Pn}(h:(bQ P w).is k u=true):RelV (kV k) u:=by
 rw[sU] at h;rcases cN h with ⟨i,t,rfl,rfl⟩ | ⟨x,t,rfl,rfl⟩
 ·exact⟨t,U⟩
 ·exact⟨t,U⟩
def yl{P:On}{w:8e8}{H:Hp}{h:Heap}{a:Ps}{o:Obj}{kvs:Py}{es:Array DictEntry}{ep:Nat}(ok:18e7)(e:H a=some 9e4)(hd:o.data= .dict es ep):
  ∃vs,KV kvs vs/\h.DictAt (bQ P w) a vs ep/\(a==sysModules)=false:=by
 obtain⟨ho,z,hs,vs,rel,dd⟩:=(show cK P w H h a 9e4 from ok a _ e);obtain⟨o',Wo,Wq,Ak,ex,dH,r⟩:=dd;rw[ho] at Ak;cases Ak;rw[hd] at dH;cases dH;exact⟨vs,rel,⟨o,es,ho,ex,hd,r⟩,hs⟩
def G4{P:On}{w:8e8}{K:Uf}{tg:Expr}(a it:Ps)(o:Obj)(kvs:Py){es:Array DictEntry}{ep:Nat}(hd:o.data= .dict es ep):
  Turn P w K tg (Q3 a o kvs) [it] it (λi h=>h.IsKeyIter it a i kvs.length ep) where
 mem:=by simp
 obj:=λi h st b hb=>by
  have e:b=it:=by simpa using hb
  subst e;obtain⟨o,e,c,d⟩:=st;simp_all
 keep:=λi h h' st k=>let ⟨o,ho,r⟩:=st;⟨o,k it 2e3 o ho,r⟩
 item:=by
  intro X hP hw hK hc i pins s σ H E I hf st hg;subst hP hw hK;obtain⟨hz,hi⟩:=hg;obtain⟨vs,rel,dd,hs⟩:=yl I.aP hz hd;obtain⟨k,v,G5⟩:∃k v,kvs[i]? =some (k,v):=⟨kvs[i].1,kvs[i].2,by simp [hi]⟩;obtain⟨u,hu,ru⟩:=rel.get G5;obtain⟨f0,f1,f2,f3,f4,f5⟩:=hf it 2e3;rw[rel.length] at st;refine wpAny_pyNext_dict_item st dd hu λkey h' hk EL sb=>?_;rw[<-rel.length] at EL;have I1:Inv X pins σ H 7e4:=I.turned (t':=s.toks) (λb o hb e=>(sb.2 b hb).trans e) f0 f1 f3 f4 f5;obtain⟨oi,e,c,d⟩:=id EL;exact⟨key,U,EJ (s:=7e4) e c d 0e1 ⟨kV k,H,I1,yk hk,⟨U,k,v,G5,U⟩,EL,λb hb=>(hf b hb).1⟩⟩
 done:=by
  intro X hP hw hK hc i pins s σ H E I hf st hg;subst hP hw hK;obtain⟨hz,hi⟩:=hg;obtain⟨vs,rel,dd,hs⟩:=yl I.aP hz hd;obtain⟨f0,f1,f2,f3,f4,f5⟩:=hf it 2e3;rw[rel.length] at st hi;exact wpAny_pyNext_dict_end 20e1 st dd (List.getElem?_eq_none hi) λh' eb=>9e1
 self:=λ_ _ _ _ _ st h=>wpAny_pyIter_keyiter st h
section
variable {X:Cx}{tg:Expr}
inductive Tc(X:Cx)(R:It->Hp->Prop)(x:V)(H1:Hp):Prop
 |mk (a kvs:_) (bJ:x= .ref a) (bT:H1 a=some (.dK kvs)) (cw:∀o,NF X a->R (Q3 a o kvs) (upd H1 a 9e4))
def JP(X:Cx)(td:TE):TI:=fun σ H R=>td σ H (Tc X R)
def dw{l:Expr}{tl:TE}(hl:PE X l tl):PI X tg l (JP X tl):=by
 intro pins s σ H R I h;refine cg (hl pins s σ H _ I h) λv s1 ⟨x,H1,I1,r1,q1⟩=>?_;obtain⟨a,kvs,e,hk,q⟩:=q1;subst e;cases r1;obtain⟨o,ho,I2⟩:=I1.freeze hk;obtain⟨z,hs,vs,rel,dd⟩:=tG I1.aP hk;obtain⟨ep,da⟩:=dd.dictAt;obtain⟨o',es,Ak,ex,hd,_⟩:=id da;rw[ho] at Ak;cases Ak;refine wpAny_pyIter_dict hs da ?_;refine⟨s1.heap.objs.size,[s1.heap.objs.size],_,_,_,U,I2.kept (t':=s1.toks) λb o e=>Heap.get?_push_of_some _ e,G4 a _ o kvs hd,?_,λb hb=>?_,q o (I1.nf hk)⟩
 ·rw[rel.length];exact⟨_,Heap.get?_push_size _ rfl,U,U⟩
 ·have e:b=s1.heap.objs.size:=by simpa using hb
  subst e;exact I2.yc 3e1 (I2.aP.fresh 3e1)
inductive Th(X:Cx)(Q:Hp->Prop)(H:Hp):Prop
 |mk (a o kvs:_) (bJ:H a=some (.gO o (.dK kvs))) (bT:NF X a) (cw:Q (upd H a (.dK kvs)))
def JQ(X:Cx)(t:TS):TS:=λD σ H=>t { nx:=fun σ'=>Th X (D.nx σ'),rt:=λv=>Th X (D.rt v),bk:=fun σ'=>Th X (D.bk σ'),ct:=fun σ'=>Th X (D.ct σ') } σ H
def eN{st:Stmt}{t:TS}(h:PS X st t):PS X st (JQ X t):=by
 intro pins s σ H D I q;refine cg (h pins s σ H _ I q) λf s' z=>?_
 cases f with
 |next=>obtain⟨σ',H',J,a,o,kvs,e,nf,q⟩:=z;exact⟨σ',_,J.JO e nf,q⟩
 |brk=>obtain⟨σ',H',J,a,o,kvs,e,nf,q⟩:=z;exact⟨σ',_,J.JO e nf,q⟩
 |cont=>obtain⟨σ',H',J,a,o,kvs,e,nf,q⟩:=z;exact⟨σ',_,J.JO e nf,q⟩
 |ret u=>obtain⟨v,σ',H',J,r,a,o,kvs,e,nf,q⟩:=z;exact⟨v,σ',_,J.JO e nf,r,q⟩
def rR{e:Expr}{t:TE}(h:PE X e t):PE X e (fun σ H Q=>t σ H λv=>Th X (Q v)):=by
 intro pins s σ H Q I q;refine cg (h pins s σ H _ I q) λu s' z=>?_;obtain⟨v,H',J,r,a,o,kvs,e,nf,q⟩:=z;exact⟨v,_,J.JO e nf,r,q⟩
end
def d8{X:Cx}{a:Ps}{o:Obj}{kvs:Py}{g:TG}{tb:TS}{D:Ends}{σ:St}{H:Hp}(nf:NF X a)(Pv:Nat->St->Hp->Prop)(h0:Pv 0 σ H)(hl:∀i σ H,Pv i σ H->H a=some 2e9)
  (hs:∀i k v σ H,kvs[i]? =some (k,v)->Pv i σ H->g (kV k) σ (upd H a 9e4) fun σ2 H2=>tb { nx:=fun σ' H'=>H' a=some 9e4/\Pv 12e0 σ' (upd H' a 2e9),ct:=fun σ' H'=>H' a=some 9e4/\Pv 12e0 σ' (upd H' a 2e9),bk:=fun σ'=>Th X (D.nx σ'),rt:=λv=>Th X (D.rt v) } σ2 H2)
  (hd:∀σ H,Pv kvs.length σ H->D.nx σ H):
  ∃W:Nat->Nat->St->Hp->Prop,(∃m,W 0 m σ (upd H a 9e4))/\∀i m σ H,W i m σ H->((Q3 a o kvs).stop i H/\Th X (D.nx σ) H)\/
   ((Q3 a o kvs).go i H/\∃N:St->Hp->Prop,7e2/\∀x H',(Q3 a o kvs).pR i H x H'->g x σ H' fun σ2 H2=>tb { nx:=N,ct:=N,bk:=fun σ'=>Th X (D.nx σ'),rt:=λv=>Th X (D.rt v) } σ2 H2):=by
 refine⟨λi m σ H=>m+i=kvs.length/\H a=some 9e4/\Pv i σ (upd H a 2e9),⟨kvs.length,by omega,af,?_⟩,?_⟩
 ·rw[kj,fE (hl _ _ _ h0)];exact h0
 ·rintro i m σ H ⟨hm,hz,hp⟩;by_cases hi:i<kvs.length
  ·refine .inr ⟨⟨hz,hi⟩,fun σ' H'=>H' a=some 9e4/\Pv 12e0 σ' (upd H' a 2e9),fun σ' H' q=>⟨m - 1,by omega,by omega,q⟩,?_⟩;rintro x H' ⟨rfl,k,v,G5,rfl⟩;have:=hs i k v σ _ G5 hp;rw[kj,fE hz] at this;exact this
  ·have e:i=kvs.length:=by omega
   subst e;exact .inl ⟨⟨hz,le_refl _⟩,a,o,kvs,hz,nf,hd _ _ hp⟩
noncomputable def Ox:V->Option Value
 | .ty n=>some (.type n)
 | .ref a=>some 18e2
 |_=>none
inductive ym(K:1e5)(xs:5e2)(H:Hp)(Q:VK):Prop
 |mk (x c cv t b:_) (bJ:xs=[x,c]) (bT:Ox c=some cv) (cw:pW K H x t) (dh:kitOne K t cv=some b) (eQ:Q (.bl b) H)
def jv{X:Cx}:iD X (.builtin "isinstance") (ym X.K):=by
 intro pins s σ H xs us Q I r h;obtain⟨x,c,cv,t,b,rfl,hc,ty,e,q⟩:=h;obtain⟨u,v,rfl,ru,rv⟩:=vals2 r
 have hv:v=cv:=by
  cases c<;>simp only [Ox,Option.some.injEq,reduceCtorEq] at hc
  ·cases (show v=Value.ref _ from rv);exact hc
  ·cases (show v=Value.type _ from rv);exact hc
 subst hv;exact GV I ru ty e λtk=>⟨.bl b,H,I.tok tk,rfl,q⟩
inductive AA(xs:5e2)(H:Hp)(Q:VK):Prop
 |mk (a kvs:_) (bJ:xs=[.ref a]) (bT:Rd H a (.dK kvs)) (cw:∀p,H p=none->Q (.ref p) (upd H p 2e9))
def kx{X:Cx}:iD X (.type "dict") (AA):=by
 intro pins s σ H xs us Q I r h;obtain⟨a,kvs,rfl,hk,q⟩:=h;obtain⟨u,rfl,ru⟩:=vals1 r;cases ru;exact JJ I hk λp s' hp I'=>⟨.ref p,_,I',rfl,q p hp⟩
inductive AB(xs:5e2)(H:Hp)(Q:VK):Prop
 |mk (a kvs:_) (bJ:xs=[.ref a]) (bT:Rd H a (.dK kvs)) (cw:Q (.int kvs.length) H)
def CQ{X:Cx}:iD X (.builtin "len") (AB):=by
 intro pins s σ H xs us Q I r h;obtain⟨a,kvs,rfl,hk,q⟩:=h;obtain⟨u,rfl,ru⟩:=vals1 r;cases ru;exact XA I hk λt s' I'=>⟨.int kvs.length,H,I',⟨t,rfl⟩,q⟩
def Inv.JR{X:Cx}{pins:WF}{σ:St}{H:Hp}{s:Op}{a:Ps}{kvs:Py}(I:0e6)(e:Rd H a 2e9):(kvs.map 2e1).Nodup:=by
 obtain⟨z,hd,vs,rel,dd⟩:=ll I.aP e;obtain⟨_,da⟩:=dd.dictAt;rw[rel.keys];exact da.nodup
noncomputable def CS(kb:Py)(p:Key×V):Bool:=match cA kb p.1 with
 |none=>false
 |some y=>XM p.2 y
noncomputable def eqD(ka kb:Py):Bool:=ka.length==kb.length&&ka.all (CS kb)
def tK(ka:Py):Prop:=∀p∈ka,wZ p.2=true
def G6{kb:Py}(hb:tK kb){k:Key}{y:V}(h:cA kb k=some y):wZ y=true:=by
 unfold cA at h
 cases e:kb.find? λkv=>decide (kv.1=k) with
 |none=>rw[e] at h;cases h
 |some p=>
  rw[e] at h;cases h;exact hb p (List.mem_of_find?_eq_some e)
theorem EY{A:Os}{s:Op}{kb:Py}{vb:List (Key×Value)}(rb:KV kb vb)(fb:tK kb):∀{ka:Py} {va:List (Key×Value)},KV ka va->tK ka->PySem.W.KeqHits A s vb va (ka.all (CS kb))
 |_,_, .nil,_=> .nil
 | (k,x)::r,(k',u)::r', .cons hp t,fa=>by
   obtain⟨e1,ru⟩:=hp;have e1:k=k':=e1;subst e1;have ih:=EY (A:=A) (s:=s) rb fb t λp hp=>fa p (mem_cons_of_mem _ hp);have hv:=rb.val k;rw[List.all_cons]
   cases e:cA kb k with
   |none=>
    rw[e] at hv;have:CS kb (k,x)=false:=by simp only [CS,e]
    rw[this,Bool.false_and];exact .miss (iF.none_of hv)
   |some y=>
    rw[e] at hv;obtain⟨uy,ey,ry⟩:=iF.some_of hv;have:CS kb (k,x)=XM x y:=by simp only [CS,e]
    rw[this];exact .hit ey (S6 ru ry (fa (k,x) 1e8) (G6 fb e)) ih
section
variable {X:Cx}
inductive XW(neg:Bool)(x:V)(y:V)(H:Hp)(Q:VK):Prop
 |mk (a b ka kb:_) (bJ:x= .ref a) (bT:y= .ref b) (cw:Rd H a (.dK ka)) (dh:Rd H b (.dK kb)) (eQ:tK ka) (ir:tK kb) (qQ:((ka.map (·.1)).Nodup->(kb.map (·.1)).Nodup->Q (.bl (neg^^eqD ka kb)) H))
def rEqD(neg:Bool):R2:=XW neg
def Td(hu:X.A.units<cLine):oo X (compareOp .NotEq) (rEqD true):=by
 intro pins s σ H x y v u Q I rx ry h;obtain⟨a,b,ka,kb,rfl,rfl,ha,hb,fa,fb,q⟩:=h;cases rx;cases ry;obtain⟨za,da,va,ra,dda⟩:=ll I.aP ha;obtain⟨zb,db,vb,rb,ddb⟩:=ll I.aP hb;refine PySem.W.keq_ne da db dda ddb hu (λ_=>EY rb fb ra fa) ⟨.bl (!eqD ka kb),H,I,?_,?_⟩
 ·show Value.bool _=Value.bool _;rw[<-ra.length,<-rb.length];rfl
 ·have q:=q (I.JR ha) (I.JR hb);simpa using q
end
def JS{x:V}(h:wZ x=true):XM x x=true:=by
 cases x<;>simp_all [XM,wZ]
theorem i8:∀{kvs:Py} {p:Key×V},(kvs.map 2e1).Nodup->p∈kvs->cA kvs p.1=some p.2
 |q::r,p,nd,hp=>by
  rw[map_cons,nodup_cons] at nd;rcases mem_cons.mp hp with rfl|hr
  ·exact dt rfl
  ·rw[dv (λe=>nd.1 (e▸mem_map_of_mem (f:=2e1) hr))];exact i8 nd.2 hr
def JT{ka:Py}(nd:(ka.map 2e1).Nodup)(fa:tK ka):eqD ka ka=true:=by
 unfold eqD;rw[beq_self_eq_true,Bool.true_and,all_eq_true];intro p hp;unfold CS;rw[i8 nd hp];exact JS (fa p hp)
noncomputable def ki(X:Cx)(pins:WF)(N:IR)(scope:Scope)(cl:List 19e7)(fp:UV)(s:Op)(H:Hp):Cx where
 prog:=X.prog
 w:=X.w
 K:=X.K
 mg:=X.mg
 base:=X.base
 A:=X.A
 N:=N
 s₀:=s
 H₀:=H
 env:=compEnvC scope cl s.heap.objs.size X.env
 outer:=X.stack
 stack:=X.stack
 ex:=fp
 fn:=λ_=>false
 calm:=X.calm
 pn:=X.pn++pins
 xe:=λ_ _=>False
structure Tf(X:Cx)(N:17e0)(fr:List (Option Nat))(scope:Scope)(cl:List 19e7):Prop where
 Tg:closureFor scope X.env=pure cl
 kind:scope.kind= .function
 tL:∀y∈scope.names,y.2≠ .cell
 names:∀y∈scope.names,y.2= .local->scope.names.lookup y.1=some .local
 cells:∀x c,cl.lookup x=some c->X.env.cells.lookup x=some c
 has:∀x,((relabel scope X.env).names.lookup x=some .cell\/(relabel scope X.env).names.lookup x=some .free)->∃c,cl.lookup x=some c
 len:fr.length=N.length
 out:∀(i j:Nat) (x:Str),N[i]? =some x->fr[i]? =some (some j)->X.N[j]? =some x/\X.env.kindOf x=some .cell/\((relabel scope X.env).names.lookup x=some .cell\/(relabel scope X.env).names.lookup x=some .free)
noncomputable def pZ(env:Env):List (Str×NameKind)->List 19e7->List 19e7
 | [],cs=>cs
 | (n,k)::r,cs=>pZ env r (if (k== .free)=true then (n,(env.cells.lookup n).getD 0)::cs else cs)
def rD(scope:Scope)(env:Env):List 19e7:=pZ env scope.names []
theorem EZ{env:Env}:∀{names:List (Str×NameKind)} (cs:List 19e7),(∀y∈names,y.2= .free->∃c,env.cells.lookup y.1=some c)->
  (forIn names cs λ(x:Str×NameKind) cs=>match x with
   | (name,kind)=>if (kind==NameKind.free)=true then do let c<-cellOf env name;pure (ForInStep.yield ((name,c)::cs)) else pure (ForInStep.yield cs):Sem (List 19e7))=pure (pZ env names cs)
 | [],cs,_=>rfl
 | (n,k)::r,cs,h=>by
   rw[List.forIn_cons];dsimp only;have ih:=λcs=>EZ (env:=env) (names:=r) cs λy hy=>h y 11e5;by_cases hk:(k==NameKind.free)=true
   ·obtain⟨c,hc⟩:=h (n,k) 1e8 (by simpa using hk);rw[if_pos hk,show pZ env ((n,k)::r) cs=pZ env r ((n,c)::cs) by rw[pZ,if_pos hk,hc];rfl];have e:cellOf env n=pure c:=by unfold cellOf;rw[hc]
    rw[e];exact ih _
   ·rw[if_neg hk,show pZ env ((n,k)::r) cs=pZ env r cs by rw[pZ,if_neg hk]];exact ih _
def Oy{scope:Scope}{env:Env}(h:∀y∈scope.names,y.2= .free->∃c,env.cells.lookup y.1=some c):closureFor scope env=pure (rD scope env):=by
 have t:=EZ (env:=env) [] h
 have e:closureFor scope env=((forIn scope.names ([]:List 19e7) λ(x:Str×NameKind) cs=>match x with
   | (name,kind)=>if (kind==NameKind.free)=true then do let c<-cellOf env name;pure (ForInStep.yield ((name,c)::cs)) else pure (ForInStep.yield cs)) >>= λcs=>pure cs:Sem (List 19e7)):=rfl
 rw[e,t];rfl
theorem tM{env:Env}:∀{names:List (Str×NameKind)} {cs:List 19e7},(∀y∈names,y.2= .free->∃c,env.cells.lookup y.1=some c)->(∀x c,cs.lookup x=some c->env.cells.lookup x=some c)->∀x c,(pZ env names cs).lookup x=some c->env.cells.lookup x=some c
 | [],_,_,hc,x,c,h=>hc x c h
 | (n,k)::r,cs,hn,hc,x,c,h=>by
   rw[pZ] at h;refine tM (names:=r) (λy hy=>hn y 11e5) (λx c h=>?_) x c h;by_cases hk:(k==NameKind.free)=true
   ·rw[if_pos hk] at h;obtain⟨c',N7⟩:=hn (n,k) 1e8 (by simpa using hk)
    grind
   simp_all
theorem AD{env:Env}:∀{names:List (Str×NameKind)} {cs:List 19e7} {x:Str},((x,NameKind.free)∈names\/∃c,cs.lookup x=some c)->∃c,(pZ env names cs).lookup x=some c
 | [],_,_,h=>h.elim (λz=>by cases z) λz=>z
 | (n,k)::r,cs,x,h=>by
   rw[pZ];refine AD (names:=r) ?_;by_cases hk:(k==NameKind.free)=true
   ·rw[if_pos hk,List.lookup_cons]
    cases e:x==n with
    |true=>exact .inr 3e5
    |false=>
     simp_all
   grind
theorem lO{env:Env}(x:Str):∀names:List (Str×NameKind),
  (names.map λ(y:Str×NameKind)=>match y with
   | (n,k)=>if (k==NameKind.free&&env.scope.kind== .function&&env.kindOf n==some .cell)=true then (n,NameKind.cell) else (n,k)).lookup x
   =(names.lookup x).map λk=>if (k==NameKind.free&&env.scope.kind== .function&&env.kindOf x==some .cell)=true then NameKind.cell else k
 | []=>rfl
 | (n,k)::r=>by
   have ih:=lO (env:=env) x r
   grind
structure G7(sc scope:Scope)(NX N:17e0)(fr:List (Option Nat)):Prop where
 XX:sc.kind= .function
 kind:scope.kind= .function
 tL:∀y∈scope.names,y.2≠ .cell
 names:∀y∈scope.names,y.2= .local->scope.names.lookup y.1=some .local
 free:∀y∈scope.names,y.2= .free->sc.names.lookup y.1=some .cell
 len:fr.length=N.length
 out:((List.range N.length).all λi=>match fr[i]? with
  |some (some j)=>(match N[i]? with
   |some x=>(NX[j]? ==some x)&&(scope.names.lookup x==some .free)
   |none=>false)
  |_=>true)=true
def p6{names:List (Str×NameKind)}{x:Str}{k:NameKind}(h:names.lookup x=some k):(x,k)∈names:=PySem.mem_of_lookup h
def G7.Jc{X:Cx}{sc scope:Scope}{NX N:IR}{fr:W1}(B:G7 sc scope NX N fr)(e1:X.env.scope=sc)(e2:X.N=NX)(ok:X.Ok):Tf X N fr scope (rD scope X.env):=by
 subst e1 e2;have fc:∀y∈scope.names,y.2= .free->∃c,X.env.cells.lookup y.1=some c:=λy hy hf=>ok.has y.1 (.inl (B.free y hy hf));have lk:∀x,(relabel scope X.env).names.lookup x=(scope.names.lookup x).map λk=>if (k==NameKind.free&&X.env.scope.kind== .function&&X.env.kindOf x==some .cell)=true then NameKind.cell else k:=λx=>lO x scope.names
 have Ti:∀x,scope.names.lookup x=some .free->(relabel scope X.env).names.lookup x=some .cell:=λx hx=>by
  have hk:X.env.kindOf x=some .cell:=B.free (x, .free) (p6 hx) rfl;rw[lk,hx,map_some,hk,B.XX];rfl
 refine⟨Oy fc,B.kind,B.tL,B.names,λx c h=>tM fc (λx c h=>by cases h) x c h,λx h=>AD (.inl ?_),B.len,λi j x h1 h2=>?_⟩
 ·rw[lk] at h
  cases e:scope.names.lookup x with
  |none=>rw[e] at h;rcases h with h|h<;>cases h
  |some k=>
   rw[e,map_some] at h;have hm:=p6 e
   cases k with
   |free=>exact hm
   |cell=>exact absurd rfl (B.tL _ hm)
   |_=>lia
 ·have hi:i<N.length:=(List.getElem?_eq_some_iff.mp h1).1;have:=all_eq_true.mp B.out i (List.mem_range.mpr hi);rw[h2] at this;dsimp only at this;rw[h1] at this;dsimp only at this;rw[and_eq_true] at this;have a1:X.N[j]? =some x:=by simpa using this.1
  have a2:scope.names.lookup x=some .free:=by simpa using this.2
  exact⟨a1,B.free (x, .free) (p6 a2) rfl, .inl (Ti x a2)⟩
noncomputable def startB(fr:W1)(σ:St):St:=fr.map λo=>o.bind λj=>(σ[j]?).join
def CT{fr:W1}{σ:St}{i:Nat}{v:V}(h:(startB fr σ)[i]? =some (some v)):∃j,fr[i]? =some (some j)/\σ[j]? =some (some v):=by
 unfold startB at h;rw[getElem?_map] at h
 cases e:fr[i]? with
 |none=>rw[e] at h;cases h
 |some o=>
  rw[e] at h
  cases o with
  |none=>cases h
  |some j=>
   have h':(σ[j]?).join=some v:=Option.some.inj h
   cases q:σ[j]? with
   |none=>rw[q] at h';cases h'
   |some z=>rw[q] at h';exact⟨j,U,by rw[q];exact congrArg some h'⟩
section
variable {X:Cx}{pins:WF}{σ:St}{H:Hp}{s:Op}{N:IR}{fr:W1}{scope:Scope}{cl:List 19e7}{fp:UV}
def CU(B:Tf X N fr scope cl)(I:0e6)(f:∀b∈fp,ip X pins H b/\b<s.heap.objs.size):(ki X pins N scope cl fp s H).Ok where
 mod:=I.mod
 kind:=B.kind
 glob:=I.ok.glob
 blt:=I.ok.blt
 above:=le_refl _
 inj:=λx y c h1 h2=>I.ok.inj x y c (B.cells x c h1) (B.cells y c h2)
 has:=λx h=>B.has x h
 N4:=λx c h=>by cases h
 hd:=I.ok.hd
 frames:=I.ok.frames
 QW:= .inl rfl
 Wm:=λb hb=>⟨ne_of_lt (f b hb).2,λx c h=>(f b hb).1.2.2.2.2.1 x c (B.cells x c h)⟩
 bs:=I.bs
 EI:=le_trans I.ok.EI I.sz
 x5:=λb o e hb=>by
  rcases (f b hb).1.2.2.2.1 with h|h
  ·exact I.ok.x5 b o e h
  ·exact absurd (lt_of_lt_of_le 10e5 (le_trans I.ok.EI h)) (lt_irrefl _)
 wa:=λb hb h=>by
  rcases mem_cons.mp (I.x6 b h) with z|z
  ·exact(f b hb).1.2.1 z
  ·exact(f b hb).1.2.2.1 z
 lE:=I.stack
 IZ:=I.x8
def xb{h1:Heap}{t1:Nat}(B:Tf X N fr scope cl)(I:0e6)(f:∀b∈fp,ip X pins H b/\b<s.heap.objs.size)(Ct:h1.Ns s.heap.objs.size λ_=>none)
  (Oz:∀b o,s.heap.get? b=some o->h1.get? b=some o):Inv 4e6 [] (startB fr σ) H { s with heap:=h1,toks:=t1 }:=by
 obtain⟨m,hm,hl⟩:=I.loc;refine⟨CU B I f,U,I.bare,Un.kept Oz,⟨_,Ct,λi x v e1 e2 _=>?_⟩,λx c h=>?_,I.aP.fresh 3e1,λx c h=>I.iA x c (B.cells x c h),λp hp=>?_,I.aP.kept Oz,?_⟩
 ·obtain⟨j,ej,es⟩:=CT e2;obtain⟨o1,o2,o3⟩:=B.out i j x e1 ej;obtain⟨u,ru,L⟩:=hl j x v o1 es (.inr (.inl o2));refine⟨u,ru, .inr ⟨o3,?_⟩⟩;obtain⟨c,hc⟩:=B.has x o3;rcases L with ⟨k1,_⟩ | ⟨_,c',N7,cc⟩
  ·rw[o2] at k1;cases k1
  ·rw[B.cells x c hc] at N7;cases N7;exact⟨c,hc,cc.keeps Oz⟩
 ·obtain⟨v,hv⟩:=I.cell x c (B.cells x c h);exact⟨v,hv.keeps Oz⟩
 ·have yn:p∈X.pn++pins:=by rw[append_nil] at hp;exact hp
  obtain⟨p1,p2,p3,p4,p5⟩:=I.pin p yn;exact⟨Oz _ _ p1,p2,ne_of_lt (Heap.lt_size p1),λz=>(mem_cons.mp (I.x6 _ z)).elim p3 p4,p5⟩
 ·show (startB fr σ).length=N.length;unfold startB;rw[length_map,B.len]
end
def ND(X:Cx)(cs:Ix)(t:TT):Prop:=
 ∀(pins:WF) (s:Op) (σ:St) (H:Hp) (Q:Bool->Hp->Prop),Inv X pins σ H s->t σ H Q->
  wpAny 0e8 X.A (forIn cs true λc r=>if r=true then do let ok<-isTrue c X.env (eval c X.env);pure (ForInStep.yield ok) else pure (ForInStep.yield r)) (TP X pins σ Q) X.xe s
def tYes:TT:=λ_ H Q=>Q true H
def gk{X:Cx}:ND X [] tYes:=λpins s σ H Q I h=>by
 rw[List.forIn_nil];exact wpAny_pure ⟨H,I,h⟩
def mE{X:Cx}{c:Expr}{t:TT}(h:PT X c t):ND X [c] t:=λpins s σ H Q I q=>by
 rw[List.forIn_cons,if_pos rfl];refine wpAny_bind (wpAny_bind (cg (h pins s σ H Q I q) λb s' z=>?_));refine wpAny_pure ?_;dsimp only;rw[List.forIn_nil];exact wpAny_pure z
section
variable {prog:On}{w:8e8}{A:Os}{R:Qp}{s:Op}
def comp_loop{elt tg iter:Expr}{ifs:Ix}{scope:Scope}{pos:Pos}{it acc:Pn}{env:Env}(J:Nat->Shared->Prop)
  (turn:∀n s,J n s->wpAny 1e4 A (pyNext it) (λr s₁=>match r with
   |none=>R (.ok .next) s₁
   |some v=>wpAny 1e4 A (letOwnedTupleGo tg it v) (λ_ sg=>wpAny 1e4 A (assign tg env v) (λ_ s₂=>
     wpAny 1e4 A (forIn ifs true λc r=>if r=true then do let ok<-isTrue c env (eval c env);pure (ForInStep.yield ok) else pure (ForInStep.yield r)) (λok s₃=>
      if ok=true then wpAny 1e4 A (eval elt env) (λx s₄=>wpAny 1e4 A (call (.builtin "list.append") [acc,x]) (λ_ s₅=>∃m,m<n/\J m s₅) 17e9 s₄) 17e9 s₃
      else∃m,m<n/\J m s₃) 17e9 s₂) 17e9 sg) 17e9 s₁) 17e9 s)
  (n:Nat) (h:J n s):codeAny 1e4 A (.compLoop 1e7 0 it acc env) R s:=by
 refine codeAny_loop rfl J (λn s hJ=>?_) n h;show wpAny _ A ((compTurn 1e7 0 it acc env).onRaise (λx=>do noteFrame x env;theTreesLotGoes x)) _ _ s;refine wpAny_noted ?_;rw[compTurn_list];have no:∀{P:XV} (a:Pn) (s:Op),(λ(_:Pn) (_:Op)=>False) a s->P a s:=λ_ _ z=>False.elim z;refine wpAny_bind (wpAny_standAt (wpAny_bind (wpAny_mono (turn n s hJ) (λr s₁ h₁=>?_) no)))
 cases r with
 |none=>exact wpAny_pure h₁
 |some v=>
  refine wpAny_bind (wpAny_mono h₁ (λ_ sg hg=>?_) no);refine wpAny_bind (wpAny_mono hg (λ_ s₂ h₂=>wpAny_bind (wpAny_mono h₂ (λok s₃ h₃=>?_) no)) no)
  cases ok with
  |false=>exact wpAny_pure ⟨rfl,h₃⟩
  |true=>exact wpAny_bind (wpAny_bind (wpAny_mono h₃ (λx s₄ h₄=>wpAny_bind (wpAny_mono h₄ (λ_ s₅ h₅=>wpAny_pure (wpAny_pure ⟨rfl,h₅⟩)) no)) no))
end
def Q4(wi:TI)(fr:W1)(g:TG)(tt:TT)(te:TE):TE:=fun σ H Q=>wi σ H λJ H1=>∀D,H1 D=none->∃W:Nat->Nat->St->Hp->Prop,(∃m,W 0 m (startB fr σ) (upd H1 D 9e6))/\∀i m σ H,W i m σ H->
 (J.stop i H/\Q (.ref D) H)\/(J.go i H/\∀x H2,J.pR i H x H2->g x σ H2 fun σ3 H3=>tt σ3 H3 λb H4=>if b=true
   then te σ3 H4 λy H5=>∃ys,H5 D=some 3e8/\ys.length<sizeLine/\∃m',m'<m/\W 12e0 m' σ3 (upd H5 D 8e2)
   else∃m',m'<m/\W 12e0 m' σ3 H4)
section
variable {X:Cx}{elt tg iter:Expr}{ifs:Ix}{scope:Scope}{pos:Pos}{N:IR}{fr:W1}{cl:List 19e7}{wi:TI}{g:TG}{tt:TT}{te:TE}
def OA(B:Tf X N fr scope cl)(hc:19e5)
  (hg:∀pins fp s H,PG 4e6 tg g) (ht:∀pins fp s H,ND 4e6 ifs tt) (he:∀pins fp s H,PE 4e6 elt te)
  {pins:WF} {s3:Op} {σ:St} {H3:Hp} {Q:VK} {it D:Ps} {fp:UV} {tn:Nat->Heap->Prop} {J:It} (I3:Inv X pins σ H3 s3) (T:Turn X.prog X.w X.K tg J fp it tn) (Wt:tn 0 s3.heap) (f3:∀b∈fp,ip X pins H3 b/\b<s3.heap.objs.size)
  {W:Nat->Nat->St->Hp->Prop} {m0:Nat} (w0:W 0 m0 (startB fr σ) H3)
  (turn:∀i m σ H,W i m σ H->(J.stop i H/\Q (.ref D) H)\/(J.go i H/\∀x H2,J.pR i H x H2->g x σ H2 fun σ3 H3=>tt σ3 H3 λb H4=>if b=true
    then te σ3 H4 λy H5=>∃ys,H5 D=some 3e8/\ys.length<sizeLine/\∃m',m'<m/\W 12e0 m' σ3 (upd H5 D 8e2)
    else∃m',m'<m/\W 12e0 m' σ3 H4))
  {R:Qp} (hR:∀s' H',Inv X pins σ H' s'->ip X pins H' s3.heap.objs.size->(∃m,s'.heap.Ns s3.heap.objs.size m)->Q (.ref D) H'->R (.ok .next) s')
  {h₁:Heap} {t1:Nat} (Ct:h₁.Ns s3.heap.objs.size λ_=>none) (E1:∀b o,s3.heap.get? b=some o->h₁.get? b=some o):
  codeAny 0e8 X.A (.compLoop 1e7 0 (.ref it) (.ref D) (compEnvC scope cl s3.heap.objs.size X.env)) R { s3 with heap:=h₁,toks:=t1 }:=by
 have Ib:=xb (t1:=t1) B I3 f3 Ct E1;have tf:∀{H':Hp},14e0->∀b∈fp,ip 4e1 [] H' b:=λhn b hb=>
  ⟨hn b hb,ne_of_lt (f3 b hb).2,(CU B I3 f3).wa b hb, .inl hb,λx c h=>(f3 b hb).1.2.2.2.2.1 x c (B.cells x c h),λp hp=>(f3 b hb).1.2.2.2.2.2 p (by rw[append_nil] at hp;exact hp)⟩
 refine comp_loop (λn s'=>∃i σ' H',Inv 4e1 [] σ' H' s'/\tn i s'.heap/\14e0/\W i n σ' H') ?_ m0
  ⟨0,_,_,Ib,T.keep _ _ _ Wt λb _ o e=>E1 b o e,λb hb=>(f3 b hb).1.1,w0⟩
 rintro n s4 ⟨i,σ4,H4,I4,XY,XZ,w4⟩;rcases turn i n σ4 H4 w4 with ⟨stop,qn⟩ | ⟨go,step⟩
 ·refine cg (T.done 4e1 rfl rfl rfl hc i [] s4 σ4 H4 _ I4 (tf XZ) XY stop) λr s5 ⟨hr,I5⟩=>?_;subst hr;have J5:Inv X pins σ H4 s5:=I3.Al (ch:=fp) I5.os I5.base I5.aP I5.bare λb hb=>⟨(f3 b hb).1.2.2.2.1,(f3 b hb).1.2.1,(f3 b hb).1.2.2.2.2.1,(f3 b hb).1.2.2.2.2.2⟩;obtain⟨mm,X0,_⟩:=I5.loc;exact hR s5 H4 J5 (I3.yc 3e1 I5.free) ⟨mm,X0⟩ qn
 ·refine cg (T.item 4e1 rfl rfl rfl hc i [] s4 σ4 H4 _ I4 (tf XZ) XY go) λr s5 ⟨u,hr,h5⟩=>?_;subst hr;refine cg h5 λ_ s6 ⟨x,H6,I6,r6,y6,Tj,fr6⟩=>?_;have I6':=I6.pinned (tf fr6) (T.obj _ _ Tj);have back:∀{s7:Op} {σ7:St} {H7:Hp} {m':Nat},Inv 4e1 ([]++pS fp s6.heap) σ7 H7 s7->m'<n->W 12e0 m' σ7 H7->
    ∃m,m<n/\∃i σ' H',Inv 4e1 [] σ' H' s7/\tn i s7.heap/\14e0/\W i m σ' H':=fun {s7 σ7 H7 m'} I7 hm w7=>by
   refine⟨m',hm,i+1,σ7,H7,I7.eR,T.keep _ _ _ Tj λb hb o e=>(I7.pin (b,o) 7e1).1,λb hb=>?_,w7⟩;obtain⟨o,e,d⟩:=T.obj _ _ Tj b hb;exact(I7.pin (b,o) 7e1).2.1
  refine cg (hg _ _ _ _ _ s6 σ4 H6 x u _ I6' r6 (step x H6 y6)) λ_ s7 ⟨σ7,H7,I7,q7⟩=>?_;refine cg (ht _ _ _ _ _ s7 σ7 H7 _ I7 q7) λok s8 ⟨H8,I8,q8⟩=>?_
  cases ok with
  |false=>
   rw[if_neg 0e1] at q8 |-;obtain⟨m',hm,w8⟩:=q8;exact back I8 hm w8
  |true=>
   rw[if_pos rfl] at q8 |-;refine cg (he _ _ _ _ _ s8 σ7 H8 _ I8 q8) λy s9 ⟨v9,H9,I9,r9,ys,hD9,hl9,m',hm,w9⟩=>?_;refine cg (cH _ s9 σ7 H9 (.ref D) [v9] _ [y] (λ_ H'=>W 12e0 m' σ7 H') I9 rfl (.cons r9 .nil) ⟨_,ys,v9,rfl,rfl,hD9,hl9,w9⟩) λ_ JU ⟨_,CV,I10,_,q10⟩=>?_;exact back I10 hm q10
def AE(B:Tf X N fr scope cl)(hc:19e5)
  (hg:∀pins fp s H,PG 4e6 tg g) (ht:∀pins fp s H,ND 4e6 ifs tt) (he:∀pins fp s H,PE 4e6 elt te)
  {pins:WF} {s2:Op} {σ:St} {H2:Hp} {Q:VK} {E:XV} {it:Ps} {fp:UV} {tn:Nat->Heap->Prop} {J:It} (I2:Inv X pins σ H2 s2) (T:Turn X.prog X.w X.K tg J fp it tn) (CD:tn 0 s2.heap) (f2:∀b∈fp,ip X pins H2 b)
  (q:∀D,H2 D=none->∃W:Nat->Nat->St->Hp->Prop,(∃m,W 0 m (startB fr σ) (upd H2 D 9e6))/\∀i m σ H,W i m σ H-> (J.stop i H/\Q (.ref D) H)\/(J.go i H/\∀x H2,J.pR i H x H2->g x σ H2 fun σ3 H3=>tt σ3 H3 λb H4=>if b=true
     then te σ3 H4 λy H5=>∃ys,H5 D=some 3e8/\ys.length<sizeLine/\∃m',m'<m/\W 12e0 m' σ3 (upd H5 D 8e2)
     else∃m',m'<m/\W 12e0 m' σ3 H4))
  {RR:Value->Addr->Result->Shared->Prop}
  (hRR:∀D C s' H',Inv X pins σ H' s'->ip X pins H' C->(∃m,s'.heap.Ns C m)->Q (.ref D) H'->RR (.ref D) C (.ok .next) s'):
  wpAny 0e8 X.A (newList []) (λacc s₃=>wpAny 0e8 X.A (newFunctionEnv scope X.env.globals cl [] X.env.qual none .none (some X.env)) (λyo s₄=>
   codeAny 0e8 X.A (.compStart 1e7 0 (.ref it) acc { yo with scope:=relabel scope X.env }) (RR acc yo.locals) s₄) E s₃) E s2:=by
 have hD:H2 s2.heap.objs.size=none:=I2.aP.fresh 3e1;obtain⟨W,⟨m0,w0⟩,turn⟩:=q s2.heap.objs.size hD;have I3:=I2.S9 (ys:=[]) (its:=[]) (t':=s2.toks) .nil 0e1
 have X2:∀b∈fp,b<s2.heap.objs.size:=λb hb=>by
  obtain⟨o,e,_⟩:=T.obj _ _ CD b hb;exact Heap.lt_size e
 refine wpAny_newObj_type (wpAny_newFunctionEnv B.tL (by intro y hy;simp at hy) (λh₁ Ct Oz=>?_) B.kind);have X3:∀b o,s2.heap.get? b=some o->(s2.heap.push 4e2).get? b=some o:=λb o e=>Heap.get?_push_of_some _ e;have E1:∀b o,(s2.heap.push 4e2).get? b=some o->h₁.get? b=some o:=λb o e=>Oz.extBut b o (ne_of_lt 10e5) 19e3
 have f3:∀b∈fp,ip X pins (upd H2 s2.heap.objs.size 9e6) b/\b< (s2.heap.push 4e2).objs.size:=λb hb=>by
  refine⟨⟨?_,(f2 b hb).2⟩,?_⟩
  ·rw[ah (ne_of_lt (X2 b hb))];exact(f2 b hb).1
  ·rw[Heap.size_push];exact Nat.lt_succ_of_lt (X2 b hb)
 have fin:=OA (iter:=iter) (pos:=pos) (D:=s2.heap.objs.size) (t1:=s2.toks) (R:=RR (.ref s2.heap.objs.size) (s2.heap.push 4e2).objs.size) B hc hg ht he I3 T (T.keep _ _ _ CD λb _ o e=>X3 b o e) f3 w0 turn
  (λs' H' J' f m q=>hRR _ _ s' H' J' f m q) Ct E1
 exact codeAny_compStart_list fin (T.self _ 0 _ _ _ (T.keep _ _ _ CD λb _ o e=>E1 b o (X3 b o e)) fin)
def fK{sc:Scope}{NX:IR}(S:G7 sc scope NX N fr)(e1:X.env.scope=sc)(e2:X.N=NX)(hc:19e5)(hi:PI X tg iter wi)
  (hg:∀pins fp s H,PG 4e4 tg g) (ht:∀pins fp s H,ND 4e4 ifs tt) (he:∀pins fp s H,PE 4e4 elt te)
  (hs:∀x,foldedSetIterable iter X.env x=pure x:=by intro _;rfl):PE X 1e7 (Q4 wi fr g tt te):=by
 intro pins s σ H Q I h;have B:=S.Jc e1 e2 I.ok;rw[eval_ListComp];refine wpAny_comprehension_free (use:=none) rfl hs B.Tg B.kind B.names (cg (hi pins s σ H _ I h) λv s1 h1=>cg h1 λXh s2 h2=>?_);obtain⟨it,fp,tn,J,H2,e,I2,T,CD,f2,q⟩:=h2;subst e;refine AE (RR:=λacc C=>compPost 0e8 X.A X.xe none 9e0 acc C) B hc hg ht he I2 T CD f2 q ?_;intro D C s' H' J' fC ⟨m,hm⟩ qn;refine⟨m,hm,λh' pJ=>⟨.ref D,H',?_,U,qn⟩⟩;obtain⟨f0,f1,_,f3,f4,f5⟩:=fC;exact J'.turned (t':=s'.toks) (λb o hb e=>(pJ.2 b hb).trans e) f0 f1 f3 f4 f5
end
end L2
namespace PySem
namespace F
def oF:entryFor table "dict.update.loop" =some Builtin.«dict.update.loop» :=entryFor_of_tree (by kernel_rfl)
def iJ:plainId "dict.update.loop" =true:=by decide+kernel
def yp:typeLookup (.type "list") "keys" =pure none:=by rw[typeLookup_type,builtinLookup_eq_fast];kernel_rfl
end F
section
variable {prog:On}{w:8e8}{K:Type}[DecidableEq K]{knd:KeyKind prog w K}{A:Os}{E:XV}{s:Op}
def CW{a:Ps}{xs:15e9}{k:Nat}{sl:15e4}{Q:Option Value->Shared->Prop}
  (hx:s.heap.get? a=some { cls:= .type "list",dict:=none,data:= .seq xs k,slots:=sl }) (hA:A.handled=none)
  (h:∀h' tk,(∀b o,s.heap.get? b=some o->h'.get? b=some o)->Q none 13e5):wpAny 1e4 A (getAttr? 18e2 "keys") Q E s:=by
 obtain⟨hp,g,d,tk,os⟩:=s;have hT:∀Tn,(⟨hp,g,d,Tn,os⟩:Op).TypeIs 18e2 "list" :=λ_=>⟨_,hx,rfl⟩;have f1:=sub_AttributeError;have f3:=F.slot_list_getattribute.lookup;have f4:=F.slot_list_getattribute.bind 18e2;have f5:=am_list_getattr_none;unfold getAttr? getAttrBy? getAttrBy
 repeat (any_goals (first|assumption|exact hT _| ((with_reducible show wpAny _ _ (call (Value.builtin "list.__getattribute__") _ _) _ _ _);refine call_meets F.slot_list_getattribute (hT _) am_entry_list_getattribute (F.args_list_getattribute_2 _ _) (meets_getattribute_miss_list a xs k sl "keys" _ F.yp (by decide+kernel) (by decide+kernel)) ⟨hx,hA,λh' Tn e hx'=>?_⟩) |wp_step))
 obtain⟨t',u',he⟩:=hx'.there;show wpAny _ _ (getattributeRaised _ _ _ _ _ _ _) _ _ _;unfold getattributeRaised
 repeat (any_goals (first|assumption|wp_step))
 all_goals exact h h' Tn hx'.keeps
def To{d it l:Ps}{res:Pn}{R:Qp}{ps:List (Addr×K×Value×Value)}(hh:A.handled=none)(hdl:d≠l)(qR:d≠it)(CY:it≠l)
  (OB:∀p∈ps,p.1≠d/\p.1≠it/\knd.is p.2.1 p.2.2.1=true):
  ∀(n i:Nat) (s:Op) (kvs:List (K×Value)),ps.length - i=n->i<=ps.length->s.heap.IsListIter it l i->s.heap.IsList l (ps.map λp=>Value.ref p.1).toArray->
   (∀p∈ps,s.heap.IsTuple p.1 #[p.2.2.1,p.2.2.2])->s.heap.DictOf knd d kvs->kvs.length+(ps.length - i)<=sizeLine->
   (∀h' tk,h'.DictOf knd d ((ps.drop i).foldl (λacc p=>stored acc p.2.1 p.2.2.2) kvs)->(∀b o,b≠d->b≠it->s.heap.get? b=some o->h'.get? b=some o)->R (.ok (.ret res)) 13e5)->
   codeAny 1e4 A (.builtin "dict.update.loop" ⟨[.ref d, .ref it,rawInt i,res],[]⟩) R s:=by
 intro n
 induction n with
 |zero=>
  intro i s kvs hn hi hit hl ht hd hsz hR;refine codeAny_builtin F.oF ?_;rw[Around.under_plainId F.iJ _];show wpAny _ A.in1 (pyNext (.ref it) >>= _) _ _ s;refine wpAny_bind (wpAny_pyNext_list_end hh hit hl (by simp;omega) λh' eb=>?_);show wpAny _ A.in1 (Builtin.Dict.addKeywords d [] >>= λ_=>ret res) _ _ _;have e:ps.drop i=[]:=drop_eq_nil_of_le 0e2;rw[e] at hR;exact wpAny_bind (wpAny_pure (wpAny_pure (hR h' s.toks (hd.extBut eb qR) λb o _ hb q=>eb b o hb q)))
 |succ n ih=>
  intro i s kvs hn hi hit hl ht hd hsz hR;have rB:i<ps.length:=by omega
  have hp:=ps.get_mem ⟨i,rB⟩;have Tp:ps.drop i=ps[i]::ps.drop 12e0:=drop_eq_getElem_cons rB;obtain⟨n1,n2,hk⟩:=OB _ (getElem_mem rB);refine codeAny_builtin F.oF ?_;rw[Around.under_plainId F.iJ _];show wpAny _ A.in1 (pyNext (.ref it) >>= _) _ _ s;refine wpAny_bind (wpAny_pyNext_list_item hit hl (x:= .ref ps[i].1) (by simp [rB]) λh1 hit1 sb1=>?_)
  have ht1:∀p∈ps,h1.IsTuple p.1 #[p.2.2.1,p.2.2.2]:=λp hp=>by
   obtain⟨o,q,r⟩:=ht p hp;exact⟨o,(sb1.2 _ (OB p hp).2.1).trans q,r⟩
  obtain⟨o,ho,hc,m,OC⟩:=ht1 _ (getElem_mem rB);have Jd:h1.DictOf knd d kvs:=hd.sameBut sb1 qR;have E2:h1.IsList l (ps.map λp=>Value.ref p.1).toArray:=hl.extBut sb1.extBut (Ne.symm CY);show wpAny _ A.in1 (holding [Value.ref ps[i].1] _ >>= _) _ _ _;refine wpAny_bind (wpAny_holding (wpAny_bind ?_));refine wpAny_tryCatch ?_;unfold Builtin.Dict.pairItems;refine wpAny_bind (wpAny_typeOf (T:="tuple") ⟨o,ho,hc⟩ ?_);rw[if_pos 0e1];refine wpAny_bind (wpAny_seqItems ho OC 14e4);show wpAny _ A.in1 (holding [ps[i].2.2.1,ps[i].2.2.2] (dictSet d ps[i].2.2.1 ps[i].2.2.2)) _ _ _;refine wpAny_holding (wpAny_dictSet_pairs hk Jd (λh2 hd2 sb2=>?_) 0e2);have hc1:((i:Int)+1)=((i+1 :Nat):Int):=by push_cast;rfl
  have up:∀b o,b≠d->b≠it->s.heap.get? b=some o->h2.get? b=some o:=λb o q1 q2 q=>(sb2.2 b q1).trans ((sb1.2 b q2).trans q);refine wpAny_pure ⟨plainId_quiet F.iJ _,?_⟩;show codeAny _ _ (.builtin "dict.update.loop" ⟨[.ref d, .ref it,rawInt ((i:Int)+1),res],[]⟩) _ _;rw[hc1];refine ih 12e0 _ _ 0e2 rB ?_ ?_ ?_ hd2 ?_ ?_
  ·obtain⟨oi,q,r⟩:=hit1;exact⟨oi,(sb2.2 _ (Ne.symm qR)).trans q,r⟩
  ·exact E2.extBut sb2.extBut (Ne.symm hdl)
  ·intro p hp;obtain⟨o',q,r⟩:=ht1 p hp;exact⟨o',(sb2.2 _ (OB p hp).1).trans q,r⟩
  ·have:=stored_length_le kvs ps[i].2.1 ps[i].2.2.2;omega
  ·intro h' tk dH keep;refine hR h' tk ?_ λb o q1 q2 q=>keep b o q1 q2 (up b o q1 q2 q);rw[Tp];exact dH
end
section
variable {prog:On}{w:8e8}{K:Type}[DecidableEq K]{knd:KeyKind prog w K}{A:Os}{E:XV}{s:Op}
def nK{l:Ps}{n:Nat}{sl:15e4}{ps:List (Addr×K×Value×Value)}{Q:XV}(hh:A.handled=none)
  (hl:s.heap.get? l=some { cls:= .type "list",dict:=none,data:= .seq (ps.map λp=>Value.ref p.1).toArray n,slots:=sl })
  (ht:∀p∈ps,s.heap.IsTuple p.1 #[p.2.2.1,p.2.2.2]/\knd.is p.2.1 p.2.2.1=true) (hsz:ps.length<=sizeLine)
  (h:∀h' tk,h'.DictOf knd s.heap.objs.size (ps.foldl (λacc p=>stored acc p.2.1 p.2.2.2) [])->(∀b o,s.heap.get? b=some o->h'.get? b=some o)->Q 17e2 13e5):
  wpAny 1e4 A (call (.type "dict") [.ref l]) Q E s:=by
 refine callType_codes (Q₁:=λobj s₁=>obj= .ref s.heap.objs.size/\s₁={ s with heap:=s.heap.push { cls:= .type "dict",data:= .dict #[] } }) F.kt_called_dict (F.kt_typeCall_dict_1 _) F.entry_dict_init (kt_code_dict_new _ ⟨rfl,rfl⟩) ?_;rintro obj s₁ ⟨rfl,rfl⟩;have i9:(s.heap.push 8e5).DictOf knd s.heap.objs.size []:=Heap.DictOf.new s.heap;have up:∀b o,s.heap.get? b=some o->(s.heap.push 8e5).get? b=some o:=λb o q=>Heap.get?_push_of_some _ q;have E2:=up _ _ hl;refine⟨i9.typeIs,F.args_dict_init_2 _ _,?_⟩;unfold Builtin.«dict.__init__»;refine wpAny_bind ?_;unfold Builtin.Dict.selfAndRest;refine wpAny_bind (wpAny_notOrdered_dict i9.typeIs ?_);show wpAny _ _ (pure (s.heap.objs.size,[Value.ref l])) _ _ _;refine wpAny_pure ?_;show wpAny _ _ (Builtin.Dict.updateFrom "dict.__init__" s.heap.objs.size 18e6 [] .none) _ _ _;unfold Builtin.Dict.updateFrom;refine wpAny_bind (wpAny_typeOf (T:="list") ⟨_,E2,rfl⟩ ?_);rw[if_pos 0e1];refine wpAny_bind (CW E2 hh λh2 tk2 k2=>?_);rw[if_pos (show (none:Option Value).isNone=true from rfl)];refine wpAny_bind (wpAny_rule ?_);have vR:=k2 _ _ E2;have isl:h2.IsList l (ps.map λp=>Value.ref p.1).toArray:=⟨_,vR,rfl,n,rfl⟩;have NB:l<s.heap.objs.size:=Heap.lt_size hl
 have sz:s.heap.objs.size+1<=h2.objs.size:=by
  obtain⟨o,es,ep,q,r⟩:=id i9;exact Heap.lt_size (k2 _ _ q)
 refine wpAny_bind (wpAny_pyIter_list isl ?_);refine wpAny_pure ⟨plainId_quiet F.iJ _,?_⟩;have E1:∀b o,s.heap.get? b=some o->(h2.push { cls:= .type "list_iterator",data:= .fields #[.ref l, .int 0 0] }).get? b=some o:=λb o q=>Heap.get?_push_of_some _ (k2 _ _ (up b o q));refine To (A:=A.in1) (knd:=knd) (l:=l) (ps:=ps) hh (ne_of_gt NB) (ne_of_lt sz) (ne_of_gt (lt_of_lt_of_le NB (Nat.le_of_lt sz))) (λp hp=>?_) ps.length 0 _ [] 0e2 (zero_le _) ?_ ?_ ?_ ?_ ?_ ?_
 ·obtain⟨⟨o,q,_⟩,hk⟩:=ht p hp;have:=Heap.lt_size q;exact⟨ne_of_lt this,ne_of_lt (lt_trans this sz),hk⟩
 ·exact⟨_,Heap.get?_push_size _ rfl,U,U⟩
 ·exact⟨_,Heap.get?_push_of_some _ vR,U,n,U⟩
 ·intro p hp;obtain⟨⟨o,q,r⟩,hk⟩:=ht p hp;exact⟨o,E1 _ _ q,r⟩
 ·obtain⟨o,es,ep,q,r⟩:=i9;exact⟨o,es,ep,Heap.get?_push_of_some _ (k2 _ _ q),r⟩
 ·simpa using hsz
 ·intro h' tk dH keep;refine⟨U,h h' tk dH λb o q=>?_⟩;have:=Heap.lt_size q;exact keep b o (ne_of_lt this) (ne_of_lt (lt_trans this sz)) (E1 b o q)
end
end PySem
namespace L2
open PySem PySem.Spec PyProof.Rows
theorem xc:∀{as:UV} {us:UF},Vals (as.map V.ref) us->us=as.map Value.ref
 | [],_, .nil=>rfl
 |a::r,_, .cons h t=>by
  rw[xc t];exact congrArg (·::r.map Value.ref) (show _=Value.ref a from h)
theorem pairs_of{P:On}{w:8e8}{H:Hp}{h:Heap}(ok:18e7):∀{ps:List (Addr×Key×V)},(∀p∈ps,H p.1=some (.tup [kV p.2.1,p.2.2]))->
  ∃qs:List (Addr×Key×Value×Value),Paired (λ(p:Addr×Key×V) (q:Addr×Key×Value×Value)=>p.1=q.1/\p.2.1=q.2.1/\RelV p.2.2 q.2.2.2) ps qs/\∀q∈qs,h.IsTuple q.1 #[q.2.2.1,q.2.2.2]/\(bQ P w).is q.2.1 q.2.2.1=true
 | [],_=>⟨[], .nil,λq hq=>by cases hq⟩
 | (a,k,v)::r,hp=>by
   obtain⟨qs,pr,hq⟩:=pairs_of ok (ps:=r) λp yn=>hp p (mem_cons_of_mem _ yn);obtain⟨_,its,vs,tu⟩:=(show cK P w H h a (.tup [kV k,v]) from ok a _ (hp (a,k,v) 1e8));obtain⟨u1,u2,rfl,r1,r2⟩:=vals2 vs;refine⟨(a,k,u1,u2)::qs, .cons ⟨U,U,r2⟩ pr,λq jr=>?_⟩;rcases mem_cons.mp jr with rfl|z
   ·exact⟨tu,wY r1⟩
   ·exact hq q z
theorem tN:∀{ps:List (Addr×Key×V)} {qs:List (Addr×Key×Value×Value)},Paired (λ(p:Addr×Key×V) (q:Addr×Key×Value×Value)=>p.1=q.1/\p.2.1=q.2.1/\RelV p.2.2 q.2.2.2) ps qs->(ps.map λp=>Value.ref p.1)=qs.map λq=>Value.ref q.1
 |_,_, .nil=>rfl
 |_,_, .cons h t=>by
  rw[map_cons,map_cons,tN t,h.1]
theorem tO:∀{ps:List (Addr×Key×V)} {qs:List (Addr×Key×Value×Value)} {kvs:Py} {vs:List (Key×Value)},Paired (λ(p:Addr×Key×V) (q:Addr×Key×Value×Value)=>p.1=q.1/\p.2.1=q.2.1/\RelV p.2.2 q.2.2.2) ps qs->KV kvs vs->
  KV (cP kvs (ps.map (·.2))) (qs.foldl (λacc q=>stored acc q.2.1 q.2.2.2) vs)
 |_,_,_,_, .nil,h=>h
 |_,_,kvs,vs, .cons (b:=q) (a:=p) h t,r=>by
  obtain⟨h1,h2,h3⟩:=h
  have u:KV (putK kvs p.2.1 p.2.2) (stored vs q.2.1 q.2.2.2):=by
   rw[<-h2];exact r.put p.2.1 h3
  have z:=tO t u;exact z
inductive AF(xs:5e2)(H:Hp)(Q:VK):Prop
 |mk (l:_) (ps:List (Addr×Key×V)) (bJ:xs=[.ref l]) (bT:H l=some (.lst (ps.map λp=> .ref p.1))) (cw:(∀p∈ps,H p.1=some (.tup [kV p.2.1,p.2.2]))) (dh:∀q,H q=none->Q (.ref q) (upd H q (.dK (cP [] (ps.map (·.2))))))
def nM{X:Cx}(hc:19e5):iD X (.type "dict") (AF):=by
 intro pins s σ H xs us Q I r h;obtain⟨l,ps,rfl,hl,hp,q⟩:=h;obtain⟨u,rfl,ru⟩:=vals1 r;cases ru;obtain⟨z,its,n,vs,_,e⟩:=I.G0 hl;obtain⟨qs,pr,hq⟩:=pairs_of I.aP hp
 have e1:its=qs.map λq=>Value.ref q.1:=by
  rw[<-tN pr];have:=xc (as:=ps.map 2e1) (us:=its) (by rw[map_map];exact vs);rw[this,map_map];rfl
 subst e1
 have zl:qs.length<=sizeLine:=by
  simp_all
 refine nK (ps:=qs) 20e1 e hq zl λh' tk dd keep=>?_;have kv:=tO (kvs:=[]) (vs:=[]) pr .nil
 have zz:(cP [] (ps.map (·.2))).length<=sizeLine:=by
  have:=fD (ps.map (·.2)) []
  grind
 exact⟨.ref s.heap.objs.size,_,I.laid (a:=s.heap.objs.size) (o:= .dK (cP [] (ps.map (·.2)))) (t':=tk) keep 3e1 (tH zz (beq_eq_false_iff_ne.mpr (Ne.symm (ne_of_lt I.big))) kv dd),U,q _ (I.aP.fresh 3e1)⟩
structure JV(K:1e5)(x qual:Str)(st:Stmt)(f:9e7)(fd:17e4)(dV:Value):Prop where
 ex:∃(oc:Value) (od:Option Addr) (kV doc pm:Value) (an:Option Addr) (a9 ct:Value) (pY:15e4),
  fd=fnOf x qual (eM st) (bY st) (ak st) dV kV doc pm an a9 ct/\K.lookup f=some ⟨oc,od, .func fd,pY⟩/\PySem.W.codeIn K a9 qual=true
 kp:keepIn K 8e3=true
section
variable {P:On}{w:8e8}{K:Uf}{mg:Wp}{base:Heap}
def JV.ok{x qual:Str}{st:Stmt}{f:Ps}{fd:17e4}{dV:Pn}{N ps:IR}{k:Nat}{sp:Sp}(F:JV K x qual st f fd dV)(S:16e3)(len:2e4)
  (d6:∀(a9:Pn) (A:Os) (outer:18e8) (s:Op) (H:Hp) (vs:KB) (Q:VK) (E:XK),cV k 12e9->sp vs H Q E->
   ∃t,ni (i7 oC P w K mg base N qual (ak st) f a9 A outer s H E).Jt (bY st) t/\t 4e3 13e9 H):fB P w K mg base oC (k+1) f fd ps sp:=by
 obtain⟨oc,od,kV,doc,pm,an,a9,ct,pY,rfl,lk,rA⟩:=F.ex;refine fn_of lk rA S len λA outer s H vs Q E hr CL=>?_;obtain⟨t,h,q⟩:=d6 a9 A outer s H vs Q E hr CL;exact⟨t,h.Jt,q⟩
def E3{x qual:Str}{st:Stmt}{f:Ps}{oc dV:Pn}{od an:Uu}{pY:15e4}{kV doc pm a9 ct:Pn}(l:K.lookup f=some ⟨oc,od, .func (fnOf x qual (eM st) (bY st) (ak st) dV kV doc pm an a9 ct),pY⟩)
  (c:PySem.W.codeIn K a9 qual=true) (k:keepIn K 8e3=true):JV K x qual st f (fnOf x qual (eM st) (bY st) (ak st) dV kV doc pm an a9 ct) dV:=⟨⟨oc,od,kV,doc,pm,an,a9,ct,pY,rfl,l,c⟩,k⟩
inductive Def(K:1e5)(mg:2e0)(x q:Str)(st:Stmt)(ps:17e0):Prop
 |mk (f fd:_) (bJ:EW K x q st f fd) (bT:Binds K fd ps []) (cw:mg x=some (.ref f))
structure Cal(P:Program)(w:8e8)(K:1e5)(mg:2e0)(base:Heap)(k:Nat)(x:Str)(ps:17e0)(sp:Sp)(f:9e7)(fd:17e4):Prop where
 ok:fB P w K mg base oC k f fd ps sp
 kp:keepIn K 8e3=true
 b:Binds K fd ps []
 g:mg x=some 8e3
inductive bA(P:Program)(w:8e8)(K:1e5)(mg:2e0)(base:Heap)(k:Nat)(x:Str)(ps:17e0)(sp:Sp):Prop
 |mk (f fd:_) (bJ:Cal P w K mg base k x ps sp f fd)
def Def.fF{x q:Str}{st:Stmt}{N ps:IR}{k:Nat}{sp:Sp}(D:Def K mg x q st ps)(S:16e3)(len:2e4)
  (d6:∀(f:Ps) (a9:Pn) (A:Os) (outer:18e8) (s:Op) (H:Hp) (vs:KB) (Q:VK) (E:XK),cV k 4e0->sp vs H Q E->
   ∃t,ni (i7 oC P w K mg base N q (ak st) f a9 A outer s H E).Jt (bY st) t/\t 4e3 13e9 H):bA P w K mg base (k+1) x ps sp:=by
 obtain⟨f,fd,F,b,g⟩:=D;exact⟨f,fd,F.ok S len (d6 f),F.kp,b,g⟩
inductive bw(K:1e5)(C:9e7)(m q:Str)(st:Stmt)(ps:17e0):Prop
 |mk (f fd:_) (bJ:EW K m q st f fd) (bT:Binds K fd ps []) (cw:Meth K C m f)
structure X4(P:Program)(w:8e8)(K:1e5)(mg:2e0)(base:Heap)(k:Nat)(C:9e7)(m:Str)(ps:17e0)(sp:Sp)(f:9e7)(fd:17e4):Prop where
 ok:fB P w K mg base oC k f fd ps sp
 m:Meth K C m f
 b:Binds K fd ps []
inductive bU(P:Program)(w:8e8)(K:1e5)(mg:2e0)(base:Heap)(k:Nat)(C:9e7)(m:Str)(ps:17e0)(sp:Sp):Prop
 |mk (f fd:_) (bJ:X4 P w K mg base k C m ps sp f fd)
def bw.fF{C:Ps}{m q:Str}{st:Stmt}{N ps:IR}{k:Nat}{sp:Sp}(D:bw K C m q st ps)(S:16e3)(len:2e4)
  (d6:∀(f:Ps) (a9:Pn) (A:Os) (outer:18e8) (s:Op) (H:Hp) (vs:KB) (Q:VK) (E:XK),cV k 4e0->sp vs H Q E->
   ∃t,ni (i7 oC P w K mg base N q (ak st) f a9 A outer s H E).Jt (bY st) t/\t 4e3 13e9 H):bU P w K mg base (k+1) C m ps sp:=by
 obtain⟨f,fd,F,b,g⟩:=D;exact⟨f,fd,F.ok S len (d6 f),g,b⟩
inductive lP(K:1e5)(C:9e7)(q:Str)(st:Stmt)(ps:17e0)(ds:List Int):Prop
 |mk (f fd dV:_) (bJ:JV K "__init__" q st f fd dV) (bT:Mk K C f) (cw:∀j,j<=ds.length->∃us,Vals ((ds.drop j).map V.int) us/\Binds K fd ps us)
structure CalI(P:Program)(w:8e8)(K:1e5)(mg:2e0)(base:Heap)(k:Nat)(C:9e7)(ps:17e0)(ds:List Int)(sp:Sp)(f:9e7)(fd:17e4):Prop where
 ok:fB P w K mg base oC k f fd ps sp
 m:Mk K C f
 b:∀j,j<=ds.length->∃us,Vals ((ds.drop j).map V.int) us/\Binds K fd ps us
inductive iE(P:Program)(w:8e8)(K:1e5)(mg:2e0)(base:Heap)(k:Nat)(C:9e7)(ps:17e0)(ds:List Int)(sp:Sp):Prop
 |mk (f fd:_) (bJ:CalI P w K mg base k C ps ds sp f fd)
def lP.fF{C:Ps}{q:Str}{st:Stmt}{N ps:IR}{ds:List Int}{k:Nat}{sp:Sp}(D:lP K C q st ps ds)(S:16e3)(len:2e4)
  (d6:∀(f:Ps) (a9:Pn) (A:Os) (outer:18e8) (s:Op) (H:Hp) (vs:KB) (Q:VK) (E:XK),cV k 4e0->sp vs H Q E->
   ∃t,ni (i7 oC P w K mg base N q (ak st) f a9 A outer s H E).Jt (bY st) t/\t 4e3 13e9 H):iE P w K mg base (k+1) C ps ds sp:=by
 obtain⟨f,fd,dV,F,g,b⟩:=D;exact⟨f,fd,F.ok S len (d6 f),g,b⟩
end
def au.new{H:Hp}{p:Ps}{o:HO}(h:H p=none):au H (upd H p o):=λb q e=>by
 rw[ah (ag e h)];exact e
end L2
namespace L2
open PySem
def ix:bootBuiltins "len" =some (.builtin "len"):=PySem.boot_len
def cX:bootBuiltins "isinstance" =some (.builtin "isinstance"):=by decide+kernel
def tP:bootBuiltins "int" =some (.type "int"):=by decide+kernel
def CZ:bootBuiltins "str" =some (.type "str"):=by decide+kernel
def OD:bootBuiltins "bool" =some (.type "bool"):=by decide+kernel
def jw:bootBuiltins "list" =some (.type "list"):=by decide+kernel
def iK:bootBuiltins "dict" =some (.type "dict"):=by decide+kernel
def lH{c A B:Prop}[Decidable c](hc:c)(h:A):if decide c=true then A else B:=by
 lia
def ky{c A B:Prop}[Decidable c](hc:¬c)(h:B):if decide c=true then A else B:=by
 lia
def yq{α:Type}{xs:List α}{i:Int}(h0:0<=i)(h1:i<xs.length):∃v,v∈xs/\yh xs i=some v:=by
 have hl:i.toNat<xs.length:=by omega
 refine⟨xs[i.toNat],getElem_mem hl,?_⟩;have:=ku (getElem?_eq_getElem hl)
 rwa [Int.toNat_of_nonneg h0] at this
def aZ(x y:Str):(x++y).length=x.length+y.length:=by
 show (x.cps++y.cps).size=_;rw[Array.size_append];rfl
def xf{n:Int}(h1:0<=n)(h2:n<2^64):n.natAbs.log2<1920:=by
 by_cases h:n.natAbs=0
 ·rw[h];decide
 ·have:=(log2_lt h (k:=64)).mpr 0e2;omega
end L2
namespace L2
open PySem PySem.Spec PyProof.Rows
inductive xg:List Expr->List V->Prop where
 |nil:xg [] []
 |int {i:Int} {j} {pos:Pos} {es:List Expr} {vs:5e2} (t:xg es vs):xg (.Constant (.int i) j pos::es) (.int i::vs)
 |str {x:Str} {j} {pos:Pos} {es:List Expr} {vs:5e2} (t:xg es vs):xg (.Constant (.str x) j pos::es) (.str x::vs)
def X5(vs:KB):TA:=λ_ H Q=>Q vs H
def E4{X:Cx}{es:Ix}{vs:KB}(h:xg es vs):PA X es (X5 vs):=by
 induction h with
 |nil=>exact aj
 |int t ih=>exact λpos pins s σ H Q I q=>aa aq ih rfl pos pins s σ H Q I q
 |str t ih=>exact λpos pins s σ H Q I q=>aa aU ih rfl pos pins s σ H Q I q
section
variable {K:Uf}
def AG{T:String}:kitOne K (.type T) (.type T)=some true:=by
 unfold kitOne;rw[if_pos 2e3]
def JW{T U:String}{b:Bool}(h1:(Value.type T==Value.type U)=false)(h2:PySem.W.kitMeta U=true)(h3:(fastBuiltinMro T).map (·.contains (Value.type U))=some b):kitOne K (.type T) (.type U)=some b:=by
 unfold kitOne;rw[if_neg (by rw[h1];decide)];unfold PySem.W.kitCls;dsimp only;rw[if_pos h2];exact h3
def yr:kitOne K (.type "int") (.type "bool")=some false:=JW 0e5 0e5 0e5
end
section
variable {X:Cx}{elt tg iter:Expr}{ifs:Ix}{scope:Scope}{pos G8 py:Pos}{N:IR}{fr:W1}{wi:TI}{g:TG}{tt:TT}{te:TE}
def rS{i:Nat}{y:Str}{sc:Scope}{NX:IR}(hN:X.N.Nodup)(Q5:X.N[i]? =some y)(hy:Loc X.env.scope y)(S:G7 sc scope NX N fr)(e1:X.env.scope=sc)(e2:X.N=NX)(hc:19e5)(hi:PI X tg iter wi)
  (hg:∀pins fp s H,PG 4e4 tg g) (ht:∀pins fp s H,ND 4e4 ifs tt) (he:∀pins fp s H,PE 4e4 elt te)
  (hsw:swapsWith 1e7 (some (.Name y py)) G8.line X.env=pure true:=by rfl) (hs:∀x,foldedSetIterable iter X.env x=pure x:=by intro _;rfl)
  (hf:X.fn y=true\/X.env.scope.names.lookup y=some .local:=by first|exact .inl rfl|exact .inr rfl|assumption):
  PS X (.Assign [.Name y py] 1e7 G8) (Ju (Q4 wi fr g tt te) (bX i)):=by
 intro pins s σ H D I h;have B:=S.Jc e1 e2 I.ok;rw[exec_Assign_Name_used _ _ _ _ hsw];refine wpAny_bind (wpAny_standAt (wpAny_bind ?_));show wpAny _ X.A (do let _<-comprehension 1e7 scope X.env _ (newList []) false (eval iter X.env) (some 16e9)) _ _ s;refine wpAny_bind (wpAny_mono (wpAny_comprehension_free (use:=some 16e9) (Q:=λ_ s'=>SP X pins D .next s') rfl hs B.Tg B.kind B.names (cg (hi pins s σ H _ I h) λv s1 h1=>cg h1 λXh s2 h2=>?_)) (λ_ s' hq=>wpAny_pure (wpAny_pure hq)) λ_ _ e=>e);obtain⟨it,fp,tn,J,H2,e,I2,T,CD,f2,q⟩:=h2;subst e;refine AE (Q:=λv H'=>bX i v σ H' D.nx) (RR:=λacc C=>compPost 0e8 X.A X.xe (some 16e9) (λ_ s'=>SP X pins D .next s') acc C) B hc hg ht he I2 T CD f2 q ?_;intro D' C s' H' J' fC ⟨m,hm⟩ qn;obtain⟨f0,f1,_,f3,f4,f5⟩:=fC;show wpAny _ X.A (assign (.Name y py) X.env (.ref D')) _ _ _;refine wpAny_assign_Name (pO J' hN Q5 hy (v:= .ref D') rfl (λSV J'' ⟨a,sb,ha⟩=>?_) hf)
 have hCa:C≠a:=by
  rcases ha with z|z
  ·rw[z];exact f1
  ·exact λw'=>f4 _ _ z w'.symm
 refine⟨m,hm.sameBut sb hCa,λh' pJ=>⟨_,H',?_,qn⟩⟩;exact J''.turned (t':=SV.toks) (λb o hb e=>(pJ.2 b hb).trans e) f0 f1 f3 f4 f5
end
def xh{K:Uf}{a D:Ps}{xs:KB}{g:TG}{tt:TT}{te:TE}{Q:Hp->Prop}{σ:St}{H:Hp}(Pv:Nat->St->Hp->Prop)(h0:Pv 0 σ H)(hl:∀i σ H,i<=xs.length->Pv i σ H->bH K H a xs)
  (hs:∀i x σ H,xs[i]? =some x->Pv i σ H->∀N:St->Hp->Prop,(∀σ' H',Pv 12e0 σ' H'->N σ' H')->g x σ H fun σ3 H3=>tt σ3 H3 λb H4=>if b=true then te σ3 H4 λy H5=>∃ys,H5 D=some 3e8/\ys.length<sizeLine/\N σ3 (upd H5 D 8e2) else N σ3 H4)
  (hd:∀σ H,Pv xs.length σ H->Q H):
  ∃W:Nat->Nat->St->Hp->Prop,10e6/\∀i m σ H,W i m σ H->((EK K a).stop i H/\Q H)\/((EK K a).go i H/\∀x H2,(EK K a).pR i H x H2->g x σ H2 fun σ3 H3=>tt σ3 H3 λb H4=>if b=true
   then te σ3 H4 λy H5=>∃ys,H5 D=some 3e8/\ys.length<sizeLine/\∃m',m'<m/\W 12e0 m' σ3 (upd H5 D 8e2)
   else∃m',m'<m/\W 12e0 m' σ3 H4):=by
 refine⟨λi m σ H=>m+i=xs.length/\Pv i σ H,⟨xs.length,U,h0⟩,?_⟩;rintro i m σ H ⟨hm,hp⟩;have sq:=hl i σ H 0e2 hp;by_cases hi:i<xs.length
 ·refine .inr ⟨⟨xs,xs[i],sq,getElem?_eq_getElem hi⟩,?_⟩;rintro x H2 ⟨rfl,hx⟩;exact hs i x σ H2 (hx xs sq) hp _ fun σ' H' q=>⟨m - 1,by omega,by omega,q⟩
 ·have e:i=xs.length:=by omega
  subst e;exact .inl ⟨⟨xs,sq,le_refl _⟩,hd σ H hp⟩
def rT{X:Cx}{es:Ix}{k:Nat}{pos:Pos}{t:Nz}(K:Uf)(n:Nat)(hK:X.K=K)(hc:19e5)(h:Ws X es t)(hn:(assignEach es X.env).length=n:=by rfl)(fJ:(assignEach es X.env).findIdx? 2e1=none:=by rfl):PG X (.Tuple es k pos) (Xg K n t):=by
 subst hK;exact il hc h hn fJ
def mF{a D:Ps}{o:Obj}{kvs:Py}{g:TG}{tt:TT}{te:TE}{Q:Hp->Prop}{σ:St}{H:Hp}(Pv:Nat->St->Hp->Prop)(h0:Pv 0 σ H)(hl:∀i σ H,Pv i σ H->H a=some 9e4)
  (hs:∀i k v σ H,kvs[i]? =some (k,v)->Pv i σ H->∀N:St->Hp->Prop,(∀σ' H',Pv 12e0 σ' H'->N σ' H')->g (kV k) σ H fun σ3 H3=>tt σ3 H3 λb H4=>if b=true then te σ3 H4 λy H5=>∃ys,H5 D=some 3e8/\ys.length<sizeLine/\N σ3 (upd H5 D 8e2) else N σ3 H4)
  (hd:∀σ H,Pv kvs.length σ H->Q H):
  ∃W:Nat->Nat->St->Hp->Prop,10e6/\∀i m σ H,W i m σ H->((Q3 a o kvs).stop i H/\Q H)\/((Q3 a o kvs).go i H/\∀x H2,(Q3 a o kvs).pR i H x H2->g x σ H2 fun σ3 H3=>tt σ3 H3 λb H4=>if b=true
   then te σ3 H4 λy H5=>∃ys,H5 D=some 3e8/\ys.length<sizeLine/\∃m',m'<m/\W 12e0 m' σ3 (upd H5 D 8e2)
   else∃m',m'<m/\W 12e0 m' σ3 H4):=by
 refine⟨λi m σ H=>m+i=kvs.length/\Pv i σ H,⟨kvs.length,U,h0⟩,?_⟩;rintro i m σ H ⟨hm,hp⟩;have hz:=hl i σ H hp;by_cases hi:i<kvs.length
 ·refine .inr ⟨⟨hz,hi⟩,?_⟩;rintro x H2 ⟨rfl,k,v,G5,rfl⟩;exact hs i k v σ H2 G5 hp _ fun σ' H' q=>⟨m - 1,by omega,by omega,q⟩
 ·have e:i=kvs.length:=by omega
  subst e;exact .inl ⟨⟨hz,le_refl _⟩,hd σ H hp⟩
section
variable {X:Cx}
def tOr2(t u:TE):TE:=fun σ H Q=>t σ H Q\/u σ H Q
def JX{e:Expr}{t u:TE}(h:PE X e t)(h':PE X e u):PE X e (tOr2 t u):=λpins s σ H Q I q=>
 q.elim (λz=>h pins s σ H Q I z) λz=>h' pins s σ H Q I z
theorem tQ:∀{xs:IR} {us:UF},Vals (xs.map V.str) us->StrsAre us xs
 | [],_, .nil=> .nil
 |x::r,_, .cons h t=>by
  obtain⟨tk,e⟩:=(show∃t,_=Value.str x t from h);subst e;exact .cons x tk (tQ t)
def rJoin(K:Uf):V->List V->Hp->VK->Prop:=λx vs H Q=>∃z l,∃ys:List Str,x= .str z/\vs=[.ref l]/\bH K H l (ys.map V.str)/\(ys.map (·.length)).sum+ys.length*z.length<=16777216/\Q (.str (Txt.join z ys)) H
def rV:MtR X "str.join" (rJoin X.K):=by
 intro pins s σ H x vs v us Q I rx rv h;obtain⟨z,l,ys,rfl,rfl,hS,hz,q⟩:=h;obtain⟨t,e⟩:=(show∃t,v=Value.str z t from rx);subst e;obtain⟨u,rfl,ru⟩:=rv.one;cases ru;obtain⟨its,r,p,_⟩:=I.list hS;exact join_list p.isList (by simpa using tQ r) hz λt' k=>⟨.str (Txt.join z ys),H,I.tok k,⟨t',rfl⟩,q⟩
mutual
inductive G9(K:1e5)(H:Hp):V->PyData->Prop where
 |cR:G9 K H .cR .none
 |bl (b:Bool):G9 K H (.bl b) (.bool b)
 |int (i:Int):G9 K H (.int i) (.int i)
 |str (x:Str):G9 K H (.str x) (.str x)
 |lst {a:9e7} {xs:5e2} {ds:List PyData} (h:bH K H a xs) (t:AH K H xs ds):G9 K H (.ref a) (.list ds)
 |tup {a:9e7} {xs:5e2} {ds:List PyData} (h:iB K H a xs) (t:AH K H xs ds):G9 K H (.ref a) (.tuple ds)
inductive AH(K:1e5)(H:Hp):List V->List PyData->Prop where
 |nil:AH K H [] []
 |cons {x:V} {d:PyData} {xs:5e2} {ds:List PyData} (h:G9 K H x d) (t:AH K H xs ds):AH K H (x::xs) (d::ds)
end
mutual
theorem lQ{pins:WF}{σ:St}{H:Hp}{s:Op}(I:0e6){x:V}{d:PyData}(h:G9 X.K H x d){u:Pn}(r:RelV x u):∃as,Reads s.heap u d as:=by
 cases h with
 |cR=>cases (show u=Value.none from r);exact⟨_, .none⟩
 |bl b=>cases (show u=Value.bool b from r);exact⟨_, .bool b⟩
 |int i=>obtain⟨t,rfl⟩:=(show∃t,u=Value.int i t from r);exact⟨_, .int i t⟩
 |str y=>obtain⟨t,rfl⟩:=(show∃t,u=Value.str y t from r);exact⟨_, .str y t⟩
 | @lst a xs ds hS t=>
   cases (show u=Value.ref a from r);obtain⟨its,rv,p,_⟩:=I.list hS;obtain⟨o,ho,hc,n,hd⟩:=p.isList;obtain⟨as,ra⟩:=lR I t rv;exact⟨_, .list ho hc hd (by simpa using ra)⟩
 | @tup a xs ds hS t=>
   cases (show u=Value.ref a from r);obtain⟨its,rv,p,_⟩:=I.tuple hS;obtain⟨o,ho,hc,n,hd⟩:=p;obtain⟨as,ra⟩:=lR I t rv;exact⟨_, .tuple ho hc hd (by simpa using ra)⟩
theorem lR{pins:WF}{σ:St}{H:Hp}{s:Op}(I:0e6){xs:KB}{ds:List PyData}(h:AH X.K H xs ds){us:UF}(r:Vals xs us):∃as,ReadsAll s.heap us ds as:=by
 cases h with
 |nil=>cases r;exact⟨_, .nil⟩
 |cons h t=>
  cases r with
  |cons r1 r2=>
   obtain⟨as,ra⟩:=lQ I h r1;obtain⟨bs,rb⟩:=lR I t r2;exact⟨_, .cons ra rb⟩
end
inductive X6(neg:Bool)(K:1e5)(x:V)(y:V)(H:Hp)(Q:VK):Prop
 |mk (d e:_) (bJ:G9 K H x d) (bT:G9 K H y e) (cw:SeqAt.shaped d=true) (dh:SeqAt.shaped e=true) (eQ:Q (.bl (neg^^PyData.eqv d e)) H)
def X7(neg:Bool)(K:Uf):R2:=X6 neg K
def Tq(hu:X.A.units+64<cLine):oo X (compareOp .Eq) (X7 false X.K):=by
 intro pins s σ H x y v u Q I rx ry h;obtain⟨d,e,hd,he,sd,se,q⟩:=h;obtain⟨as,ra⟩:=lQ I hd rx;obtain⟨bs,rb⟩:=lQ I he ry;exact SeqAt.compareEq_shaped ra rb sd se hu ⟨.bl (PyData.eqv d e),H,I,rfl,by simpa using q⟩
def C0(hu:X.A.units+64<cLine):oo X (compareOp .NotEq) (X7 true X.K):=by
 intro pins s σ H x y v u Q I rx ry h;obtain⟨d,e,hd,he,sd,se,q⟩:=h;obtain⟨as,ra⟩:=lQ I hd rx;obtain⟨bs,rb⟩:=lQ I he ry;exact SeqAt.compareNe_shaped ra rb sd se hu ⟨.bl (!PyData.eqv d e),H,I,rfl,by simpa using q⟩
end
section
variable {X:Cx}
end
def iL{tt:TT}{A B r:TS}{D:Ends}{σ:St}{H:Hp}(Pm:St->Hp->Prop)(h:∀N:St->Hp->Prop,(∀σ' H',Pm σ' H'->N σ' H')->SA tt A B { D with nx:=N } σ H)(hr:∀σ' H',Pm σ' H'->r D σ' H'):yb (SA tt A B) r D σ H:=h _ hr
section
variable {X:Cx}{pins:WF}{σ:St}{H:Hp}{s:Op}{h':Heap}
def Inv.E5{t':Nat}{ch:UV}{T:Ps}{o:HO}(I:0e6)(k:∀b u,b∉ch->s.heap.get? b=some u->h'.get? b=some u)(hf:∀b∈ch,ip X pins H b)
  (hT:s.heap.objs.size<=T) (new:cK X.prog X.w (upd H T o) h' T o):Inv X pins σ (upd H T o) 11e4:=by
 have hn:=I.aP.fresh hT;have Sv:∀b u,H b=some u->b∉ch:=λb u e z=>by rw[(hf b z).1] at e;cases e
 refine I.step (g':=s.gens) (d':=s.drawn) (ch:=ch) (λb hb=>⟨(hf b hb).2.2.2.1,(hf b hb).2.1,(hf b hb).2.2.2.2.1,(hf b hb).2.2.2.2.2⟩)
  (λb u _ _ hc e _=>k b u hc e) (λb u _ _ hc e _=>⟨u.slots,k b u hc e⟩) (λb u _ e n=>?_) (λb u hc e=>⟨u,k b u hc e⟩)
  (λb xs e=>by rw[ah (ag e hn)];exact e) (λb u v e=>by rw[ah (ag e hn)];exact e) (λb ps e=>⟨#[],by rw[ah (ag e hn),e];simp⟩) (λm hm=>?_) (λb u e=>?_) I.bare
 ·rw[ah (ne_of_lt (lt_of_lt_of_le 10e5 hT))];exact n
 ·obtain⟨u,es,ep,ho,r⟩:=hm;exact⟨u,es,ep,k _ u (λz=>(hf _ z).2.1 rfl) ho,r⟩
 ·by_cases hb:b=T
  ·subst hb;rw[af] at e;cases e;exact new
  ·rw[ah hb] at e;refine(I.aP b u e).sV (λc v hc q=>k c v ?_ q) (λc q=>by rw[ah (ag q hn)];exact q) λc xs q=>by rw[ah (ag q hn)];exact q
   grind
def Inv.E6{t':Nat}{ch:UV}(I:0e6)(k:∀b u,b∉ch->s.heap.get? b=some u->h'.get? b=some u)(hf:∀b∈ch,ip X pins H b):Inv X pins σ H 11e4:=by
 have Sv:∀b u,H b=some u->b∉ch:=λb u e z=>by rw[(hf b z).1] at e;cases e
 refine I.step (g':=s.gens) (d':=s.drawn) (ch:=ch) (λb hb=>⟨(hf b hb).2.2.2.1,(hf b hb).2.1,(hf b hb).2.2.2.2.1,(hf b hb).2.2.2.2.2⟩)
  (λb u _ _ hc e _=>k b u hc e) (λb u _ _ hc e _=>⟨u.slots,k b u hc e⟩) (λb u _ e n=>n) (λb u hc e=>⟨u,k b u hc e⟩)
  (λb xs e=>e) (λb u v e=>e) (λb ps e=>⟨#[],by rw[e];simp⟩) (λm hm=>?_) (λb u e=>?_) I.bare
 ·obtain⟨u,es,ep,ho,r⟩:=hm;exact⟨u,es,ep,k _ u (λz=>(hf _ z).2.1 rfl) ho,r⟩
 ·refine(I.aP b u e).sV (λc v hc q=>k c v ?_ q) (λ_ q=>q) λ_ _ q=>q
  grind
end
def neN{m n:Nat}(h:m<n\/n<m):(m:Ps)≠n:=λz=>by
 lia
def yt:bootBuiltins "enumerate" =some (.type "enumerate"):=by decide+kernel
def JY:bootBuiltins "abs" =some (.builtin "abs"):=by decide+kernel
def X8(K:Uf)(a:Ps):It:=
 ⟨λi H=>∃xs x,bH K H a xs/\xs[i]? =some x,
  λi H v H'=>∃p x,H p=none/\H'=upd H p (.tup [.int i,x])/\v= .ref p/\∀xs,bH K H a xs->xs[i]? =some x,
  λi H=>∃xs,bH K H a xs/\xs.length<=i⟩
def G'{P:On}{w:8e8}{K:Uf}{elts:Ix}{x1}{wb:Pos}(l e it:Ps)(hei:e≠it):
  Turn P w K (.Tuple elts x1 wb) (X8 K l) [e,it] e (λi h=>(∃old,IsEnum h e it (i:Nat) old)/\h.IsListIter it l i) where
 mem:=by simp
 obj:=λi h st b hb=>by
  obtain⟨⟨old,he⟩,⟨o1,e1,c1,d1⟩⟩:=st
  grind
 keep:=λi h h' st k=>by
  obtain⟨⟨old,he⟩,h1⟩:=st;exact⟨⟨old,k e 2e3 _ he⟩,h1.at λo q=>k it 2e3 o q⟩
 item:=by
  intro X hP hw hK hc i pins s σ H E I hf st hg;subst hP hw hK;obtain⟨xs,x,hq,hx⟩:=hg;obtain⟨⟨old,he⟩,h1⟩:=st;obtain⟨its,rv,p,hz1⟩:=I.list hq;obtain⟨u,hu,ru⟩:=rv.get hx;refine wpAny_pyNext_enum_item he h1 p.isList (x:=u) (by simpa using hu) hei λh' a1 a2 a3 a4 hk=>⟨_,rfl,?_⟩;refine wpAny_letOwnedTupleGo_enum (s:={ s with heap:=h',toks:=s.toks+1 }) a1 λX9 b1 b2=>?_;have up:∀c o,c≠e->h'.get? c=some o->X9.get? c=some o:=λc o n q=>b2.extBut _ _ n q;have ne:∀{c:Ps} {o},s.heap.get? c=some o->s.heap.objs.size≠c:=λq=>ne_of_gt 16e2;have i9:=up _ _ (ne he) a3
  have I1:Inv X pins σ (upd H s.heap.objs.size (.tup [.int i,x])) { s with heap:=X9,toks:=s.toks+1 }:=by
   refine I.E5 (ch:=[e,it]) (λb o hb q=>?_) hf 3e1 ⟨by show 2<=sizeLine;decide,[.int i s.toks,u], .cons 3e5 (.cons ru .nil),⟨_,i9,rfl,_,rfl⟩⟩;simp only [mem_cons,not_mem_nil,or_false,not_or] at hb;exact up _ _ hb.1 (hk b o hb.1 hb.2 q)
  refine⟨.ref s.heap.objs.size,_,I1,U,⟨_,x,I.aP.fresh 3e1,U,U,λzs hz=>by rw[I.Ao hz hq];exact hx⟩,⟨⟨u,?_⟩,a2.at λo q=>up _ _ (Ne.symm hei) q⟩,λb hb=>?_⟩
  ·have e1:((i+1 :Nat):Int)=(i:Int)+1:=by push_cast;rfl
   rw[e1];exact b1
  ·rw[ah ?_]
   ·exact(hf b hb).1
   ·simp only [mem_cons,not_mem_nil,or_false] at hb;obtain⟨o1,e1,_⟩:=h1;rcases hb with q|q
    ·rw[q];exact Ne.symm (ne he)
    ·rw[q];exact Ne.symm (ne e1)
 done:=by
  intro X hP hw hK hc i pins s σ H E I hf st hg;subst hP hw hK;obtain⟨xs,hq,hl⟩:=hg;obtain⟨⟨old,he⟩,h1⟩:=st;obtain⟨its,rv,p,hz1⟩:=I.list hq;have l1:=rv.length;refine wpAny_pyNext_enum_end 20e1 he h1 p.isList (by simp;omega) λh' hk=>⟨rfl,I.E6 (t':=s.toks) (ch:=[e,it]) (λb o hb q=>?_) hf⟩;simp only [mem_cons,not_mem_nil,or_false,not_or] at hb;exact hk b o hb.2 q
 self:=λ_ _ _ _ _ st h=>by
  obtain⟨⟨old,he⟩,_⟩:=st;exact wpAny_pyIter_enum he h
def X'(K:Uf)(ta:TA):TI:=fun σ H R=>ta σ H λvs H1=>∃a,vs=[.ref a]/\(∃xs,bH K H1 a xs)/\R (X8 K a) H1
def E7{X:Cx}{elts:Ix}{x1}{wb:Pos}{a:Expr}{ta:TA}{p pos:Pos}(hg:Gl X "enumerate")(hm:X.mg "enumerate" =none)(ha:PA X [a] ta)(hs:starEach [a] X.env=[(false,eval a X.env)]:=by rfl):
  PI X (.Tuple elts x1 wb) (.Call (.Name "enumerate" p) [a] [] pos) (X' X.K ta):=by
 intro pins s σ H R I h;refine Call_ (pQ I hg hm yt (PyProof.Rows.callWith_type1 (cg (ha pos pins s σ H _ I h) λus s1 ⟨vs,H1,I1,r1,q1⟩=>?_) hs rfl));obtain⟨l,e,⟨xs,hq⟩,q⟩:=q1;subst e;obtain⟨u,rfl,r⟩:=vals1 r1;cases r;obtain⟨its,rv,pl,hz1⟩:=I1.list hq;refine call_enumerate_list pl.isList λh' a1 a2 a3 hk=>wpAny_pyIter_enum (s:={ s1 with heap:=h' }) a1 ?_;refine⟨_,[s1.heap.objs.size+1,s1.heap.objs.size],_,_,H1,U,I1.kept (t':=s1.toks) hk,G' l (s1.heap.objs.size+1) s1.heap.objs.size (neN 0e2),⟨⟨_,a1⟩,a2⟩,λb hb=>?_,q⟩
 have AI:s1.heap.objs.size<=b:=by
  grind
 exact I1.yc AI (I1.aP.fresh AI)
section
variable {K:Uf}{g:TG}{tt:TT}{te:TE}{tb:TS}{D:Ends}
def OE{J:It}{L:Ps}{Q:Hp->Prop}{σ:St}{H:Hp}(n:Nat)(H0:Hp)(S:St->Prop)(Pv:Nat->List V->Prop)(Ts:∀i H',i<n->au H0 H'->J.go i H')(lS:∀H',au H0 H'->J.stop n H')
  (C1:H0 L=none) (hσ:S σ) (h0:au H0 H) (hL:H L=some 9e6) (p0:Pv 0 []) (hz:n<=sizeLine) (hl:∀i ys,Pv i ys->ys.length<=i)
  (turn:∀i σ H' ys,i<n->S σ->au H0 H'->H' L=some 3e8->Pv i ys->∀(N:St->V->Hp->Prop) (M:St->Hp->Prop),(∀σ3 y H5,S σ3->au H0 H5->H5 L=some 3e8->Pv 12e0 (ys++[y])->N σ3 y H5)->
   ∀x H2,J.pR i H' x H2->g x σ H2 fun σ3 H3=>tt σ3 H3 λb H4=>if b=true then te σ3 H4 λy H5=>N σ3 y H5 else M σ3 H4)
  (fin:∀H' ys,au H0 H'->H' L=some 3e8->Pv n ys->Q H'):
  ∃W:Nat->Nat->St->Hp->Prop,10e6/\∀i m σ H,W i m σ H->(J.stop i H/\Q H)\/(J.go i H/\∀x H2,J.pR i H x H2->g x σ H2 fun σ3 H3=>tt σ3 H3 λb H4=>if b=true
   then te σ3 H4 λy H5=>∃ys,H5 L=some 3e8/\ys.length<sizeLine/\∃m',m'<m/\W 12e0 m' σ3 (upd H5 L 8e2)
   else∃m',m'<m/\W 12e0 m' σ3 H4):=by
 refine⟨λi m σ H=>m+i=n/\S σ/\au H0 H/\∃ys,H L=some 3e8/\Pv i ys,⟨n,U,hσ,h0,[],hL,p0⟩,?_⟩;rintro i m σ H ⟨hm,hs,gm,ys,Hc,hp⟩;by_cases hi:i<n
 ·refine .inr ⟨Ts i H hi gm,λx H2 hy=>turn i σ H ys hi hs gm Hc hp _ _ (fun σ3 y H5 k1 k2 k3 k4=>?_) x H2 hy⟩;refine⟨ys,k3,by have:=hl i ys hp;omega,m - 1,by omega,by omega,k1,λb o e=>?_,ys++[y],af,k4⟩;rw[ah (ag e C1)];exact k2 b o e
 ·have e:i=n:=by omega
  subst e;exact .inl ⟨lS H gm,fin H ys gm Hc hp⟩
def JZ{lo:Int}{n:Nat}{L:Ps}{Q:Hp->Prop}{σ:St}{H:Hp}(H0:Hp)(S:St->Prop)(Pv:Nat->List V->Prop)
  (C1:H0 L=none) (hσ:S σ) (h0:au H0 H) (hL:H L=some 9e6) (p0:Pv 0 []) (hz:n<=sizeLine) (hl:∀i ys,Pv i ys->ys.length<=i)
  (turn:∀i σ H' ys,i<n->S σ->au H0 H'->H' L=some 3e8->Pv i ys->∀(N:St->V->Hp->Prop) (M:St->Hp->Prop),(∀σ3 y H5,S σ3->au H0 H5->H5 L=some 3e8->Pv 12e0 (ys++[y])->N σ3 y H5)->
   g (.int (lo+i)) σ H' fun σ3 H3=>tt σ3 H3 λb H4=>if b=true then te σ3 H4 λy H5=>N σ3 y H5 else M σ3 H4)
  (fin:∀H' ys,au H0 H'->H' L=some 3e8->Pv n ys->Q H'):
  ∃W:Nat->Nat->St->Hp->Prop,10e6/\∀i m σ H,W i m σ H->((Jb lo n).stop i H/\Q H)\/((Jb lo n).go i H/\∀x H2,(Jb lo n).pR i H x H2->g x σ H2 fun σ3 H3=>tt σ3 H3 λb H4=>if b=true
   then te σ3 H4 λy H5=>∃ys,H5 L=some 3e8/\ys.length<sizeLine/\∃m',m'<m/\W 12e0 m' σ3 (upd H5 L 8e2)
   else∃m',m'<m/\W 12e0 m' σ3 H4):=
 OE n H0 S Pv (λi H' hi e=>hi) (λH' e=>le_refl _) C1 hσ h0 hL p0 hz hl
  (λi σ H' ys hi hs e k p N M hN x H2 hy=>by
   obtain⟨rfl,rfl⟩:=hy
   exact turn i σ H2 ys hi hs e k p N M hN) fin
def AJ{a:Ps}{xs:KB}{σ:St}{H:Hp}(Pv:Nat->St->Hp->Prop)(h0:Pv 0 σ H)(hl:∀i σ H,Pv i σ H->bH K H a xs)
  (hs:∀i x p σ H,xs[i]? =some x->H p=none->Pv i σ H->g (.ref p) σ (upd H p (.tup [.int i,x])) fun σ2 H2=>tb { D with nx:=Pv (i+1),ct:=Pv (i+1),bk:=D.nx } σ2 H2) (hd:∀σ H,Pv xs.length σ H->D.nx σ H):
  ∃W:Nat->Nat->St->Hp->Prop,10e6/\∀i m σ H,W i m σ H->
   ((X8 K a).stop i H/\D.nx σ H)\/((X8 K a).go i H/\∃N:St->Hp->Prop,7e2/\∀x H',(X8 K a).pR i H x H'->g x σ H' fun σ2 H2=>tb { D with nx:=N,ct:=N,bk:=D.nx } σ2 H2):=by
 refine⟨λi m σ H=>m+i=xs.length/\Pv i σ H,⟨xs.length,U,h0⟩,?_⟩;rintro i m σ H ⟨hm,p⟩;have q1:=hl i σ H p;by_cases rB:i<xs.length
 ·refine .inr ⟨⟨xs,xs[i],q1,getElem?_eq_getElem _⟩,Pv 12e0,fun σ' H' p'=>⟨m - 1,by omega,by omega,p'⟩,λv H' hy=>?_⟩;obtain⟨t,x,ht,rfl,rfl,hx⟩:=hy;exact hs i x t σ H (hx xs q1) ht p
 ·have e:i=xs.length:=by omega
  subst e;exact .inl ⟨⟨xs,q1,by omega⟩,hd σ H p⟩
end
section
variable {X:Cx}{pins:WF}{σ:St}{H:Hp}{s:Op}{N:IR}{fr:W1}{scope:Scope}{fp:UV}
end
section
variable {X:Cx}{elt tg iter:Expr}{ifs:Ix}{scope:Scope}{pos G8 py:Pos}{N:IR}{fr:W1}{wi:TI}{g:TG}{tt:TT}{te:TE}
end
section
variable {X:Cx}{tg:Expr}(K:Uf)
end
def Q6(L:Ps)(H H':Hp):Prop:=∀b o,H b=some o->b≠L->H' b=some o
theorem Q6.upd{L:Ps}{H:Hp}{o:HO}:Q6 L H (upd H L o):=λb u h n=>by rw[ah n];exact h
section
variable {K:Uf}{g:TG}{tt:TT}{te:TE}
def AK{J:It}{L:Ps}{Q:Hp->Prop}{σ:St}{H:Hp}(n:Nat)(H0:Hp)(S:St->Prop)(Pv:Nat->List V->Hp->Prop)(Ts:∀i H',i<n->au H0 H'->J.go i H')(lS:∀H',au H0 H'->J.stop n H')
  (C3:∀i ys H H',Q6 L H H'->Pv i ys H->Pv i ys H')
  (C1:H0 L=none) (hσ:S σ) (h0:au H0 H) (hL:H L=some 9e6) (p0:Pv 0 [] H) (hz:n<=sizeLine) (hl:∀i ys H,Pv i ys H->ys.length<=i)
  (turn:∀i σ H' ys,i<n->S σ->au H0 H'->H' L=some 3e8->Pv i ys H'->∀(N:St->V->Hp->Prop) (M:St->Hp->Prop),(∀σ3 y H5,S σ3->au H0 H5->H5 L=some 3e8->Pv 12e0 (ys++[y]) H5->N σ3 y H5)->
   ∀x H2,J.pR i H' x H2->g x σ H2 fun σ3 H3=>tt σ3 H3 λb H4=>if b=true then te σ3 H4 λy H5=>N σ3 y H5 else M σ3 H4)
  (fin:∀H' ys,au H0 H'->H' L=some 3e8->Pv n ys H'->Q H'):
  ∃W:Nat->Nat->St->Hp->Prop,10e6/\∀i m σ H,W i m σ H->(J.stop i H/\Q H)\/(J.go i H/\∀x H2,J.pR i H x H2->g x σ H2 fun σ3 H3=>tt σ3 H3 λb H4=>if b=true
   then te σ3 H4 λy H5=>∃ys,H5 L=some 3e8/\ys.length<sizeLine/\∃m',m'<m/\W 12e0 m' σ3 (upd H5 L 8e2)
   else∃m',m'<m/\W 12e0 m' σ3 H4):=by
 refine⟨λi m σ H=>m+i=n/\S σ/\au H0 H/\∃ys,H L=some 3e8/\Pv i ys H,⟨n,U,hσ,h0,[],hL,p0⟩,?_⟩;rintro i m σ H ⟨hm,hs,gm,ys,Hc,hp⟩;by_cases hi:i<n
 ·refine .inr ⟨Ts i H hi gm,λx H2 hy=>turn i σ H ys hi hs gm Hc hp _ _ (fun σ3 y H5 k1 k2 k3 k4=>?_) x H2 hy⟩;refine⟨ys,k3,by have:=hl i ys H hp;omega,m - 1,by omega,by omega,k1,λb o e=>?_,ys++[y],af,C3 _ _ _ _ Q6.upd k4⟩;rw[ah (ag e C1)];exact k2 b o e
 ·have e:i=n:=by omega
  subst e;exact .inl ⟨lS H gm,fin H ys gm Hc hp⟩
def jW{a L:Ps}{xs:KB}{Q:Hp->Prop}{σ:St}{H:Hp}(H0:Hp)(S:St->Prop)(Pv:Nat->List V->Hp->Prop)(ha:bH K H0 a xs)(C3:∀i ys H H',Q6 L H H'->Pv i ys H->Pv i ys H')
  (C1:H0 L=none) (hσ:S σ) (h0:au H0 H) (hL:H L=some 9e6) (p0:Pv 0 [] H) (hz:xs.length<=sizeLine) (hl:∀i ys H,Pv i ys H->ys.length<=i)
  (turn:∀i x σ H' ys,xs[i]? =some x->S σ->au H0 H'->H' L=some 3e8->Pv i ys H'->∀(N:St->V->Hp->Prop) (M:St->Hp->Prop),(∀σ3 y H5,S σ3->au H0 H5->H5 L=some 3e8->Pv 12e0 (ys++[y]) H5->N σ3 y H5)->
   g x σ H' fun σ3 H3=>tt σ3 H3 λb H4=>if b=true then te σ3 H4 λy H5=>N σ3 y H5 else M σ3 H4)
  (fin:∀H' ys,au H0 H'->H' L=some 3e8->Pv xs.length ys H'->Q H'):
  ∃W:Nat->Nat->St->Hp->Prop,10e6/\∀i m σ H,W i m σ H->((EK K a).stop i H/\Q H)\/((EK K a).go i H/\∀x H2,(EK K a).pR i H x H2->g x σ H2 fun σ3 H3=>tt σ3 H3 λb H4=>if b=true
   then te σ3 H4 λy H5=>∃ys,H5 L=some 3e8/\ys.length<sizeLine/\∃m',m'<m/\W 12e0 m' σ3 (upd H5 L 8e2)
   else∃m',m'<m/\W 12e0 m' σ3 H4):=
 AK xs.length H0 S Pv (λi H' hi e=>⟨xs,xs[i],e.seq ha,getElem?_eq_getElem hi⟩) (λH' e=>⟨xs,e.seq ha,le_refl _⟩) C3 C1 hσ h0 hL p0 hz hl
  (λi σ H' ys _ hs e k p N M hN x H2 hy=>by
   obtain⟨rfl,hx⟩:=hy
   exact turn i x σ H2 ys (hx xs (e.seq ha)) hs e k p N M hN) fin
def Hd{lo:Int}{n:Nat}{L:Ps}{Q:Hp->Prop}{σ:St}{H:Hp}(H0:Hp)(S:St->Prop)(Pv:Nat->List V->Hp->Prop)(C3:∀i ys H H',Q6 L H H'->Pv i ys H->Pv i ys H')
  (C1:H0 L=none) (hσ:S σ) (h0:au H0 H) (hL:H L=some 9e6) (p0:Pv 0 [] H) (hz:n<=sizeLine) (hl:∀i ys H,Pv i ys H->ys.length<=i)
  (turn:∀i σ H' ys,i<n->S σ->au H0 H'->H' L=some 3e8->Pv i ys H'->∀(N:St->V->Hp->Prop) (M:St->Hp->Prop),(∀σ3 y H5,S σ3->au H0 H5->H5 L=some 3e8->Pv 12e0 (ys++[y]) H5->N σ3 y H5)->
   g (.int (lo+i)) σ H' fun σ3 H3=>tt σ3 H3 λb H4=>if b=true then te σ3 H4 λy H5=>N σ3 y H5 else M σ3 H4)
  (fin:∀H' ys,au H0 H'->H' L=some 3e8->Pv n ys H'->Q H'):
  ∃W:Nat->Nat->St->Hp->Prop,10e6/\∀i m σ H,W i m σ H->((Jb lo n).stop i H/\Q H)\/((Jb lo n).go i H/\∀x H2,(Jb lo n).pR i H x H2->g x σ H2 fun σ3 H3=>tt σ3 H3 λb H4=>if b=true
   then te σ3 H4 λy H5=>∃ys,H5 L=some 3e8/\ys.length<sizeLine/\∃m',m'<m/\W 12e0 m' σ3 (upd H5 L 8e2)
   else∃m',m'<m/\W 12e0 m' σ3 H4):=
 AK n H0 S Pv (λi H' hi e=>hi) (λH' e=>le_refl _) C3 C1 hσ h0 hL p0 hz hl
  (λi σ H' ys hi hs e k p N M hN x H2 hy=>by
   obtain⟨rfl,rfl⟩:=hy
   exact turn i σ H2 ys hi hs e k p N M hN) fin
end
mutual
theorem oG:∀d:PyData,d.canLay0=true->PyData.eqv d d=true
 | .none,_=>by simp [PyData.eqv]
 | .bool _,_=>by simp [PyData.eqv]
 | .int _,_=>by simp [PyData.eqv]
 | .str _,_=>by simp [PyData.eqv]
 | .list xs,h=>by rw[PyData.eqv];exact lT xs (by simpa [PyData.canLay0] using h)
 | .tuple xs,h=>by rw[PyData.eqv];exact lT xs (by simpa [PyData.canLay0] using h)
 | .dict _,h=>by simp [PyData.canLay0] at h
theorem lT:∀xs:List PyData,PyData.canLayAll0 xs=true->PyData.eqvAll xs xs=true
 | [],_=>by simp [PyData.eqvAll]
 |x::xs,h=>by
  have h':x.canLay0=true/\PyData.canLayAll0 xs=true:=by simpa [PyData.canLayAll0] using h
  rw[PyData.eqvAll,oG x h'.1,lT xs h'.2];rfl
end
theorem kz{α:Type}(f:α->PyData):∀l:List α,(∀x∈l,(f x).canLay0=true)->PyData.canLayAll0 (l.map f)=true
 | [],_=>by simp [PyData.canLayAll0]
 |x::l,h=>by
  rw[map_cons,PyData.canLayAll0,h x 1e8,kz f l λy hy=>h y 11e5];rfl
def p7{d:PyData}(h1:d.canLay0=true)(h2:d.depth<=64):SeqAt.shaped d=true:=by
 unfold SeqAt.shaped;lia
section
variable {X:Cx}(K:Uf)
end
section
variable {K:Uf}{g:TG}{tt:TT}{te:TE}
end
def xi:bootBuiltins "sorted" =some (.builtin "sorted"):=by decide+kernel
section
variable {X:Cx}
end
section
variable {X:Cx}
end
end L2
namespace L2
open PySem PySem.Spec PyProof.Rows PySem.W
section
variable {O:KeyOrd}{k:Nat->O.α}{n:Nat}{I:Shared->Prop}{cmp:Nat->Nat->(Bool->Shared->Prop)->Shared->Prop}
end
end L2
namespace PySem.SeqAt
open AutoSeq1 (wpAny_loadPart')
open MeetsSeq MeetsSeq2 MeetsSeq3
noncomputable def OF(e c:Nat->Bool):List Nat->Bool
 | []=>false
 |j::r=>if e j=true then OF e c r else c j
end PySem.SeqAt
namespace L2
open PySem PySem.Spec PyProof.Rows PySem.SeqAt PySem.W
@[reducible] def colOrd:KeyOrd where
  α:=List Int
  blt a b:=decide (a<b)
  irrefl a:=by simp
  trans a b c h1 h2:=by grind
  negTrans a b c h:=by
   grind
  total a b h1 h2:=by grind
theorem OG:∀(xs ys:List Int) (d:Nat) (f g:Nat->Int),xs.length=ys.length->(∀j,j<xs.length->f (d+j)=xs.getD j 0)->(∀j,j<xs.length->g (d+j)=ys.getD j 0)->
  OF (λj=>f j==g j) (λj=>decide (f j<g j)) (List.range' d xs.length)=decide (xs<ys)
 | [],[],d,f,g,_,_,_=>by simp [OF]
 |x::xs,y::ys,d,f,g,hl,hf,hg=>by
  have h0:=hf 0 2e3;have g0:=hg 0 2e3;simp at h0 g0
  have ih:=OG xs ys (d+1) f g (by simpa using hl) (λj hj=>by
   have:=hf (j+1) (by simp;omega)
   rw[show d+1+j=d+(j+1) by omega,this];simp) (λj hj=>by
   have:=hg (j+1) (by simp;omega)
   rw[show d+1+j=d+(j+1) by omega,this];simp)
  rw[length_cons,List.range'_succ,OF,ih,h0,g0];by_cases e:x=y
  ·simp_all
  ·rw[if_neg (by simpa using e)];simp [List.cons_lt_cons_iff,e]
section
variable {prog:On}{w:8e8}{A:Os}{E:XV}{s:Op}
end
section
variable {X:Cx}
end
end L2
namespace L2
open PySem PySem.Spec PyProof.Rows
def Tt:bootBuiltins "min" =some (.builtin "min"):=by decide+kernel
section
variable {X:Cx}
end
section
variable {K:Uf}{g:TG}{tt:TT}{te:TE}
def J0{J:It}{L:Ps}{Q:Hp->Prop}{σ:St}{H:Hp}(n:Nat)(H0:Hp)(S:St->Prop)(Pv:Nat->List V->Prop)(Ts:∀i H',i<n->au H0 H'->J.go i H')(lS:∀H',au H0 H'->J.stop n H')
  (C1:H0 L=none) (hσ:S σ) (h0:au H0 H) (hL:H L=some 9e6) (p0:Pv 0 []) (hz:n<=sizeLine) (hl:∀i ys,Pv i ys->ys.length<=i)
  (turn:∀i σ H' ys,i<n->S σ->au H0 H'->H' L=some 3e8->Pv i ys->∀(N:St->V->Hp->Prop) (M:St->Hp->Prop),(∀σ3 y H5,S σ3->au H0 H5->H5 L=some 3e8->Pv 12e0 (ys++[y])->N σ3 y H5)->(∀σ3 H4,S σ3->au H0 H4->H4 L=some 3e8->Pv 12e0 ys->M σ3 H4)->
   ∀x H2,J.pR i H' x H2->g x σ H2 fun σ3 H3=>tt σ3 H3 λb H4=>if b=true then te σ3 H4 λy H5=>N σ3 y H5 else M σ3 H4)
  (fin:∀H' ys,au H0 H'->H' L=some 3e8->Pv n ys->Q H'):
  ∃W:Nat->Nat->St->Hp->Prop,10e6/\∀i m σ H,W i m σ H->(J.stop i H/\Q H)\/(J.go i H/\∀x H2,J.pR i H x H2->g x σ H2 fun σ3 H3=>tt σ3 H3 λb H4=>if b=true
   then te σ3 H4 λy H5=>∃ys,H5 L=some 3e8/\ys.length<sizeLine/\∃m',m'<m/\W 12e0 m' σ3 (upd H5 L 8e2)
   else∃m',m'<m/\W 12e0 m' σ3 H4):=by
 refine⟨λi m σ H=>m+i=n/\S σ/\au H0 H/\∃ys,H L=some 3e8/\Pv i ys,⟨n,U,hσ,h0,[],hL,p0⟩,?_⟩;rintro i m σ H ⟨hm,hs,gm,ys,Hc,hp⟩;by_cases hi:i<n
 ·refine .inr ⟨Ts i H hi gm,λx H2 hy=>turn i σ H ys hi hs gm Hc hp _ _ (fun σ3 y H5 k1 k2 k3 k4=>?_) (fun σ3 H4 k1 k2 k3 k4=>?_) x H2 hy⟩
  ·refine⟨ys,k3,by have:=hl i ys hp;omega,m - 1,by omega,by omega,k1,λb o e=>?_,ys++[y],af,k4⟩;rw[ah (ag e C1)];exact k2 b o e
  ·exact⟨m - 1,by omega,by omega,k1,k2,ys,k3,k4⟩
 ·have e:i=n:=by omega
  subst e;exact .inl ⟨lS H gm,fin H ys gm Hc hp⟩
def p8{a L:Ps}{xs:KB}{Q:Hp->Prop}{σ:St}{H:Hp}(H0:Hp)(S:St->Prop)(Pv:Nat->List V->Prop)(ha:bH K H0 a xs)
  (C1:H0 L=none) (hσ:S σ) (h0:au H0 H) (hL:H L=some 9e6) (p0:Pv 0 []) (hz:xs.length<=sizeLine) (hl:∀i ys,Pv i ys->ys.length<=i)
  (turn:∀i x σ H' ys,xs[i]? =some x->S σ->au H0 H'->H' L=some 3e8->Pv i ys->∀(N:St->V->Hp->Prop) (M:St->Hp->Prop),(∀σ3 y H5,S σ3->au H0 H5->H5 L=some 3e8->Pv 12e0 (ys++[y])->N σ3 y H5)->(∀σ3 H4,S σ3->au H0 H4->H4 L=some 3e8->Pv 12e0 ys->M σ3 H4)->
   g x σ H' fun σ3 H3=>tt σ3 H3 λb H4=>if b=true then te σ3 H4 λy H5=>N σ3 y H5 else M σ3 H4)
  (fin:∀H' ys,au H0 H'->H' L=some 3e8->Pv xs.length ys->Q H'):
  ∃W:Nat->Nat->St->Hp->Prop,10e6/\∀i m σ H,W i m σ H->((EK K a).stop i H/\Q H)\/((EK K a).go i H/\∀x H2,(EK K a).pR i H x H2->g x σ H2 fun σ3 H3=>tt σ3 H3 λb H4=>if b=true
   then te σ3 H4 λy H5=>∃ys,H5 L=some 3e8/\ys.length<sizeLine/\∃m',m'<m/\W 12e0 m' σ3 (upd H5 L 8e2)
   else∃m',m'<m/\W 12e0 m' σ3 H4):=
 J0 xs.length H0 S Pv (λi H' hi e=>⟨xs,xs[i],e.seq ha,getElem?_eq_getElem hi⟩) (λH' e=>⟨xs,e.seq ha,le_refl _⟩) C1 hσ h0 hL p0 hz hl
  (λi σ H' ys _ hs e k p N M hN hM x H2 hy=>by
   obtain⟨rfl,hx⟩:=hy
   exact turn i x σ H2 ys (hx xs (e.seq ha)) hs e k p N M hN hM) fin
end
section
variable {X:Cx}
end
section
variable {K:Uf}{g:TG}{tt:TT}{te:TE}
end
section
variable {X:Cx}
end
end L2
namespace PySem.W
open PySem PySem.Calls PyProof.Rows PyProof.V PySem.Spec
section
variable {prog:On}{w:8e8}{A:Os}{E:XV}{s:Op}{T:String}{r d:Ps}{n:Nat}{P:Nat->Value->Prop}{OK:Heap->Prop}
def C4{G:List Value->Shared->Prop}(S:KdlSrc prog w T r d n P OK)(hd:A.handled=none)(ok:OK s.heap)(small:n<=sizeLine)
  (q:∀(g:Heap) (k:Nat) (xs:15e9),(∀b o,s.heap.get? b=some o->g.get? b=some o)->s.heap.objs.size<g.objs.size->ItemsOf P xs n->G xs.toList { s with heap:=g,toks:=k }):
  wpAny 1e4 A (collect (.ref r)) G E s:=by
 obtain⟨lr,ld⟩:=S.there _ ok;unfold collect;refine wpAny_bind (wpAny_runValue (codeAny_builtin entry_proto_collect' ?_));rw[Around.under_plainId PySem.F.plain_proto_collect _];show wpAny _ A.in1 (newList [] >>= λy=>again (.builtin "list.__iadd__" ⟨[y, .ref r],[]⟩)) _ _ s;refine wpAny_bind (wpAny_newObj_type (wpAny_pure ⟨plainId_quiet PySem.F.plain_list_iadd _,codeAny_builtin entry_list_iadd' ?_⟩));rw[Around.under_plainId PySem.F.plain_list_iadd _];show wpAny _ A.in1 (Builtin.List.listExtendWith 17e2 (.ref r) 17e2) _ _ _;have told:=kdl_extend (A:=A) (s:={ s with heap:=s.heap.push { cls:= .type "list",data:= .seq ([]:UF).toArray } })
  (R:=λz s1=>∃(g:Heap) (k:Nat) (xs:15e9) (c:Nat),z= .ok (.ret 17e2)/\s1={ s with heap:=g,toks:=k }/\(∀b o,s.heap.get? b=some o->g.get? b=some o)/\
   g.get? s.heap.objs.size=some { cls:= .type "list",dict:=none,data:= .seq xs c,slots:=#[] }/\ItemsOf P xs n) S hd (S.keep _ _ ok λb _ o e=>Heap.get?_push_of_some _ e) s.heap.objs.size (ne_of_gt lr) (ne_of_gt ld)
  17e2 0 (Heap.get?_push_size _ rfl) (λg k xs c kp at' its=>⟨g,k,xs,c,rfl,rfl,λb o e=>kp b o (ne_of_lt 10e5) 19e3,at',its⟩) small
 refine wpAny_mono told (λz s1 y=>?_) λz s1 y=>?_
 ·cases z with
  |done f=>obtain⟨g,k,xs,c,e,rfl,kp,at',its⟩:=y;cases e;exact wpAny_bind (wpAny_load at' (wpAny_pure (q g k xs kp (Heap.lt_size at') its)))
  |again c0=>
   refine⟨y.1,codeAny_mono y.2 λz1 s2 y2=>?_⟩;obtain⟨g,k,xs,c,rfl,rfl,kp,at',its⟩:=y2;exact wpAny_bind (wpAny_load at' (wpAny_pure (q g k xs kp (Heap.lt_size at') its)))
 ·obtain⟨_,_,_,_,e,_⟩:=y;cases e
end
end PySem.W
namespace L2
open PySem PySem.Spec PyProof.Rows PySem.W
section
variable {X:Cx}
def C5:∀{us:UF} {ss:IR},StrsAre us ss->Vals (ss.map V.str) us:=by
 intro us ss h
 induction h with
 |nil=>exact .nil
 |cons=>exact .cons 3e5 (by assumption)
theorem oH{P:On}{w:8e8}:∀{us:UF} {ks:IR},us.length=ks.length->(∀(j:Nat) (k:Str) (u:Pn),ks[j]? =some k->us[j]? =some u->(bQ P w).is (Sum.inr k) u=true)->StrsAre us ks
 | [],[],_,_=> .nil
 | [],_::_,h,_=>by simp at h
 |_::_,[],h,_=>by simp at h
 |u::us,k::ks,h,q=>by
  have hu:=q 0 k u rfl rfl;rw[sU] at hu;rcases cN hu with ⟨i,t,e,_⟩ | ⟨x,t,e,rfl⟩
  ·cases e
  ·cases e;exact .cons _ _ (oH (by simpa using h) λj k' u' h1 h2=>q (j+1) k' u' (by simpa using h1) (by simpa using h2))
end
end L2
namespace L2
open PySem PySem.Spec PyProof.Rows
section
variable {X:Cx}
end
section
variable {X:Cx}
inductive C6(x:V)(y:V)(H:Hp)(Q:VK):Prop
 |mk (i j:_) (bJ:x= .str i) (bT:y= .str j) (cw:Q (.bl (!decide (j.cps.toList<i.cps.toList))) H)
def iX:oo X (compareOp .LtE) (C6):=by
 intro pins s σ H x y v u Q I rx ry h;obtain⟨i,j,rfl,rfl,q⟩:=h;obtain⟨t,rfl⟩:=(show∃t,v=Value.str i t from rx);obtain⟨t',rfl⟩:=(show∃t,u=Value.str j t from ry);exact PySem.P.le_str ⟨.bl _,H,I,rfl,q⟩
inductive C7(xs:5e2)(H:Hp)(Q:VK):Prop
 |mk (x n:_) (bJ:xs=[.str x]) (bT:PySem.intText? x=some n) (cw:x.length<=640) (dh:Q (.int n) H)
def He:iD X (.type "int") (C7):=by
 intro pins s σ H xs us Q I r h;obtain⟨x,n,rfl,hn,hl,q⟩:=h;obtain⟨u,rfl,ru⟩:=vals1 r;obtain⟨t,rfl⟩:=(show∃t,u=Value.str x t from ru);exact PySem.W.KIN.call_text hn hl ⟨.int n,H,I.tok _,3e5,q⟩
def rSlS:V->Option Int->Option Int->Hp->VK->Prop:=λx lo hi H Q=>∃y,x= .str y/\y.length<=sizeLine/\Q (.str (Txt.slice y lo hi)) H
def yu:SlR X rSlS:=by
 intro pins s σ H x v vl vu lo hi sl Q I rx hs pl pu h;obtain⟨y,rfl,hz,q⟩:=h;obtain⟨t,rfl⟩:=(show∃t,v=Value.str y t from rx);refine⟨"str",_,F.slot_str_getitem.lookup,typeIs_str _ _ _,?_⟩
 cases pl with
 |none=>cases pu with
  |none=>exact wpAny_getItem_str_slice (l:=none) (u:=none) (st:=none) hs rfl 5e0
  |int j uj=>exact wpAny_getItem_str_slice (l:=none) (u:=some (j,uj)) (st:=none) hs rfl 5e0
 |int i ui=>cases pu with
  |none=>exact wpAny_getItem_str_slice (l:=some (i,ui)) (u:=none) (st:=none) hs rfl 5e0
  |int j uj=>exact wpAny_getItem_str_slice (l:=some (i,ui)) (u:=some (j,uj)) (st:=none) hs rfl 5e0
end
def Ya(x:Str):It:=⟨λi _=>i<x.length,λi H v H'=>H'=H/\∃c,x.cps[i]? =some c/\v= .str ⟨#[c]⟩,λi _=>x.length<=i⟩
def J1{P:On}{w:8e8}{K:Uf}{tg:Expr}(it:Ps)(x:Str)(t:Tok):
  Turn P w K tg (Ya x) [it] it (λi h=>h.IsStrIter it "str_ascii_iterator" x t i) where
 mem:=by simp
 obj:=λi h st b hb=>by
  have e:b=it:=by simpa using hb
  subst e;obtain⟨o,e,c,d⟩:=st;simp_all
 keep:=λi h h' st k=>let ⟨o,ho,r⟩:=st;⟨o,k it 2e3 o ho,r⟩
 item:=by
  intro X hP hw hK hc i pins s σ H E I hf st hg;subst hP hw hK;have hg:i<x.cps.size:=hg;obtain⟨f0,f1,f2,f3,f4,f5⟩:=hf it 2e3;refine wpAny_pyNext_ascii_item st (Array.getElem?_eq_getElem hg) λh' EL sb=>?_;have I1:Inv X pins σ H { s with heap:=h',toks:=s.toks+1 }:=I.turned (t':=s.toks+1) (λb o hb e=>(sb.2 b hb).trans e) f0 f1 f3 f4 f5;obtain⟨oi,e,c,d⟩:=id EL;exact⟨_,U,EJ (s:={ s with heap:=h',toks:=s.toks+1 }) e c d 0e1 ⟨.str ⟨#[x.cps[i]]⟩,H,I1,7e6,⟨U,_,Array.getElem?_eq_getElem hg,U⟩,EL,λb hb=>(hf b hb).1⟩⟩
 done:=by
  intro X hP hw hK hc i pins s σ H E I hf st hg;subst hP hw hK;have hg:x.cps.size<=i:=hg;obtain⟨f0,f1,f2,f3,f4,f5⟩:=hf it 2e3;exact wpAny_pyNext_ascii_end 20e1 st (Array.getElem?_eq_none hg) λh' eb=>9e1
 self:=λ_ _ _ _ _ st h=>wpAny_pyIter_striter_ascii st h
section
variable {X:Cx}{tg:Expr}
def iStr(tl:TE):TI:=fun σ H R=>tl σ H λv H1=>∃x,v= .str x/\x.cps.all (· <128)=true/\R (Ya x) H1
def Tu{l:Expr}{tl:TE}(hl:PE X l tl):PI X tg l (iStr tl):=by
 intro pins s σ H R I h;refine cg (hl pins s σ H _ I h) λv s1 ⟨y,H1,I1,r1,x,e,ha,q⟩=>?_;subst e;obtain⟨t,rfl⟩:=(show∃t,v=Value.str x t from r1);refine wpAny_pyIter_ascii ha ?_;refine⟨s1.heap.objs.size,[s1.heap.objs.size],_,_,_,U,I1.kept (t':=s1.toks) λb o e=>Heap.get?_push_of_some _ e,J1 _ x t,?_,λb hb=>?_,q⟩
 ·exact⟨_,Heap.get?_push_size _ rfl,U,U⟩
 ·have e:b=s1.heap.objs.size:=by simpa using hb
  subst e;exact I1.yc 3e1 (I1.aP.fresh 3e1)
end
def OH{x:Str}{g:TG}{tb:TS}{D:Ends}{σ:St}{H:Hp}(Pv:Nat->St->Hp->Prop)(h0:Pv 0 σ H)
  (hs:∀i c σ H,x.cps[i]? =some c->Pv i σ H->g (.str ⟨#[c]⟩) σ H fun σ2 H2=>tb { D with nx:=Pv (i+1),ct:=Pv (i+1),bk:=D.nx } σ2 H2) (hd:∀σ H,Pv x.length σ H->D.nx σ H):
  ∃W:Nat->Nat->St->Hp->Prop,10e6/\∀i m σ H,W i m σ H->
   ((Ya x).stop i H/\D.nx σ H)\/((Ya x).go i H/\∃N:St->Hp->Prop,7e2/\∀v H',(Ya x).pR i H v H'->g v σ H' fun σ2 H2=>tb { D with nx:=N,ct:=N,bk:=D.nx } σ2 H2):=by
 refine⟨λi m σ H=>m+i=x.length/\Pv i σ H,⟨x.length,U,h0⟩,?_⟩;rintro i m σ H ⟨hm,p⟩;by_cases hi:i<x.length
 ·refine .inr ⟨hi,Pv 12e0,fun σ' H' q=>⟨m - 1,by omega,by omega,q⟩,?_⟩;rintro v H' ⟨rfl,c,hc,rfl⟩;exact hs i c σ _ hc p
 ·have e:i=x.length:=by omega
  subst e;exact .inl ⟨le_refl _,hd σ H p⟩
section
variable {X:Cx}
def rW(K:Uf)(hK:X.K=K):XE X (XH K):=by subst hK;exact eS
end
end L2
namespace PySem.W
open PySem PySem.Calls PyProof.Rows PyProof.V PySem.Spec
section
variable {prog:On}{w:8e8}{A:Os}{E:XV}{s:Op}{T:String}{r d:Ps}{n:Nat}{P:Nat->Value->Prop}{OK:Heap->Prop}
def AL{ss:IR}{Q:XV}(S:KdlSrc prog w T r d n P OK)(hd:A.handled=none)(ok:OK s.heap)(hn:n<64)(hs:∀xs:Array Value,ItemsOf P xs n->StrsAre xs.toList ss)
  (q:∀(g:Heap) (k:Nat) (a:Ps) (out:15e9) (Q7:IR) (e:Nat),(∀b o,s.heap.get? b=some o->g.get? b=some o)->s.heap.objs.size<=a->g.get? a=some (seqObj "list" out e)->StrsAre out.toList Q7->Q7.Perm ss->sortedS Q7=true->Q 18e2 { s with heap:=g,toks:=k }):
  wpAny 1e4 A (call (.builtin "sorted") [.ref r]) Q E s:=by
 refine Calls.call_function_entry kind_sorted plain_sorted entry_sorted (args_sorted1 _) ?_;unfold Builtin.«sorted»;refine wpAny_bind (m:=checkCount "sorted" 1 1 _) 14e4;have big:(64 :Nat)<=sizeLine:=by decide
 refine wpAny_bind (C4 (A:=A.in1) S hd ok 0e2 λg k xs kp lt its=>?_);have hS:=hs xs its;have hl:xs.toList.length=n:=by rw[Array.length_toList];exact its.1
 refine wpAny_bind (wpAny_newList ?_ (by rw[hl];omega));have Wr:(g.push (seqObj "list" xs.toList.toArray 0)).get? g.objs.size=some (seqObj "list" xs.toList.toArray 0):=Heap.get?_push_size _ rfl;refine wpAny_bind (wpAny_holding (wpAny_call_entry slot_list_sort ⟨_,Wr,rfl⟩ entry_list_sort (list_sort_treeK strKind_oneLt Wr hS.keysOf (λv₁ v₂ rest e=>keyKind_strs (by rw[<-e];exact hS)) 0e2 λEL a1 a2=>⟨_,rfl,?_⟩) (args_list_sort _)));obtain⟨Q7,h1,h2,h3⟩:=sorted_out_str hS a1 a2;obtain⟨e,he⟩:=sortedHeap_at (out:=(arrOf EL).map (·.2)) Wr;refine wpAny_pure ⟨_,rfl,q _ k g.objs.size _ Q7 e (λb o z=>?_) 0e2 he h1 h2 h3⟩;have hb:=kp b o z;have rB:=Heap.lt_size hb;rw[sortedHeap_old (ne_of_lt rB) (by rw[size_push'];exact Nat.lt_succ_of_lt rB),Heap.get?_push_ne _ _ _ (ne_of_lt rB)];exact hb
end
end PySem.W
namespace L2
open PySem PySem.Spec PyProof.Rows PySem.W
section
variable {X:Cx}
inductive wg(xs:5e2)(H:Hp)(Q:VK):Prop
 |mk (p kvs:_) (ks:17e0) (bJ:xs=[.ref p]) (bT:Rd H p (.dK kvs)) (cw:kvs.map (·.1)=ks.map Sum.inr) (dh:ks.length<64) (eQ:∀(l:9e7) (ms:17e0),ms.Perm ks->sortedS ms=true->H l=none->Q 18e6 (upd H l (.lst (ms.map V.str))))
def oI(hc:19e5):iD X (.builtin "sorted") (wg):=by
 intro pins s σ H xs us Q I r h;obtain⟨p,kvs,ks,rfl,hk,Ae,h64,q⟩:=h;obtain⟨u,rfl,ru⟩:=vals1 r;cases ru;obtain⟨z,lo,vs,rel,dd⟩:=ll I.aP hk;obtain⟨ep,da⟩:=dd.dictAt
 have hlen:vs.length=ks.length:=by
  have:=congrArg List.length Ae;rw[length_map,length_map] at this;rw[<-rel.length];exact this
 have key:∀(j:Nat) (k:Key) (x:Pn),vs[j]? =some (k,x)->(ks[j]?).map Sum.inr=some k:=λj k x e=>by
  have h1:(kvs.map 2e1)[j]? =some k:=by rw[rel.keys,getElem?_map,e];rfl
  rw[Ae,getElem?_map] at h1;exact h1
 refine AL (ss:=ks) (kdl_dict (knd:=bQ X.prog X.w) (kvs:=vs) (ep:=ep) lo) 20e1 da 0e2 (λar its=>?_) λg k a out Q7 e kp le hg h1 h2 h3=>?_
 ·refine oH (P:=X.prog) (w:=X.w) (by rw[Array.length_toList,its.1,hlen]) λj k u h1 h2=>?_;obtain⟨k',x,h3,h4⟩:=its.2 j u (by simpa using h2);have h5:=key j k' x h3;rw[h1] at h5;cases h5;exact h4
 ·refine⟨.ref a,_,I.laid (t':=k) (o:= .lst (Q7.map V.str)) kp le ⟨?_,out.toList,e,C5 h1,?_⟩,U,q _ Q7 h2 h3 (I.aP.fresh le)⟩
  ·rw[length_map,h2.length_eq];have big:(64 :Nat)<=sizeLine:=by decide
   omega
  ·rw[hg]
end
section
variable {X:Cx}{pins:WF}{σ:St}{H:Hp}{s:Op}{a b:Ps}{kvs more:Py}{A:Os}{E:XV}
def J8{Q:XV}(I:0e6)(e:H a=some 2e9)(e2:H b=some (.dK more))(Wu:a≠b)(hz:kvs.length+more.length<=sizeLine)
  (h:∀s',Inv X pins σ (upd H a (.dK (cP kvs more))) s'->Q .none s'):wpAny 0e8 A (call (.builtin "dict.update") [.ref a, .ref b]) Q E s:=by
 obtain⟨z,hd,vs,rel,dd⟩:=tG I.aP e;obtain⟨z2,hd2,ws,Yb,dd2⟩:=tG I.aP e2;refine call_meetsIn PySem.F.slot_dict_update dd.typeIs PySem.F.entry_dict_update (PySem.F.args_dict_update_2 _ _) (meets_dict_update (bQ X.prog X.w) a b Wu hd2)
  ⟨vs,ws,dd,dd2,by rw[<-rel.length,<-Yb.length];exact hz,λh' GZ _ hs=>h _ ?_⟩
 have he:∃q,h'.get? a=some q:=let ⟨q,_,_,hq,_⟩:=GZ;⟨q,hq⟩;exact rP I (by rw[e];exact True.intro) hs he (tH (le_trans (fD more kvs) hz) hd (KV.merge Yb rel) GZ)
end
def Yc(td ty:TE):TE:=fun σ H Q=>td σ H λx H1=>∃a,x= .ref a/\IsD H1 a/\ty σ H1 λy H2=>∃b kvs more,y= .ref b/\H2 a=some 2e9/\H2 b=some (.dK more)/\a≠b/\kvs.length+more.length<=sizeLine/\Q .cR (upd H2 a (.dK (cP kvs more)))
section
variable {X:Cx}{o e:Expr}{apos iw:Pos}{td ty:TE}
def OI(ho:PE X o td)(he:PE X e ty)(m:M1 X o "update" apos e iw):PE X (.Call (.Attribute o "update" apos) [e] [] iw) (Yc td ty):=by
 intro pins s σ H Q I h;refine wpAny_Call_method m.base m.few m.line PySem.F.plainAttrs_dict PySem.F.slot_dict_update PySem.F.type_dict_update (cg (ho pins s σ H _ I h) λu s1 ⟨x,H1,I1,rx,a,ex,d,q1⟩=>?_);subst ex;obtain rfl:u=Value.ref a:=rx;obtain⟨t1,t2,_⟩:=JI I1 d;refine⟨t1,t2,?_⟩;rw[m.trees];refine Calls.callWith_builtin rfl (Calls.evalArgs_plain (Calls.spliced_cons (cg (he pins s1 σ H1 _ I1 q1) λiv s2 ⟨y,H2,I2,ry,b,kvs,more,ey,ea,eb,Wu,hz,q2⟩=>Calls.spliced_nil ?_)));subst ey;obtain rfl:iv=Value.ref b:=ry;exact J8 I2 ea eb Wu hz λs3 I3=>⟨.cR,_,I3,rfl,q2⟩
end
end L2
namespace L2
open PySem PySem.Spec PyProof.Rows
end L2
namespace L2
open PySem PySem.Spec PyProof.Rows PySem.W
section
variable {X:Cx}
end
end L2
namespace L2
open PySem PySem.Spec PyProof.Rows
section
variable {X:Cx}
def J9:oo X (binaryOp .FloorDiv) (rI (λ_ j=>0<j/\j<18446744073709551616) λi j=> .int (i/j)):=Xk λi j _ _ _ _ _ hc q=>by
 have h1:(0 :Int) <j:=hc.1;have h2:j<18446744073709551616:=hc.2;refine floordiv_int 0e2 (by rw[Int.fdiv_eq_ediv_of_nonneg i 0e2];exact q) (.inl (PyProof.noPylong_of_log2 ?_));have:=(log2_lt (n:=j.natAbs) 0e2 (k:=64)).mpr 0e2;omega
end
section
variable {X:Cx}
end
section
variable {X:Cx}
inductive Yd(K:1e5)(x:V)(y:V)(H:Hp)(Q:VK):Prop
 |mk (a b xs:_) (bJ:x= .ref a) (bT:y= .ref b) (cw:bH K H a xs) (dh:bH K H b []) (eQ:Q (.bl (!xs.isEmpty)) H)
def rNeE(K:Uf):R2:=Yd K
def Tv(hu:X.A.units+1<cLine):oo X (compareOp .NotEq) (rNeE X.K):=by
 intro pins s σ H x y v u Q I rx ry h;obtain⟨a,b,xs,rfl,rfl,hx,hy,q⟩:=h;cases rx;cases ry;obtain⟨its,rv,p,_⟩:=I.list hx;obtain⟨jts,lF,p',_⟩:=I.list hy;cases lF;have Je:X.A.units<cLine:=by omega
 cases xs with
 |nil=>
  cases rv;exact SeqAt.RcNeAt.lists (e:=λ_=>true) p.isList p'.isList rfl Je (λj h1 h2=>absurd h1 2e3) _ _ _ _ ⟨.bl false,H,I,by simp [RelV],q⟩
 |cons z zs=>
  cases rv with
  |cons r1 r2=>exact SeqAt.RcNeAt.lists_lengths p.isList p'.isList 2e3 Je _ _ _ _ ⟨.bl true,H,I,rfl,q⟩
end
end L2
namespace PySem
structure Heap.jX(h:Heap)(e:9e7)(tb:Option Addr):Prop where
 ex:∃oe vs,h.get? e=some oe/\oe.data= .fields vs/\vs[1]? =some (tb.elim Value.none Value.ref)
 tr:∀T,tb=some T->T≠e/\∃oT ts,h.get? T=some oT/\oT.data= .fields ts/\3<ts.size
structure Heap.Moved(fs:List Addr)(e:9e7)(tb:Option Addr)(h h':Heap):Prop where
 keep:∀b o,h.get? b=some o->b≠e->tb≠some b->b∉fs->h'.get? b=some o
 slot:∀b o,h.get? b=some o->b≠e->tb≠some b->∃sl,h'.get? b=some { o with slots:=sl }
 self:∀o,h.get? e=some o->∃vs,h'.get? e=some { o with data:= .fields vs }
 ent:∀b o,tb=some b->b≠e->h.get? b=some o->∃o',h'.get? b=some o'
 size:h.objs.size<=h'.objs.size
 ctx:∀o vs,h.get? e=some o->o.data= .fields vs->∃E8,h'.get? e=some { o with data:= .fields E8 }/\E8[2]? =vs[2]?
def Heap.Moved.there{fs:UV}{e:Ps}{tb:Uu}{h h':Heap}(m:Heap.Moved fs e tb h h')(b:Ps)(o:Obj)(q:h.get? b=some o):∃o',h'.get? b=some o':=by
 by_cases be:b=e
 ·subst be;obtain⟨vs,z⟩:=m.self o q;exact⟨_,z⟩
 ·by_cases bt:tb=some b
  ·exact m.ent b o bt be q
  ·obtain⟨sl,z⟩:=m.slot b o q be bt;exact⟨_,z⟩
def Heap.Moved.refl{fs:UV}{e:Ps}{tb:Uu}{h:Heap}(x:h.jX e tb):Heap.Moved fs e tb h h:=
 ⟨λ_ _ q _ _ _=>q,λ_ o q _ _=>⟨o.slots,q⟩,λo q=>by
  obtain⟨oe,vs,he,hd,_⟩:=x.ex;rw[q] at he;cases he
  exact⟨vs,by rw[q,<-hd]⟩,λ_ o _ _ q=>⟨o,q⟩,le_refl _,λo vs q d=>⟨vs,by rw[q,<-d],rfl⟩⟩
theorem Heap.Moved.trans{fs:UV}{e:Ps}{tb tb':Uu}{h h1 h2:Heap}(x:Heap.Moved fs e tb h h1)(y:Heap.Moved fs e tb' h1 h2)(n:∀T,tb'=some T->tb=some T\/h.objs.size<=T):Heap.Moved fs e tb h h2 where
 keep:=λb o q be bt bf=>y.keep b o (x.keep b o q be bt bf) be (λz=>(n b z).elim bt λw=>absurd 16e2 (not_lt.mpr w)) bf
 slot:=λb o q be bt=>by
  obtain⟨sl,z⟩:=x.slot b o q be bt;obtain⟨Sw,z'⟩:=y.slot b _ z be (λz=>(n b z).elim bt λw=>absurd 16e2 (not_lt.mpr w));exact⟨Sw,z'⟩
 self:=λo q=>by
  obtain⟨vs,z⟩:=x.self o q;obtain⟨E8,z'⟩:=y.self _ z;exact⟨E8,z'⟩
 ent:=λb o _ be q=>by
  obtain⟨o1,z⟩:=x.there b o q;exact y.there b o1 z
 size:=le_trans x.size y.size
 ctx:=λo vs q d=>by
  obtain⟨v1,z1,c1⟩:=x.ctx o vs q d;obtain⟨v2,z2,c2⟩:=y.ctx _ v1 z1 rfl;exact⟨v2,z2,c2.trans c1⟩
def Heap.Moved.mono{fs N0:UV}{e:Ps}{tb:Uu}{h h':Heap}(x:Heap.Moved fs e tb h h')(k:∀b∈fs,b∈N0):Heap.Moved N0 e tb h h':=
 ⟨λb o q be bt bf=>x.keep b o q be bt λz=>bf (k b z),x.slot,x.self,x.ent,x.size,x.ctx⟩
def oJ{o:Obj}{vs:15e9}(hd:o.data= .fields vs)(f:Array Value->Array Value):o.mapFields f={ o with data:= .fields (f vs) }:=by
 obtain⟨a,b,c,d⟩:=o;cases hd;rfl
section
variable {M:Model}{A:Os}{E:XV}{s:Op}
def AM{base:Heap}{env:Env}{outer:18e8}{L e:Ps}{oe:Obj}{vs:15e9}{Wv:Pn}{nx:Bool}{Q:ZB}(fr:A.frames=some (env::outer))(fl:s.heap.FunFrames base (env::outer))(hL:env.frame=some L)
  (xe:s.heap.get? e=some oe) (xd:oe.data= .fields vs) (xs:1<vs.size)
  (k:∀h' T,h'.jX e (some T)->s.heap.objs.size<=T->Heap.Moved ((env::outer).filterMap (·.frame)) e none s.heap h'->Q () 7e4):
  wpAny M A (do let a<-frameOf env;let pl<-entryPlaceOf L nx;let b<-EntryCells.newEntry Wv a .none (rawInt L) .none pl;setField 6e8 1 b) Q E s:=by
 have ene:e∉(env::outer).filterMap (·.frame):=λz=>by
  obtain⟨_,o,q,nf⟩:=fl.mem z;simp_all
 refine wpAny_bind (wpAny_frameOf_fun fr fl hL λg1 so=>?_);refine wpAny_bind (wpAny_entryPlaceOf λpl ok=>?_);unfold EntryCells.newEntry newFields;refine wpAny_bind (wpAny_newObj_type ?_ (ok.sizeOk5 _ _ _ _ _));have e1:g1.get? e=some oe:=(so.2.1 e ene).trans xe;generalize hO:({ cls:= .type "traceback",dict:=none,data:= .fields ([Wv, .ref L, .none,rawInt L, .none]++(if pl.isEmpty then List.replicate 6 Value.none else pl)).toArray }:Obj)=ob;have e2:=Heap.get?_push_of_some (h:=g1) ob e1;refine wpAny_setField e2 xd xs ?_;have Te:g1.objs.size≠e:=ne_of_gt (Heap.lt_size e1);have nf:ob.isFreed=false:=by rw[<-hO];rfl
 have eT:(g1.push ob).get? g1.objs.size=some ob:=Heap.get?_push_size g1 nf;have e3:=Heap.get?_update_self (Obj.mapFields (·.setIfInBounds 1 (Value.ref g1.objs.size))) e2 (Obj.isFreed_of_fields (Obj.data_mapFields xd _));refine k _ g1.objs.size ⟨⟨_,_,e3,Obj.data_mapFields xd _,by simp [xs]⟩,λT z=>?_⟩ (le_of_eq so.1.symm) ⟨λb o q be _ bf=>?_,λb o q be _=>?_,λo q=>?_,λb o z=>(by cases z),?_,λo us q d=>?_⟩
 ·cases z;refine⟨Te,ob,([Wv, .ref L, .none,rawInt L, .none]++(if pl.isEmpty then List.replicate 6 Value.none else pl)).toArray,?_,by rw[<-hO],by simp_all⟩;rw[Heap.get?_update_other _ _ (Ne.symm Te)];exact eT
 ·rw[Heap.get?_update_other _ _ (Ne.symm be)];exact Heap.get?_push_of_some _ ((so.2.1 b bf).trans q)
 ·obtain⟨sl,z⟩:=so.2.2 b o q;refine⟨sl,?_⟩;rw[Heap.get?_update_other _ _ (Ne.symm be)];exact Heap.get?_push_of_some _ z
 ·rw[xe] at q;cases q;exact⟨_,e3.trans (by rw[oJ xd])⟩
 ·show s.heap.objs.size<=((g1.push ob).update e _).objs.size;rw[Heap.size_after_update,Heap.size_push,<-so.1];exact le_succ _
 ·rw[xe] at q;cases q;rw[xd] at d;cases d;exact⟨_,e3.trans (by rw[oJ xd]),by simp⟩
def f7{e:Ps}{tb fr:Uu}{Q:ZB}(x:s.heap.jX e tb)(k:∀h',h'.jX e tb->Heap.Moved [] e tb s.heap h'->Q () 7e4):wpAny M A (setFlight 6e8 fr) Q E s:=by
 obtain⟨oe,vs,he,hd,h1⟩:=x.ex;unfold setFlight;refine wpAny_bind (wpAny_field he hd h1 ?_)
 cases tb with
 |none=>
  rw[if_neg 0e1];exact wpAny_pure (k _ x (.refl x))
 |some T=>
  obtain⟨ne,oT,ts,hT,dT,sz⟩:=x.tr T rfl;rw[if_pos (show ((some T).elim Value.none Value.ref != Value.none)=true from by simp)];generalize (fr.elim Value.none λf=>rawInt f)=v3;refine wpAny_setField hT dT sz ?_;have AN:(s.heap.update T (Obj.mapFields (·.setIfInBounds 3 v3))).get? e=some oe:=(Heap.get?_update_other _ _ ne).trans he;have hT':=Heap.get?_update_self (Obj.mapFields (·.setIfInBounds 3 v3)) hT (Obj.isFreed_of_fields (Obj.data_mapFields dT _));refine k _ ⟨⟨oe,vs,AN,hd,h1⟩,λT' z=>?_⟩ ⟨λb o q _ bt _=>?_,λb o q _ bt=>⟨o.slots,?_⟩,λo q=>?_,λb o z _ _=>?_,?_,λo us q d=>?_⟩
  ·cases z;exact⟨ne,_,_,hT',Obj.data_mapFields dT _,by simp [sz]⟩
  ·exact(Heap.get?_update_other _ _ λz=>bt (by rw[z])).trans q
  ·exact(Heap.get?_update_other _ _ λz=>bt (by rw[z])).trans q
  ·rw[he] at q;cases q;exact⟨vs,by rw[AN,<-hd]⟩
  ·cases z;exact⟨_,hT'⟩
  ·simp_all
  ·rw[he] at q;cases q;exact⟨us,by rw[AN,<-d],U⟩
def mG{base:Heap}{env:Env}{outer:18e8}{L e:Ps}{tb:Uu}{Q:ZB}(fr:A.frames=some (env::outer))(fl:s.heap.FunFrames base (env::outer))(hL:env.frame=some L)(x:s.heap.jX e tb)
  (k:∀h' T,h'.jX e (some T)->tb=some T\/s.heap.objs.size<=T->Heap.Moved ((env::outer).filterMap (·.frame)) e tb s.heap h'->Q () 7e4):wpAny M A (noteFrame 6e8 env) Q E s:=by
 obtain⟨oe,vs,he,hd,h1⟩:=id x.ex;have sz1:1<vs.size:=(Array.getElem?_eq_some_iff.mp h1).1;unfold noteFrame;simp only [hL];refine wpAny_bind (wpAny_field he hd h1 ?_)
 cases tb with
 |none=>
  rw[if_neg 0e1];exact AM fr fl hL he hd sz1 λh' T a b c=>k h' T a (.inr b) c
 |some T=>
  obtain⟨ne,oT,ts,hT,dT,sz⟩:=x.tr T rfl;rw[if_pos (show ((some T).elim Value.none Value.ref != Value.none)=true from by simp)];have h3:ts[3]? =some ts[3]:=Array.getElem?_eq_getElem sz;refine wpAny_bind (wpAny_field hT dT h3 ?_);by_cases c:(ts[3]==rawInt L)=true
  ·rw[if_pos c];exact wpAny_pure (k _ T x 9e8 (.refl x))
  ·rw[if_neg c];refine wpAny_bind (wpAny_setField hT dT sz ?_);have ot:∀b,b≠T->(s.heap.update T 15e2).get? b=s.heap.get? b:=λb z=>Heap.get?_update_other _ _ (Ne.symm z);have hT':=Heap.get?_update_self 15e2 hT (Obj.isFreed_of_fields (Obj.data_mapFields dT _));have zs:(s.heap.update T 15e2).objs.size=s.heap.objs.size:=Heap.size_after_update ..;refine AM (s:={ s with heap:=s.heap.update T (Obj.mapFields (·.setIfInBounds 3 Value.none)) }) fr (fl.of_keeps λb o q nf=>⟨o,(ot b λz=>?_).trans q,rfl⟩) hL ((ot e (Ne.symm ne)).trans he) hd sz1 λh' T' a b c=>k h' T' a (.inr (by rw[<-zs];exact b)) ?_
   ·simp_all
   ·refine⟨λb o q be bt bf=>c.keep b o ((ot b λz=>bt (by rw[z])).trans q) be (λz=>by cases z) bf,λb o q be bt=>c.slot b o ((ot b λz=>bt (by rw[z])).trans q) be λz=>(by cases z),λo q=>c.self o ((ot e (Ne.symm ne)).trans q),λb o z be q=>?_,?_,λo us q d=>c.ctx o us ((ot e (Ne.symm ne)).trans q) d⟩
    ·cases z;exact c.there _ _ hT'
    ·rw[<-zs];exact c.size
def Ka{base:Heap}{env:Env}{outer:18e8}{L e:Ps}{tb:Uu}{Q:ZB}(fr:A.frames=some (env::outer))(fl:s.heap.FunFrames base (env::outer))(hL:env.frame=some L)(x:s.heap.jX e tb)
  (k:∀h' T,h'.jX e (some T)->tb=some T\/s.heap.objs.size<=T->Heap.Moved ((env::outer).filterMap (·.frame)) e tb s.heap h'->Q () 7e4):wpAny M A («leaving» env 6e8) Q E s:=by
 unfold «leaving»;refine wpAny_bind (mG fr fl hL x λh1 T a b c=>f7 (s:={ s with heap:=h1 }) a λh2 a' c'=>k h2 T a' b (c.trans (c'.mono λ_ z=>absurd z 2e3) λT' z=>?_));cases z;exact b
def E9{env:Env}{e T:Ps}{Q:ZB}(x:s.heap.jX e (some T))(k:∀h',h'.jX e (some T)->Heap.Moved [] e (some T) s.heap h'->Q () 7e4):
  wpAny M A (do
   if (<-field 6e8 1)== .none then unsupported "frame.own-activation:exception-without-traceback"
   setFlight 6e8 env.frame) Q E s:=by
 obtain⟨oe,vs,he,hd,h1⟩:=id x.ex;refine wpAny_bind (wpAny_field he hd h1 ?_);rw[if_neg 2e3];exact f7 x k
end
end PySem
namespace PySem.W
open PySem PySem.Calls PyProof.Rows PySem.Builtin PySem.Builtin.ObjectAttr
noncomputable abbrev AO:List Value:=[.type "ValueError", .type "Exception", .type "BaseException", .type "object"]
structure dW(K:Frag)(C HE f:9e7):Prop where
 obj:∃(nm q:Str) (N:9e7) (bs:List Value) (sn:17e0) (sub:List Value) (ab:Bool) (col:Option Bool) (dd:Option Addr) (k0 k1 k2 k3 k5:Option Value),
  K.lookup C=some (excClassObj nm q C N bs (.ref HE::AO) true sn sub ab col dd k0 k1 k2 k3 k5 "ValueError.__new__")
 init:findIn K 4e9 "__init__" =some (some 8e3)
 fn:typeIn K 8e3=some (.type "function")
 sa:findIn K 4e9 "__setattr__" =some (some (.builtin "object.__setattr__"))
 ga:findIn K 4e9 "__getattribute__" =some (some (.builtin "BaseException.__getattribute__"))
 gh:findIn K 4e9 "__getattr__" =some none
def jx{C HE:Ps}{T:String}{b:Bool}(h:AO.contains (.type T)=b):(Value.ref C:: .ref HE::AO).contains (.type T)=b:=by
 rw[contains_cons,contains_cons,h];rfl
section
variable {prog:On}{w:8e8}{A:Os}{E:XV}{R:Qp}{h:Heap}{g:Array GenState}{d:Drawn}{t:Nat}{os:OsState}
variable {nm q:Str}{C N HE:Ps}{bs:UF}{sn:IR}{sub:UF}{ab:Bool}{col:Option Bool}{dd:Uu}{k0 k1 k2 k3 k5:Option Value}
noncomputable abbrev mY(vs:List Value):Obj:={ cls:= .type "tuple",data:= .seq vs.toArray }
noncomputable abbrev lU(C t:9e7):Obj:={ cls:= .ref C,data:= .fields #[.ref t, .none, .none, .none, .bool false, .none] }
def yv{M:Model}{rest:UF}{Q:ZB}(kC:h.get? C=some (excClassObj nm q C N bs (.ref HE::AO) true sn sub ab col dd k0 k1 k2 k3 k5 "ValueError.__new__"))
  (z:Q () ⟨h,g,d,t,os⟩):wpAny M A (checkBuiltinCall "ValueError.__new__" ⟨.ref C::rest,[]⟩) Q E ⟨h,g,d,t,os⟩:=by
 have F:=PySem.F.excBase_ValueError;have c1:(Value.ref C:: .ref HE::AO).contains 15e1=true:=jx 0e5;have f0:=F.noStar;simp only [checkBuiltinCall,F.newKind,F.newSplit,F.newRow]
 repeat (first|refine wpAny_loadPart_at kC ?_| (refine wpAny_isSubtype_exc kC ?_;rw[c1]) |refine wpAny_staticBase_exc kC ?_|refine wpAny_madeBy_exc kC ?_|simp only [bne_self_eq_false,Bool.false_eq_true,if_false] |wp_step)
 exact z
def Tw{rest:UF}(kC:h.get? C=some (excClassObj nm q C N bs (.ref HE::AO) true sn sub ab col dd k0 k1 k2 k3 k5 "ValueError.__new__"))
  (z:R (.ok (.ret (.ref (h.objs.size+1)))) ⟨(h.push (mY rest)).push (lU C h.objs.size),g,d,t,os⟩) (hz:rest.length<=sizeLine):
  codeAny 1e4 A (.builtin "ValueError.__new__" ⟨.ref C::rest,[]⟩) R ⟨h,g,d,t,os⟩:=by
 have F:=PySem.F.excBase_ValueError;have f0:=F.ends;have c1:(Value.ref C:: .ref HE::AO).contains 15e1=true:=jx 0e5;have c2:(Value.ref C:: .ref HE::AO).contains (.type "AttributeError")=false:=jx 0e5;have c3:(Value.ref C:: .ref HE::AO).contains (.type "NameError")=false:=jx 0e5;refine codeAny_builtinAt F.entry ?_;unfold Builtin.«BaseException.__new__»;refine wpAt_bind ?_;show wpAt _ _ _ (stack >>= _) _ _ _;refine wpAt_bind (wpAt_stack λp below=>wpAt_of_wpAny ?_);wp_walk;refine wpAt_of_wpAny ?_;rw[F.owner]
 repeat (first|with_reducible refine wpAny_madeHere_exc F.canon kC ?_|with_reducible refine wpAny_loadPart_at kC ?_| (with_reducible refine wpAny_isSubtype_exc kC ?_;first|rw[c1] |rw[c2] |rw[c3]) |wp_step)
 show R _ _;rw[Heap.size_push];exact z
end
section
variable {prog:On}{w:8e8}{A:Os}{E:XV}{R:Qp}{s:Op}{K:Frag}{C HE f:Ps}
def Fb{vs:UF}(X:K.In s.heap)(Z:dW K C HE f)(hz:vs.length<=sizeLine)
  (k:codeAny 1e4 (A.under (.builtin "type.__call__" ⟨.ref C::vs,[]⟩)) (.call 8e3 ⟨.ref 1e2::vs,[]⟩) (InitBack 1e2 R) { s with heap:=(s.heap.push (mY vs)).push (lU C s.heap.objs.size) }):
  codeAny 1e4 A (.call 4e9 ⟨vs,[]⟩) R s:=by
 obtain⟨hp,g,d,t,os⟩:=s;obtain⟨nm,q,N,bs,sn,sub,ab,col,dd,k0,k1,k2,k3,k5,hK⟩:=Z.obj;have kC:=X _ _ hK;have F:=PySem.F.excBase_ValueError;have f1:=tc_lookup;have f2:=tc_bind 4e9;have hT:(⟨hp,g,d,t,os⟩:Op).TypeIs 4e9 "type" :=⟨_,kC,rfl⟩;refine codeAny_of_tree ?_;show wpAny _ _ (callAny 4e9 _) _ _ _
 repeat (any_goals (first|assumption|with_reducible refine wpAny_loadPart_at kC ?_|wp_step))
 refine⟨U,?_⟩;refine codeAny_call_builtin_at (Code.quiet_builtin _ 0e5) entry_typeCall (wpAny_check_type_call_sub kC ?_)
 repeat (first|with_reducible refine wpAny_loadPart_at kC ?_|with_reducible refine wpAny_madeBy_exc kC ?_|wp_step)
 refine codeAny_call_builtin_code (Code.quiet_builtin _ F.quiet) (yv kC ?_);refine Tw kC ?_ hz;show wpAny _ _ _ _ _ _;have keeps:∀b o,hp.get? b=some o->((hp.push (mY vs)).push (lU C hp.objs.size)).get? b=some o:=λb o e=>Heap.get?_push_of_some _ 19e3;have kC1:=keeps _ _ kC;have X1:K.In ((hp.push (mY vs)).push (lU C hp.objs.size)):=λb o e=>keeps b o (X b o e);have eg:((hp.push (mY vs)).push (lU C hp.objs.size)).get? (hp.objs.size+1)=some (lU C hp.objs.size):=by heap_get
 have c0:(Value.ref C:: .ref HE::AO).contains 4e9=true:=by simp
 unfold isInstance
 repeat (first|with_reducible refine wpAny_loadPart_at eg ?_|wp_step)
 show wpAny _ _ (isSubtype 4e9 4e9) _ _ _;refine wpAny_isSubtype_exc kC1 ?_;rw[c0]
 repeat (first|with_reducible refine wpAny_loadPart_at eg ?_|wp_step)
 show wpAny _ _ (typeLookup 4e9 _) _ _ _;refine looks_findIn X1 Z.init _ _ _ _ (λ_ _ e=>e) ?_;refine wpAny_holding (wpAny_bind (bind_fn X1 _ Z.fn _ _ _ _ (λ_ _ e=>e) ?_));refine wpAny_bind (wpAny_call (codeAny_mono k λr s' y=>?_))
 cases r with
 |error z=>exact y
 |ok fl=>
  cases fl with
  |ret u=>
   obtain⟨eu,y⟩:=y;subst eu;exact wpAny_pure (wpAny_pure y)
  |next=>exact y.elim
  |brk=>exact y.elim
  |cont=>exact y.elim
end
section
variable {prog:On}{w:8e8}{A:Os}{E:XV}{R:Qp}{s:Op}{K:Frag}{C HE f e:Ps}{ox:Obj}{od:Option Obj}{vs:15e9}{name:Str}{v:Pn}{tk:Tok}
theorem dW.cd(Z:dW K C HE f):∃cd,clsIn K C=some cd/\cd.mro= .ref C:: .ref HE::AO/\cd.hasDict=true:=by
 obtain⟨nm,q,N,bs,sn,sub,ab,col,dd,k0,k1,k2,k3,k5,hK⟩:=Z.obj;exact⟨_,by unfold clsIn;rw[hK],U,U⟩
def dW.mro(Z:dW K C HE f){T:String}{b:Bool}(h:AO.contains (.type T)=b):mroIn K C (.type T)=some b:=by
 obtain⟨cd,a,m,_⟩:=Z.cd;unfold mroIn;rw[a,bind_some,m,jx h];rfl
def Kb(X:K.In s.heap)(Z:dW K C HE f)(I:InstAt s.heap e ox C od)(ht:takerIn K C name=some none)
  (k:∀b,wpAny 1e4 A.in1 (storeInOwnDict 6e8 4e9 (.str name tk) name v b) (λfin s'=>match fin with| .done f=>R (.ok f) s'| .again c'=>c'.quiet=true/\codeAny 1e4 A c' R s') (λe s'=>R (.error e) s') s):
  codeAny 1e4 A (.call (.builtin "object.__setattr__") ⟨[.ref e, .str name tk,v],[]⟩) R s:=by
 have SO:=PySem.F.store_object;obtain⟨cd,hc,hm,_⟩:=Z.cd;have sub:Looks 1e4 s.heap (isInstance 6e8 (.type "object")) true:=I.type.andThen (looks_mroIn X (Z.mro 0e5));refine codeAny_call_builtin SO.slot.plain SO.entry (@check_slot 1e4 _ _ s "object.__setattr__" "object" "__setattr__" 6e8 [.str name tk,v] [] _ SO.kind SO.split sub (SO.args 6e8 (.str name tk) v) ?_);obtain⟨attr,ha,hr⟩:=Option.bind_eq_some_iff.mp ht;have lm:Looks 1e4 s.heap (mroOf 4e9) cd.mro:=(looks_clsIn X hc).andThen .now
 have l3:Looks 1e4 s.heap (storeTaker? attr) none:=by
  cases attr with
  |none=>exact .now
  |some a=>
   obtain⟨b,hb,eb⟩:=map_eq_some_iff.mp hr;refine(looks_takesIn X hb).andThen ?_
   cases b with
   |true=>cases eb
   |false=>exact .now
 rw[osa_eq,refuse_eq];refine wpAny_bind (wpAny_bind (I.type.here (wpAny_bind (lm.here ?_))));rw[hm,refuseLoop_ref,refuseLoop_ref,PySem.F.store_ValueError.passes];exact wpAny_pure (wpAny_bind (I.type.here (wpAny_bind ((looks_findIn X ha).here (wpAny_bind (l3.here (k _)))))))
def OJ{Q:ZB}(X:K.In s.heap)(Z:dW K C HE f)(ht:takerIn K C name=some none)(hx:s.heap.get? e=some ox)(hc:ox.cls= .ref C)(hd:ox.data= .fields vs)(hn:ox.dict=none)
  (k:∀h' Tn,h'.get? e=some { ox with dict:=some s.heap.objs.size }->h'.Ns1 s.heap.objs.size (λy=>if y=name then some v else none)->(∀b o,b≠e->s.heap.get? b=some o->h'.get? b=some o)->Q () { s with heap:=h',toks:=Tn }):
  wpAny 1e4 A (setAttr 6e8 name v) Q E s:=by
 have I:InstAt s.heap e ox C none:=⟨hx,hc,by unfold notCls;rw[hd],by rw[hn];trivial⟩;obtain⟨cd,rA,_,hh⟩:=Z.cd;refine set_plain X I Z.sa (Kb (s:=3e7) X Z I ht λb=>?_);obtain⟨oc,Ww,oda,pY⟩:=ox;dsimp only at hc hd hn;subst hc hd hn;refine wpAny_bind (wpAny_pure (wpAny_bind (wpAny_bind (wpAny_loadPart hx (wpAny_bind (Looks.here (s:=3e7) (looks_clsIn X rA) ?_))))));rw[hh];have xs:e≠s.heap.objs.size:=ne_of_lt (Heap.lt_size hx);rw[if_neg 0e1];have Wx:=Heap.get?_push_of_some (h:=s.heap) 8e5 hx;refine wpAny_bind (wpAny_alloc' (wpAny_bind (wpAny_update' Wx 14e4)));generalize hG:(s.heap.push 8e5).update e (λo=>{ cls:=o.cls,dict:=some s.heap.objs.size,data:=o.data,slots:=o.slots })=G
 have gd:G.get? s.heap.objs.size=some 8e5:=by
  rw[<-hG];exact(Heap.get?_update_ne _ _ _ _ (Ne.symm xs)).trans (Heap.get?_push_at rfl rfl)
 have gx:G.get? e=some { cls:= .ref C,dict:=some s.heap.objs.size,data:= .fields vs,slots:=pY }:=by
  rw[<-hG];exact Heap.get?_update_self _ Wx rfl
 have go:∀b o,b≠e->s.heap.get? b=some o->G.get? b=some o:=λb o be q=>by
  rw[<-hG];exact(Heap.get?_update_ne _ _ _ _ be).trans (Heap.get?_push_of_some _ q)
 have gn:G.Ns s.heap.objs.size (λ_=>none):=⟨_,#[],_,gd,rfl,λy hy=>absurd hy 2e3,λ_=>rfl⟩;show wpAny _ _ (storeInDict s.heap.objs.size (.str name s.toks) name v) _ _ { s with heap:=G,toks:=s.toks+1 };unfold storeInDict newKeyGuard;refine wpAny_bind (wpAny_pure (wpAny_bind (wpAny_nsSet1 (s:={ s with heap:=G,toks:=s.toks+1 }) (Heap.Ns1.of_empty gn) λh' n2 s2=>?_)));obtain⟨o2,e2,p2,q2,d2,c2⟩:=n2.count (PySem.Within.cons name v PySem.Within.nil);refine wpAny_bind (wpAny_lookBehind q2 (by rw[d2];exact pastItsLine_dict (le_trans c2 9e9)) ?_);exact wpAny_pure (k _ _ ((s2.2 e xs).trans gx) n2 λb o be q=>(s2.2 b (ne_of_lt 16e2)).trans (go b o be q))
def OL{Q:ZB}{dx:Ps}{mA:Wp}{ns:IR}(X:K.In s.heap)(Z:dW K C HE f)(ht:takerIn K C name=some none)(hx:s.heap.get? e=some ox)(hc:ox.cls= .ref C)(hd:ox.data= .fields vs)(hn:ox.dict=some dx)
  (N1:s.heap.Ns1 dx mA) (hw:PySem.Within mA ns) (hsz:ns.length<=1000)
  (k:∀h',h'.Ns1 dx (λy=>if y=name then some v else mA y)->Heap.SameBut dx s.heap h'->Q () { s with heap:=h',toks:=s.toks+2 }):
  wpAny 1e4 A (setAttr 6e8 name v) Q E s:=by
 obtain⟨oD,ed,pd,hod,dD,_⟩:=id N1;have I:InstAt s.heap e ox C (some oD):=⟨hx,hc,by unfold notCls;rw[hd],by rw[hn];exact hod⟩;obtain⟨cd,rA,_,hh⟩:=Z.cd;refine set_plain X I Z.sa (Kb (s:=3e7) X Z I ht λb=>?_);obtain⟨oc,Ww,oda,pY⟩:=ox;dsimp only at hc hd hn;subst hc hd hn;refine wpAny_bind (wpAny_pure (wpAny_bind (wpAny_bind (wpAny_loadPart hx (wpAny_bind (Looks.here (s:=3e7) (looks_clsIn X rA) ?_))))));rw[hh];refine wpAny_pure (a:=some dx) (wpAny_bind (wpAny_pure (wpAny_bind ?_)));refine wpAny_nsSet1 (s:=3e7) N1 λh' n2 s2=>?_;obtain⟨o2,e2,p2,q2,d2,c2⟩:=n2.count (PySem.Within.cons name v hw);refine wpAny_bind (wpAny_lookBehind q2 (by rw[d2];exact pastItsLine_dict (le_trans c2 (by rw[length_cons,sizeLine_eq];omega))) ?_);exact wpAny_pure (k _ n2 s2)
def Tx{Q:XV}{expr:Bool}(X:K.In s.heap)(Z:dW K C HE f)(I:InstAt s.heap e ox C od)(hf:findObj K C od name=some (.value v))(hh:handedIn v=true)(k:Q v 3e7):
  wpAny 1e4 A (getAttr 6e8 name expr) Q E s:=by
 have T0:=I.type (M:=model prog w);have SG:=PySem.F.attr_ValueError.ga;refine wpAny_bind (wpAny_mkText (wpAny_holding (wpAny_bind (T0 _ _ _ _ (λ_ _ y=>y) (wpAny_bind (looks_findIn X Z.ga _ _ _ _ (λ_ _ y=>y) ?_))))));dsimp only;rw[show (onTheHeap (Value.ref C)&&Value.builtin "BaseException.__getattribute__" ==Value.builtin "object.__getattribute__")=false from by lia,if_neg 0e1];refine wpAny_bind (looks_hook X (show (if onTheHeap (Value.ref C) then findIn K 4e9 "__getattr__" else some none)=some none from Z.gh) _ _ _ _ (λ_ _ y=>y) (wpAny_bind (wpAny_attempt (wpAny_holding ?_))));unfold callGetattribute;rw[show (expr&&onTheHeap (Value.builtin "BaseException.__getattribute__"))=false from Bool.and_false _,if_neg 0e1];unfold boundAndCalled;rw[SG.bind];refine wpAny_bind 14e4;show wpAny _ _ (call (.builtin "BaseException.__getattribute__") [.ref e, .str name s.toks]) _ _ _;refine wpAny_call (codeAny_call_builtin SG.plain PySem.F.entry_bexc_ga ?_);refine @check_slot 1e4 _ _ 3e7 "BaseException.__getattribute__" "BaseException" "__getattribute__" 6e8 [.str name s.toks] [] _ 0e5 0e5 (T0.andThen (looks_mroIn X (Z.mro 0e5))) (PySem.F.args_bexc_ga _ _) ?_;have l1:=looks_find (M:=model prog w) X I hf;unfold Builtin.«object.__getattribute__»;refine wpAny_bind (wpAny_of_eq (a:=(Value.ref e,[Value.str name s.toks])) rfl ?_);refine wpAny_bind (wpAny_pure (a:=name) (wpAny_bind (T0 _ _ _ _ (λ_ _ y=>y) (wpAny_bind (l1 _ _ _ _ (λ_ _ y=>y) 14e4)))));show wpAny _ _ (handedOut v) _ _ _;rw[handedOut_of hh];exact wpAny_pure k
end
section
variable {M:Model}{A:Os}{E:XV}{s:Op}{K:Frag}{env:Env}
def Kc{x:Sem Value}{Q:Flow->Shared->Prop}(ha:A.handled=none)
  (k:wpAny M A x (λv s1=>∃e oe vs C HE f,v= .ref e/\K.In s1.heap/\dW K C HE f/\s1.heap.get? e=some oe/\oe.cls= .ref C/\oe.data= .fields vs/\vs[1]? =some .none/\E 6e8 s1) E s):wpAny M A (raiseStmt env (some x) none) Q E s:=by
 unfold raiseStmt;refine wpAny_bind (wpAny_mono k (λv s1 y=>?_) λ_ _ y=>y);obtain⟨e,oe,vs,C,HE,f,rfl,X,Z,he,hc,hd,h1,hE⟩:=y;have cB:(Value.ref C:: .ref HE::AO).contains (.type "BaseException")=true:=jx 0e5;obtain⟨nm,q,N,bs,sn,sub,ab,col,dd,k0,k1,k2,k3,k5,hK⟩:=Z.obj;have kC:=X _ _ hK;obtain⟨hp,g,d,tk,os⟩:=s1;obtain⟨oc,Ww,oda,pY⟩:=oe;dsimp only at hc hd;subst hc hd
 repeat (first|with_reducible refine wpAny_loadPart_at he ?_|with_reducible refine wpAny_loadPart_at kC ?_| (with_reducible refine wpAny_isSubtype_exc kC ?_;rw[cB]) |wp_step)
 rw[h1];refine wpAny_pure ?_;rw[if_neg 0e1];exact wpAny_pure (wpAny_raiseNew_none ha hE)
end
section
variable {prog:On}{w:8e8}{A:Os}{E:XV}{s:Op}{K:Frag}{C HE f e:Ps}{ox:Obj}{vs:15e9}
def Kd{us:UF}{Q:XV}(X:K.In s.heap)(Z:dW K C HE f)(hx:s.heap.get? e=some ox)(hc:ox.cls= .ref C)(hd:ox.data= .fields vs)(h0:0<vs.size)(hz:us.length<=sizeLine)
  (k:∀h',h'.get? e=some { ox with data:= .fields (vs.setIfInBounds 0 (.ref s.heap.objs.size)) }->(∀b o,b≠e->s.heap.get? b=some o->h'.get? b=some o)->Q .none 7e4):
  wpAny 1e4 A (call (.builtin "ValueError.__init__") (.ref e::us)) Q E s:=by
 have F:=PySem.F.excBase_ValueError;obtain⟨nm,q,N,bs,sn,sub,ab,col,dd,k0,k1,k2,k3,k5,hK⟩:=Z.obj;have kC:=X _ _ hK;have c1:(Value.ref C:: .ref HE::AO).contains 15e1=true:=jx 0e5;obtain⟨hp,g,d,t,os⟩:=s;obtain⟨oc,Ww,oda,pY⟩:=ox;dsimp only at hc hd;subst hc hd;refine wpAny_call (codeAny_call_builtin F.init.plain F.initEntry ?_);have f0:=F.noStar;simp only [checkBuiltinCall,F.initKind,F.initSplit,F.initRow]
 repeat (first|with_reducible refine wpAny_loadPart_at hx ?_|with_reducible refine wpAny_loadPart_at kC ?_| (with_reducible refine wpAny_isSubtype_exc kC ?_;rw[c1]) |wp_step)
 refine wpAny_onRaise ?_;rw[show∀(a b:String) (n:Nat),Bind.check ⟨.positional,"*","ValueError", .self,[⟨"args", .varPos,false⟩]⟩ a b n (List.map (λx=>x.fst) ({ pos:=Value.ref e::us }:Args).kw)=pure () from λa b n=>check_star_args _ _ _ _ _ _];refine wpAny_pure ?_;wp_walk;rw[show vs[0]? =some vs[0] from Array.getElem?_eq_getElem h0];refine wpAny_pure (wpAny_bind (wpAny_setField (Heap.get?_push_of_some _ hx) rfl h0 ?_));generalize hG:((hp.push (mY us)).update e (Obj.mapFields (·.setIfInBounds 0 (Value.ref hp.objs.size))))=G
 have gx:G.get? e=some { cls:= .ref C,dict:=Ww,data:= .fields (vs.setIfInBounds 0 (.ref hp.objs.size)),slots:=pY }:=by
  rw[<-hG];exact Heap.get?_update_self (Obj.mapFields (·.setIfInBounds 0 (Value.ref hp.objs.size))) (Heap.get?_push_of_some (mY us) hx) rfl
 have go:∀b o,b≠e->hp.get? b=some o->G.get? b=some o:=λb o be q=>by
  rw[<-hG];exact(Heap.get?_update_other _ _ (Ne.symm be)).trans (Heap.get?_push_of_some _ q)
 have fin:=k G gx go;generalize vs[0]=v0
 cases v0 with
 |ref a=>
  dsimp only
  repeat wp_step
  exact fin
 |_=>exact wpAny_pure (wpAny_pure fin)
end
end PySem.W
namespace L2
open PySem PySem.Spec PyProof.Rows
class js where
 AQ:Addr->Prop
variable [js]
noncomputable def qT(dx:Ps)(fs:List (Str×V)):HO:= .ext λh=>∃mA,h.Ns1 dx mA/\(∀f,iF (fs.lookup f) (mA f))/\PySem.Within mA (fs.map 2e1)
noncomputable def mZ(e C:Ps)(dx:Uu):HO:= .ext λh=>∃o vs,h.get? e=some o/\o.cls= .ref C/\o.dict=dx/\o.data= .fields vs/\vs[1]? =some .none/\vs[2]? =some .none/\vs.size=6
noncomputable def n9(e C:Ps)(dx:Uu):HO:= .ext λh=>∃o vs,h.get? e=some o/\o.cls= .ref C/\o.dict=dx/\o.data= .fields vs/\(vs[2]? =some .none\/js.AQ C)
section
variable {P:On}{w:8e8}{H:Hp}{h:Heap}{e C dx:Ps}{od:Uu}{o:Obj}{vs:15e9}
def Fc(he:h.get? e=some o)(hc:o.cls= .ref C)(hd:o.dict=od)(hf:o.data= .fields vs)(h2:vs[2]? =some .none\/js.AQ C):cK P w H h e (n9 e C od):=
 ⟨⟨o,vs,he,hc,hd,hf,h2⟩,⟨o,he⟩,λ_ _ ⟨o,vs,a,b⟩ k=>⟨o,vs,k _ a,b⟩⟩
def Fd(he:h.get? e=some o)(hc:o.cls= .ref C)(hd:o.dict=od)(hf:o.data= .fields vs)(h1:vs[1]? =some .none)(h2:vs[2]? =some .none/\vs.size=6):cK P w H h e (mZ e C od):=
 ⟨⟨o,vs,he,hc,hd,hf,h1,h2⟩,⟨o,he⟩,λ_ _ ⟨o,vs,a,b⟩ k=>⟨o,vs,k _ a,b⟩⟩
def Q8{fs:List (Str×V)}{mA:Wp}(n:h.Ns1 dx mA)(r:∀f,iF (fs.lookup f) (mA f))(wi:PySem.Within mA (fs.map 2e1)):cK P w H h dx (qT dx fs):=by
 obtain⟨o,es,ep,ho,z⟩:=id n;exact⟨⟨mA,n,r,wi⟩,⟨o,ho⟩,λ_ _ ⟨m,⟨o,es,ep,ho,z⟩,r⟩ k=>⟨m,⟨o,es,ep,k _ ho,z⟩,r⟩⟩
def tR(ok:18e7)(q:H e=some (n9 e C od)):∃o vs,h.get? e=some o/\o.cls= .ref C/\o.dict=od/\o.data= .fields vs:=let ⟨o,vs,a,b,c,d,_⟩:=(ok e _ q).1;⟨o,vs,a,b,c,d⟩
def C8(ok:18e7)(q:H e=some (n9 e C od)):∃o vs,h.get? e=some o/\o.cls= .ref C/\o.dict=od/\o.data= .fields vs/\(vs[2]? =some .none\/js.AQ C):=(ok e _ q).1
def tS(ok:18e7)(q:H e=some (mZ e C od)):∃o vs,h.get? e=some o/\o.cls= .ref C/\o.dict=od/\o.data= .fields vs/\vs[1]? =some .none/\vs[2]? =some .none/\vs.size=6:=(ok e _ q).1
def C9{fs:List (Str×V)}(ok:18e7)(q:H dx=some (qT dx fs)):∃mA,h.Ns1 dx mA/\(∀f,iF (fs.lookup f) (mA f))/\PySem.Within mA (fs.map 2e1):=(ok dx _ q).1
end
structure ic(X:Cx)(T:9e7):Prop where
 above:X.s₀.heap.objs.size<=T
 loc:T≠X.env.locals
 cell:∀x c,X.env.cells.lookup x=some c->c≠T
 pn:∀p∈X.pn,p.1≠T
section
variable {X:Cx}{pins:WF}{σ:St}{H:Hp}{s:Op}{e C:Ps}{od tb:Uu}{h':Heap}{ER:St->XK}{v:Pn}
def Inv.Ke(I:0e6){T:Ps}(h:s.heap.objs.size<=T):ic X T:=by
 refine⟨le_trans I.sz h,λz=>?_,λx c q z=>?_,λp hp z=>?_⟩
 ·subst z;exact absurd I.lt (not_lt.mpr h)
 ·obtain⟨_,o,ho,_⟩:=I.cell x c q;subst z;exact absurd (Heap.lt_size ho) (not_lt.mpr h)
 ·have q:=(I.pin p (mem_append_left _ hp)).1;rw[z] at q;exact absurd 16e2 (not_lt.mpr h)
def gQ(X:Cx)(ER:St->XK)(v:Pn)(s:Op):Prop:=
 ∃e C dx σ H tb,v= .ref e/\Inv X [] σ H s/\H e=some (n9 e C dx)/\s.heap.jX e tb/\(∀T,tb=some T->H T=none/\ic X T)/\ER σ 4e9 dx H
def Lets(X:Cx)(ER:St->XK):Prop:=∀v s,gQ X ER v s->X.xe v s
def ic.eL{E:XV}{T:Ps}(n:ic (X.iH E) T):ic X T:=⟨n.above,n.loc,n.cell,n.pn⟩
theorem gQ.eL{E:XV}(z:gQ (X.iH E) ER v s):gQ X ER v s:=by
 obtain⟨e,C,dx,σ,H,tb,ev,I,he,fl,ht,hE⟩:=z;exact⟨e,C,dx,σ,H,tb,ev,I.eL,he,fl,λT q=>⟨(ht T q).1,(ht T q).2.eL⟩,hE⟩
def oK:Lets (X.iH (gQ X ER)) ER:=λ_ _ z=>z.eL
def Inv.xj(I:0e6):Inv X [] σ H s:=I.rN λp hp=>absurd hp 2e3
def Inv.moved(I:Inv X [] σ H s)(he:H e=some (n9 e C od))(ht:∀T,tb=some T->H T=none/\ic X T)(m:Heap.Moved (rq X.stack) e tb s.heap h'):Inv X [] σ H 7e4:=by
 have ne:∀b,H b=none->b≠e:=λb n z=>by
  lia
 refine I.Al (s':=7e4) (H':=H) (ch:=tb.toList) rfl ⟨λb o q n hb hx=>m.keep b o q (ne b n) (λz=>hx (by rw[z];simp)) hb,λb o q n hb hx=>m.slot b o q (ne b n) λz=>hx (by rw[z];simp),λ_ _ _ n _=>n,λb o q _=>m.there b o q,
  λ_ _ q=>q,λ_ _ _ q=>q,λ_ ps q=>⟨#[],by simpa using q⟩⟩ (λa o q=>?_) I.bare λb hb=>?_
 ·by_cases ae:a=e
  ·subst ae;rw[he] at q;cases q;obtain⟨o,vs,h1,h2,h3,h4,h5⟩:=C8 I.aP he;obtain⟨E8,z,c⟩:=m.ctx o vs h1 h4;exact Fc z h2 h3 rfl (by rw[c];exact h5)
  ·refine(I.aP a o q).sV (λb u hb z=>?_) (λ_ q=>q) λ_ _ q=>q
   have AI:∃o',H b=some o':=by
    grind
   obtain⟨o',AI⟩:=AI;refine m.keep b u z (λz=>?_) (λz=>?_) λz=>?_
   ·rcases hb with hb|hb
    ·lia
    ·rw[z,he] at hb;cases hb
   ·simp_all
   ·rw[I.x8 b z] at AI;cases AI
 ·have z:tb=some b:=by
   simp_all
  obtain⟨_,n⟩:=ht b z;exact⟨.inr n.above,Ne.symm (Ne.symm n.loc),n.cell,by simpa using n.pn⟩
def yw(X:Cx):Prop:=X.stack=X.env::X.outer/\X.env.frame=some X.env.locals
def iY(hs:yw X)(I:0e6):X.A.frames=some (X.env::X.outer)/\s.heap.FunFrames X.base (X.env::X.outer):=by
 refine⟨by rw[I.ok.frames,hs.1],?_⟩;rw[<-hs.1];exact I.stack
def p9(I:Inv X [] σ H s){tb:Uu}{T:Ps}(ht:∀T,tb=some T->H T=none/\ic X T)(b:tb=some T\/s.heap.objs.size<=T):∀T',some T=some T'->H T'=none/\ic X T':=λT' z=>by
 cases z;rcases b with b|b
 ·exact ht T b
 ·exact⟨I.aP.fresh b,I.Ke b⟩
def Hf(hs:yw X):PassesOwn 0e8 X.A X.env (gQ X ER):=by
 intro v s' z;obtain⟨e,C,dx,σ,H,tb,ev,I,he,fl,ht,hE⟩:=z;subst ev;obtain⟨fr,ff⟩:=iY hs I;refine mG fr ff hs.2 fl λh1 T a b m=>?_;have m1:Heap.Moved (rq X.stack) e tb s'.heap h1:=by unfold rq;rw[hs.1];exact m
 have I1:=I.moved he ht m1;have t1:=p9 I ht b;refine E9 (s:={ s' with heap:=h1 }) a λh2 a2 m2=>?_;exact⟨e,C,dx,σ,H,some T,U,I1.moved he t1 (m2.mono λ_ z=>absurd z 2e3),he,a2,t1,hE⟩
end
def Cu(P:On)(w:8e8):EU:=λouter H s E v s'=>
 ∃e C dx H' tb,v= .ref e/\s'.os=s.os/\AllBare s'.gens/\Un (rq outer) [] H H' s.heap s'.heap/\lD P w H' s'.heap/\H' e=some (n9 e C dx)/\s'.heap.jX e tb/\(∀T,tb=some T->H' T=none/\s.heap.objs.size<=T)/\E 4e9 dx H'
section
variable {P:On}{w:8e8}{K:Uf}{mg:Wp}{base:Heap}{N ps:IR}{qual:Str}{scope:Scope}{f:Ps}{cd:Pn}{A:Os}{outer:18e8}{s s':Op}{H:Hp}{E:XK}{v:Pn}
def AR(z:gQ (i7 (Cu P w) P w K mg base N qual scope f cd A outer s H E) (λ_=>E) v s'):(i7 (Cu P w) P w K mg base N qual scope f cd A outer s H E).xe v s':=by
 obtain⟨e,C,dx,σ,H',tb,ev,I,he,fl,ht,hE⟩:=z;subst ev;obtain⟨fr,ff⟩:=iY (X:=i7 (Cu P w) P w K mg base N qual scope f cd A outer s H E) ⟨rfl,rfl⟩ I;refine Ka fr ff rfl fl λh1 T a b m=>?_;have I1:=I.moved he ht m;have t1:=p9 I ht b;have hB:=I.base
 have ne:∀b,H' b=none->b≠e:=λb n z=>by
  lia
 have nt:∀b o,s.heap.get? b=some o->tb≠some b:=λb o q z=>absurd 16e2 (not_lt.mpr (ht b z).2.above);refine⟨e,C,dx,H',some T,U,I.os,I.bare,⟨λb o q n hb hx=>?_,λb o q n hb hx=>?_,hB.free,λb o q hx=>?_,hB.pL,hB.pM,hB.pN⟩,I1.aP,he,a,λT' z=>⟨(t1 T' z).1,(t1 T' z).2.above⟩,hE⟩
 ·refine m.keep b o (hB.keep b o q n hb hx) (ne b (hB.free b o q n hx)) (nt b o q) λz=>?_;rcases mem_cons.mp (show b∈s.heap.objs.size::rq outer from z) with z|z
  ·exact absurd 16e2 (by rw[z];exact lt_irrefl _)
  ·exact hb z
 ·obtain⟨sl,z⟩:=hB.slot b o q n hb hx;obtain⟨Sw,z'⟩:=m.slot b _ z (ne b (hB.free b o q n hx)) (nt b o q);exact⟨Sw,z'⟩
 ·obtain⟨o',z⟩:=hB.there b o q hx;exact m.there b o' z
noncomputable def Q9(P:On)(w:8e8)(K:Uf)(mg:Wp)(base:Heap)(N:IR)(qual:Str)(scope:Scope)(f:Ps)(cd:Pn)(A:Os)(outer:18e8)(s:Op)(H:Hp)(E:XK):Cx:=
 (i7 (Cu P w) P w K mg base N qual scope f cd A outer s H E).iH (gQ (i7 (Cu P w) P w K mg base N qual scope f cd A outer s H E) λ_=>E)
def aL:Lets (Q9 P w K mg base N qual scope f cd A outer s H E) (λ_=>E):=λ_ _ z=>z.eL
def kA:PassesOwn (model P w) (Q9 P w K mg base N qual scope f cd A outer s H E).A (Q9 P w K mg base N qual scope f cd A outer s H E).env (Q9 P w K mg base N qual scope f cd A outer s H E).xe:=Hf (X:=i7 (Cu P w) P w K mg base N qual scope f cd A outer s H E) ⟨rfl,rfl⟩
def OM{st:List Stmt}{t:TS}(h:ni (Q9 P w K mg base N qual scope f cd A outer s H E) st t):ni (i7 (Cu P w) P w K mg base N qual scope f cd A outer s H E) st t:=λpins s1 σ H1 D I hw=>
 wpAny_mono (h pins s1 σ H1 D (I.iH _) hw) (λ_ _ q=>q.eL) λ_ _ z=>AR z
def EW.Dc{x:Str}{st:Stmt}{fd:17e4}{k:Nat}{sp:Sp}(F:EW K x qual st f fd)(S:16e3)(len:2e4)
  (d6:∀(a9:Pn) (A:Os) (outer:18e8) (s:Op) (H:Hp) (vs:KB) (Q:VK) (E:XK),cV k 12e9->sp vs H Q E->
   ∃t,ni (Q9 P w K mg base N qual (ak st) f a9 A outer s H E) (bY st) t/\t 4e3 13e9 H):fB P w K mg base (Cu P w) (k+1) f fd ps sp:=by
 obtain⟨oc,od,kV,doc,pm,an,a9,ct,pY,rfl,lk,rA⟩:=F.ex;refine fn_of lk rA S len λA outer s H vs Q E hr CL=>?_;obtain⟨t,h,q⟩:=d6 a9 A outer s H vs Q E hr CL;exact⟨t,OM h,q⟩
end
section
variable {X:Cx}{pins:WF}{σ:St}{H:Hp}{s s':Op}{ER:St->XK}{v:Pn}
def Hg(L:Lets X ER)(I:0e6)(h:Cu X.prog X.w X.stack H s (ER σ) v s'):X.xe v s':=by
 obtain⟨e,C,dx,H',tb,ev,os,bare,un,aP,he,fl,ht,hE⟩:=h;have I1:Inv X pins σ H' s':=I.Al os un aP bare λb z=>absurd z 2e3;exact L v s' ⟨e,C,dx,σ,H',tb,ev,I1.xj,he,fl,λT z=>⟨(ht T z).1,I.Ke (ht T z).2⟩,hE⟩
end
section
variable {X:Cx}{k:Nat}{f C:Ps}{fd:17e4}{ps:IR}{sp:Sp}{kh:KB}{ds:UF}{ER:St->XK}{x m:Str}{p pos apos:Pos}{e o:Expr}{es:Ix}{ta:TE}{t:TA}
def Tz(sp:Sp)(kh:KB)(ER:St->XK)(t:TA):TE:=fun σ H Q=>t σ H λvs H1=>sp (vs++kh) H1 Q (ER σ)
inductive ON(C:9e7)(m:Str)(sp:Sp)(kh:5e2)(ER:St->XK)(t:TA)(σ:St)(Q:VK)(x:V)(H1:Hp):Prop
 |mk (a dx fs:_) (bJ:x= .ref a) (bT:H1 a=some (.ins C dx fs)) (cw:fs.lookup m=none) (dh:t σ H1 λvs H2=>sp (x::(vs++kh)) H2 Q (ER σ))
def Kf(C:Ps)(m:Str)(sp:Sp)(kh:KB)(ER:St->XK)(ta:TE)(t:TA):TE:=fun σ H Q=>ta σ H (ON C m sp kh ER t σ Q)
def yx{pins:WF}{σ:St}{H:Hp}{s:Op}{Q:VK}{us:UF}{vs:KB}(F:12e4)(hr:cV k X.A)(hb:15e7)(hd:Vals kh ds)(L:Lets X ER)
  (I:0e6) (r:Vals vs us) (h:sp (vs++kh) H Q (ER σ)):wpAny 0e8 X.A (call 8e3 us) 9e0 X.xe s:=by
 have r2:Vals (vs++kh) (us++ds):=r.append hd;have hl:(us++ds).length=ps.length:=by rw[<-r2.length];exact F.len _ _ _ _ h
 refine wpAny_call (codeAny_mono (F.run X.A X.stack s H ⟨us,[]⟩ (us++ds) (vs++kh) Q (ER σ) hr I.JB (hb s us I.jq hl) r2 h) λr s' hq=>?_)
 cases r with
 |error e=>exact Hg L I hq
 |ok fl=>
  cases fl with
  |ret u=>exact I.after hq
  |next=>exact False.elim hq
  |brk=>exact False.elim hq
  |cont=>exact False.elim hq
def lV(F:12e4)(hr:cV k X.A)(hg:Gl X x)(hm:X.mg x=some 8e3)(hk:keepIn X.K 8e3=true)(hb:15e7)(hd:Vals kh ds)(L:Lets X ER)
  (ha:PA X (e::es) t) (CK:2e8:=by decide) (he:starEach (e::es) X.env=6e3::starEach es X.env:=by rfl) (f6:3e2:=by rfl):
  PE X 8e4 (Tz sp kh ER t):=by
 intro pins s σ H Q I h;refine wpAny_Call_Name_kw (iG I hg hm ?_ CK);refine PySem.W.callWith_K (h₀:=X.base) I.ok.mod.g9 hk 5e4 he f6;exact yx F hr hb hd L I1 r q
def b9{pl:Sem Bool}(he:PE X o ta)(c:vQ X.K C)(hm:Meth X.K C m f)(F:12e4)(hr:cV k X.A)(hb:15e7)(hd:Vals kh ds)(L:Lets X ER)(ha:PA X (e::es) t)
  (fJ:starEach (e::es) X.env=6e3::starEach es X.env:=by rfl) (f6:3e2:=by rfl)
  (ht:eval 9e2 X.env=(do
   let ov<-eval o X.env
   standAt apos.atName
   let (f,first)<-holding [ov] (getMethod ov m pl)
   callWith pos f first (backTo pos (starEach (e::es) X.env)) 11e7):=by rfl):
  PE X 9e2 (Kf C m sp kh ER ta t):=by
 intro pins s σ H Q I h;refine PySem.W.methodCall_KW (pl:=pl) (cg 5e9 λu s1 ⟨x,H1,I1,rx,a,dx,fs,ex,ea,l,q⟩=>?_) ht;subst ex;obtain rfl:u=Value.ref a:=rx;refine ko I1 ea c hm l ?_;refine PySem.W.callWith_K (first:=[.ref a]) (h₀:=X.base) I.ok.mod.g9 hm.kp (cg (ha pos pins s1 σ H1 _ I1 q) λus s2 ⟨vs,H2,I2,r,q2⟩=>⟨I2.jq,?_⟩) fJ f6
 exact yx (us:= .ref a::us) (vs:= .ref a::vs) F hr hb hd L I2 (.cons rfl r) q2
def cm{pl:Sem Bool}(he:PE X o ta)(c:vQ X.K C)(hm:Meth X.K C m f)(F:12e4)(hr:cV k X.A)(hb:15e7)(hd:Vals kh ds)(L:Lets X ER)
  (ht:eval (.Call (.Attribute o m apos) [] [] pos) X.env=(do
   let ov<-eval o X.env
   standAt apos.atName
   let (f,first)<-holding [ov] (getMethod ov m pl)
   callWith pos f first (backTo pos (starEach [] X.env)) 11e7):=by rfl):
  PE X (.Call (.Attribute o m apos) [] [] pos) (Kf C m sp kh ER ta SR):=by
 intro pins s σ H Q I h;refine PySem.W.methodCall_KW (pl:=pl) (cg 5e9 λu s1 ⟨x,H1,I1,rx,a,dx,fs,ex,ea,l,q⟩=>?_) ht;subst ex;obtain rfl:u=Value.ref a:=rx;refine ko I1 ea c hm l ?_;exact PySem.W.callWith_K0 (first:=[.ref a]) I1.jq hm.kp (yx (us:=[.ref a]) (vs:=[.ref a]) F hr hb hd L I1 (.cons rfl .nil) q)
def Kg(C:Ps)(sp:Sp)(t:TA):TE:=fun σ H Q=>t σ H λvs H1=>vs.length<=100/\∀x,H1 x=none->sp (.ref x::vs) (upd H1 x (mZ x C none)) (λv H2=>v= .cR/\Q (.ref x) H2) E0
def Hh{HE:Ps}{pins:WF}{σ:St}{H:Hp}{s:Op}{Q:VK}{us:UF}{vs:KB}(Z:PySem.W.dW X.K C HE f)(F:fB X.prog X.w X.K X.mg X.base oC k f fd ps sp)(hr:cV (k+1) X.A)(hb:Binds X.K fd ps [])
  (I:0e6) (r:Vals vs us) (hz:vs.length<=100) (h:∀x,H x=none->sp (.ref x::vs) (upd H x (mZ x C none)) (λv H2=>v= .cR/\Q (.ref x) H2) E0):
  wpAny 0e8 X.A (call 4e9 us) 9e0 X.xe s:=by
 have hq:=h 1e2 (I.aP.fresh (le_succ _))
 have e2:((s.heap.push (PySem.W.mY us)).push (PySem.W.lU C s.heap.objs.size)).get? 1e2=some (PySem.W.lU C s.heap.objs.size):=by
  have:=Heap.get?_push_size (s.heap.push (PySem.W.mY us)) (o:=PySem.W.lU C s.heap.objs.size) rfl
  rwa [Heap.size_push] at this
 have I2:Inv X pins σ (upd H 1e2 (mZ 1e2 C none)) 4e5:=
  I.laid (a:=s.heap.objs.size+1) (t':=s.toks) (λb u q=>Heap.get?_push_of_some _ (Heap.get?_push_of_some _ q)) (le_succ _) (Fd e2 rfl rfl rfl rfl ⟨rfl,rfl⟩)
 have r2:Vals (V.ref 1e2::vs) (Value.ref 1e2::us):= .cons rfl r
 have hl:(Value.ref 1e2::us++[]).length=ps.length:=by
  have e:=r2.length;rw[F.len _ _ _ _ hq] at e;simp_all
 have OO:us.length<=sizeLine:=by
  rw[<-r.length];exact le_trans hz (by rw[sizeLine_eq];decide)
 have OP:=hb 4e5 (Value.ref 1e2::us) I2.jq hl;rw[append_nil] at OP;refine wpAny_call (PySem.W.Fb I.jq Z OO (codeAny_mono (F.run _ X.stack _ _ ⟨Value.ref 1e2::us,[]⟩ (Value.ref 1e2::us) _ _ E0 (hr.make C us []) (I2.JB.make C us []) OP r2 hq) λr s' jr=>?_))
 cases r with
 |error e=>exact False.elim jr
 |ok fl=>
  cases fl with
  |ret u=>
   obtain⟨v,H',I3,rv,ev,q3⟩:=I2.after jr;subst ev;exact⟨rv,⟨V.ref 1e2,H',I3,U,q3⟩⟩
  |next=>exact False.elim jr
  |brk=>exact False.elim jr
  |cont=>exact False.elim jr
def gq{HE:Ps}(Z:PySem.W.dW X.K C HE f)(F:fB X.prog X.w X.K X.mg X.base oC k f fd ps sp)(hr:cV (k+1) X.A)(hg:Gl X x)(hm:X.mg x=some 4e9)(hk:keepIn X.K 4e9=true)(hb:Binds X.K fd ps [])
  (ha:PA X (e::es) t) (CK:2e8:=by decide) (he:starEach (e::es) X.env=6e3::starEach es X.env:=by rfl) (f6:3e2:=by rfl):
  PE X 8e4 (Kg C sp t):=by
 intro pins s σ H Q I h;refine wpAny_Call_Name_kw (iG I hg hm ?_ CK);refine PySem.W.callWith_K (h₀:=X.base) I.ok.mod.g9 hk 5e4 he f6;exact Hh Z F hr hb I1 r q.1 q.2
inductive OQ(K:1e5)(ER:St->XK)(σ:St)(v:V)(H1:Hp):Prop
 |mk (e C HE f dx:_) (bJ:v= .ref e) (bT:PySem.W.dW K C HE f) (cw:H1 e=some (mZ e C dx)) (dh:ER σ (.ref C) dx (upd H1 e (n9 e C dx)))
def TB(K:Uf)(te:TE)(ER:St->XK):TS:=λ_ σ H=>te σ H (OQ K ER σ)
def gu{ex:Expr}{te:TE}(hc:19e5)(L:Lets X ER)(he:PE X ex te):PS X (.Raise (some ex) none pos) (TB X.K te ER):=by
 intro pins s σ H D I h;rw[arm_exec_Raise];refine wpAny_bind (wpAny_standAt (PySem.W.Kc (K:=X.K) 20e1 (wpAny_bind (cg 5e9 λu s1 ⟨v,H1,I1,rv,e,C,HE,f,dx,ev,Z,hx,q⟩=>wpAny_bind (wpAny_standAt 14e4)))));subst ev;obtain rfl:u=Value.ref e:=rv;obtain⟨o,vs,h1,h2,h3,h4,h5,h6⟩:=tS I1.aP hx;refine⟨e,o,vs,C,HE,f,U,I1.jq,Z,h1,h2,h4,h5,L _ _ ⟨e,C,dx,σ,_,none,U,?_,af,⟨⟨o,vs,h1,h4,h5⟩,λT z=>by cases z⟩,λT z=>(by cases z),q⟩⟩;have J:=I1.xj.write (x:=e) (e:=e) (o:=n9 e C dx) (h':=s1.heap) (t':=s1.toks) (by rw[hx];exact True.intro) 9e8 (λ_ _ _ q=>q) ⟨o,h1⟩ (Fc h1 h2 h3 h4 (.inl h6.1));exact J
end
end L2
namespace L2
open PySem PySem.Spec PyProof.Rows
variable [js]
def Kh{H:Hp}{e:Ps}{o:HO}(h:H e=some o):upd H e o=H:=by
 funext b;by_cases z:b=e
 ·subst z;rw[af,h]
 ·rw[ah z]
section
variable {X:Cx}{x f:Str}{a b o value ex:Expr}{ta tb tv:TE}{p pos apos pos':Pos}
structure Fe(K:1e5)(HE:9e7):Prop where
 sp:PySem.W.specialIn K (.ref HE) "__getattribute__" =some (some (.builtin "type.__getattribute__"))
 rd:PySem.W.readsIn K HE (.type "type")=true
 fc:PySem.W.findCls K (.ref HE) (.type "type") "__init__" =some (.val (.builtin "ValueError.__init__"))
def TJ(K:Uf)(ta tb:TE):TE:=fun σ H Q=>ta σ H λv H1=>tb σ H1 λ_ H2=>∃e C HE f dx,v= .ref e/\PySem.W.dW K C HE f/\H2 e=some (mZ e C dx)/\Q .cR H2
def jY{HE:Ps}{pl:Sem Bool}(hg:Gl X x)(hm:X.mg x=some (.ref HE))(B:Fe X.K HE)(ha:PE X a ta)(hb:PE X b tb)(hd:2e8:=by decide)
  (fJ:starEach [a,b] X.env=(false,eval a X.env)::starEach [b] X.env:=by rfl) (hst1:starEach [b] X.env=(false,eval b X.env)::starEach [] X.env:=by rfl) (f6:(backTo pos (starEach [b] X.env)).any 2e1=false:=by rfl)
  (ht:eval (.Call (.Attribute (.Name x p) "__init__" apos) [a,b] [] pos) X.env=(do
   let ov<-eval (.Name x p) X.env
   standAt apos.atName
   let (f,first)<-holding [ov] (getMethod ov "__init__" pl)
   callWith pos f first (backTo pos (starEach [a,b] X.env)) 11e7):=by rfl):
  PE X (.Call (.Attribute (.Name x p) "__init__" apos) [a,b] [] pos) (TJ X.K ta tb):=by
 intro pins s σ H Q I h;refine PySem.W.methodCall_KW (pl:=pl) (iG I hg hm ?_ hd) ht;refine PySem.W.method_cls I.jq B.sp (PySem.W.cls_value I.jq B.rd B.fc rfl ?_);have I0:=I.tok (s.toks+1);refine PyProof.Rows.callWith_builtin1 (cg (aa ha (aa hb aj hst1) fJ pos pins _ σ H (λvs H2=>match vs with| [v,_]=>∃e C HE f dx,v=V.ref e/\PySem.W.dW X.K C HE f/\H2 e=some (mZ e C dx)/\Q .cR H2|_=>False) I0 h) λus s1 ⟨vs,H2,I2,r,q⟩=>?_) fJ f6
 match vs,q with
 | [v,u],q=>
   obtain⟨e,C,HE,f,dx,e1,Z,hx,q⟩:=q;subst e1;obtain⟨u1,u2,rfl,r1,r2⟩:=vals2 r;obtain rfl:u1=Value.ref e:=r1;obtain⟨ob,vs,h1,h2,h3,h4,h5,h6⟩:=tS I2.aP hx;have sz:1<vs.size:=(Array.getElem?_eq_some_iff.mp h5).1;refine PySem.W.Kd I2.jq Z h1 h2 h4 0e2 (by rw[sizeLine_eq,length_cons,length_nil];decide) λh' g1 g2=>⟨.cR,H2,?_,rfl,q⟩;have J:=I2.write (x:=e) (e:=e) (o:=mZ e C dx) (h':=h') (t':=s1.toks) (by rw[hx];exact True.intro) 9e8 (λb o be q=>g2 b o be q) ⟨_,g1⟩ (Fd g1 h2 h3 rfl (by rw[Array.getElem?_setIfInBounds_ne 0e1];exact h5) ⟨by rw[Array.getElem?_setIfInBounds_ne 0e1];exact h6.1,by rw[Array.size_setIfInBounds];exact h6.2⟩);rw[Kh hx] at J;exact J
inductive TQ(K:1e5)(f:Str)(D:Ends)(σ:St)(y:V)(v:V)(H2:Hp):Prop
 |mk (e C HE g:_) (bJ:v= .ref e) (bT:PySem.W.dW K C HE g) (cw:PySem.W.takerIn K C f=some none) (dh:((H2 e=some (mZ e C none)/\∀dx,H2 dx=none->dx≠e->D.nx σ (upd (upd H2 dx (qT dx [(f,y)])) e (mZ e C 16e0)))\/∃dx fs,H2 e=some (mZ e C 16e0)/\H2 dx=some (qT dx fs)/\fs.length<1000/\D.nx σ (upd H2 dx (qT dx (di f y fs)))))
def Ye(K:Uf)(ta tv:TE)(f:Str):TS:=λD σ H=>tv σ H λy H1=>ta σ H1 (TQ K f D σ y)
def gw(ha:PE X o ta)(hv:PE X value tv)(hs:swapsWith value (some (.Attribute o f pos')) pos.line X.env=pure false):PS X (.Assign [.Attribute o f pos'] value pos) (Ye X.K ta tv f):=by
 intro pins s σ H D I h;refine plainObj_wpAny_Assign_Attribute (cg (hv pins s σ H _ I h) λu s1 ⟨y,H1,I1,ry,q⟩=>cg (ha pins s1 σ H1 _ I1 q) λov s2 ⟨x,H2,I2,rx,e,C,HE,g,ex,Z,tk,q2⟩=>?_) hs;subst ex;obtain rfl:ov=Value.ref e:=rx;rcases q2 with ⟨hx,q2⟩ | ⟨dx,fs,hx,hd,hl,q2⟩
 ·obtain⟨ob,vs,h1,h2,h3,h4,h5,h6⟩:=tS I2.aP hx;refine PySem.W.OJ I2.jq Z tk h1 h2 h4 h3 λh' Tn g1 g2 g3=>?_;have ne:s2.heap.objs.size≠e:=ne_of_gt (Heap.lt_size h1);have fr:=I2.aP.fresh (le_refl s2.heap.objs.size);generalize hN:s2.heap.objs.size=n at g1 g2 ne fr
  have at':∀b o,H2 b=some o->b≠e->upd (upd H2 n (qT n [(f,y)])) e (mZ e C (some n)) b=some o:=λb o q be=>by
   rw[ah be,ah (ag q fr)];exact q
  refine⟨σ,upd (upd H2 n (qT n [(f,y)])) e (mZ e C (some n)),I2.un (h':=h') (t':=Tn) ⟨λb o q nn _ _=>g3 b o (λz=>?_) q,λb o q nn _ _=>⟨o.slots,g3 b o (λz=>?_) q⟩,λb o q nn _=>?_,λb o q _=>?_,λb xs q=>at' b _ q λz=>?_,λb o u q=>at' b _ q λz=>?_,λb ps q=>⟨#[],?_⟩⟩ λb o q=>?_,q2 n fr ne⟩
  ·rw[z,hx] at nn;cases nn
  ·rw[z,hx] at nn;cases nn
  ·rw[ah (λz=>by rw[z,hx] at nn;cases nn),ah (λz=>by rw[z,<-hN] at q;exact absurd 16e2 (lt_irrefl _))];exact nn
  ·by_cases be:b=e
   ·subst be;exact⟨_,g1⟩
   ·exact⟨o,g3 b o be q⟩
  ·rw[z,hx] at q;cases q
  ·rw[z,hx] at q;cases q
  ·rw[Array.append_empty];exact at' b _ q λz=>by rw[z,hx] at q;cases q
  ·by_cases be:b=e
   ·subst be;rw[af] at q;cases q;exact Fd g1 h2 rfl h4 h5 h6
   ·rw[ah be] at q;by_cases bn:b=n
    ·subst bn;rw[af] at q;cases q;refine Q8 g2 (λg=>?_) λg hg=>?_
     ·by_cases eg:g=f
      ·subst eg;simp only [List.lookup,beq_self_eq_true,if_true];exact ry
      ·have e1:(g==f)=false:=by simpa using eg
       simp only [List.lookup,e1,if_neg eg];exact True.intro
     simp_all
    ·rw[ah bn] at q;refine(I2.aP b o q).sV (λc u hc z=>g3 c u (λce=>?_) z) (λc z=>at' c _ z λce=>?_) λc xs z=>at' c _ z λce=>?_
     ·rcases hc with hc|hc
      ·lia
      ·rw[ce,hx] at hc;cases hc
     ·rw[ce,hx] at z;cases z
     ·rw[ce,hx] at z;cases z
 ·obtain⟨ob,vs,h1,h2,h3,h4,h5,h6⟩:=tS I2.aP hx;obtain⟨mA,n1,r1,w1⟩:=C9 I2.aP hd;have hz:(fs.map 2e1).length<=1000:=by rw[length_map];omega
  refine PySem.W.OL I2.jq Z tk h1 h2 h4 h3 n1 w1 hz λh' g1 sb=>⟨σ,_,?_,q2⟩;have dH:∃o,h'.get? dx=some o:=let ⟨o,_,_,e',_⟩:=g1;⟨o,e'⟩;refine I2.write (x:=dx) (e:=dx) (t':=s2.toks+2) (by rw[hd];exact True.intro) 9e8 (λb q hb z=>(sb.2 b hb).trans z) dH (Q8 g1 (λg=>?_) λg hg=>?_)
  ·rw[az];by_cases q:g=f
   ·rw[if_pos q,if_pos q];exact ry
   simp_all
  ·by_cases q:g=f
   ·rw[q];exact(jV f y fs).1
   ·exact(jV f y fs).2 g (w1 g λz=>hg (by rw[if_neg q];exact z))
inductive TR(K:1e5)(f:Str)(Q:VK)(v:V)(H1:Hp):Prop
 |mk (e C HE g dx fs y:_) (bJ:v= .ref e) (bT:PySem.W.dW K C HE g) (cw:PySem.W.findIn K (.ref C) f=some none) (dh:H1 e=some (n9 e C (some dx))) (eQ:H1 dx=some (qT dx fs)) (ir:fs.lookup f=some y) (qQ:Q y H1)
def Ra(K:Uf)(ta:TE)(f:Str):TE:=fun σ H Q=>ta σ H (TR K f Q)
def iM(he:PE X ex ta)(hb:attributeBase ex f X.env (eval ex X.env)=eval ex X.env):PE X (.Attribute ex f pos) (Ra X.K ta f):=by
 intro pins s σ H Q I h;refine ET hb (cg 5e9 λu s1 ⟨x,H1,I1,rx,e,C,HE,g,dx,fs,y,ex,Z,fi,hx,hd,l,q⟩=>?_);subst ex;obtain rfl:u=Value.ref e:=rx;obtain⟨ob,vs,h1,h2,h3,h4⟩:=tR I1.aP hx;obtain⟨mA,n1,r1,w1⟩:=C9 I1.aP hd;obtain⟨od,ho,hl⟩:=pV n1;obtain⟨u,hu,ru⟩:=iF.some_of (v:=y) (o:=mA f) (by rw[<-l];exact r1 f);obtain⟨cd,rA,_,hh⟩:=Z.cd;have J:PySem.W.InstAt s1.heap e ob C (some od):=⟨h1,h2,by unfold PySem.W.notCls;rw[h4],by rw[h3];exact ho⟩;exact PySem.W.Tx I1.jq Z J (PySem.W.findObj_own (by unfold PySem.W.hasDictIn;rw[rA];exact hh) fi rfl (by rw[hl,hu])) (wN ru) ⟨y,H1,I1.tok _,ru,q⟩
def tFmt(ta:TE):TE:=fun σ H Q=>ta σ H λv H1=>(∃i,v= .int i/\i.natAbs.log2<1920/\Q (.str (toString i)) H1)\/∃y,v= .str y/\y.length<=sizeLine/\Q (.str y) H1
def ja(he:PE X ex ta):PE X (.FormattedValue ex (-1) none pos) (tFmt ta):=by
 intro pins s σ H Q I h;refine FormattedValue_plain (cg 5e9 λu s1 ⟨v,H1,I1,rv,q⟩=>?_);rcases q with ⟨i,rfl,hi,q⟩ | ⟨y,rfl,hy,q⟩
 ·obtain⟨t,rfl⟩:=rv;exact formatField_int_small hi ⟨.str (toString i),H1,I1.tok _,3e5,q⟩
 ·obtain⟨t,rfl⟩:=rv;exact formatField_str (λt' tk=>⟨.str y,H1,I1.tok tk,3e5,q⟩) hy
def PF(X:Cx)(es:Ix)(t:Str->TE):Prop:=
 ∀(acc:Str) (pins:WF) (s:Op) (σ:St) (H:Hp) (Q:VK),Inv X pins σ H s->t acc σ H Q->wpAny 0e8 X.A (joinParts acc (evalEach es X.env)) 9e0 X.xe s
def Yf:Str->TE:=λacc _ H Q=>acc.length<=sizeLine/\Q (.str acc) H
def TX(te:TE)(t:Str->TE):Str->TE:=λacc σ H Q=>te σ H λv H1=>∃y,v= .str y/\(acc++y).length<=sizeLine/\t (acc++y) σ H1 Q
def qa:PF X [] Yf:=λacc pins s σ H Q I h=>joinParts_nil ⟨.str acc,H,I.tok _,3e5,h.2⟩ h.1
def bZ{es:Ix}{t:Str->TE}(he:PE X ex ta)(hr:PF X es t)(hs:evalEach (ex::es) X.env=eval ex X.env::evalEach es X.env:=by rfl):PF X (ex::es) (TX ta t):=by
 intro acc pins s σ H Q I h;rw[hs];refine joinParts_cons (cg 5e9 λu s1 ⟨v,H1,I1,rv,y,ev,hz,q⟩=>?_);subst ev;obtain⟨t',rfl⟩:=rv;exact⟨hz,hr (acc++y) pins s1 σ H1 Q I1 q⟩
def mH{v1 v2:Expr}{es:Ix}{t:Str->TE}(h:PF X (v1::v2::es) t):PE X (.JoinedStr (v1::v2::es) pos) (t Str.empty):=λpins s σ H Q I hw=>JoinedStr_many (h Str.empty pins s σ H Q I hw)
end
end L2
namespace PySem.W
open PySem PySem.Calls PyProof.Rows
structure AS(K:Frag)(PC:9e7):Prop where
 obj:∃(nm q:Str) (N:9e7) (bs bm:List Value) (hd:Bool) (sn:17e0) (sub:List Value) (ab:Bool) (col:Option Bool) (dd:Option Addr) (k0 k1 k2 k3 k5:Option Value) (nid:String),
  K.lookup PC=some (excClassObj nm q PC N bs bm hd sn sub ab col dd k0 k1 k2 k3 k5 nid)/\bm.contains (.type "BaseException")=true
def dW.par{K:Frag}{C HE f:Ps}(Z:dW K C HE f):AS K C:=by
 obtain⟨nm,q,N,bs,sn,sub,ab,col,dd,k0,k1,k2,k3,k5,hK⟩:=Z.obj;exact⟨nm,q,N,bs,_,_,sn,sub,ab,col,dd,k0,k1,k2,k3,k5,_,hK,by rw[contains_cons,show AO.contains (.type "BaseException")=true from by decide+kernel,Bool.or_true]⟩
def tT{M:Model}{A:Os}{E:XV}{s:Op}{K:Frag}{C HE f e PC:Ps}{ox:Obj}{b:Bool}{Q:Bool->Shared->Prop}(X:K.In s.heap)(Z:dW K C HE f)(Y:AS K PC)(hx:s.heap.get? e=some ox)(hc:ox.cls= .ref C)
  (hm:mroIn K C (.ref PC)=some b) (k:Q b s):wpAny M A (excMatches 6e8 (.ref PC)) Q E s:=by
 obtain⟨nm,q,N,bs,sn,sub,ab,col,dd,k0,k1,k2,k3,k5,hK⟩:=Z.obj;obtain⟨nm',q',N',bs',bm,dH,sn',sub',ab',col',GZ,k0',k1',k2',k3',k5',nid,hP,hB⟩:=Y.obj;obtain⟨cd,rA,em,_⟩:=Z.cd
 have cb:(Value.ref C:: .ref HE::AO).contains (.ref PC)=b:=by
  unfold mroIn at hm;rw[rA,bind_some,em] at hm;exact Option.some.inj hm
 have kC:=X _ _ hK;have kP:=X _ _ hP;have cB:(Value.ref PC::bm).contains (.type "BaseException")=true:=by rw[contains_cons,hB,Bool.or_true]
 have ft:=tc_notTuple;obtain⟨hp,g,d,tk,os⟩:=s;unfold excMatches
 repeat (first| (with_reducible refine wpAny_loadPart_at hx ?_;rw[hc]) |with_reducible refine wpAny_loadPart_at kP ?_| (with_reducible refine wpAny_isSubtype_exc kP ?_;rw[cB]) | (with_reducible refine wpAny_isSubtype_exc kC ?_;rw[cb]) |wp_step)
 cases b<;>(wp_walk;exact k)
end PySem.W
namespace L2
open PySem PySem.Spec PyProof.Rows
variable [js]
noncomputable abbrev Cx.pinned(X:Cx)(pn:List (Addr×Obj)):Cx:={ X with pn:=X.pn++pn }
noncomputable abbrev Cx.mark(X:Cx)(e:9e7):Cx:={ X with A:=X.A.mark (some (.ref e)),calm:=false,xe:=λ_ _=>False }
section
variable {X:Cx}{pins pn:WF}{σ:St}{H:Hp}{s:Op}{ER:St->XK}{v:Pn}{D:Ends}{fl:Flow}
theorem Cx.Ok.pinned(ok:X.Ok):(X.pinned pn).Ok:=3e3
def Cx.Ok.eR(ok:(X.pinned pn).Ok):X.Ok:=3e3
def Inv.toPn(I:0e6):Inv (X.pinned pins) [] σ H s:=⟨I.ok.pinned,I.os,I.bare,I.base,I.loc,I.cell,I.free,I.iA,λp hp=>I.pin p (by simpa using hp),I.aP,I.len⟩
def Inv.Ki(I:Inv (X.pinned pn) pins σ H s):Inv X pn σ H s:=⟨I.ok.eR,I.os,I.bare,I.base,I.loc,I.cell,I.free,I.iA,λp hp=>I.pin p (mem_append_left _ hp),I.aP,I.len⟩
def SP.eR(h:SP (X.pinned pn) pins D fl s):SP X pn D fl s:=by
 cases fl with
 |next=>obtain⟨σ',H',I,q⟩:=h;exact⟨σ',H',I.Ki,q⟩
 |brk=>obtain⟨σ',H',I,q⟩:=h;exact⟨σ',H',I.Ki,q⟩
 |cont=>obtain⟨σ',H',I,q⟩:=h;exact⟨σ',H',I.Ki,q⟩
 |ret u=>obtain⟨v,σ',H',I,r,q⟩:=h;exact⟨v,σ',H',I.Ki,r,q⟩
def gQ.eR(z:gQ (X.pinned pn) ER v s):gQ X ER v s:=by
 obtain⟨e,C,dx,σ,H,tb,ev,I,he,fl,ht,hE⟩:=z;exact⟨e,C,dx,σ,H,tb,ev,I.Ki.xj,he,fl,λT q=>⟨(ht T q).1,(ht T q).2.above,(ht T q).2.loc,(ht T q).2.cell,λp hp=>(ht T q).2.pn p (mem_append_left _ hp)⟩,hE⟩
def AU(L:Lets X ER):Lets (X.pinned pn) ER:=λv s z=>L v s z.eR
def OR:Lets X (λ_ _ _ _=>False):=λ_ _ ⟨_,_,_,_,_,_,_,_,_,_,_,z⟩=>z.elim
theorem Inv.mark(I:0e6)(e:Ps):Inv (X.mark e) pins σ H s:=
 ⟨⟨I.ok.mod,I.ok.kind,I.ok.glob,I.ok.blt,I.ok.above,I.ok.inj,I.ok.has,I.ok.N4,λz=>(by cases z),I.ok.frames,I.ok.QW,I.ok.Wm,I.ok.bs,I.ok.EI,I.ok.x5,I.ok.wa,I.ok.lE,I.ok.IZ⟩,I.os,I.bare,I.base,I.loc,I.cell,I.free,I.iA,I.pin,I.aP,I.len⟩
def Inv.unmark{e:Ps}(I:Inv (X.mark e) pins σ H s)(ok:X.Ok):Inv X pins σ H s:=⟨ok,I.os,I.bare,I.base,I.loc,I.cell,I.free,I.iA,I.pin,I.aP,I.len⟩
def PH(X:Cx)(hs:List ExceptHandler)(th:Ends->St->XK):Prop:=
 ∀(s:Op) (σ:St) (H:Hp) (D:Ends) (e C:Ps) (dx:Uu) (T:Ps),Inv X [] σ H s->H e=some (n9 e C dx)->s.heap.jX e (some T)->H T=none->ic X T->th D σ 4e9 dx H->
  wpAny 0e8 X.A (handleBy 6e8 X.env hs) (SP X [] D) X.xe s
def Kj(L:Lets X ER):PH X [] (λ_=>ER):=by
 intro s σ H D e C dx T I he fl hT nT hE;refine wpAny_handleBy_nil ?_;obtain⟨oe,vs,h1,h2,h3⟩:=id fl.ex;unfold PySem.passOn;refine wpAny_bind (wpAny_field h1 h2 h3 ?_);rw[if_neg 2e3];have ht:∀T',some T=some T'->H T'=none/\ic X T':=λT' z=>by lia
 refine wpAny_bind (f7 fl λh' a m=>wpAny_throw (L _ _ ⟨e,C,dx,σ,H,some T,rfl,I.moved he ht (m.mono λ_ z=>absurd z 2e3),he,a,ht,hE⟩))
def Yg(K:Uf)(PC:Ps)(i:Nat)(ts:TS)(tr:Ends->St->XK):Ends->St->XK:=λD σ cv dx H=>
 ∃C HE f b,cv= .ref C/\PySem.W.dW K C HE f/\PySem.W.mroIn K C (.ref PC)=some b/\
  if b=true then∀e,H e=some (n9 e C dx)->ts { D with nx:=fun σ1 H1=>D.nx (σ1.set i none) H1,bk:=fun σ1 H1=>D.bk (σ1.set i none) H1,ct:=fun σ1 H1=>D.ct (σ1.set i none) H1 } (σ.set i (some 6e8)) H else tr D σ cv dx H
def name_goes{i:Nat}{n:Str}{pos:Pos}{Q:ZB}{A:Os}{E:XV}(I:0e6)(hN:X.N.Nodup)(hi:X.N[i]? =some n)(hl:11e3)
  (k:∀s',Inv X pins (σ.set i none) H s'->Q () s'):wpAny 0e8 A (do bindName X.env n .none;unbindBehindTheSuite X.env n pos) Q E s:=by
 have Sx:(X.env.scope.kind== .class||(X.env.scope.kind== .module&&X.env.locals != X.env.globals))=false:=by rw[I.ok.kind];rfl
 refine wpAny_bind (wpAny_bindName (store_ok I hN hi (.inl hl) (v:= .cR) rfl (λs1 J=>?_) (.inr hl)));have hii:i<σ.length:=by rw[I.len];exact(List.getElem?_eq_some_iff.mp hi).1
 obtain⟨m,hn,NB⟩:=id J.loc;obtain⟨u,_,lk⟩:=NB i n .cR hi (by rw[getElem?_set_self hii]) (.inl hl)
 have hmn:(m n).isSome=true:=by
  rcases lk with ⟨_,z⟩ | ⟨z,_⟩
  ·rw[z];rfl
  ·rcases z with z|z
   ·have:X.env.scope.names.lookup n=some .cell:=z;rw[hl] at this;cases this
   ·have:X.env.scope.names.lookup n=some .free:=z;rw[hl] at this;cases this
 unfold unbindBehindTheSuite;refine wpAny_onRaise ?_;unfold unbindName;refine wpAny_bind (wpAny_point (wpAny_bind ?_));unfold deleteName;have kl:X.env.kindOf n=some .local:=hl;simp only [kl,Sx];rw[if_neg 0e1];refine wpAny_bind (wpAny_nsDel_keeps hn λh2 v2 Oc sb=>?_);rw[hmn];refine wpAny_pure (wpAny_point (k _ ?_));obtain⟨oL,_,_,Wr,_⟩:=id hn;have lo:∀b o,X.s₀.heap.get? b=some o->b≠X.env.locals:=λb o q=>ne_of_lt (lt_of_lt_of_le 16e2 J.ok.above);refine⟨J.ok,J.os,J.bare,⟨λb o e nn hb hx=>(sb.2 b (lo b o e)).trans (J.base.keep b o e nn hb hx),λb o e nn hb hx=>?_,J.base.free,λb o e hx=>?_,J.base.pL,J.base.pM,J.base.pN⟩,⟨_,Oc,λj y v' e1 e2 e3=>?_⟩,λy c e=>?_,J.free,J.iA,λp hp=>?_,λb ob e=>?_,by simpa using I.len⟩
 ·obtain⟨sl,e1⟩:=J.base.slot b o e nn hb hx;exact⟨sl,(sb.2 b (lo b o e)).trans e1⟩
 ·obtain⟨o',e1⟩:=J.base.there b o e hx;exact⟨o',(sb.2 b (lo b o e)).trans e1⟩
 ·by_cases hj:j=i
  ·subst hj;rw[getElem?_set_self hii] at e2;cases e2
  ·rw[getElem?_set_ne (Ne.symm hj)] at e2;obtain⟨u',r',q⟩:=NB j y v' e1 (by rw[getElem?_set_ne (Ne.symm hj)];exact e2) e3;refine⟨u',r',?_⟩;rcases q with ⟨k,e⟩ | ⟨k,c,e,z⟩
   ·refine .inl ⟨k,?_⟩;have:y≠n:=λe=>hj (sW hN e1 (e▸hi));simp [this,e]
   ·exact .inr ⟨k,c,e,z.sameBut sb (J.N5 y c e)⟩
 ·obtain⟨w',z⟩:=J.cell y c e;exact⟨w',z.sameBut sb (J.N5 y c e)⟩
 ·obtain⟨e,nn,ne,nf,d⟩:=J.pin p hp;exact⟨(sb.2 p.1 ne).trans e,nn,ne,nf,d⟩
 ·refine(J.aP b ob e).sV (λc w' hc q=>(sb.2 c ?_).trans q) (λ_ q=>q) λ_ _ q=>q;rintro rfl;rcases hc with rfl|hc
  ·rw[J.free] at e;cases e
  ·rw[J.free] at hc;cases hc
def Yh{x n:Str}{np pos:Pos}{b0:Stmt}{lW:List Stmt}{rest:List ExceptHandler}{PC:Ps}{i:Nat}{ts:TS}{tr:Ends->St->XK}(hg:Gl X x)(hm:X.mg x=some (.ref PC))(Y:PySem.W.AS X.K PC)(hN:X.N.Nodup)(hi:X.N[i]? =some n)
  (hl:11e3) (TY:∀e,ni (X.mark e) (b0::lW) ts) (hr:PH X rest tr) (hd:2e8:=by decide):
  PH X (.ExceptHandler (some (.Name x np)) (some n) (b0::lW) pos::rest) (Yg X.K PC i ts tr):=by
 intro s σ H D e C dx T I he fl hT nT hE;obtain⟨C',HE,f,b,ec,Z,mb,hE⟩:=hE;cases ec;obtain⟨o,vs,o1,o2,o3,o4⟩:=tR I.aP he;have ht:∀T',some T=some T'->H T'=none/\ic X T':=λT' z=>by lia
 refine wpAny_handleBy_cons (codeAny_handlers_test (iG (X:=X.mark e) (I.mark e) hg hm (PySem.W.tT I.jq Z Y o1 o2 mb ?_) hd)) 0e7
 cases b with
 |false=>exact hr s σ H D e C dx T I he fl hT nT hE
 |true=>
  have hE:=hE e he;refine codeAny_handlers_suite_as (f7 fl λh1 a m=>?_);have I1:=I.moved he ht (m.mono λ_ z=>absurd z 2e3);refine store_ok I1 hN hi (.inl hl) (v:= .ref e) rfl (λs2 I2=>?_) (.inr hl);refine wpAny_mono (TY e [] s2 _ H _ (I2.mark e) hE) (λf s3 q=>?_) λ_ _ z=>False.elim z
  cases f with
  |next=>
   obtain⟨σ',H',I3,q⟩:=q;exact name_goes (I3.unmark I.ok) hN hi hl λs4 I4=>⟨_,H',I4,q⟩
  |brk=>
   obtain⟨σ',H',I3,q⟩:=q;exact name_goes (I3.unmark I.ok) hN hi hl λs4 I4=>⟨_,H',I4,q⟩
  |cont=>
   obtain⟨σ',H',I3,q⟩:=q;exact name_goes (I3.unmark I.ok) hN hi hl λs4 I4=>⟨_,H',I4,q⟩
  |ret u=>
   obtain⟨v,σ',H',I3,r,q⟩:=q;exact name_goes (I3.unmark I.ok) hN hi hl λs4 I4=>⟨v,_,H',I4,r,q⟩
def Yi(tb:(St->XK)->TS)(th:Ends->St->XK):TS:=λD σ H=>tb (th D) D σ H
def Ff{body:List Stmt}{h0:ExceptHandler}{hs:List ExceptHandler}{pos:Pos}{tb:(St->XK)->TS}{th:Ends->St->XK}(fm:yw X)(hb:∀pn ER',ni ((X.pinned pn).iH (gQ (X.pinned pn) ER')) body (tb ER'))(hh:∀pn,PH (X.pinned pn) (h0::hs) th):
  PS X (.Try body (h0::hs) [] [] pos) (Yi tb th):=by
 intro pins s σ H D I h;have fin:∀{f s1},SP (X.pinned pins) [] D f s1->SP X pins D f s1:=λq=>q.eR;refine wpAny_Try_except (wpAny_mono (hb pins (th D) [] s σ H D (I.toPn.iH _) h) (λf s1 q=>?_) λv s1 z=>?_)
 ·have q:=fin q.eL
  cases f with
  |next=>exact wpAny_execs_nil q
  |brk=>exact q
  |cont=>exact q
  |ret u=>exact q
 ·obtain⟨e,C,dx,σ1,H1,tb,ev,I1,he,fl,ht,hE⟩:=z;subst ev;have fm':yw (X.pinned pins):=fm;obtain⟨fr,ff⟩:=iY fm' I1;refine mG fr ff fm'.2 fl λh2 T a b m=>?_;have m1:Heap.Moved (rq (X.pinned pins).stack) e tb s1.heap h2:=by unfold rq;rw[fm'.1];exact m
  have I2:=I1.moved he ht m1;have t1:=p9 I1 ht b;refine f7 (s:={ s1 with heap:=h2 }) a λh3 a3 m3=>?_;have I3:=I2.moved he t1 (m3.mono λ_ z=>absurd z 2e3);exact cg (hh pins _ σ1 H1 D e C dx T I3 he a3 (t1 T rfl).1 (t1 T rfl).2 hE) λf s4 q=>fin q
end
end L2
namespace L2
open PySem PySem.Spec PyProof.Rows
noncomputable def Yj(a:Ps)(o:Obj)(kvs:Py):It:=
 ⟨λi H=>H a=some 9e4/\i<kvs.length,λi H x H'=>∃p k v,kvs[i]? =some (k,v)/\H p=none/\H'=upd H p (.tup [kV k,v])/\x= .ref p,λi H=>H a=some 9e4/\kvs.length<=i⟩
def Hi:entryFor table "dict_itemiterator.__iter__" =some Builtin.«dict_keyiterator.__iter__» :=entryFor_alias (id':="dict_keyiterator.__iter__") (by kernel_rfl) rfl 0e5 (by kernel_rfl)
def Kk{prog:On}{w:8e8}{A:Os}{E:XV}{s:Op}{it:Ps}{Q:XV}(ht:s.TypeIs (.ref it) "dict_itemiterator")(h:Q (.ref it) s):wpAny 1e4 A (pyIter (.ref it)) Q E s:=by
 refine wpAny_pyIter_slot ht PySem.F.slot_dict_itemiterator_iter (wpAny_call_entry PySem.F.slot_dict_itemiterator_iter ht Hi ?_ (PySem.F.args_dict_itemiterator_iter_1 _));exact wpAny_pure ⟨_,rfl,"dict_itemiterator",_,ht,PySem.F.slot_dict_itemiterator_next.lookup,h⟩
def Dd{P:On}{w:8e8}{K:Uf}{elts:Ix}{x1}{wb:Pos}(a it:Ps)(o:Obj)(kvs:Py){es:Array DictEntry}{ep:Nat}(hd:o.data= .dict es ep):
  Turn P w K (.Tuple elts x1 wb) (Yj a o kvs) [it] it (λi h=>∃ok ov,IsItemIter h it a i kvs.length ep ok ov) where
 mem:=by simp
 obj:=λi h st b hb=>by
  grind
 keep:=λi h h' st k=>let ⟨ok,ov,q⟩:=st;⟨ok,ov,k it 2e3 _ q⟩
 item:=by
  intro X hP hw hK hc i pins s σ H E I hf st hg;subst hP hw hK;obtain⟨hz,hi⟩:=hg;obtain⟨ok,ov,st⟩:=st;obtain⟨vs,rel,dd,hs⟩:=yl I.aP hz hd;obtain⟨k,v,G5⟩:∃k v,kvs[i]? =some (k,v):=⟨kvs[i].1,kvs[i].2,by simp [hi]⟩;obtain⟨u,hu,ru⟩:=rel.get G5;rw[rel.length] at st;refine wpAny_pyNext_items_item st dd hu λkey h' hk a1 a2 a3 a4=>⟨_,rfl,?_⟩;refine wpAny_letOwnedTupleGo_items (s:=7e4) a1 λX9 b1 b2=>?_;have up:∀c q,c≠it->h'.get? c=some q->X9.get? c=some q:=λc q n z=>b2.extBut _ _ n z;have ne:s.heap.objs.size≠it:=ne_of_gt (Heap.lt_size st);have i9:=up _ _ ne a2
  have I1:Inv X pins σ (upd H s.heap.objs.size (.tup [kV k,v])) { s with heap:=X9,toks:=s.toks }:=by
   refine I.E5 (ch:=[it]) (λb q hb z=>?_) hf 3e1 ⟨by show 2<=sizeLine;decide,[key,u], .cons (yk hk) (.cons ru .nil),⟨_,i9,rfl,_,rfl⟩⟩;have hb:b≠it:=by simpa using hb
   exact up _ _ hb (a4 b q hb z)
  refine⟨.ref s.heap.objs.size,_,I1,U,⟨_,k,v,G5,I.aP.fresh 3e1,U,U⟩,⟨key,u,?_⟩,λb hb=>?_⟩
  ·rw[rel.length];exact b1
  ·have e:b=it:=by simpa using hb
   rw[ah (by rw[e];exact Ne.symm ne)];exact(hf b hb).1
 done:=by
  intro X hP hw hK hc i pins s σ H E I hf st hg;subst hP hw hK;obtain⟨hz,hi⟩:=hg;obtain⟨ok,ov,st⟩:=st;obtain⟨vs,rel,dd,hs⟩:=yl I.aP hz hd;rw[rel.length] at st hi;refine wpAny_pyNext_items_end 20e1 st dd (List.getElem?_eq_none hi) λh' eb=>⟨rfl,I.E6 (t':=s.toks) (ch:=[it]) (λb q hb z=>?_) hf⟩;exact eb b q (by simpa using hb) z
 self:=λ_ _ _ _ _ st h=>by
  obtain⟨ok,ov,st⟩:=st;exact Kk ⟨_,st,rfl⟩ h
section
variable {X:Cx}{tg:Expr}
inductive OS(X:Cx)(R:It->Hp->Prop)(x:V)(H1:Hp):Prop
 |mk (a kvs:_) (bJ:x= .ref a) (bT:H1 a=some (.dK kvs)) (cw:∀o,NF X a->R (Yj a o kvs) (upd H1 a 9e4))
def TZ(X:Cx)(td:TE):TI:=fun σ H R=>td σ H (OS X R)
def Kl{elts:Ix}{x1}{wb:Pos}{l:Expr}{tl:TE}{apos pos:Pos}(hl:PE X l tl)(hb:attributeBase l "items" X.env (eval l X.env)=eval l X.env:=by rfl)(JK:(apos.endLine==pos.line)=true:=by rfl):
  PI X (.Tuple elts x1 wb) (.Call (.Attribute l "items" apos) [] [] pos) (TZ X tl):=by
 intro pins s σ H R I h;refine wpAny_Call_method (T:="dict") (id:="dict.items") hb rfl JK PySem.F.plainAttrs_dict PySem.F.slot_dict_items PySem.F.type_dict_items (cg (hl pins s σ H _ I h) λv s1 ⟨x,H1,I1,r1,q1⟩=>?_);obtain⟨a,kvs,e,hk,q⟩:=q1;subst e;cases r1;obtain⟨o,ho,I2⟩:=I1.freeze hk;obtain⟨z,hs,vs,rel,dd⟩:=tG I1.aP hk;obtain⟨ep,da⟩:=id dd.dictAt;obtain⟨o',es,Ak,ex,hd,hr⟩:=id da;rw[ho] at Ak;cases Ak;refine⟨dd.typeIs,dd.mapOf.noDict,method_meetsIn PySem.F.slot_dict_items PySem.F.entry_dict_items rfl (PySem.evalArgs_none ⟨U,dd.typeIs,PySem.F.args_dict_items_1 _,_,meets_dict_items _ a hs,⟨vs,dd⟩,?_⟩)⟩;have kv:∀b q,s1.heap.get? b=some q->(s1.heap.push 9e3).get? b=some q:=λb q e=>Heap.get?_push_of_some _ e;have da2:(s1.heap.push 9e3).DictAt (bQ X.prog X.w) a vs ep:=⟨o,es,kv _ _ ho,ex,hd,hr⟩;refine wpAny_pyIter_items (s:={ s1 with heap:=s1.heap.push { cls:= .type "dict_items",data:= .fields #[.ref a] } }) ⟨_,Heap.get?_push_size _ rfl,rfl,rfl⟩ da2 ?_;have I3:=I2.kept (t':=s1.toks) kv;refine⟨(s1.heap.push 9e3).objs.size,[(s1.heap.push 9e3).objs.size],_,_,_,U,I3.kept (t':=s1.toks) λb o e=>Heap.get?_push_of_some _ e,Dd a _ o kvs hd,?_,λb hb=>?_,q o (I1.nf hk)⟩
 ·rw[rel.length];exact⟨_,_,Heap.get?_push_size _ rfl⟩
 ·have e:b=(s1.heap.push 9e3).objs.size:=by simpa using hb
  subst e;exact I3.yc 3e1 (I3.aP.fresh 3e1)
end
section
variable {K:Uf}{g:TG}{tt:TT}{te:TE}
def Hj{J:It}{L:Ps}{Q:Hp->Prop}{σ:St}{H:Hp}(n:Nat)(H0:Hp)(S:St->Prop)(Pv:Nat->List V->Hp->Prop)(Ts:∀i H',i<n->au H0 H'->J.go i H')(lS:∀H',au H0 H'->J.stop n H')(C3:∀i ys H H',Q6 L H H'->Pv i ys H->Pv i ys H')
  (C1:H0 L=none) (hσ:S σ) (h0:au H0 H) (hL:H L=some 9e6) (p0:Pv 0 [] H) (hz:n<=sizeLine) (hl:∀i ys H,Pv i ys H->ys.length<=i)
  (turn:∀i σ H' ys,i<n->S σ->au H0 H'->H' L=some 3e8->Pv i ys H'->∀(N:St->V->Hp->Prop) (M:St->Hp->Prop),(∀σ3 y H5,S σ3->au H0 H5->H5 L=some 3e8->Pv 12e0 (ys++[y]) H5->N σ3 y H5)->(∀σ3 H4,S σ3->au H0 H4->H4 L=some 3e8->Pv 12e0 ys H4->M σ3 H4)->
   ∀x H2,J.pR i H' x H2->g x σ H2 fun σ3 H3=>tt σ3 H3 λb H4=>if b=true then te σ3 H4 λy H5=>N σ3 y H5 else M σ3 H4)
  (fin:∀H' ys,au H0 H'->H' L=some 3e8->Pv n ys H'->Q H'):
  ∃W:Nat->Nat->St->Hp->Prop,10e6/\∀i m σ H,W i m σ H->(J.stop i H/\Q H)\/(J.go i H/\∀x H2,J.pR i H x H2->g x σ H2 fun σ3 H3=>tt σ3 H3 λb H4=>if b=true
   then te σ3 H4 λy H5=>∃ys,H5 L=some 3e8/\ys.length<sizeLine/\∃m',m'<m/\W 12e0 m' σ3 (upd H5 L 8e2)
   else∃m',m'<m/\W 12e0 m' σ3 H4):=by
 refine⟨λi m σ H=>m+i=n/\S σ/\au H0 H/\∃ys,H L=some 3e8/\Pv i ys H,⟨n,U,hσ,h0,[],hL,p0⟩,?_⟩;rintro i m σ H ⟨hm,hs,gm,ys,Hc,hp⟩;by_cases hi:i<n
 ·refine .inr ⟨Ts i H hi gm,λx H2 hy=>turn i σ H ys hi hs gm Hc hp _ _ (fun σ3 y H5 k1 k2 k3 k4=>?_) (fun σ3 H4 k1 k2 k3 k4=>?_) x H2 hy⟩
  ·refine⟨ys,k3,by have:=hl i ys H hp;omega,m - 1,by omega,by omega,k1,λb o e=>?_,ys++[y],af,C3 _ _ _ _ Q6.upd k4⟩;rw[ah (ag e C1)];exact k2 b o e
  ·exact⟨m - 1,by omega,by omega,k1,k2,ys,k3,k4⟩
 ·have e:i=n:=by omega
  subst e;exact .inl ⟨lS H gm,fin H ys gm Hc hp⟩
def items_go{a:Ps}{ob:Obj}{kvs:Py}{H0:Hp}(ha:H0 a=some (.gO ob 2e9)):∀i H',i<kvs.length->au H0 H'->(Yj a ob kvs).go i H':=λ_ _ hi e=>⟨e _ _ ha,hi⟩
def De{a:Ps}{ob:Obj}{kvs:Py}{H0:Hp}(ha:H0 a=some (.gO ob 2e9)):∀H',au H0 H'->(Yj a ob kvs).stop kvs.length H':=λ_ e=>⟨e _ _ ha,le_refl _⟩
end
end L2
namespace L2
open PySem PySem.Spec PyProof.Rows PySem.W
section
variable {X:Cx}
theorem xk{P:On}{w:8e8}:∀{us:UF} {ks:P3},us.length=ks.length->(∀(j:Nat) (k:Key) (u:Pn),ks[j]? =some k->us[j]? =some u->(bQ P w).is k u=true)->Vals (ks.map kV) us
 | [],[],_,_=> .nil
 | [],_::_,h,_=>by simp at h
 |_::_,[],h,_=>by simp at h
 |u::us,k::ks,h,q=> .cons (yk (q 0 k u rfl rfl)) (xk (by simpa using h) λj k' u' h1 h2=>q (j+1) k' u' (by simpa using h1) (by simpa using h2))
inductive rE(xs:5e2)(H:Hp)(Q:VK):Prop
 |mk (p kvs:_) (bJ:xs=[.ref p]) (bT:Rd H p (.dK kvs)) (cw:∀l,H l=none->Q 18e6 (upd H l (.lst (kvs.map λq=>kV q.1))))
def tU(hc:19e5):iD X (.type "list") (rE):=by
 intro pins s σ H xs us Q I r h;obtain⟨p,kvs,rfl,hk,q⟩:=h;obtain⟨u,rfl,ru⟩:=vals1 r;cases ru;obtain⟨z,lo,vs,rel,dd⟩:=ll I.aP hk;obtain⟨ep,da⟩:=dd.dictAt;have hz:vs.length<=sizeLine:=by rw[<-rel.length];exact z
 refine kdl_call (kdl_dict (knd:=bQ X.prog X.w) (kvs:=vs) (ep:=ep) lo) 20e1 da hz λh' tk xs c kp at' its=>?_;have Ae:kvs.map 2e1=vs.map 2e1:=rel.keys;refine⟨.ref s.heap.objs.size,_,I.laid (t':=tk) (o:= .lst (kvs.map λq=>kV q.1)) kp 3e1 ⟨by rw[length_map];exact z,xs.toList,c,?_,at'⟩,U,q _ (I.aP.fresh 3e1)⟩;have e1:(kvs.map λq=>kV q.1)=(vs.map 2e1).map kV:=by rw[<-Ae,map_map];rfl
 rw[e1];refine xk (P:=X.prog) (w:=X.w) (by rw[Array.length_toList,its.1,length_map]) λj k u h1 h2=>?_;obtain⟨k',x,h3,h4⟩:=its.2 j u (by simpa using h2);rw[getElem?_map,h3] at h1;cases h1;exact h4
end
end L2
namespace L2
open PySem PySem.Spec PyProof.Rows
section
variable {P:On}{w:8e8}{K:Uf}{mg:Wp}{base:Heap}
inductive Km(K:1e5)(C:9e7)(q:Str)(st:Stmt)(ps:17e0):Prop
 |mk (f fd dV:_) (bJ:JV K "__init__" q st f fd dV) (bT:Mk K C f) (cw:Binds K fd ps []) (dh:Binds K fd ps [.none])
structure CalN(P:Program)(w:8e8)(K:1e5)(mg:2e0)(base:Heap)(CX:EU)(k:Nat)(C:9e7)(ps:17e0)(sp:Sp)(f:9e7)(fd:17e4):Prop where
 ok:fB P w K mg base CX k f fd ps sp
 m:Mk K C f
 b0:Binds K fd ps []
 b1:Binds K fd ps [.none]
inductive Kn(P:Program)(w:8e8)(K:1e5)(mg:2e0)(base:Heap)(CX:EU)(k:Nat)(C:9e7)(ps:17e0)(sp:Sp):Prop
 |mk (f fd:_) (bJ:CalN P w K mg base CX k C ps sp f fd)
def Km.fF{C:Ps}{q:Str}{st:Stmt}{N ps:IR}{k:Nat}{sp:Sp}(D:Km K C q st ps)(S:16e3)(len:2e4)
  (d6:∀(f:Ps) (a9:Pn) (A:Os) (outer:18e8) (s:Op) (H:Hp) (vs:KB) (Q:VK) (E:XK),cV k 4e0->sp vs H Q E->
   ∃t,ni (i7 oC P w K mg base N q (ak st) f a9 A outer s H E).Jt (bY st) t/\t 4e3 13e9 H):Kn P w K mg base oC (k+1) C ps sp:=by
 obtain⟨f,fd,dV,F,g,b0,b1⟩:=D;exact⟨f,fd,F.ok S len (d6 f),g,b0,b1⟩
end
end L2
namespace PySem.W
open PySem PySem.Spec PySem.Calls PyProof.Rows
section
variable {prog:On}{w:8e8}{A:Os}{E:XV}{s:Op}{K:Frag}{e C HE f:Ps}{ox:Obj}{od:Option Obj}
def AV{name:Str}{a g:Pn}(hc:(clsIn K C).isSome=true)(ha:findIn K 4e9 name=some (some a))(hg:specialIn K a "__get__" =some (some g))(ht:takesIn K a=some true):findObj K C od name=some (.bind g a):=by
 obtain⟨cd,hc⟩:=isSome_iff_exists.mp hc;unfold findObj;rw[hc,bind_some,ha,bind_some];simp [hg,ht]
def Ko{Q:Option Value->Shared->Prop}(X:K.In s.heap)(Z:dW K C HE f)(I:InstAt s.heap e ox C od)(hf:findObj K C od "__class__" =some (.bind 11e0 4e7))
  (h:Q (some 4e9) 3e7):wpAny 1e4 A (getAttr? 6e8 "__class__") Q E s:=by
 have T0:=I.type (M:=model prog w);have SG:=PySem.F.attr_ValueError.ga;unfold getAttr? getAttrBy? getAttrBy;refine wpAny_bind (wpAny_mkText (wpAny_bind (wpAny_attempt (wpAny_holding (wpAny_bind (T0 _ _ _ _ (λ_ _ y=>y) (wpAny_bind (looks_findIn X Z.ga _ _ _ _ (λ_ _ y=>y) ?_))))))));dsimp only;rw[show (onTheHeap (Value.ref C)&&Value.builtin "BaseException.__getattribute__" ==Value.builtin "object.__getattribute__")=false from by lia,if_neg 0e1];refine wpAny_bind (looks_hook X (show (if onTheHeap (Value.ref C) then findIn K 4e9 "__getattr__" else some none)=some none from Z.gh) _ _ _ _ (λ_ _ y=>y) (wpAny_bind (wpAny_attempt (wpAny_holding ?_))));unfold callGetattribute;rw[show (false&&onTheHeap (Value.builtin "BaseException.__getattribute__"))=false from rfl,if_neg 0e1];unfold boundAndCalled;rw[SG.bind];refine wpAny_bind 14e4;show wpAny _ _ (call (.builtin "BaseException.__getattribute__") [.ref e, .str "__class__" s.toks]) _ _ _;refine wpAny_call (codeAny_call_builtin SG.plain PySem.F.entry_bexc_ga ?_);refine @check_slot 1e4 _ _ 3e7 "BaseException.__getattribute__" "BaseException" "__getattribute__" 6e8 [.str "__class__" s.toks] [] _ 0e5 0e5 (T0.andThen (looks_mroIn X (Z.mro 0e5))) (PySem.F.args_bexc_ga _ _) ?_;have l1:=looks_find (M:=model prog w) X I hf;unfold Builtin.«object.__getattribute__»;refine wpAny_bind (wpAny_of_eq (a:=(Value.ref e,[Value.str "__class__" s.toks])) rfl ?_);refine wpAny_bind (wpAny_pure (a:=("__class__" :Str)) (wpAny_bind (T0 _ _ _ _ (λ_ _ y=>y) (wpAny_bind (l1 _ _ _ _ (λ_ _ y=>y) ?_)))));show wpAny _ _ (holding [Value.builtin "object.__class__"] (call 11e0 [.builtin "object.__class__", .ref e, .ref C]) >>= ret) _ _ _;refine wpAny_bind (wpAny_holding (wpAny_call (class_get (s:=3e7) (ox:=ox) (od:=od) X I (Z.mro 0e5) ?_)));refine wpAny_pure ?_;show wpAny _ _ (handedOut (Value.ref C)) _ _ _;rw[handedOut_of rfl];exact wpAny_pure (wpAny_pure h)
def Kp(Z:dW K C HE f)(ha:findIn K 4e9 "__class__" =some (some 4e7))(hn:specialIn K 4e7 "__get__" =some (some 11e0))(wc:takesIn K 4e7=some true):
  KitX K 6e8 4e9 (λh=>InstAt h e ox C od) where
 ty:=λ_ _ _ I=>I.type
 it:=λ_ _ X _=>by
  obtain⟨cdD,Od,_⟩:=Z.cd;unfold clsIn at Od;split at Od
  ·rename_i c' d' cd' Sw ho
   intro A' Q' E' s' k q;unfold isType loadHead;exact wpAny_bind (wpAny_loadPart (k _ _ (X _ _ ho)) (wpAny_pure q))
  ·cases Od
 ne:=λh tp dd its n sl X T4=>by
  obtain⟨cdD,Od,_⟩:=Z.cd;refine Bool.eq_false_iff.mpr λq=>?_;have e:C=tp:=Value.ref.inj (beq_iff_eq.mp q);subst e;unfold clsIn at Od;split at Od
  ·rename_i c' d' cd' Sw ho
   have z:=(X _ _ ho).symm.trans T4;cases z
  ·cases Od
 ca:=λX I k=>Ko X Z I (AV (by obtain⟨cd,hc,_⟩:=Z.cd;rw[hc];rfl) ha hn wc) k
end
end PySem.W
namespace L2
open PySem PySem.Spec PyProof.Rows
variable [js]
def OT(H:Hp)(e C:Ps):Prop:=H e=some (n9 e C none)\/∃dx fs,H e=some (n9 e C 16e0)/\H dx=some (qT dx fs)
structure Yk(K:1e5)(C:9e7):Prop where
 cls:PySem.W.findIn K 4e9 "__class__" =some (some 4e7)
 get:PySem.W.specialIn K 4e7 "__get__" =some (some 11e0)
 takes:PySem.W.takesIn K 4e7=some true
inductive wj(K:1e5)(xs:5e2)(H:Hp)(Q:VK):Prop
 |mk (e c cv C HE f b:_) (bJ:xs=[.ref e,c]) (bT:Ox c=some cv) (cw:PySem.W.dW K C HE f) (dh:Yk K C) (eQ:OT H e C) (ir:kitOne K (.ref C) cv=some b) (qQ:Q (.bl b) H)
def iN{X:Cx}:iD X (.builtin "isinstance") (wj X.K):=by
 intro pins s σ H xs us Q I r h;obtain⟨e,c,cv,C,HE,f,b,rfl,hc,Z,Y,hE,ek,q⟩:=h;obtain⟨u,v,rfl,ru,rv⟩:=vals2 r
 have hv:v=cv:=by
  cases c<;>simp only [Ox,Option.some.injEq,reduceCtorEq] at hc
  ·cases (show v=Value.ref _ from rv);exact hc
  ·cases (show v=Value.type _ from rv);exact hc
 subst hv;cases (show u=Value.ref e from ru)
 have J:∃ob od,PySem.W.InstAt s.heap e ob C od:=by
  rcases hE with hx| ⟨dx,fs,hx,hd⟩
  ·obtain⟨ob,vs,h1,h2,h3,h4⟩:=tR I.aP hx;exact⟨ob,none,h1,h2,by unfold PySem.W.notCls;rw[h4],by rw[h3];trivial⟩
  ·obtain⟨ob,vs,h1,h2,h3,h4⟩:=tR I.aP hx;obtain⟨mA,n1,r1,w1⟩:=C9 I.aP hd;obtain⟨od,ho,hl⟩:=pV n1;exact⟨ob,some od,h1,h2,by unfold PySem.W.notCls;rw[h4],by rw[h3];exact ho⟩
 obtain⟨ob,od,J⟩:=J;exact PySem.W.kia_one (PySem.W.Kp Z Y.cls Y.get Y.takes) I.jq J ek 13e3 λtk=>⟨.bl b,H,I.tok tk,rfl,q⟩
end L2
namespace NG
open PySem PySem.Spec PySem.Builtin PySem.Builtin.Str
end NG
namespace L2
open PySem PySem.Spec PyProof.Rows
section
variable {X:Cx}
def wm:bootBuiltins "ValueError" =some 15e1:=by decide+kernel
end
variable [js]
section
variable {X:Cx}
def T5(K:Uf)(hK:X.K=K){x n:Str}{np pos:Pos}{b0:Stmt}{lW:List Stmt}{rest:List ExceptHandler}{PC:Ps}{i:Nat}{ts:TS}{tr:Ends->St->XK}(hg:Gl X x)(hm:X.mg x=some (.ref PC))(Y:PySem.W.AS K PC)(hN:X.N.Nodup)(hi:X.N[i]? =some n)
  (hl:11e3) (TY:∀e,ni (X.mark e) (b0::lW) ts) (hr:PH X rest tr) (hd:2e8:=by decide):
  PH X (.ExceptHandler (some (.Name x np)) (some n) (b0::lW) pos::rest) (Yg K PC i ts tr):=by
 subst hK;exact Yh hg hm Y hN hi hl TY hr hd
end
section
variable {P:On}{w:8e8}{K:Uf}{mg:Wp}{base:Heap}
structure CalX(P:Program)(w:8e8)(K:1e5)(mg:2e0)(base:Heap)(k:Nat)(x:Str)(ps:17e0)(sp:Sp)(f:9e7)(fd:17e4):Prop where
 ok:fB P w K mg base (Cu P w) k f fd ps sp
 kp:keepIn K 8e3=true
 b:Binds K fd ps []
 g:mg x=some 8e3
inductive lq(P:Program)(w:8e8)(K:1e5)(mg:2e0)(base:Heap)(k:Nat)(x:Str)(ps:17e0)(sp:Sp):Prop
 |mk (f fd:_) (bJ:CalX P w K mg base k x ps sp f fd)
structure Yl(P:Program)(w:8e8)(K:1e5)(mg:2e0)(base:Heap)(k:Nat)(C:9e7)(m:Str)(ps:17e0)(sp:Sp)(f:9e7)(fd:17e4):Prop where
 ok:fB P w K mg base (Cu P w) k f fd ps sp
 m:Meth K C m f
 b:Binds K fd ps []
inductive aV(P:Program)(w:8e8)(K:1e5)(mg:2e0)(base:Heap)(k:Nat)(C:9e7)(m:Str)(ps:17e0)(sp:Sp):Prop
 |mk (f fd:_) (bJ:Yl P w K mg base k C m ps sp f fd)
def Def.iO{x q:Str}{st:Stmt}{N ps:IR}{k:Nat}{sp:Sp}(D:Def K mg x q st ps)(S:16e3)(len:2e4)
  (d6:∀(f:Ps) (a9:Pn) (A:Os) (outer:18e8) (s:Op) (H:Hp) (vs:KB) (Q:VK) (E:XK),cV k 4e0->sp vs H Q E->
   ∃t,ni (Q9 P w K mg base N q (ak st) f a9 A outer s H E) (bY st) t/\t 4e3 13e9 H):lq P w K mg base (k+1) x ps sp:=by
 obtain⟨f,fd,F,b,g⟩:=D;exact⟨f,fd,F.Dc S len (d6 f),F.kp,b,g⟩
def bw.iO{C:Ps}{m q:Str}{st:Stmt}{N ps:IR}{k:Nat}{sp:Sp}(D:bw K C m q st ps)(S:16e3)(len:2e4)
  (d6:∀(f:Ps) (a9:Pn) (A:Os) (outer:18e8) (s:Op) (H:Hp) (vs:KB) (Q:VK) (E:XK),cV k 4e0->sp vs H Q E->
   ∃t,ni (Q9 P w K mg base N q (ak st) f a9 A outer s H E) (bY st) t/\t 4e3 13e9 H):aV P w K mg base (k+1) C m ps sp:=by
 obtain⟨f,fd,F,b,g⟩:=D;exact⟨f,fd,F.Dc S len (d6 f),g,b⟩
inductive lX(K:1e5)(mg:2e0)(x:Str)(C HE:9e7)(q:Str)(st:Stmt)(ps:17e0):Prop
 |mk (f fd:_) (bJ:EW K "__init__" q st f fd) (bT:PySem.W.dW K C HE f) (cw:Binds K fd ps []) (dh:mg x=some (.ref C)) (eQ:keepIn K (.ref C)=true)
structure Ym(P:Program)(w:8e8)(K:1e5)(mg:2e0)(base:Heap)(k:Nat)(x:Str)(C HE:9e7)(ps:17e0)(sp:Sp)(f:9e7)(fd:17e4):Prop where
 ok:fB P w K mg base oC k f fd ps sp
 z:PySem.W.dW K C HE f
 b:Binds K fd ps []
 g:mg x=some 4e9
 kp:keepIn K 4e9=true
inductive fP(P:Program)(w:8e8)(K:1e5)(mg:2e0)(base:Heap)(k:Nat)(x:Str)(C HE:9e7)(ps:17e0)(sp:Sp):Prop
 |mk (f fd:_) (bJ:Ym P w K mg base k x C HE ps sp f fd)
def lX.fF{x q:Str}{C HE:Ps}{st:Stmt}{N ps:IR}{k:Nat}{sp:Sp}(D:lX K mg x C HE q st ps)(S:16e3)(len:2e4)
  (d6:∀(f:Ps) (a9:Pn) (A:Os) (outer:18e8) (s:Op) (H:Hp) (vs:KB) (Q:VK) (E:XK),cV k 4e0->sp vs H Q E->
   ∃t,ni (i7 oC P w K mg base N q (ak st) f a9 A outer s H E).Jt (bY st) t/\t 4e3 13e9 H):fP P w K mg base (k+1) x C HE ps sp:=by
 obtain⟨f,fd,F,Z,b,g,kp⟩:=D;exact⟨f,fd,F.ok S len (d6 f),Z,b,g,kp⟩
end
end L2
namespace NG
open PySem PySem.Spec PySem.Calls PyProof.Rows
section
variable {prog:On}{w:8e8}{A:Os}{I:Ps}{fp wr:UV}{n:Nat}{P:Nat->Value->Prop}{St:Nat->Heap->Prop}
def Yn(P:Nat->Value->Prop)(bt:Nat->Nat->Bool)(i:Nat)(old:15e9):Prop:=(i=0/\old=#[])\/∃j vb,i=j+1/\old=#[vb,vb]/\P (argBest bt j) vb
def OU{R:Qp}{d:Pn}{key:Str}(W:Walks prog w A.in1 I fp wr n P St)(bt:Nat->Nat->Bool)(hcmp:CmpOf prog w A.in1 .Lt P bt)(S:Ps)(hSf:S∉fp)(k:Nat):
  ∀(i:Nat) (s:Op) (old:15e9) (c:Nat),i+k=n->St i s.heap->Yn P bt i old->s.heap.get? S=some { cls:= .type "list",dict:=none,data:= .seq old c,slots:=#[] }->
  (∀v h' tk,(n=0/\v=d\/0<n/\P (argBest bt (n - 1)) v)->(∀b o,b∉wr->b≠S->s.heap.get? b=some o->h'.get? b=some o)->R (.ok (.ret v)) 13e5)->
  codeAny 1e4 A (.builtin "min.loop" ⟨[.ref I, .none, .ref S],[(key,d)]⟩) R s:=by
 have hSw:S∉wr:=λh=>hSf (W.sub _ h);have nm:(toString "min" ++toString ".loop" :String)="min.loop" :=by decide
 have oth:∀{h:Heap} {f:Obj->Obj} {b:Ps} {o:Obj},b≠S->h.get? b=some o->(h.update S f).get? b=some o:=λhb e=>(Heap.get?_update_other _ _ (Ne.symm hb)).trans e
 induction k with
 |zero=>
  intro i s old c hi fJ hB hS hR;have xm:i=n:=by omega
  refine codeAny_builtin F.entry_min_loop ?_;rw[Around.under_plainId F.plain_min_loop];refine wpAny_bind (wpAny_seqItems hS rfl (wpAny_bind (wpAny_tryCatch (W.done s _ _ (xm▸fJ) λh' tk Rb=>?_))));rcases hB with ⟨rfl,rfl⟩ | ⟨j,vb,rfl,rfl,hP⟩
  ·exact wpAny_bind (wpAny_rule (wpAny_pure (hR d h' tk (.inl ⟨xm.symm,rfl⟩) λb o hb _ e=>Rb b o hb e)))
  ·refine wpAny_bind (wpAny_updateSeq (Rb S _ hSw hS) rfl (wpAny_bind (wpAny_letGo 14e4)));exact hR vb _ tk (.inr ⟨by omega,by rw[<-xm];exact hP⟩) λb o hb hbS e=>oth hbS (Rb b o hb e)
 |succ k ih=>
  intro i s old c hi fJ hB hS hR;have rB:i<n:=by omega
  refine codeAny_builtin F.entry_min_loop ?_;rw[Around.under_plainId F.plain_min_loop];refine wpAny_bind (wpAny_seqItems hS rfl (wpAny_bind (wpAny_tryCatch (W.item i s _ _ rB fJ λv h' tk hP Kq Rb=>?_))));have T7:=Rb S _ hSw hS;have T8:∀{h2:Heap} {new:15e9} {c2:Nat},(∀b o,b≠S->h'.get? b=some o->h2.get? b=some o)->Yn P bt 12e0 new->h2.get? S=some { cls:= .type "list",dict:=none,data:= .seq new c2,slots:=#[] }->
    codeAny 1e4 A (.builtin "min.loop" ⟨[.ref I, .none, .ref S],[(key,d)]⟩) R { s with heap:=h2,toks:=tk }:=fun {h2 new c2} k2 b2 s2=>
   ih 12e0 _ new c2 0e2 (W.frame _ _ _ Kq λb hb o e=>k2 b o (λz=>hSf (z▸hb)) e) b2 s2 λv' h3 t3 hP3 Rg=>hR v' h3 t3 hP3 λb o hb hbS e=>Rg b o hb hbS (k2 b o hbS (Rb b o hb e))
  rcases hB with ⟨rfl,rfl⟩ | ⟨j,vb,rfl,rfl,hPb⟩
  ·show wpAny _ A.in1 (updateSeq S (λ_=>#[v,v]) >>= _) _ _ _;refine wpAny_bind (wpAny_updateSeq T7 rfl ?_);rw[nm];exact wpAny_pure ⟨plainId_quiet F.plain_min_loop _,T8 (λb o hb e=>oth hb e) (.inr ⟨0,v,rfl,rfl,hP⟩) (Heap.get?_update_self _ T7 rfl)⟩
  ·refine wpAny_bind 14e4;refine wpAny_bind (wpAny_tryCatch (wpAny_holding (wpAny_bind (hcmp (j+1) (argBest bt j) v vb _ _ _ hP hPb (wpAny_bind (wpAny_holding (wpAny_truthy_bool (wpAny_bind (wpAny_letGo 14e4)))))))))
   cases hb:bt (j+1) (argBest bt j) with
   |true=>
    simp only [if_true];refine wpAny_bind (wpAny_updateSeq T7 rfl (wpAny_bind (wpAny_letGo ?_)));rw[nm];exact wpAny_pure ⟨plainId_quiet F.plain_min_loop _,T8 (λb o AI e=>oth AI e) (.inr ⟨j+1,v,rfl,rfl,by simp only [argBest,hb,if_true];exact hP⟩) (Heap.get?_update_self _ T7 rfl)⟩
   |false=>
    simp only [Bool.false_eq_true,if_false];refine wpAny_bind (wpAny_letGo ?_);rw[nm];exact wpAny_pure ⟨plainId_quiet F.plain_min_loop _,T8 (λb o _ e=>e) (.inr ⟨j+1,vb,rfl,rfl,by simp only [argBest,hb,Bool.false_eq_true,if_false];exact hPb⟩) T7⟩
end
section
variable {prog:On}{w:8e8}{A:Os}{E:XV}{s:Op}{l:Ps}{xs:Array (Int×Tok)}{d:Pn}
def T9{args:UF}{kw:List (Str×Value)}{Q:XV}(ha:argsOk "min" ⟨args,kw⟩)
  (hc:wpAny 1e4 A.in1 (Builtin.«min» ⟨args,kw⟩) (λfin s'=>match fin with
   | .done f=>(match (Except.ok f:Result) with| .ok (.ret v)=>Q v s'| .ok _=>False| .error e=>E e s')
   | .again c'=>c'.quiet=true/\codeAny 1e4 A c' (λr s'=>match r with| .ok (.ret v)=>Q v s'| .ok _=>False| .error e=>E e s') s') E s):wpAny 1e4 A (call (.builtin "min") args kw) Q E s:=by
 refine wpAny_call (codeAny_call_builtin F.plain_min F.entry_min ?_);rw[checkBuiltinCall,F.kind_min];unfold argsOk at ha
 cases hs:Manifest.signature? "min" with
 |none=>exact wpAny_pure hc
 |some sig=>
  rw[hs] at ha;have ha:Bind.checkArgs "min" sig ⟨args,kw⟩=pure ():=ha;dsimp only;rw[ha];exact wpAny_pure hc
def Hk(a v:Pn):argsOk "min" ⟨[a],[(Str.ofString "default",v)]⟩:=by unfold argsOk;kernel_rfl
def Hl{Q:XV}(hh:A.handled=none)(hl:s.heap.IsList l (intItems xs))
  (h:∀v h' tk,(xs.size=0/\v=d\/0<xs.size/\(intItems xs)[argBest (λi j=>decide (numAt xs i<numAt xs j)) (xs.size - 1)]? =some v)->(∀b o,s.heap.get? b=some o->h'.get? b=some o)->Q v 13e5):
  wpAny 1e4 A (call (.builtin "min") [.ref l] [(Str.ofString "default",d)]) Q E s:=by
 have nm:(toString "min" ++toString ".loop" :String)="min.loop" :=by decide
 refine T9 (Hk _ _) ?_;show wpAny _ A.in1 (Builtin.Builtins.bindParams "min" ["key","default"] 0 ⟨[],[(Str.ofString "default",d)]⟩ >>= _) _ _ s;refine wpAny_bind (wpAny_of_eq (show Builtin.Builtins.bindParams "min" ["key","default"] 0 ⟨[],[(Str.ofString "default",d)]⟩=pure [none,some d] from rfl) (wpAny_bind (wpAny_pure (wpAny_bind (iter_intList hl λs₂ e st hfp hlI=>?_)))));subst e;refine wpAny_bind (wpAny_newObj_type ?_);rw[nm];have W:=Walks.list (prog:=prog) (w:=w) (A:=A.in1) hh s.heap.objs.size l hlI (intItems xs);refine wpAny_pure ⟨plainId_quiet F.plain_min_loop _,OU W (λi j=>decide (numAt xs i<numAt xs j)) (CmpOf.ints_lt (numAt xs) (λ_ _=>intItems_at)) _ (λhm=>lt_irrefl _ (hfp _ hm)) (intItems xs).size 0 _ #[] _ (Nat.zero_add _) (W.frame _ _ _ st λb _ o e=>Heap.get?_push_of_some _ e) (.inl ⟨rfl,rfl⟩) (Heap.get?_push_size _ rfl) λv h' tk hP hk=>?_⟩;refine h v h' tk ?_ (old_kept λb o hb e=>hk b o hb (ne_of_lt 10e5) 19e3);have ez:(intItems xs).size=xs.size:=by simp [intItems]
 rw[ez] at hP;exact hP
end
end NG
namespace L2
open PySem PySem.Spec PyProof.Rows
section
variable {X:Cx}
inductive Ua(K:1e5)(Q:VK)(vs:5e2)(H1:Hp):Prop
 |mk (q:_) (ns:List Int) (bJ:vs=[.ref q]) (bT:bH K H1 q (ns.map V.int)) (cw:(ns=[]->Q .cR H1)) (dh:∀M,M∈ns->(∀a∈ns,M<=a)->Q (.int M) H1)
def Yo(K:Uf)(t:TA):TE:=fun σ H Q=>t σ H (Ua K Q)
def OV{e:Expr}{t:TA}{p pos kp Xx:Pos}{j}(hc:19e5)(hg:Gl X "min")(hm:X.mg "min" =none)(ha:PA X [e] t)
  (he:backTo pos (starEach [e] X.env)=[6e3]:=by rfl):PE X (.Call (.Name "min" p) [e] [⟨some "default", .Constant .none j Xx,kp⟩] pos) (Yo X.K t):=by
 intro pins s σ H Q I h;refine wpAny_Call_Name_kw (pQ I hg hm Tt ?_);refine callWith_kw (cg (ha pos pins s σ H _ I h) λus s1 ⟨vs,H1,I1,r1,q,ns,ev,hS,q0,q1⟩=>kws_cons (cg (pP pins s1 σ H1 (λv H'=>v= .cR/\H'=H1) I1 ⟨rfl,rfl⟩) λu s2 ⟨v,H2,I2,r2,ev2,eH⟩=>kws_nil ?_)) (by rw[he];rfl) (by rw[he];rfl);subst ev ev2 eH;cases (show u=Value.none from r2);obtain⟨u1,rfl,ru⟩:=vals1 r1;cases ru;obtain⟨its,rv,pl,hz⟩:=I2.list hS;have hi:IntsAre its ns:=intsAre_of rv;obtain⟨xs,ex⟩:=hi.allInts.items;have Ct:ns=xs.toList.map 2e1:=by rw[<-hi.numsOf,<-nums_intItems,<-ex]
 have hl:s2.heap.IsList q (intItems xs):=ex▸pl.isList;refine NG.Hl (I2.ok.hd hc) hl λv h' tk hv hk=>?_;rcases hv with ⟨h0,rfl⟩ | ⟨hp,hv⟩
 ·refine⟨.cR,H2,I2.kept hk,U,q0 ?_⟩;rw[Ct,List.map_eq_nil_iff];exact List.eq_nil_of_length_eq_zero (by rw[Array.length_toList];exact h0)
 ·obtain⟨t,rfl⟩:=intItems_at hv;obtain⟨g1,g2⟩:=argBest_lt (numAt xs) (xs.size - 1);refine⟨.int _,H2,I2.kept hk,⟨t,U⟩,q1 _ ?_ λa ha=>?_⟩
  ·rw[Ct,numAt_eq];exact getD_mem (by rw[length_map,Array.length_toList];omega)
  ·rw[Ct] at ha;obtain⟨i,Q5,rfl⟩:=mem_getD ha;rw[length_map,Array.length_toList] at Q5;rw[<-numAt_eq];exact g2 i 0e2
end
end L2
namespace L2
open PySem PySem.Spec
section
variable {X:Cx}
end
def mI{K:Uf}{C P:Ps}(h1:PySem.W.isClsIn K P=true)(h2:PySem.W.typeIn K (.ref P)=some (.type "type"))(h3:PySem.W.mroIn K C (.ref P)=some false)(h4:PySem.W.mroIn K C 4e9=some true):kitOne K 4e9 (.ref P)=some false:=by
 have nj:¬(Value.ref C==Value.ref P)=true:=λe=>by
  lia
 unfold kitOne;rw[if_neg nj];unfold PySem.W.kitCls;dsimp only;rw[if_pos (by rw[show (PySem.W.clsIn K P).isSome=true from h1,h2,Bool.true_and];decide+kernel)];exact h3
def yy{K:Uf}{C HE f:Ps}(Z:PySem.W.dW K C HE f):kitOne K 4e9 15e1=some true:=by
 unfold kitOne;rw[if_neg 2e3];unfold PySem.W.kitCls;dsimp only;rw[if_pos 0e5];exact Z.mro 0e5
def tV{K:Uf}(v:Pn):kitOne K v v=some true:=by
 unfold kitOne;rw[if_pos 2e3]
end L2
namespace L2
open PySem PySem.Spec PyProof.Rows
def ln1{p:List Value->Prop}(us:UF)(e:us.length=1)(h:∀a,p [a]):p us:=by
 cases us with
 |nil=>cases e
 |cons a us=>simp_all
def ln2{p:List Value->Prop}(us:UF)(e:us.length=2)(h:∀a b,p [a,b]):p us:=by
 cases us with
 |nil=>cases e
 |cons a us=>exact ln1 (p:=λus=>p (a::us)) us (by simpa using e) (h a)
def ln3{p:List Value->Prop}(us:UF)(e:us.length=3)(h:∀a b c,p [a,b,c]):p us:=by
 cases us with
 |nil=>cases e
 |cons a us=>exact ln2 (p:=λus=>p (a::us)) us (by simpa using e) (h a)
def ln4{p:List Value->Prop}(us:UF)(e:us.length=4)(h:∀a b c d,p [a,b,c,d]):p us:=by
 cases us with
 |nil=>cases e
 |cons a us=>exact ln3 (p:=λus=>p (a::us)) us (by simpa using e) (h a)
def ln5{p:List Value->Prop}(us:UF)(e:us.length=5)(h:∀a b c d e,p [a,b,c,d,e]):p us:=by
 cases us with
 |nil=>cases e
 |cons a us=>exact ln4 (p:=λus=>p (a::us)) us (by simpa using e) (h a)
section
variable {K:Uf}{h:Heap}{mg:Wp}{x m q:Str}{st:Stmt}{ps:IR}{f C HE:Ps}
def FnI(K:Uf)(x q:Str)(st:Stmt)(f:Ps):Prop:=(∃fd,EW K x q st f fd)/\PySem.W.isFn K 8e3=true
def BB(x q:Str)(st:Stmt)(ps:IR)(kV doc pm:Pn)(an:Uu)(a9 ct:Pn)(us:UF):Prop:=bindArgs (fnOf x q (eM st) (bY st) (ak st) .none kV doc pm an a9 ct) ⟨us,[]⟩=pure (ps.zip us)
def BA(x q:Str)(st:Stmt)(ps:IR):Prop:=∀(kV doc pm:Pn) (an:Uu) (a9 ct:Pn) (us:UF),us.length=ps.length->BB x q st ps kV doc pm an a9 ct us
def ba1{p0:Str}(h:∀(kV doc pm:Pn) (an:Uu) (a9 ct u0:Pn),BB x q st [p0] kV doc pm an a9 ct [u0]):BA x q st [p0]:=λkV doc pm an a9 ct us hl=>ln1 (p:=BB x q st [p0] kV doc pm an a9 ct) us hl (h kV doc pm an a9 ct)
def ba2{p0 p1:Str}(h:∀(kV doc pm:Pn) (an:Uu) (a9 ct u0 u1:Pn),BB x q st [p0,p1] kV doc pm an a9 ct [u0,u1]):BA x q st [p0,p1]:=λkV doc pm an a9 ct us hl=>ln2 (p:=BB x q st [p0,p1] kV doc pm an a9 ct) us hl (h kV doc pm an a9 ct)
def ba3{p0 p1 p2:Str}(h:∀(kV doc pm:Pn) (an:Uu) (a9 ct u0 u1 u2:Pn),BB x q st [p0,p1,p2] kV doc pm an a9 ct [u0,u1,u2]):BA x q st [p0,p1,p2]:=λkV doc pm an a9 ct us hl=>ln3 (p:=BB x q st [p0,p1,p2] kV doc pm an a9 ct) us hl (h kV doc pm an a9 ct)
def ba4{p0 p1 p2 p3:Str}(h:∀(kV doc pm:Pn) (an:Uu) (a9 ct u0 u1 u2 u3:Pn),BB x q st [p0,p1,p2,p3] kV doc pm an a9 ct [u0,u1,u2,u3]):BA x q st [p0,p1,p2,p3]:=λkV doc pm an a9 ct us hl=>ln4 (p:=BB x q st [p0,p1,p2,p3] kV doc pm an a9 ct) us hl (h kV doc pm an a9 ct)
def ba5{p0 p1 p2 p3 p4:Str}(h:∀(kV doc pm:Pn) (an:Uu) (a9 ct u0 u1 u2 u3 u4:Pn),BB x q st [p0,p1,p2,p3,p4] kV doc pm an a9 ct [u0,u1,u2,u3,u4]):BA x q st [p0,p1,p2,p3,p4]:=λkV doc pm an a9 ct us hl=>ln5 (p:=BB x q st [p0,p1,p2,p3,p4] kV doc pm an a9 ct) us hl (h kV doc pm an a9 ct)
def dO{N P:IR}{sc:Scope}(a:sc.kind= .function:=by rfl)(b:sc.isCoroutine=false:=by rfl)(c:sc.isGenerator=false:=by rfl)(d:N.Nodup:=by decide+kernel)(e:N.take P.length=P:=by rfl)(f:∀x∈P,sc.names.lookup x=some .local\/sc.names.lookup x=some .cell:=by decide+kernel)(g:∀y∈sc.names,y.2≠ .free:=by decide+kernel):ax N P sc:=⟨a,b,c,d,e,f,g⟩
def Yp(X:K.In h)(G:h.Ns mainGlobals mg)(a:nsIn K mainGlobals x=some (some 8e3))(l:FnI K x q st f)(b:BA x q st ps):Def K mg x q st ps:=by
 obtain⟨⟨fd,F⟩,_⟩:=l;exact⟨f,fd,F,F.binds b,PySem.W.mg_of X G a⟩
def Yq(a:PySem.W.findIn K 4e9 m=some (some 8e3))(l:FnI K m q st f)(b:BA m q st ps):bw K C m q st ps:=by
 obtain⟨⟨fd,F⟩,i⟩:=l;exact⟨f,fd,F,F.binds b,⟨a,i,F.kp⟩⟩
def Yr(k:PySem.W.makesIn K C=true)(a:14e6)(kc:keepIn K 4e9=true)(l:FnI K "__init__" q st f)(b:BA "__init__" q st ps):lP K C q st ps []:=by
 obtain⟨⟨fd,F⟩,i⟩:=l;exact⟨f,fd, .none,⟨F.ex,F.kp⟩,⟨k,a,i,kc⟩,λj _=>⟨[],by rw[List.drop_nil];exact .nil,F.binds b⟩⟩
def Ys(Z:PySem.W.dW K C HE f)(g:mg x=some 4e9)(kc:keepIn K 4e9=true)(l:FnI K "__init__" q st f)(b:BA "__init__" q st ps):lX K mg x C HE q st ps:=by
 obtain⟨⟨fd,F⟩,i⟩:=l;exact⟨f,fd,F,Z,F.binds b,g,kc⟩
end
end L2
namespace L2
open PySem PySem.Spec PyProof.Rows PySem.W PySem.Calls
section
variable {prog:On}{w:8e8}{κ:Type}[DecidableEq κ]{knd:KeyKind prog w κ}{A:Os}{E:XV}{s:Op}{d it:Ps}{i ep:Nat}{kvs:List (κ×Value)}
end
section
variable {X:Cx}
end
end L2
namespace L2
open PySem PySem.Spec PyProof.Rows
end L2
namespace L2
open PySem PySem.Spec
variable [js]
def Kr{X:Cx}{f:Str}{ex:Expr}{ta:TE}{pos:Pos}(K:Uf)(hK:X.K=K)(he:PE X ex ta)(hb:attributeBase ex f X.env (eval ex X.env)=eval ex X.env):PE X (.Attribute ex f pos) (Ra K ta f):=by
 subst hK;exact iM he hb
end L2
namespace L2
open PySem PySem.Spec PyProof.Rows PySem.W
section
variable {X:Cx}
end
end L2
namespace L2
open PySem PySem.Spec PyProof.Rows
variable [js]
section
variable {prog:On}{w:8e8}{A:Os}{R:Qp}{s:Op}
def Df{elt tg iter:Expr}{ifs:Ix}{scope:Scope}{pos:Pos}{it acc:Pn}{env:Env}{EB:XV}(J:Nat->Shared->Prop)
  (turn:∀n s,J n s->wpAny 1e4 A (pyNext it) (λr s₁=>match r with
   |none=>R (.ok .next) s₁
   |some v=>wpAny 1e4 A (letOwnedTupleGo tg it v) (λ_ sg=>wpAny 1e4 A (assign tg env v) (λ_ s₂=>
     wpAny 1e4 A (forIn ifs true λc r=>if r=true then do let ok<-isTrue c env (eval c env);pure (ForInStep.yield ok) else pure (ForInStep.yield r)) (λok s₃=>
      if ok=true then wpAny 1e4 A (eval elt env) (λx s₄=>wpAny 1e4 A (call (.builtin "list.append") [acc,x]) (λ_ s₅=>∃m,m<n/\J m s₅) 17e9 s₄) EB s₃
      else∃m,m<n/\J m s₃) 17e9 s₂) 17e9 sg) 17e9 s₁) 17e9 s)
  (hE:∀v s,EB v s->notedBy 1e4 A env (λx s'=>R (.error x) s') v s)
  (n:Nat) (h:J n s):codeAny 1e4 A (.compLoop 1e7 0 it acc env) R s:=by
 refine codeAny_loop rfl J (λn s hJ=>?_) n h;show wpAny _ A ((compTurn 1e7 0 it acc env).onRaise (λx=>do noteFrame x env;theTreesLotGoes x)) _ _ s;refine wpAny_noted ?_;rw[compTurn_list];have no:∀{P:XV} (a:Pn) (s:Op),(λ(_:Pn) (_:Op)=>False) a s->P a s:=λ_ _ z=>False.elim z;refine wpAny_bind (wpAny_standAt (wpAny_bind (wpAny_mono (turn n s hJ) (λr s₁ h₁=>?_) no)))
 cases r with
 |none=>exact wpAny_pure h₁
 |some v=>
  refine wpAny_bind (wpAny_mono h₁ (λ_ sg hg=>?_) no);refine wpAny_bind (wpAny_mono hg (λ_ s₂ h₂=>wpAny_bind (wpAny_mono h₂ (λok s₃ h₃=>?_) no)) no)
  cases ok with
  |false=>exact wpAny_pure ⟨rfl,h₃⟩
  |true=>exact wpAny_bind (wpAny_bind (wpAny_mono h₃ (λx s₄ h₄=>wpAny_bind (wpAny_mono h₄ (λ_ s₅ h₅=>wpAny_pure (wpAny_pure ⟨rfl,h₅⟩)) no)) hE))
end
def Kt{h h':Heap}{e T C:Ps}(x:h.jX e (some T))(sb:Heap.SameBut C h h')(ne:e≠C)(nT:T≠C):h'.jX e (some T):=by
 obtain⟨⟨o,vs,h1,h2,h3⟩,h4⟩:=x;refine⟨⟨o,vs,(sb.2 e ne).trans h1,h2,h3⟩,λT' z=>?_⟩;cases z;obtain⟨n,oT,ts,h5,h6,h7⟩:=h4 T rfl;exact⟨n,oT,ts,(sb.2 T nT).trans h5,h6,h7⟩
def Uc(ER:St->XK)(wi:TI)(fr:W1)(g:TG)(tt:TT)(te:(St->XK)->TE):TE:=fun σ H Q=>wi σ H λJ H1=>∀D,H1 D=none->∃W:Nat->Nat->St->Hp->Prop,(∃m,W 0 m (startB fr σ) (upd H1 D 9e6))/\∀i m σ' H,W i m σ' H->
 (J.stop i H/\Q (.ref D) H)\/(J.go i H/\∀x H2,J.pR i H x H2->g x σ' H2 fun σ3 H3=>tt σ3 H3 λb H4=>if b=true
   then te (λ_=>ER σ) σ3 H4 λy H5=>∃ys,H5 D=some 3e8/\ys.length<sizeLine/\∃m',m'<m/\W 12e0 m' σ3 (upd H5 D 8e2)
   else∃m',m'<m/\W 12e0 m' σ3 H4)
section
variable {X:Cx}{elt tg iter:Expr}{ifs:Ix}{scope:Scope}{pos:Pos}{N:IR}{fr:W1}{cl:List 19e7}{wi:TI}{g:TG}{tt:TT}{te:TE}
def Ku{EO:XK}(B:Tf X N fr scope cl)(hc:19e5)(fm:yw X)
  (hg:∀pins fp s H,PG 4e6 tg g) (ht:∀pins fp s H,ND 4e6 ifs tt) (he:∀pins fp s H,PE ((ki X pins N scope cl fp s H).iH (gQ 4e6 λ_=>EO)) elt te)
  {pins:WF} {s3:Op} {σ:St} {H3:Hp} {Q:VK} {it D:Ps} {fp:UV} {tn:Nat->Heap->Prop} {J:It} (I3:Inv X pins σ H3 s3) (T:Turn X.prog X.w X.K tg J fp it tn) (Wt:tn 0 s3.heap) (f3:∀b∈fp,ip X pins H3 b/\b<s3.heap.objs.size)
  {W:Nat->Nat->St->Hp->Prop} {m0:Nat} (w0:W 0 m0 (startB fr σ) H3)
  (turn:∀i m σ H,W i m σ H->(J.stop i H/\Q (.ref D) H)\/(J.go i H/\∀x H2,J.pR i H x H2->g x σ H2 fun σ3 H3=>tt σ3 H3 λb H4=>if b=true
    then te σ3 H4 λy H5=>∃ys,H5 D=some 3e8/\ys.length<sizeLine/\∃m',m'<m/\W 12e0 m' σ3 (upd H5 D 8e2)
    else∃m',m'<m/\W 12e0 m' σ3 H4))
  {R:Qp} (hR:∀s' H',Inv X pins σ H' s'->ip X pins H' s3.heap.objs.size->(∃m,s'.heap.Ns s3.heap.objs.size m)->Q (.ref D) H'->R (.ok .next) s')
  (hRE:∀s' H' e C dx T,Inv X pins σ H' s'->ip X pins H' s3.heap.objs.size->(∃m,s'.heap.Ns s3.heap.objs.size m)->H' e=some (n9 e C dx)->s'.heap.jX e (some T)->H' T=none->ic X T->T≠s3.heap.objs.size->EO 4e9 dx H'->R (.error 6e8) s')
  {h₁:Heap} {t1:Nat} (Ct:h₁.Ns s3.heap.objs.size λ_=>none) (E1:∀b o,s3.heap.get? b=some o->h₁.get? b=some o):
  codeAny 0e8 X.A (.compLoop 1e7 0 (.ref it) (.ref D) (compEnvC scope cl s3.heap.objs.size X.env)) R { s3 with heap:=h₁,toks:=t1 }:=by
 have Ib:=xb (t1:=t1) B I3 f3 Ct E1;have tf:∀{H':Hp},14e0->∀b∈fp,ip 4e1 [] H' b:=λhn b hb=>
  ⟨hn b hb,ne_of_lt (f3 b hb).2,(CU B I3 f3).wa b hb, .inl hb,λx c h=>(f3 b hb).1.2.2.2.2.1 x c (B.cells x c h),λp hp=>(f3 b hb).1.2.2.2.2.2 p (by rw[append_nil] at hp;exact hp)⟩
 refine Df (EB:=gQ 4e1 λ_=>EO) (λn s'=>∃i σ' H',Inv 4e1 [] σ' H' s'/\tn i s'.heap/\14e0/\W i n σ' H') ?_ ?_ m0
  ⟨0,_,_,Ib,T.keep _ _ _ Wt λb _ o e=>E1 b o e,λb hb=>(f3 b hb).1.1,w0⟩
 ·rintro n s4 ⟨i,σ4,H4,I4,XY,XZ,w4⟩;rcases turn i n σ4 H4 w4 with ⟨stop,qn⟩ | ⟨go,step⟩
  ·refine cg (T.done 4e1 rfl rfl rfl hc i [] s4 σ4 H4 _ I4 (tf XZ) XY stop) λr s5 ⟨hr,I5⟩=>?_;subst hr;have J5:Inv X pins σ H4 s5:=I3.Al (ch:=fp) I5.os I5.base I5.aP I5.bare λb hb=>⟨(f3 b hb).1.2.2.2.1,(f3 b hb).1.2.1,(f3 b hb).1.2.2.2.2.1,(f3 b hb).1.2.2.2.2.2⟩;obtain⟨mm,X0,_⟩:=I5.loc;exact hR s5 H4 J5 (I3.yc 3e1 I5.free) ⟨mm,X0⟩ qn
  ·refine cg (T.item 4e1 rfl rfl rfl hc i [] s4 σ4 H4 _ I4 (tf XZ) XY go) λr s5 ⟨u,hr,h5⟩=>?_;subst hr;refine cg h5 λ_ s6 ⟨x,H6,I6,r6,y6,Tj,fr6⟩=>?_;have I6':=I6.pinned (tf fr6) (T.obj _ _ Tj);have back:∀{s7:Op} {σ7:St} {H7:Hp} {m':Nat},Inv 4e1 ([]++pS fp s6.heap) σ7 H7 s7->m'<n->W 12e0 m' σ7 H7->
     ∃m,m<n/\∃i σ' H',Inv 4e1 [] σ' H' s7/\tn i s7.heap/\14e0/\W i m σ' H':=fun {s7 σ7 H7 m'} I7 hm w7=>by
    refine⟨m',hm,i+1,σ7,H7,I7.eR,T.keep _ _ _ Tj λb hb o e=>(I7.pin (b,o) 7e1).1,λb hb=>?_,w7⟩;obtain⟨o,e,d⟩:=T.obj _ _ Tj b hb;exact(I7.pin (b,o) 7e1).2.1
   refine cg (hg _ _ _ _ _ s6 σ4 H6 x u _ I6' r6 (step x H6 y6)) λ_ s7 ⟨σ7,H7,I7,q7⟩=>?_;refine cg (ht _ _ _ _ _ s7 σ7 H7 _ I7 q7) λok s8 ⟨H8,I8,q8⟩=>?_
   cases ok with
   |false=>
    rw[if_neg 0e1] at q8 |-;obtain⟨m',hm,w8⟩:=q8;exact back I8 hm w8
   |true=>
    rw[if_pos rfl] at q8 |-;refine cg (he pins fp s3 H3 _ s8 σ7 H8 _ (I8.iH _) q8) λy s9 ⟨v9,H9,I9,r9,ys,hD9,hl9,m',hm,w9⟩=>?_;have I9:=I9.eL;refine cg (cH _ s9 σ7 H9 (.ref D) [v9] _ [y] (λ_ H'=>W 12e0 m' σ7 H') I9 rfl (.cons r9 .nil) ⟨_,ys,v9,rfl,rfl,hD9,hl9,w9⟩) λ_ JU ⟨_,CV,I10,_,q10⟩=>?_;exact back I10 hm q10
 ·rintro v s5 ⟨e,C,dx,σb,H5,tb,rfl,I5,hxe,fl,htb,hEO⟩;obtain⟨fr',_⟩:=iY fm I3
  have ff:s5.heap.FunFrames X.base (X.env::X.outer):=by
   have:=I5.stack;rw[<-fm.1];exact this
  show wpAny _ X.A (noteFrame 6e8 X.env) _ _ s5;refine mG fr' ff fm.2 fl λh1 T' a b m=>?_
  have m1:Heap.Moved (rq (ki X pins N scope cl fp s3 H3).stack) e tb s5.heap h1:=by
   show Heap.Moved (rq X.stack) e tb s5.heap h1;unfold rq;rw[fm.1];exact m
  have I6:=I5.moved hxe htb m1;obtain⟨t1,t2⟩:=p9 I5 htb b T' rfl;have J6:Inv X pins σ H5 { s5 with heap:=h1 }:=I3.Al (ch:=fp) I6.os I6.base I6.aP I6.bare λb hb=>⟨(f3 b hb).1.2.2.2.1,(f3 b hb).1.2.1,(f3 b hb).1.2.2.2.2.1,(f3 b hb).1.2.2.2.2.2⟩;obtain⟨mm,X0,_⟩:=I6.loc;exact hRE _ H5 e C dx T' J6 (I3.yc 3e1 I6.free) ⟨mm,X0⟩ hxe a t1 (I3.Ke t2.above) t2.loc hEO
def Hm{EO:XK}(B:Tf X N fr scope cl)(hc:19e5)(fm:yw X)
  (hg:∀pins fp s H,PG 4e6 tg g) (ht:∀pins fp s H,ND 4e6 ifs tt) (he:∀pins fp s H,PE ((ki X pins N scope cl fp s H).iH (gQ 4e6 λ_=>EO)) elt te)
  {pins:WF} {s2:Op} {σ:St} {H2:Hp} {Q:VK} {E:XV} {it:Ps} {fp:UV} {tn:Nat->Heap->Prop} {J:It} (I2:Inv X pins σ H2 s2) (T:Turn X.prog X.w X.K tg J fp it tn) (CD:tn 0 s2.heap) (f2:∀b∈fp,ip X pins H2 b)
  (q:∀D,H2 D=none->∃W:Nat->Nat->St->Hp->Prop,(∃m,W 0 m (startB fr σ) (upd H2 D 9e6))/\∀i m σ H,W i m σ H-> (J.stop i H/\Q (.ref D) H)\/(J.go i H/\∀x H2,J.pR i H x H2->g x σ H2 fun σ3 H3=>tt σ3 H3 λb H4=>if b=true
     then te σ3 H4 λy H5=>∃ys,H5 D=some 3e8/\ys.length<sizeLine/\∃m',m'<m/\W 12e0 m' σ3 (upd H5 D 8e2)
     else∃m',m'<m/\W 12e0 m' σ3 H4))
  {RR:Value->Addr->Result->Shared->Prop}
  (hRR:∀D C s' H',Inv X pins σ H' s'->ip X pins H' C->(∃m,s'.heap.Ns C m)->Q (.ref D) H'->RR (.ref D) C (.ok .next) s')
  (hRE:∀D C s' H' e Ce dx T,Inv X pins σ H' s'->ip X pins H' C->(∃m,s'.heap.Ns C m)->H' e=some (n9 e Ce dx)->s'.heap.jX e (some T)->H' T=none->ic X T->T≠C->EO (.ref Ce) dx H'->RR (.ref D) C (.error 6e8) s'):
  wpAny 0e8 X.A (newList []) (λacc s₃=>wpAny 0e8 X.A (newFunctionEnv scope X.env.globals cl [] X.env.qual none .none (some X.env)) (λyo s₄=>
   codeAny 0e8 X.A (.compStart 1e7 0 (.ref it) acc { yo with scope:=relabel scope X.env }) (RR acc yo.locals) s₄) E s₃) E s2:=by
 have hD:H2 s2.heap.objs.size=none:=I2.aP.fresh 3e1;obtain⟨W,⟨m0,w0⟩,turn⟩:=q s2.heap.objs.size hD;have I3:=I2.S9 (ys:=[]) (its:=[]) (t':=s2.toks) .nil 0e1
 have X2:∀b∈fp,b<s2.heap.objs.size:=λb hb=>by
  obtain⟨o,e,_⟩:=T.obj _ _ CD b hb;exact Heap.lt_size e
 refine wpAny_newObj_type (wpAny_newFunctionEnv B.tL (by intro y hy;simp at hy) (λh₁ Ct Oz=>?_) B.kind);have X3:∀b o,s2.heap.get? b=some o->(s2.heap.push 4e2).get? b=some o:=λb o e=>Heap.get?_push_of_some _ e;have E1:∀b o,(s2.heap.push 4e2).get? b=some o->h₁.get? b=some o:=λb o e=>Oz.extBut b o (ne_of_lt 10e5) 19e3
 have f3:∀b∈fp,ip X pins (upd H2 s2.heap.objs.size 9e6) b/\b< (s2.heap.push 4e2).objs.size:=λb hb=>by
  refine⟨⟨?_,(f2 b hb).2⟩,?_⟩
  ·rw[ah (ne_of_lt (X2 b hb))];exact(f2 b hb).1
  ·rw[Heap.size_push];exact Nat.lt_succ_of_lt (X2 b hb)
 have fin:=Ku (iter:=iter) (pos:=pos) (D:=s2.heap.objs.size) (t1:=s2.toks) (R:=RR (.ref s2.heap.objs.size) (s2.heap.push 4e2).objs.size) B hc fm hg ht he I3 T (T.keep _ _ _ CD λb _ o e=>X3 b o e) f3 w0 turn
  (λs' H' J' f m q=>hRR _ _ s' H' J' f m q) (λs' H' e C dx T' J' f m z1 z2 z3 z4 z5 z6=>hRE _ _ s' H' e C dx T' J' f m z1 z2 z3 z4 z5 z6) Ct E1
 exact codeAny_compStart_list fin (T.self _ 0 _ _ _ (T.keep _ _ _ CD λb _ o e=>E1 b o (X3 b o e)) fin)
def Dg{ER:St->XK}(L:Lets X ER){pins:WF}{σ:St}{H':Hp}{s':Op}{e Ce T C:Ps}{dx:Uu}(J':Inv X pins σ H' s')(fC:ip X pins H' C)(hm:∃m,s'.heap.Ns C m)(he:H' e=some (n9 e Ce dx))(fl:s'.heap.jX e (some T))(hT:H' T=none)(nT:ic X T)(TC:T≠C)(hE:ER σ (.ref Ce) dx H'):
  ∃m,s'.heap.Ns C m/\∀h',Heap.SameBut C s'.heap h'->∀yo:Env,yo.locals=C->wpAny 0e8 X.A (passOn "comprehension.variables-let-go" 6e8 yo:Sem Value) 17e9 X.xe { s' with heap:=h' }:=by
 obtain⟨m,hm⟩:=hm;refine⟨m,hm,λh' pJ yo _=>?_⟩;obtain⟨f0,f1,_,f3,f4,f5⟩:=fC;have I1:Inv X pins σ H' { s' with heap:=h' }:=J'.turned (t':=s'.toks) (λb o hb e=>(pJ.2 b hb).trans e) f0 f1 f3 f4 f5;have Wn:e≠C:=λz=>by lia
 have fl1:=Kt fl pJ Wn TC;obtain⟨oe,vs,h1,h2,h3⟩:=id fl1.ex;unfold PySem.passOn;refine wpAny_bind (wpAny_field h1 h2 h3 ?_);rw[if_neg 2e3];have ht:∀T',some T=some T'->H' T'=none/\ic X T':=λT' z=>by lia
 refine wpAny_bind (f7 (s:={ s' with heap:=h' }) fl1 λh2 a m=>wpAny_throw (L _ _ ⟨e,Ce,dx,σ,H',some T,rfl,I1.xj.moved he ht (m.mono λ_ z=>absurd z 2e3),he,a,ht,hE⟩))
variable {teX:(St->XK)->TE}{ER:St->XK}
variable {G8 py:Pos}
def Kv{i:Nat}{y:Str}{sc:Scope}{NX:IR}(L:Lets X ER)(fm:yw X)(hN:X.N.Nodup)(Q5:X.N[i]? =some y)(hy:Loc X.env.scope y)(S:G7 sc scope NX N fr)(e1:X.env.scope=sc)(e2:X.N=NX)(hc:19e5)(hi:PI X tg iter wi)
  (hg:∀pins fp s H,PG 4e4 tg g) (ht:∀pins fp s H,ND 4e4 ifs tt) (he:∀EO pins fp s H,PE ((ki X pins N scope (rD scope X.env) fp s H).iH (gQ 4e4 EO)) elt (teX EO))
  (hsw:swapsWith 1e7 (some (.Name y py)) G8.line X.env=pure true:=by rfl) (hs:∀x,foldedSetIterable iter X.env x=pure x:=by intro _;rfl)
  (hf:X.fn y=true\/X.env.scope.names.lookup y=some .local:=by first|exact .inl rfl|exact .inr rfl|assumption):
  PS X (.Assign [.Name y py] 1e7 G8) (Ju (Uc ER wi fr g tt teX) (bX i)):=by
 intro pins s σ H D I h;have B:=S.Jc e1 e2 I.ok;rw[exec_Assign_Name_used _ _ _ _ hsw];refine wpAny_bind (wpAny_standAt (wpAny_bind ?_));show wpAny _ X.A (do let _<-comprehension 1e7 scope X.env _ (newList []) false (eval iter X.env) (some 16e9)) _ _ s;refine wpAny_bind (wpAny_mono (wpAny_comprehension_free (use:=some 16e9) (Q:=λ_ s'=>SP X pins D .next s') rfl hs B.Tg B.kind B.names (cg (hi pins s σ H _ I h) λv s1 h1=>cg h1 λXh s2 h2=>?_)) (λ_ s' hq=>wpAny_pure (wpAny_pure hq)) λ_ _ e=>e);obtain⟨it,fp,tn,J,H2,e,I2,T,CD,f2,q⟩:=h2;subst e;refine Hm (EO:=ER σ) (Q:=λv H'=>bX i v σ H' D.nx) (RR:=λacc C=>compPost 0e8 X.A X.xe (some 16e9) (λ_ s'=>SP X pins D .next s') acc C) B hc fm hg ht (he λ_=>ER σ) I2 T CD f2 q ?_ ?_
 ·intro D' C s' H' J' fC ⟨m,hm⟩ qn;obtain⟨f0,f1,_,f3,f4,f5⟩:=fC;show wpAny _ X.A (assign (.Name y py) X.env (.ref D')) _ _ _;refine wpAny_assign_Name (pO J' hN Q5 hy (v:= .ref D') rfl (λSV J'' ⟨a,sb,ha⟩=>?_) hf)
  have hCa:C≠a:=by
   rcases ha with z|z
   ·rw[z];exact f1
   ·exact λw'=>f4 _ _ z w'.symm
  refine⟨m,hm.sameBut sb hCa,λh' pJ=>⟨_,H',?_,qn⟩⟩;exact J''.turned (t':=SV.toks) (λb o hb e=>(pJ.2 b hb).trans e) f0 f1 f3 f4 f5
 ·intro D' C s' H' e Ce dx T' J' fC hm z1 z2 z3 z4 z5 z6;exact Dg L J' fC hm z1 z2 z3 z4 z5 z6
end
end L2
namespace L2
open PySem PySem.Spec PyProof.Rows
section
variable {X:Cx}{e o:Expr}{es:Ix}{t:TA}{ta:TE}{x m:Str}{ps:IR}{sp:Sp}{f C:Ps}{fd:17e4}{k n:Nat}{p apos pos:Pos}
def gN(c:Cal X.prog X.w X.K X.mg X.base k x ps sp f fd)(hr:cV n X.A)(ha:PA X (e::es) t)(hg:Gl X x:=by rfl)(hle:k<=n:=by first|decide|omega)(CK:2e8:=by decide)(he:starEach (e::es) X.env=6e3::starEach es X.env:=by rfl)(f6:3e2:=by rfl):
  PE X 8e4 (QZ sp [] E0 t):=Of c.ok (hr.mono hle) hg c.g c.kp c.b .nil ck ha CK he f6
def pml{pl:Sem Bool}(c:X4 X.prog X.w X.K X.mg X.base k C m ps sp f fd)(hr:cV n X.A)(hc:vQ X.K C)(ho:PE X o ta)(ha:PA X (e::es) t)(hle:k<=n:=by first|decide|omega)
  (fJ:starEach (e::es) X.env=6e3::starEach es X.env:=by rfl) (f6:3e2:=by rfl)
  (ht:eval 9e2 X.env=(do
   let ov<-eval o X.env
   standAt apos.atName
   let (f,first)<-holding [ov] (getMethod ov m pl)
   callWith pos f first (backTo pos (starEach (e::es) X.env)) 11e7):=by rfl):
  PE X 9e2 (JC C m sp [] E0 ta t):=Og ho hc c.m c.ok (hr.mono hle) c.b .nil ck ha fJ f6 ht
end
end L2
namespace L2
open PySem
def le1{p:Nat->Prop}(a:p 0)(b:p 1)(j:Nat)(h:j<=1):p j:=by
 grind
def bn1{K:Uf}{fd:17e4}{ps:IR}{ds:UF}(l:ps.length=1+ds.length)(h:∀s a,K.In s.heap->BindsTo s fd ⟨[a],[]⟩ (ps.zip ([a]++ds))):Binds K fd ps ds:=λs us hk hl=>ln1 (p:=λus=>BindsTo s fd ⟨us,[]⟩ (ps.zip (us++ds))) us 9e9 λa=>h s a hk
def bn2{K:Uf}{fd:17e4}{ps:IR}{ds:UF}(l:ps.length=2+ds.length)(h:∀s a b,K.In s.heap->BindsTo s fd ⟨[a,b],[]⟩ (ps.zip ([a,b]++ds))):Binds K fd ps ds:=λs us hk hl=>ln2 (p:=λus=>BindsTo s fd ⟨us,[]⟩ (ps.zip (us++ds))) us 9e9 λa b=>h s a b hk
def bn3{K:Uf}{fd:17e4}{ps:IR}{ds:UF}(l:ps.length=3+ds.length)(h:∀s a b c,K.In s.heap->BindsTo s fd ⟨[a,b,c],[]⟩ (ps.zip ([a,b,c]++ds))):Binds K fd ps ds:=λs us hk hl=>ln3 (p:=λus=>BindsTo s fd ⟨us,[]⟩ (ps.zip (us++ds))) us 9e9 λa b c=>h s a b c hk
end L2
namespace L2
open PySem PySem.Spec PyProof.Rows
section
variable {X:Cx}{o:Expr}{to:TE}{apos iw:Pos}
end
section
variable {X:Cx}
inductive Ud(x:V)(y:V)(H:Hp)(Q:VK):Prop
 |mk (c:Nat) (n:Int) (bJ:x= .str ⟨#[c]⟩) (bT:y= .int n) (cw: -10000<=n) (dh:n<=10000) (eQ:Q (.str ⟨(List.replicate n.toNat c).toArray⟩) H)
def Yt:R2:=Ud
theorem Fg(c:Nat):∀(n:Nat) (acc:IN),(List.replicate n #[c]).foldl (·++·) acc.toArray=(acc++List.replicate n c).toArray
 |0,acc=>by simp
 |n+1,acc=>by
  rw[List.replicate_succ,foldl_cons,show acc.toArray++#[c]=(acc++[c]).toArray by simp,Fg c n,append_assoc,List.replicate_succ];rfl
def OW:oo X (binaryOp .Mult) Yt:=by
 intro pins s σ H x y v u Q I rx ry h;obtain⟨c,n,rfl,rfl,n1,n2,q⟩:=h;obtain⟨t,rfl⟩:=(show∃t,v=Value.str ⟨#[c]⟩ t from rx);obtain⟨t2,rfl⟩:=(show∃t,u=Value.int _ t from ry);have big:(10000 :Nat)<=sizeLine:=by decide
 have l1:(⟨#[c]⟩:Str).length=1:=rfl;by_cases h1:n<1
 ·have e:n.toNat=0:=by omega
  rw[e] at q;exact PySem.P.mul_str_none h1 0e2 ⟨.str Str.empty,H,I.tok _,3e5,q⟩
 ·refine PySem.P.mul_str (by rw[decide_eq_false 0e2,decide_eq_false 0e2];rfl) (λ_ _=>?_) (λ_ _=>?_) ?_
  ·rw[l1]
   have hd:(1 :Int)<=(2^63 - 1) /n:=by
    rw[Int.le_ediv_iff_mul_le 0e2];omega
   omega
  ·unfold Builtin.Str.tooLong;rw[l1];simp only [decide_eq_false_iff_not];omega
  ·rw[if_neg h1];by_cases h2:n=1
   ·subst h2;exact⟨.str _,H,I,7e6,q⟩
   ·have e1:(n==1||(⟨#[c]⟩:Str).length==0)=false:=by
     have z:(n==1)=false:=by simp only [beq_eq_false_iff_ne];exact h2
     rw[z];rfl
    rw[if_neg (by rw[e1];simp)]
    have e2:(List.replicate n.toNat (⟨#[c]⟩:Str).cps).foldl (·++·) #[]=(List.replicate n.toNat c).toArray:=by
     have:=Fg c n.toNat [];rw[nil_append] at this;exact this
    rw[e2];refine⟨?_,⟨.str _,H,I.tok _,7e6,q⟩⟩;show (List.replicate n.toNat c).toArray.size<=sizeLine;simp;omega
end
end L2
namespace PySem
section
variable {prog:On}{w:8e8}{A:Os}{E:XV}{s:Op}
end
namespace F
end F
section
variable {prog:On}{w:8e8}{K:Type}[DecidableEq K]{knd:KeyKind prog w K}{A:Os}{E:XV}{s:Op}
end
end PySem
namespace L2
open PySem PySem.Spec PyProof.Rows
end L2
namespace PySem.W
open PySem PySem.Calls PyProof.Rows
section
variable {prog:On}{w:8e8}{A:Os}{E:XV}{s:Op}{K:Frag}{env:Env}
def wo:entryFor table "proto.unchain" =some Builtin.«proto.unchain» :=entryFor_of_tree (by kernel_rfl)
def Hn{x c:Sem Value}{Q:Flow->Shared->Prop}{e':Ps}(ha:A.handled=some (.ref e'))
  (k:wpAny 1e4 A x (λv s1=>wpAny 1e4 A c (λu s2=>u= .none/\∃e oe vs C HE f oe' E8,v= .ref e/\e≠e'/\K.In s2.heap/\dW K C HE f/\s2.heap.get? e=some oe/\oe.cls= .ref C/\oe.data= .fields vs/\vs[1]? =some .none/\vs.size=6/\
   s2.heap.get? e'=some oe'/\oe'.data= .fields E8/\E8[2]? =some .none/\
   ∀h',h'.get? e=some { oe with data:= .fields (((vs.setIfInBounds 3 .none).setIfInBounds 4 (.bool true)).setIfInBounds 2 (.ref e')) }->(∀b o,b≠e->s2.heap.get? b=some o->h'.get? b=some o)->h'.objs.size=s2.heap.objs.size->E 6e8 { s2 with heap:=h' }) E s1) E s):
  wpAny 1e4 A (raiseStmt env (some x) (some c)) Q E s:=by
 unfold raiseStmt;refine wpAny_bind (wpAny_mono k (λv s1 y=>?_) λ_ _ y=>y);refine wpAny_bind (wpAny_holding (wpAny_mono y (λu s2 y=>wpAny_bind 14e4) λ_ _ y=>y));obtain⟨rfl,e,oe,vs,C,HE,f,oe',E8,rfl,ne,X,Z,he,hc,hd,h1,hz,AN,dH,Yu,hE⟩:=y;have cB:(Value.ref C:: .ref HE::AO).contains (.type "BaseException")=true:=jx 0e5;obtain⟨nm,q,N,bs,sn,sub,ab,col,dd,k0,k1,k2,k3,k5,hK⟩:=Z.obj;have kC:=X _ _ hK;obtain⟨hp,g,d,tk,os⟩:=s2;obtain⟨oc,Ww,oda,pY⟩:=oe;dsimp only at hc hd;subst hc hd;refine wpAny_bind (wpAny_holding ?_)
 repeat (first|with_reducible refine wpAny_loadPart_at he ?_|with_reducible refine wpAny_loadPart_at kC ?_| (with_reducible refine wpAny_isSubtype_exc kC ?_;rw[cB]) |wp_step)
 have nC:C≠e:=λz=>by
  rw[z,he] at kC;cases kC
 generalize hG:(hp.update e (Obj.mapFields λx=>x.setIfInBounds 3 Value.none)).update e (Obj.mapFields λx=>x.setIfInBounds 4 (Value.bool true))=G;have g0:=Heap.get?_update_self 15e2 he (Obj.isFreed_of_fields (Obj.data_mapFields rfl _))
 have ge:G.get? e=some { cls:= .ref C,dict:=Ww,data:= .fields ((vs.setIfInBounds 3 .none).setIfInBounds 4 (.bool true)),slots:=pY }:=by
  rw[<-hG];exact Heap.get?_update_self (Obj.mapFields (·.setIfInBounds 4 (Value.bool true))) g0 (Obj.isFreed_of_fields (Obj.data_mapFields rfl _))
 have go:∀b o,b≠e->hp.get? b=some o->G.get? b=some o:=λb o be q=>by
  rw[<-hG];exact(Heap.get?_update_other _ _ (Ne.symm be)).trans ((Heap.get?_update_other _ _ (Ne.symm be)).trans q)
 have gz:G.objs.size=hp.objs.size:=by
  rw[<-hG,Heap.size_after_update,Heap.size_after_update]
 have gC:=go _ _ nC kC;have ge':=go _ _ (Ne.symm ne) AN
 repeat (first|with_reducible refine wpAny_loadPart_at ge ?_|with_reducible refine wpAny_loadPart_at gC ?_|wp_step)
 rw[show ((vs.setIfInBounds 3 Value.none).setIfInBounds 4 (Value.bool true))[1]? =some .none from by rw[Array.getElem?_setIfInBounds_ne 0e1,Array.getElem?_setIfInBounds_ne 0e1];exact h1];refine wpAny_pure ?_;rw[if_neg 0e1];refine wpAny_pure ?_;unfold raiseNew;refine wpAny_bind (wpAny_handled ?_);rw[ha];dsimp only;rw[if_pos (show (Value.ref e' != Value.ref e)=true from by simp [Ne.symm ne])];refine wpAny_bind (wpAny_holding (wpAny_runValue (codeAny_builtin wo ?_)));unfold Builtin.«proto.unchain»;dsimp only;refine wpAny_bind (wpAny_field ge' dH Yu ?_);rw[if_pos 0e1];refine wpAny_pure ?_
 show wpAny 1e4 A (do
  setField 6e8 2 (Value.ref e')
  throw (Value.ref e)) Q E _
 refine wpAny_bind (wpAny_setField ge rfl (by rw[Array.size_setIfInBounds,Array.size_setIfInBounds,hz];decide) (wpAny_throw ?_));refine hE _ ?_ (λb o be q=>(Heap.get?_update_other _ _ (Ne.symm be)).trans (go b o be q)) (by rw[Heap.size_after_update];exact gz);exact Heap.get?_update_self (Obj.mapFields (·.setIfInBounds 2 (Value.ref e'))) ge (Obj.isFreed_of_fields (Obj.data_mapFields rfl _))
end
end PySem.W
namespace L2
open PySem PySem.Spec PyProof.Rows
variable [js]
section
variable {P:On}{w:8e8}{K:Uf}{mg:Wp}{base:Heap}
structure Fh(P:Program)(w:8e8)(K:1e5)(mg:2e0)(base:Heap)(k:Nat)(f:9e7)(fd:17e4)(ps:17e0)(sp:Sp):Prop where
 len:∀vs H Q E,sp vs H Q E->vs.length=ps.length
 run:∀(e:9e7) (A:Around) (outer:18e8) (s:Shared) (H:Hp) (args:Args) (us:List Value) (vs:5e2) (Q:VK) (E:XK),cV k A->ye P w K mg base A outer s H->BindsTo s fd args (ps.zip us)->Vals vs us->sp vs H Q E->
  codeAny (model P w) (A.mark (some 6e8)) (.call 8e3 args) (CR oC outer P w H s Q E) s
def EW.okH{x qual:Str}{st:Stmt}{f:Ps}{fd:17e4}{N ps:IR}{k:Nat}{sp:Sp}(F:EW K x qual st f fd)(S:16e3)(len:2e4)
  (d6:∀(e:Ps) (a9:Pn) (A:Os) (outer:18e8) (s:Op) (H:Hp) (vs:KB) (Q:VK) (E:XK),cV k 12e9->sp vs H Q E->
   ∃t,ni ((i7 oC P w K mg base N qual (ak st) f a9 A outer s H E).mark e) (bY st) t/\t 4e3 13e9 H):Fh P w K mg base (k+1) f fd ps sp:=by
 obtain⟨oc,od,kV,doc,pm,an,a9,ct,pY,rfl,lk,rA⟩:=F.ex;refine⟨len,λe A outer s H args us vs Q E hr e0 hb r CL=>?_⟩;have hl:=len _ _ _ _ CL;have KX:K.In s.heap:=e0.mod.g9.keeps λb o e=>(e0.bs b o e).1;have lim:s.heap.NoLimit:=e0.mod.nolimit.keeps λb o e=>(e0.bs b o e).1
 have JE:∀y∈ps.zip us,(ak st).names.lookup y.1=some .local\/((ak st).names.lookup y.1=some .cell/\((cellsFrom 1e2 (ak st).names []).lookup y.1).isSome=true):=fun⟨n,v⟩ hy=>by
  rcases S.par n (of_mem_zip hy).1 with q|q
  ·exact .inl q
  ·exact .inr ⟨q,PySem.W.cellsFrom_some _ _ _ (.inl q)⟩
 refine codeAny_call_function (A:=A.mark (some 6e8)) hr.depth (KX _ _ lk) rfl S.co S.gen rfl (PySem.W.codeRec_of KX rA) (hb _ _ _ _ ?_);refine wpAny_newFunctionEnv_cells S.kind JE λenv he s1 x=>?_;subst he;refine⟨lim.keeps x.toInCall.keep,codeAny_func ?_⟩;obtain⟨t,ht,hq⟩:=d6 e a9 A outer s H vs Q E (hr.deeper _) CL;have I:Inv (i7 oC P w K mg base N qual (ak st) f a9 A outer s H E) [] 13e9 H s1:=wW S hr.hd e0 hl r x;refine wpAny_mono (ht [] s1 13e9 H _ (I.mark e) hq) (λfl s' hs=>?_) λe s' hs=>False.elim hs;have fin:∀{σ':St} {H':Hp} {v:V} {u:Pn},Inv ((i7 oC P w K mg base N qual (ak st) f a9 A outer s H E).mark e) [] σ' H' s'->RelV v u->Q v H'->CE outer P w H s Q u s':=
  fun {σ' H' v u} J rv q=>⟨v,H',J.os,J.bare,J.base,J.aP,rv,q⟩
 cases fl with
 |ret u=>
  obtain⟨v,σ',H',J,rv,q⟩:=hs;exact fin J rv q
 |next=>
  obtain⟨σ',H',J,q⟩:=hs;exact fin (v:=V.cR) (u:=Value.none) J rfl q
 |brk=>
  obtain⟨_,_,_,q⟩:=hs;exact False.elim q
 |cont=>
  obtain⟨_,_,_,q⟩:=hs;exact False.elim q
structure Yv(P:Program)(w:8e8)(K:1e5)(mg:2e0)(base:Heap)(k:Nat)(x:Str)(C HE:9e7)(ps:17e0)(sp:Sp)(f:9e7)(fd:17e4):Prop where
 ok:Fh P w K mg base k f fd ps sp
 z:PySem.W.dW K C HE f
 b:Binds K fd ps []
 g:mg x=some 4e9
 kp:keepIn K 4e9=true
inductive Dh(P:Program)(w:8e8)(K:1e5)(mg:2e0)(base:Heap)(k:Nat)(x:Str)(C HE:9e7)(ps:17e0)(sp:Sp):Prop
 |mk (f fd:_) (bJ:Yv P w K mg base k x C HE ps sp f fd)
def lX.calH{x q:Str}{C HE:Ps}{st:Stmt}{N ps:IR}{k:Nat}{sp:Sp}(D:lX K mg x C HE q st ps)(S:16e3)(len:2e4)
  (d6:∀(f e:Ps) (a9:Pn) (A:Os) (outer:18e8) (s:Op) (H:Hp) (vs:KB) (Q:VK) (E:XK),cV k 4e0->sp vs H Q E->
   ∃t,ni ((i7 oC P w K mg base N q (ak st) f a9 A outer s H E).mark e) (bY st) t/\t 4e3 13e9 H):Dh P w K mg base (k+1) x C HE ps sp:=by
 obtain⟨f,fd,F,Z,b,g,kp⟩:=D;exact⟨f,fd,F.okH S len (d6 f),Z,b,g,kp⟩
end
end L2
namespace L2
open PySem PySem.Spec PyProof.Rows
variable [js]
section
variable {X Y:Cx}{k:Nat}{f C:Ps}{fd:17e4}{ps:IR}{sp:Sp}{ER:St->XK}{x:Str}{p pos:Pos}{e:Expr}{es:Ix}{t:TA}{A0:Os}{e':Ps}
def Ho{HE:Ps}{pins:WF}{σ:St}{H:Hp}{s:Op}{Q:VK}{us:UF}{vs:KB}(hA:Y.A=A0.mark (some (.ref e')))(Z:PySem.W.dW Y.K C HE f)(F:Fh Y.prog Y.w Y.K Y.mg Y.base k f fd ps sp)(hr:cV (k+1) A0)(hb:Binds Y.K fd ps [])
  (I:Inv Y pins σ H s) (r:Vals vs us) (hz:vs.length<=100) (h:∀x,H x=none->sp (.ref x::vs) (upd H x (mZ x C none)) (λv H2=>v= .cR/\Q (.ref x) H2) E0):
  wpAny (model Y.prog Y.w) Y.A (call 4e9 us) (EP Y pins σ Q) Y.xe s:=by
 have hq:=h 1e2 (I.aP.fresh (le_succ _))
 have e2:((s.heap.push (PySem.W.mY us)).push (PySem.W.lU C s.heap.objs.size)).get? 1e2=some (PySem.W.lU C s.heap.objs.size):=by
  have:=Heap.get?_push_size (s.heap.push (PySem.W.mY us)) (o:=PySem.W.lU C s.heap.objs.size) rfl
  rwa [Heap.size_push] at this
 have I2:Inv Y pins σ (upd H 1e2 (mZ 1e2 C none)) 4e5:=
  I.laid (a:=s.heap.objs.size+1) (t':=s.toks) (λb u q=>Heap.get?_push_of_some _ (Heap.get?_push_of_some _ q)) (le_succ _) (Fd e2 rfl rfl rfl rfl ⟨rfl,rfl⟩)
 have r2:Vals (V.ref 1e2::vs) (Value.ref 1e2::us):= .cons rfl r
 have hl:(Value.ref 1e2::us++[]).length=ps.length:=by
  have e:=r2.length;rw[F.len _ _ _ _ hq] at e;simp_all
 have OO:us.length<=sizeLine:=by
  rw[<-r.length];exact le_trans hz (by rw[sizeLine_eq];decide)
 have OP:=hb 4e5 (Value.ref 1e2::us) I2.jq hl;rw[append_nil] at OP;have e0:=I2.JB;rw[hA] at e0 |-;have e0':ye Y.prog Y.w Y.K Y.mg Y.base A0 Y.stack 4e5 (upd H 1e2 (mZ 1e2 C none)):=⟨e0.frames,e0.mod,e0.bs,e0.EI,e0.lE,e0.IZ,e0.aP,e0.bare⟩;refine wpAny_call (PySem.W.Fb I.jq Z OO (codeAny_mono (F.run e' (A0.under (.builtin "type.__call__" ⟨.ref C::us,[]⟩)) Y.stack _ _ ⟨Value.ref 1e2::us,[]⟩ (Value.ref 1e2::us) _ _ E0 (hr.make C us []) (e0'.make C us []) OP r2 hq) λr s' jr=>?_))
 cases r with
 |error e=>exact False.elim jr
 |ok fl=>
  cases fl with
  |ret u=>
   obtain⟨v,H',I3,rv,ev,q3⟩:=I2.after jr;subst ev;exact⟨rv,⟨V.ref 1e2,H',I3,U,q3⟩⟩
  |next=>exact False.elim jr
  |brk=>exact False.elim jr
  |cont=>exact False.elim jr
def Kw{HE:Ps}(hA:Y.A=A0.mark (some (.ref e')))(Z:PySem.W.dW Y.K C HE f)(F:Fh Y.prog Y.w Y.K Y.mg Y.base k f fd ps sp)(hr:cV (k+1) A0)(hg:Gl Y x)(hm:Y.mg x=some 4e9)(hk:keepIn Y.K 4e9=true)(hb:Binds Y.K fd ps [])
  (ha:PA Y (e::es) t) (CK:2e8:=by decide) (he:starEach (e::es) Y.env=(false,eval e Y.env)::starEach es Y.env:=by rfl) (f6:(backTo pos (starEach es Y.env)).any 2e1=false:=by rfl):
  PE Y 8e4 (Kg C sp t):=by
 intro pins s σ H Q I h;refine wpAny_Call_Name_kw (iG I hg hm ?_ CK);refine PySem.W.callWith_K (h₀:=Y.base) I.ok.mod.g9 hk 5e4 he f6;exact Ho hA Z F hr hb I1 r q.1 q.2
inductive Kx(K:1e5)(e':9e7)(ER:St->XK)(σ:St)(v:V)(H1:Hp):Prop
 |mk (e C HE f dx C' dM:_) (bJ:v= .ref e) (bT:PySem.W.dW K C HE f) (cw:H1 e=some (mZ e C dx)) (dh:js.AQ C) (eQ:e≠e') (ir:H1 e'=some (n9 e' C' dM)) (qQ:¬js.AQ C') (Di:ER σ (.ref C) dx (upd H1 e (n9 e C dx)))
def Fi(K:Uf)(e':Ps)(te:TE)(ER:St->XK):TS:=λ_ σ H=>te σ H (Kx K e' ER σ)
def Hq{ex:Expr}{te:TE}{cj:Nat}{cp:Pos}(hA:Y.A.handled=some (.ref e'))(L:Lets Y ER)(he:PE Y ex te):PS Y (.Raise (some ex) (some (.Constant .none cj cp)) pos) (Fi Y.K e' te ER):=by
 intro pins s σ H D I h;rw[arm_exec_Raise];refine wpAny_bind (wpAny_standAt (PySem.W.Hn (K:=Y.K) hA (wpAny_bind (cg 5e9 λu s1 ⟨v,H1,I1,rv,e,C,HE,f,dx,C',dM,ev,Z,hx,lC,ne,hx',nl,q⟩=>wpAny_bind (wpAny_standAt 14e4)))));subst ev;obtain rfl:u=Value.ref e:=rv;refine wpAny_bind (cg (pP (X:=Y) (j:=cj) (pos:=cp) pins s1 σ H1 (λw H2=>w= .cR/\H2=H1) I1 ⟨rfl,rfl⟩) λu2 s2 ⟨w2,H2,I2,rw2,ew,eH⟩=>wpAny_bind (wpAny_standAt 14e4));subst ew eH;obtain⟨o,vs,h1,h2,h3,h4,h5,h6⟩:=tS I2.aP hx;obtain⟨o',E8,g1,g2,g3,g4,g5⟩:=C8 I2.aP hx';refine⟨rw2,e,o,vs,C,HE,f,o',E8,U,ne,I2.jq,Z,h1,h2,h4,h5,h6.2,g1,g4,g5.resolve_right nl,λh' k1 k2 k3=>L _ _ ⟨e,C,dx,σ,_,none,U,?_,af,⟨⟨_,_,k1,U,?_⟩,λT z=>by cases z⟩,λT z=>(by cases z),q⟩⟩
 ·have J:=I2.xj.write (x:=e) (e:=e) (o:=n9 e C dx) (h':=h') (t':=s2.toks) (by rw[hx];exact True.intro) 9e8 (λb u be q=>k2 b u be q) ⟨_,k1⟩ (Fc k1 h2 h3 rfl (.inr lC));exact J
 ·rw[Array.getElem?_setIfInBounds_ne 0e1,Array.getElem?_setIfInBounds_ne 0e1,Array.getElem?_setIfInBounds_ne 0e1];exact h5
def Dj(K:Uf)(hK:Y.K=K){ex:Expr}{te:TE}{cj:Nat}{cp:Pos}(hA:Y.A.handled=some (.ref e'))(L:Lets Y ER)(he:PE Y ex te):PS Y (.Raise (some ex) (some (.Constant .none cj cp)) pos) (Fi K e' te ER):=by
 subst hK;exact Hq hA L he
end
section
variable {X:Cx}{pins:WF}{σ:St}{H:Hp}{s:Op}{ER:St->XK}
noncomputable def xfH(e C:Ps)(dx:Uu)(p:Array Value->Prop):HO:= .ext λh=>∃o vs,h.get? e=some o/\o.cls= .ref C/\o.dict=dx/\o.data= .fields vs/\p vs
def Yw{P:On}{w:8e8}{h:Heap}{e C:Ps}{od:Uu}{o:Obj}{vs:15e9}{p:Array Value->Prop}(he:h.get? e=some o)(hc:o.cls= .ref C)(hd:o.dict=od)(hf:o.data= .fields vs)(hp:p vs):cK P w H h e (xfH e C od p):=
 ⟨⟨o,vs,he,hc,hd,hf,hp⟩,⟨o,he⟩,λ_ _ ⟨o,vs,a,b⟩ k=>⟨o,vs,k _ a,b⟩⟩
def Dk{i:Nat}{n:Str}{pos:Pos}{Q:ZB}{A:Os}{E:XV}{e C T:Ps}{dx:Uu}(I:Inv X [] σ H s)(he:H e=some (n9 e C dx))(fl:s.heap.jX e (some T))(hT:H T=none)(nT:ic X T)(hN:X.N.Nodup)(hi:X.N[i]? =some n)(hl:11e3)
  (k:∀s',Inv X [] (σ.set i none) H s'->s'.heap.jX e (some T)->Q () s'):wpAny 0e8 A (do bindName X.env n .none;unbindBehindTheSuite X.env n pos) Q E s:=by
 obtain⟨o,vs,h1,h2,h3,h4,h5⟩:=C8 I.aP he;obtain⟨oe,vs2,f1,f2,f3⟩:=fl.ex;rw[h1] at f1;cases f1;rw[h4] at f2;cases f2;obtain⟨neT,oT,ts,t1,t2,t3⟩:=fl.tr T rfl;have J:=I.write (x:=e) (e:=e) (o:=xfH e C dx λvs=>vs[1]? =some (.ref T)/\(vs[2]? =some .none\/js.AQ C)) (h':=s.heap) (t':=s.toks) (by rw[he];exact True.intro) 9e8 (λ_ _ _ q=>q) ⟨o,h1⟩ (Yw h1 h2 h3 h4 ⟨f3,h5⟩)
 have J2:=J.rN (pins':=[(T,oT)]) λp hp=>by
  have ep:p=(T,oT):=by simpa using hp
  subst ep;refine⟨t1,by rw[ah neT];exact hT,nT.loc,λz=>?_,λv z=>by rw[t2] at z;cases z⟩;obtain⟨_,ob,q,nf⟩:=I.ok.lE.mem z;exact absurd 16e2 (not_lt.mpr nT.above)
 refine name_goes J2 hN hi hl λs' J3=>?_;obtain⟨o',E8,g1,g2,g3,g4,g5,g6⟩:=(J3.aP e _ af).1;have pT:=(J3.pin (T,oT) 2e3).1;refine k s' ?_ ⟨⟨o',E8,g1,g4,g5⟩,λT' z=>?_⟩
 ·have J4:=J3.xj.write (x:=e) (e:=e) (o:=n9 e C dx) (h':=s'.heap) (t':=s'.toks) (by rw[af];exact True.intro) 9e8 (λ_ _ _ q=>q) ⟨o',g1⟩ (Fc g1 g2 g3 g4 g6);rw[kj,Kh he] at J4;exact J4
 ·cases z;exact⟨neT,oT,ts,pT,t2,t3⟩
def Rh(K:Uf)(PC:Ps)(i:Nat)(ts:Addr->TS)(tr:Ends->St->XK):Ends->St->XK:=λD σ cv dx H=>
 ∃C HE f b,cv= .ref C/\PySem.W.dW K C HE f/\PySem.W.mroIn K C (.ref PC)=some b/\
  if b=true then∀e,H e=some (n9 e C dx)->ts e { D with nx:=fun σ1 H1=>D.nx (σ1.set i none) H1,bk:=fun σ1 H1=>D.bk (σ1.set i none) H1,ct:=fun σ1 H1=>D.ct (σ1.set i none) H1 } (σ.set i (some 6e8)) H else tr D σ cv dx H
def Ue{x n:Str}{np pos:Pos}{b0:Stmt}{lW:List Stmt}{rest:List ExceptHandler}{PC:Ps}{i:Nat}{ts:Addr->TS}{tr:Ends->St->XK}(fm:yw X)(L:Lets X ER)(hg:Gl X x)(hm:X.mg x=some (.ref PC))(Y:PySem.W.AS X.K PC)(hN:X.N.Nodup)(hi:X.N[i]? =some n)
  (hl:11e3) (TY:∀e,ni ((X.mark e).iH (gQ (X.mark e) fun σ1=>ER (σ1.set i none))) (b0::lW) (ts e)) (hr:PH X rest tr) (hd:2e8:=by decide):
  PH X (.ExceptHandler (some (.Name x np)) (some n) (b0::lW) pos::rest) (Rh X.K PC i ts tr):=by
 intro s σ H D e C dx T I he fl hT nT hE;obtain⟨C',HE,f,b,ec,Z,mb,hE⟩:=hE;cases ec;obtain⟨o,vs,o1,o2,o3,o4⟩:=tR I.aP he;have ht:∀T',some T=some T'->H T'=none/\ic X T':=λT' z=>by lia
 refine wpAny_handleBy_cons (codeAny_handlers_test (iG (X:=X.mark e) (I.mark e) hg hm (PySem.W.tT I.jq Z Y o1 o2 mb ?_) hd)) 0e7
 cases b with
 |false=>exact hr s σ H D e C dx T I he fl hT nT hE
 |true=>
  have hE:=hE e he;refine codeAny_handlers_suite_as (f7 fl λh1 a m=>?_);have I1:=I.moved he ht (m.mono λ_ z=>absurd z 2e3);refine store_ok I1 hN hi (.inl hl) (v:= .ref e) rfl (λs2 I2=>?_) (.inr hl);refine wpAny_mono (TY e [] s2 _ H _ ((I2.mark e).iH _) hE) (λf s3 q=>?_) λv s3 z=>?_
  ·have q:=q.eL
   cases f with
   |next=>
    obtain⟨σ',H',I3,q⟩:=q;exact name_goes (I3.unmark I.ok) hN hi hl λs4 I4=>⟨_,H',I4,q⟩
   |brk=>
    obtain⟨σ',H',I3,q⟩:=q;exact name_goes (I3.unmark I.ok) hN hi hl λs4 I4=>⟨_,H',I4,q⟩
   |cont=>
    obtain⟨σ',H',I3,q⟩:=q;exact name_goes (I3.unmark I.ok) hN hi hl λs4 I4=>⟨_,H',I4,q⟩
   |ret u=>
    obtain⟨v,σ',H',I3,r,q⟩:=q;exact name_goes (I3.unmark I.ok) hN hi hl λs4 I4=>⟨v,_,H',I4,r,q⟩
  ·obtain⟨e2,C2,gy,σ2,H2,tb,ev,J,Ky,fl2,Wy,hE2⟩:=z;subst ev;obtain⟨fr,ff⟩:=iY (X:=X.mark e) fm J;refine mG fr ff fm.2 fl2 λh3 T3 a3 b3 m3=>?_;have m3':Heap.Moved (rq (X.mark e).stack) e2 tb s3.heap h3:=by unfold rq;rw[show (X.mark e).stack=X.env::X.outer from fm.1];exact m3
   have J3:=J.moved Ky Wy m3';have t3:=p9 J Wy b3;refine Dk (X:=X.mark e) (s:={ s3 with heap:=h3 }) J3 Ky a3 (t3 T3 rfl).1 (t3 T3 rfl).2 hN hi hl λs4 J4 fl4=>?_;unfold PySem.passOn;obtain⟨oe,ws,q1,q2,q3⟩:=id fl4.ex;refine wpAny_bind (wpAny_field q1 q2 q3 ?_);rw[if_neg 2e3];refine wpAny_bind (f7 fl4 λh5 a5 m5=>wpAny_throw ?_);have J5:=J4.moved Ky t3 (m5.mono λ_ z=>absurd z 2e3);obtain⟨fr5,ff5⟩:=iY (X:=X.mark e) fm J5;refine mG (s:={ s4 with heap:=h5 }) fr5 ff5 fm.2 a5 λh6 T6 a6 b6 m6=>?_;have m6':Heap.Moved (rq (X.mark e).stack) e2 (some T3) h5 h6:=by unfold rq;rw[show (X.mark e).stack=X.env::X.outer from fm.1];exact m6
   have J6:=J5.moved Ky t3 m6';have t6:=p9 J5 t3 b6;refine E9 (s:={ s4 with heap:=h6 }) a6 λh7 a7 m7=>?_;have J7:=J6.moved Ky t6 (m7.mono λ_ z=>absurd z 2e3);exact L _ _ ⟨e2,C2,gy,_,H2,some T6,rfl,J7.unmark I.ok,Ky,a7,λT' z=>⟨(t6 T' z).1,(t6 T' z).2.above,(t6 T' z).2.loc,(t6 T' z).2.cell,(t6 T' z).2.pn⟩,hE2⟩
def OX(K:Uf)(hK:X.K=K){x n:Str}{np pos:Pos}{b0:Stmt}{lW:List Stmt}{rest:List ExceptHandler}{PC:Ps}{i:Nat}{ts:Addr->TS}{tr:Ends->St->XK}(fm:yw X)(L:Lets X ER)(hg:Gl X x)(hm:X.mg x=some (.ref PC))(Y:PySem.W.AS K PC)(hN:X.N.Nodup)(hi:X.N[i]? =some n)
  (hl:11e3) (TY:∀e,ni ((X.mark e).iH (gQ (X.mark e) fun σ1=>ER (σ1.set i none))) (b0::lW) (ts e)) (hr:PH X rest tr) (hd:2e8:=by decide):
  PH X (.ExceptHandler (some (.Name x np)) (some n) (b0::lW) pos::rest) (Rh K PC i ts tr):=by
 subst hK;exact Ue fm L hg hm Y hN hi hl TY hr hd
end
instance (priority:=low) lateAll:js:=⟨λ_=>True⟩
end L2
namespace L2
open PySem PySem.Spec PyProof.Rows
section
variable {X:Cx}{o:Expr}{to:TE}{apos iw:Pos}
end
section
variable {X:Cx}{o i:Expr}{pos:Pos}{td ty:TE}
end
section
variable {X:Cx}{o e:Expr}{es:Ix}{pos:Pos}{te:TE}{t:TA}{E:XK}
end
section
variable [js]{X:Cx}{o e:Expr}{es:Ix}{pos:Pos}{te:TE}{t:TA}{ER:St->XK}
end
end L2
namespace NG
open PySem PySem.Spec PySem.Builtin PySem.Builtin.Str
end NG
namespace L2
open PySem PySem.Spec PyProof.Rows
end L2
namespace NG
open PySem PySem.Spec
section
variable {prog:On}{w:8e8}{A:Os}{E:XV}{s:Op}{it t l:Ps}{i k:Nat}{xs ys:15e9}{x y a b:Pn}
end
section
variable {prog:On}{w:8e8}{A:Os}{E:XV}{s:Op}{z TI TO i1 i2 t l:Ps}{k:Nat}{xs ys:15e9}{x y a b:Pn}
end
end NG
namespace L2
open PySem PySem.Spec PyProof.Rows
section
variable {X:Cx}{o e:Expr}{es:Ix}{pos:Pos}{te:TE}{t:TA}{E:XK}{k:Nat}
end
section
variable [js]{X:Cx}{o e:Expr}{es:Ix}{pos:Pos}{te:TE}{t:TA}{ER:St->XK}{k:Nat}
end
section
variable {P:On}{w:8e8}{K:Uf}{mg:Wp}{base:Heap}{k:Nat}{x:Str}{ps:IR}{sp:Sp}{f:Ps}
end
section
variable {K:Uf}{g:TG}{tt:TT}{te:TE}
end
end L2
namespace L2
open PySem PySem.Spec PyProof.Rows PySem.W
section
variable {prog:On}{w:8e8}{A:Os}{E:XV}{κ:SortKind}{it:18e9}{O:KeyOrd}{k:Nat->O.α}{n:Nat}{I:Shared->Prop}{s:Op}{st:SortSt}
end
section
variable {prog:On}{w:8e8}{A:Os}{E:XV}{κ:SortKind}{it:18e9}{O:KeyOrd}{k:Nat->O.α}{n:Nat}{I:Shared->Prop}{s:Op}{st:SortSt}
abbrev Ar:=Array Keyed
end
section
variable {O:KeyOrd}{k:Nat->O.α}
def le(k:Nat->O.α)(x y:Nat):Prop:=O.kle (k x) (k y)
def le_of_lt{x y:Nat}(h:O.blt (k x) (k y)=true):le k x y:=KeyOrd.kle_of_klt h
end
section
variable {it:18e9}
noncomputable def ar(it:18e9)(l:IN):Ar:=(l.map (kas_item it)).toArray
end
section
variable {prog:On}{w:8e8}{A:Os}{E:XV}{κ:SortKind}{it:18e9}{O:KeyOrd}{k:Nat->O.α}{n:Nat}{I:Shared->Prop}{s:Op}{st:SortSt}
def el{l:IN}{i:Nat}{Q:Keyed->SortSt->Shared->Prop}(hi:i<l.length)(q:Q (kas_item it (l.getD i 0)) st s):kasC 1e4 A E (elem' (ar it l) i) Q st s:=by
 rw[elem'_eq]
 have e:(ar it l)[i]? =some (kas_item it (l.getD i 0)):=by
  simp [ar,List.getD,hi]
 rw[e];exact kasC_pure q
end
section
variable {prog:On}{w:8e8}{A:Os}{E:XV}{κ:SortKind}{it:18e9}{O:KeyOrd}{k:Nat->O.α}{n:Nat}{I:Shared->Prop}{s:Op}{st:SortSt}{la lb:IN}
end
abbrev D1:=Option Ar×Nat×Nat×Ar×Nat×Nat
abbrev D2:=Option Ar×Nat×Nat×Ar×Nat×Nat×Nat
abbrev D3:=Option Ar×Nat×Nat×Ar×Nat
section
variable {O:KeyOrd}{k:Nat->O.α}
end
section
variable {it:18e9}
end
section
variable {prog:On}{w:8e8}{A:Os}{E:XV}{κ:SortKind}{it:18e9}{O:KeyOrd}{k:Nat->O.α}{n:Nat}{I:Shared->Prop}{s:Op}{st:SortSt}{la lb:IN}
end
section
variable {prog:On}{w:8e8}{A:Os}{E:XV}{κ:SortKind}{it:18e9}{O:KeyOrd}{k:Nat->O.α}{n:Nat}{I:Shared->Prop}{s:Op}{st:SortSt}{la lb:IN}
end
section
variable {prog:On}{w:8e8}{A:Os}{E:XV}{κ:SortKind}{it:18e9}{O:KeyOrd}{k:Nat->O.α}{n:Nat}{I:Shared->Prop}{s:Op}{st:SortSt}
end
section
variable {prog:On}{w:8e8}{A:Os}{E:XV}{κ:SortKind}{it:18e9}{O:KeyOrd}{k:Nat->O.α}{n:Nat}{I:Shared->Prop}{s:Op}
end
section
variable {it:18e9}
end
section
variable {prog:On}{w:8e8}{A:Os}{E:XV}{κ:SortKind}{it:18e9}{O:KeyOrd}{k:Nat->O.α}{n:Nat}{I:Shared->Prop}{s:Op}{pd:Array (Nat×Nat×Nat)}{g:Nat}
end
section
variable {it:18e9}
end
section
variable {prog:On}{w:8e8}{A:Os}{E:XV}{κ:SortKind}{it:18e9}{O:KeyOrd}{k:Nat->O.α}{n:Nat}{I:Shared->Prop}{s:Op}{pd:Array (Nat×Nat×Nat)}{g:Nat}
end
section
variable {O:KeyOrd}{k:Nat->O.α}
end
section
variable {prog:On}{w:8e8}{A:Os}{E:XV}{κ:SortKind}{it:18e9}{O:KeyOrd}{k:Nat->O.α}{n:Nat}{I:Shared->Prop}{s:Op}{pd:Array (Nat×Nat×Nat)}{g:Nat}
end
end L2
namespace L2
open PySem PySem.Spec PyProof.Rows PySem.SeqAt PySem.W
section
variable {prog:On}{w:8e8}{A:Os}{E:XV}{s:Op}
end
section
variable {X:Cx}
end
@[reducible] def intOrd:KeyOrd where
  α:=Int
  blt a b:=decide (a<b)
  irrefl a:=by simp
  trans a b c h1 h2:=by simp only [decide_eq_true_eq] at*;omega
  negTrans a b c h:=by simp only [decide_eq_true_eq] at*;omega
  total a b h1 h2:=by simp only [decide_eq_false_iff_not] at*;omega
section
variable {prog:On}{w:8e8}{A:Os}{E:XV}{s:Op}
end
section
variable {X:Cx}
end
end L2
namespace L2
open PySem
section
variable {K:Uf}{q:Str}{st:Stmt}{f td C:Ps}{oc kV doc pm a9 ct otc:Pn}{od an otd:Uu}{pY ots:15e4}{tn:Nat}{it:Pn}{p0 p1 p2:Str}
def BD(q:Str)(st:Stmt)(ps:IR)(it:Pn)(us ws:UF):Prop:=∀(td:Ps) (kV doc pm:Pn) (an:Uu) (a9 ct:Pn),∃k,bindArgs 8e9 ⟨us,[]⟩=seqItems? (.ref td) >>= k/\k (some #[it])=pure (ps.zip ws)
def BD.go{ps:IR}{us ws:UF}{s:Op}(b:BD q st ps it us ws)(t:K.lookup td=some ⟨otc,otd, .seq #[it] tn,ots⟩)(hk:K.In s.heap):BindsTo s 8e9 ⟨us,[]⟩ (ps.zip ws):=by
 obtain⟨k,h1,h2⟩:=b td kV doc pm an a9 ct;exact PySem.W.binds_K hk rfl t rfl h1 h2
def Ug{d:Int}{tk:Tok}(a:14e6)(l:K.lookup f=some ⟨oc,od, .func 8e9,pY⟩)
  (t:K.lookup td=some ⟨otc,otd, .seq #[.int d tk] tn,ots⟩) (c:PySem.W.codeIn K a9 q=true) (k:keepIn K 8e3=true) (m:PySem.W.makesIn K C=true) (i:PySem.W.isFn K 8e3=true) (kc:keepIn K 4e9=true)
  (b:∀u v,BD q st [p0,p1,p2] (.int d tk) [u,v] [u,v, .int d tk]) (b':∀u v x,BD q st [p0,p1,p2] (.int d tk) [u,v,x] [u,v,x]):lP K C q st [p0,p1,p2] [d]:=
 ⟨_,_,_,E3 l c k,⟨m,a,i,kc⟩,le1 ⟨[.int d tk], .cons 3e5 .nil,bn2 rfl λ_ u v hk=>(b u v).go t hk⟩ ⟨[], .nil,bn3 rfl λ_ u v x hk=>(b' u v x).go t hk⟩⟩
def Yx(a:14e6)(l:K.lookup f=some ⟨oc,od, .func 8e9,pY⟩)
  (t:K.lookup td=some ⟨otc,otd, .seq #[.none] tn,ots⟩) (c:PySem.W.codeIn K a9 q=true) (k:keepIn K 8e3=true) (m:PySem.W.makesIn K C=true) (i:PySem.W.isFn K 8e3=true) (kc:keepIn K 4e9=true)
  (b:∀u,BD q st [p0,p1] .none [u] [u, .none]) (b':∀u v,BD q st [p0,p1] .none [u,v] [u,v]):Km K C q st [p0,p1]:=
 ⟨_,_,_,E3 l c k,⟨m,a,i,kc⟩,bn2 rfl λ_ u v hk=>(b' u v).go t hk,bn1 rfl λ_ u hk=>(b u).go t hk⟩
end
def AW{sc scope:Scope}{NX N:IR}{fr:W1}(a:sc.kind= .function:=by rfl)(b:scope.kind= .function:=by rfl)(c:∀y∈scope.names,y.2≠ .cell:=by decide+kernel)(d:∀y∈scope.names,y.2= .local->scope.names.lookup y.1=some .local:=by decide+kernel)(e:∀y∈scope.names,y.2= .free->sc.names.lookup y.1=some .cell:=by decide+kernel)(f:fr.length=N.length:=by rfl)(g:((List.range N.length).all λi=>match fr[i]? with
  |some (some j)=>(match N[i]? with
   |some x=>(NX[j]? ==some x)&&(scope.names.lookup x==some .free)
   |none=>false)
  |_=>true)=true:=by decide+kernel):G7 sc scope NX N fr:=⟨a,b,c,d,e,f,g⟩
end L2
set_option maxHeartbeats 4000000
namespace K54
open PySem L2
def gMp{α:Type}{f:α->V}{o:Option α}{x:V}(h:o.map f=some x):∃m,o=some m/\x=f m:=by
 cases o with
 |none=>cases h
 |some m=>exact⟨m,U,(Option.some.inj h).symm⟩
def bgL:(2000:Nat)<=sizeLine:=by decide
noncomputable def top(i:Nat):Stmt:=PySem.Challenge.pw_balancehall_k54_rows_go_or_stay.main.body.getD i (.Pass ⟨0,0,0,0⟩)
abbrev mJ:Stmt:=top 75
abbrev Dl:Stmt:=inClass (top 50) 0
abbrev yz:Stmt:=top 63
abbrev kB:Stmt:=top 35
abbrev lY:Stmt:=top 19
abbrev yA:Stmt:=inClass (top 25) 2
abbrev tW:Stmt:=inClass (top 36) 2
abbrev Dm:Stmt:=inClass (top 36) 0
abbrev rX:Stmt:=inClass (top 36) 1
abbrev yB:Stmt:=top 18
abbrev tX:Stmt:=top 68
abbrev lZ:Stmt:=inClass (top 26) 2
abbrev Dn:Stmt:=inClass (top 26) 0
abbrev oM:Stmt:=inClass (top 26) 1
abbrev yD:Stmt:=top 54
abbrev yE:Stmt:=inClass (top 61) 4
abbrev Dp:Stmt:=top 16
abbrev Kz:Stmt:=inClass (top 61) 1
abbrev KA:Stmt:=inClass (top 25) 0
abbrev KC:Stmt:=top 66
abbrev Dq:Stmt:=inClass (top 50) 2
abbrev AX:Stmt:=inClass (top 50) 4
abbrev Dr:Stmt:=top 64
abbrev jb:Stmt:=top 58
abbrev Uh:Stmt:=inClass (top 5) 0
abbrev Ui:Stmt:=inClass (top 4) 0
abbrev l6:Stmt:=top 22
abbrev Ds:Stmt:=inClass (top 27) 0
abbrev oN:Stmt:=top 21
abbrev kD:Stmt:=inClass (top 27) 2
abbrev l7:Stmt:=inClass (top 27) 1
abbrev Uj:Stmt:=inClass (top 61) 2
abbrev yF:Stmt:=inClass (top 37) 10
abbrev tY:Stmt:=top 52
abbrev oO:Stmt:=inClass (top 37) 13
abbrev rY:Stmt:=inClass (top 37) 11
abbrev kE:Stmt:=inClass (top 37) 6
abbrev qb:Stmt:=top 38
abbrev mK:Stmt:=inClass (top 37) 9
abbrev yG:Stmt:=inClass (top 37) 0
abbrev yH:Stmt:=inClass (top 51) 1
abbrev oP:Stmt:=inClass (top 37) 12
abbrev t5:Stmt:=inClass (top 37) 8
abbrev oQ:Stmt:=inClass (top 37) 7
abbrev t7:Stmt:=inClass (top 51) 2
abbrev yI:Stmt:=inClass (top 51) 3
abbrev Dt:Stmt:=inClass (top 51) 0
abbrev rZ:Stmt:=inClass (top 37) 5
abbrev qc:Stmt:=top 56
abbrev kG:Stmt:=top 60
abbrev Du:Stmt:=inClass (top 61) 0
abbrev Dv:Stmt:=inClass (top 8) 0
abbrev Dw:Stmt:=inClass (top 25) 1
abbrev kH:Stmt:=top 48
abbrev l8:Stmt:=top 49
abbrev Fj:Stmt:=inClass (top 37) 1
abbrev Dx:Stmt:=top 17
abbrev r8:Stmt:=inClass (top 61) 7
abbrev Fl:Stmt:=inClass (top 61) 8
abbrev Dy:Stmt:=inClass (top 3) 0
abbrev Dz:Stmt:=inClass (top 6) 0
abbrev Fn:Stmt:=inClass (top 37) 2
abbrev oR:Stmt:=inClass (top 37) 3
abbrev t8:Stmt:=inClass (top 37) 4
abbrev t9:Stmt:=top 34
abbrev yJ:Stmt:=top 59
abbrev ub:Stmt:=top 57
abbrev DA:Stmt:=inClass (top 7) 0
abbrev DB:Stmt:=top 65
abbrev sh:Stmt:=top 69
abbrev uc:Stmt:=top 70
abbrev oS:Stmt:=top 71
abbrev KD:Stmt:=top 72
abbrev DC:Stmt:=top 73
abbrev DD:Stmt:=top 74
abbrev ud:Stmt:=top 47
abbrev Uk:Stmt:=top 76
abbrev yK:Stmt:=top 77
abbrev si:Stmt:=top 78
abbrev Fp:Stmt:=top 79
abbrev DE:Stmt:=top 80
abbrev yL:Stmt:=top 81
def nkc:¬(("kind" :Str)="count"):=by decide+kernel
noncomputable def yM(k:Str)(n:Int):List (Str×V):=di "count" (.int n) (di "kind" (.str k) [])
def xn(k:Str)(n:Int):(yM k n).lookup ("kind" :Str)=some (.str k):=by
 unfold yM;rw[az,if_neg nkc,az,if_pos rfl]
def uf(k:Str)(n:Int):(yM k n).lookup ("count" :Str)=some (.int n):=by
 unfold yM;rw[az,if_pos rfl]
def Fq(k:Str)(n:Int){m:Str}(h1:¬m="count")(h2:¬m="kind"):(yM k n).lookup m=none:=by
 unfold yM;rw[az,if_neg h1,az,if_neg h2]
 all_goals rfl
def gW(C:Ps)(H:Hp)(p:Ps)(k:Str)(n:Int):Prop:=∃dx,H p=some (.ins C dx (yM k n))
def gW.same{C:Ps}{H H':Hp}{p:Ps}{k:Str}{n:Int}(a:gW C H p k n)(e:au H H'):gW C H' p k n:=let ⟨dx,h⟩:=a;⟨dx,e _ _ h⟩
def bh(kvs:Py):Prop:=∀p∈kvs,∃i,p.2=V.int i
noncomputable def aM(kvs:Py)(k:Key):Int:=match cA kvs k with
 |some (.int i)=>i
 |_=>0
def fG{kvs:Py}{k:Key}(h:cA kvs k=none):aM kvs k=0:=by unfold aM;rw[h]
def gA{kvs:Py}{k:Key}{i:Int}(h:cA kvs k=some (.int i)):aM kvs k=i:=by unfold aM;rw[h]
noncomputable def cU(kvs:Py)(k:Key)(n:Int):List 19e8:=putK kvs k (.int (aM kvs k+n))
noncomputable def bj(t:Int)(acc:Py)(as:WP):List 19e8:=as.foldl (λacc p=>cU acc 19e1 (p.2*t)) acc
noncomputable def jJ(c:Int)(acc:Py)(l:Py)(all:Py):List 19e8:=l.foldl (λacc p=>cU acc p.1 (aM all p.1*c)) acc
noncomputable def Hr(c:Int):V->V
 | .int i=> .int (i*c)
 |v=>v
noncomputable def scale(c:Int)(kvs:Py):List 19e8:=kvs.map λp=>(p.1,Hr c p.2)
def KG(B:Int)(kvs:Py):Prop:=∀p∈kvs,∃i,p.2=V.int i/\0<=i/\i<=B
def gX{kvs:Py}{k:Key}{v:V}(e:cA kvs k=some v):(k,v)∈kvs:=by
 unfold cA at e
 cases f:kvs.find? λkv=>decide (kv.1=k) with
 |none=>rw[f] at e;cases e
 |some p=>
  grind
def bh.look{kvs:Py}(h:bh kvs){k:Key}{v:V}(e:cA kvs k=some v):v= .int (aM kvs k):=by
 obtain⟨i,hi⟩:=h _ (gX e);have hi:v= .int i:=hi;subst hi;rw[gA e]
def bh.at{kvs:Py}(h:bh kvs)(k:Key):(cA kvs k).getD (.int 0)= .int (aM kvs k):=by
 cases e:cA kvs k with
 |none=>rw[fG e];rfl
 |some v=>rw[h.look e];rfl
def KG.Yy{B:Int}{kvs:Py}(h:KG B kvs)(hB:0<=B)(k:Key):0<=aM kvs k/\aM kvs k<=B:=by
 cases e:cA kvs k with
 |none=>rw[fG e];exact⟨Int.le_refl _,hB⟩
 |some v=>
  obtain⟨i,hi,h0,h1⟩:=h _ (gX e);have hi:v= .int i:=hi;subst hi;rw[gA e];exact⟨h0,h1⟩
def KG.put{B B':Int}{kvs:Py}(h:KG B kvs)(hBB:B<=B')(k:Key){i:Int}(h0:0<=i)(h1:i<=B'):KG B' (putK kvs k (.int i)):=by
 intro p hp;unfold putK at hp;split at hp
 ·obtain⟨q,hq,e⟩:=mem_map.mp hp;subst e;split
  ·exact⟨i,U,h0,h1⟩
  ·obtain⟨j,e,h2,h3⟩:=h q hq;exact⟨j,e,h2,Int.le_trans h3 hBB⟩
 ·rcases mem_append.mp hp with hq|hq
  ·obtain⟨j,e,h2,h3⟩:=h p hq;exact⟨j,e,h2,Int.le_trans h3 hBB⟩
  simp_all
def KG.add{B b:Int}{kvs:Py}(h:KG B kvs)(hB:0<=B)(k:Key){n:Int}(h0:0<=n)(h1:n<=b):KG (B+b) (cU kvs k n):=by
 obtain⟨z0,z1⟩:=h.Yy hB k;exact h.put 0e2 k 0e2 0e2
def yN{kvs:Py}{k:Key}{v:V}(h:(kvs.map 2e1).Nodup):((putK kvs k v).map 2e1).Nodup:=by
 cases e:cA kvs k with
 |none=>exact Ow v h e
 |some x=>
  have ha:9e5=true:=by rw[gj,e];rfl
  unfold putK;rw[if_pos ha,map_map]
  have:((λ(x:Key×V)=>x.1)∘λkv=>if kv.1=k then (kv.1,v) else kv)=λ(x:Key×V)=>x.1:=by
   funext y;simp only [Function.comp];split<;>rfl
  rw[this];exact h
theorem qd(c:Int)(k:Key):∀kvs:List (Key×V),cA (scale c kvs) k=(cA kvs k).map (Hr c)
 | []=>rfl
 |p::r=>by
  have ih:=qd c k r;show cA ((p.1,Hr c p.2)::scale c r) k=_;by_cases e:p.1=k
  ·refine(dt (p:=(p.1,Hr c p.2)) (r:=scale c r) e).trans ?_;rw[dt e];rfl
  ·refine(dv (p:=(p.1,Hr c p.2)) (r:=scale c r) e).trans ?_;rw[dv e];exact ih
def Hs(c:Int)(kvs:Py)(k:Key)(i:Int):scale c (putK kvs k (.int i))=putK (scale c kvs) k (.int (i*c)):=by
 have ha:((scale c kvs).any λkv=>decide (kv.1=k))=kvs.any λkv=>decide (kv.1=k):=by
  unfold scale;rw[List.any_map];rfl
 unfold putK;rw[ha];split
 ·unfold scale;rw[map_map,map_map];apply map_congr_left;intro p _;simp only [Function.comp];split<;>rfl
 ·unfold scale;rw[map_append];rfl
def Ht{kvs:Py}(h:bh kvs)(c:Int)(k:Key):aM (scale c kvs) k=aM kvs k*c:=by
 cases e:cA kvs k with
 |none=>rw[fG e,fG (by rw[qd,e];rfl),zero_mul]
 |some v=>
  have:=h.look e;subst this;exact gA (by rw[qd,e];rfl)
def bh.put{kvs:Py}(h:bh kvs)(k:Key)(i:Int):bh (putK kvs k (.int i)):=by
 intro p hp;unfold putK at hp;split at hp
 ·obtain⟨q,hq,e⟩:=mem_map.mp hp;subst e;split
  ·exact⟨i,U⟩
  ·exact h q hq
 ·rcases mem_append.mp hp with hq|hq
  ·exact h p hq
  simp_all
def Hu{kvs:Py}(h:bh kvs)(c:Int)(k:Key)(n:Int):scale c (cU kvs k n)=cU (scale c kvs) k (n*c):=by
 unfold cU;rw[Hs,Ht h,add_mul]
def bh.add{kvs:Py}(h:bh kvs)(k:Key)(n:Int):bh (cU kvs k n):=h.put k _
theorem xo(t c:Int):∀(as:WP) (acc:Py),bh acc->scale c (bj t acc as)=bj (t*c) (scale c acc) as
 | [],_,_=>rfl
 |p::r,acc,h=>by
  show scale c (bj t 5e1 r)=bj (t*c) (cU (scale c acc) 19e1 (p.2*(t*c))) r;rw[xo t c r _ (h.add _ _),Hu h,mul_assoc]
theorem jy(t:Int):∀(as:WP) (acc:Py),bh acc->bh (bj t acc as)
 | [],_,h=>h
 |_::r,_,h=>jy t r _ (h.add _ _)
theorem yO(t:Int):∀(as:WP) (acc:Py),(acc.map 2e1).Nodup->((bj t acc as).map 2e1).Nodup
 | [],_,h=>h
 |_::r,_,h=>yO t r _ (yN h)
theorem jz(t:Int):∀(as:WP) (acc:Py),(bj t acc as).length<=acc.length+as.length
 | [],_=>le_refl _
 |p::r,acc=>by
  have:=jz t r 5e1;have h2:=cO acc (Sum.inr p.1 :Key) (.int (aM acc 19e1+p.2*t));have e:(cU acc 19e1 (p.2*t)).length<=acc.length+1:=h2;show (bj t 5e1 r).length<=_
  grind
theorem yP{t b:Int}(hb:0<=b):∀(as:WP) (acc:Py) (B:Int),0<=B->KG B acc->(∀p∈as,0<=p.2*t/\p.2*t<=b)->KG (B+as.length*b) (bj t acc as)
 | [],acc,B,_,h,_=>by
   have e:B+(([]:WP).length:Int)*b=B:=by simp
   rw[e];exact h
 |p::r,acc,B,hB,h,hp=>by
  obtain⟨p0,p1⟩:=hp p 1e8;have:=yP hb r _ (B+b) 0e2 (h.add hB 19e1 p0 p1) λq hq=>hp q 18e4
  have e:B+b+(r.length:Int)*b=B+((p::r).length:Int)*b:=by
   rw[length_cons]
   lia
  rw[<-e];exact this
noncomputable def fQ(n:Int):Str:=if n=1 then "" else (toString n:Str)
def DF:∀n:Nat,n<1000->(fQ (n:Int)).length<=3:=by decide+kernel
def jc{n:Int}(h:1<=n)(h':n<=999):(fQ n).length<=3:=by
 have:=DF n.toNat 0e2
 lia
def jn(ys:IR):Str:=Str.join ⟨#[]⟩ ys
def join_eq(ys:IR):Txt.join "" ys=jn ys:=by
 have h:=PyProof.Rows.join_closes (sep:="") (sep':=⟨#[]⟩) (ys:=ys) 0e5;unfold jn;simpa using h
def OY(x:Str)(r:IR):jn (x::r)=x++jn r:=PyProof.Rows.join_nil_cons x r
theorem Fs:∀{ys:IR} {b:Nat},(∀y∈ys,y.length<=b)->(ys.map (·.length)).sum<=ys.length*b
 | [],_,_=>zero_le _
 |y::r,b,h=>by
  rw[map_cons,sum_cons,length_cons,Nat.succ_mul];have h1:=h y 1e8;have h2:=Fs (ys:=r) (b:=b) λz hz=>h z (mem_cons_of_mem _ hz);omega
def xp(x y z:Str):x++y++z=x++(y++z):=by
 show (⟨(x.cps++y.cps)++z.cps⟩:Str)=⟨x.cps++(y.cps++z.cps)⟩;rw[Array.append_assoc]
def npc:¬(("parts" :Str)="count"):=by decide+kernel
noncomputable def oU(l:Ps)(n:Int):List (Str×V):=di "count" (.int n) (di "parts" 18e6 [])
def jA(l:Ps)(n:Int):(oU l n).lookup ("parts" :Str)=some 18e6:=by
 unfold oU;rw[az,if_neg npc,az,if_pos rfl]
def jB(l:Ps)(n:Int):(oU l n).lookup ("count" :Str)=some (.int n):=by
 unfold oU;rw[az,if_pos rfl]
def oW(l:Ps)(n:Int){m:Str}(h1:¬m="count")(h2:¬m="parts"):(oU l n).lookup m=none:=by
 unfold oU;rw[az,if_neg h1,az,if_neg h2]
 all_goals rfl
inductive Hv(K:1e5)(vs:5e2)(H:Hp)(Q:VK)(E:XK):Prop
 |mk (a:9e7) (ns:List Int) (k:Nat) (bJ:vs=[.ref a, .int k]) (bT:bH K H a (ns.map V.int)) (cw:ns.length<=63) (dh:∀n,Q (.int n) H)
def oX(K:Uf):Sp:=Hv K
inductive KH(vs:5e2)(H:Hp)(Q:VK)(E:XK):Prop
 |mk (i:Int) (bJ:vs=[.int i]) (bT:Q (.bl true) H)
def yQ:Sp:=KH
inductive OZ(vs:5e2)(H:Hp)(Q:VK)(E:XK):Prop
 |mk (n:Int) (bJ:vs=[.int n]) (bT:1<=n) (cw:n<=999) (dh:Q (.str (fQ n)) H)
def l9:Sp:=OZ
inductive O0(C:9e7)(vs:5e2)(H:Hp)(Q:VK)(E:XK):Prop
 |mk (p dx:9e7) (k:Str) (n:Int) (bJ:vs=[.ref p, .str k, .int n]) (bT:H p=some (.ins C dx [])) (cw:∀H',H' p=some (.ins C dx (yM k n))->(∀b o,H b=some o->b≠p->H' b=some o)->Q .cR H')
def KI(C:Ps):Sp:=O0 C
inductive KJ(C:9e7)(vs:5e2)(H:Hp)(Q:VK)(E:XK):Prop
 |mk (p:9e7) (k:Str) (n:Int) (bJ:vs=[.ref p]) (bT:gW C H p k n) (cw:k.length<=3) (dh:1<=n) (eQ:n<=999) (ir:Q (.str (k++fQ n)) H)
def yR(C:Ps):Sp:=KJ C
inductive Hw(C:9e7)(vs:5e2)(H:Hp)(Q:VK)(E:XK):Prop
 |mk (p:9e7) (k:Str) (n:Int) (bJ:vs=[.ref p]) (bT:gW C H p k n) (cw:∀d,H d=none->Q (.ref d) (upd H d (.dK [(Sum.inr k, .int n)])))
def ug(C:Ps):Sp:=Hw C
structure oY(K:1e5)(mg:2e0)(C:9e7):Prop where
 iy:vQ K C
 yT:dj K C "kind"
 uh:dj K C "count"
 Ul:mg "Atom" =some 4e9
 lu:mg "len" =none
 KL:mg "str" =none
 AY:mg "int" =none
 Um:mg "bool" =none
 jC:mg "range" =none
 dz:mg "isinstance" =none
 k1:kitOne K (.type "int") (.type "int")=some true
 k2:kitOne K (.type "int") (.type "bool")=some false
 k3:kitOne K (.type "dict") (.type "dict")=some true
 k4:kitOne K (.type "str") (.type "str")=some true
 k6:kitOne K (.type "list") (.type "list")=some true
def kI{x y:Str}(h:x.cps.toList=y.cps.toList):x=y:=by
 cases x;simp_all
def O1(a b n:Nat):Builtin.Str.strSliceIndices (some (a:Int)) (some (b:Int)) 1 n=Builtin.Str.strSliceIndices (some (a:Int)) (some ((min b n:Nat):Int)) 1 n:=by
 have h2:¬((b:Int) <0):=by omega
 have h3:¬(((min b n:Nat):Int) <0):=by omega
 have e2:max (0 :Int) (min (b:Int) (n:Int))=max (0 :Int) (min ((min b n:Nat):Int) (n:Int)):=by omega
 simp only [Builtin.Str.strSliceIndices,h2,h3,if_false,e2,show ((1 :Int) >0)=True from by simp,if_true]
def qe(x:Str){a b:Nat}(Wu:a<=b)(ha:a<=x.length):(Txt.slice x (some (a:Int)) (some (b:Int))).cps.toList=(x.cps.toList.drop a).take (b - a):=by
 have hm:a<=min b x.length:=by omega
 have hb:min b x.length<=x.length:=by omega
 have h1:=StrLaws.sliced_plain x hm hb;have h2:=StrLaws.strSliceIndices_plain hm hb;have hl:x.cps.toList.length=x.length:=by simp [Str.length]
 unfold Txt.slice;rw[O1];split
 ·rename_i h
  have h:(Builtin.Str.strSliceIndices (some (a:Int)) (some ((min b x.length:Nat):Int)) 1 x.length).length=x.length:=by simpa using h
  rw[h2,length_map,List.length_range] at h;by_cases hz:x.length=0
  ·have:x.cps.toList=[]:=length_eq_zero_iff.mp 0e2;rw[this];simp
  ·have e:a=0:=by omega
   subst e;rw[List.drop_zero,List.take_of_length_le 0e2]
 ·show (List.filterMap _ _).toArray.toList=_;rw[h1,List.take_eq_take_iff,List.length_drop,hl];omega
noncomputable def iP(x:Str)(p:Nat):Str:=⟨((x.cps.toList.drop p).take 1).toArray⟩
def xq(x:Str){p:Nat}(hp:16e8):Txt.slice x (some (p:Int)) (some ((p:Int)+1))=iP x p:=by
 apply kI;have:=qe x (a:=p) (b:=p+1) 0e2 hp;rw[Nat.add_sub_cancel_left] at this;exact this
noncomputable def inR(lo hi:Nat)(s:Str):Bool:=match s.cps.toList with
 | [c]=>decide (lo<=c)&&decide (c<=hi)
 |_=>false
def Uo(lo:Nat)(s:Str)(h:s.cps.toList.length<=1):(!decide (s.cps.toList< [lo]))=(match s.cps.toList with| [c]=>decide (lo<=c) |_=>false):=by
 match hh:s.cps.toList,h with
 | [],_=>simp
 | [c],_=>
   have:([c] < [lo])↔c<lo:=by simp [List.cons_lt_cons_iff]
   by_cases hc:c<lo
   ·rw[decide_eq_true (this.mpr hc)];simp;omega
   ·rw[decide_eq_false (λz=>hc (this.mp z))];simp;omega
 |_::_::_,h=>simp at h
def Up(hi:Nat)(s:Str)(h:s.cps.toList.length<=1):(!decide ([hi] <s.cps.toList))=(match s.cps.toList with| [c]=>decide (c<=hi) |_=>true):=by
 match hh:s.cps.toList,h with
 | [],_=>simp
 | [c],_=>
   have:([hi] < [c])↔hi<c:=by simp [List.cons_lt_cons_iff]
   by_cases hc:hi<c
   ·rw[decide_eq_true (this.mpr hc)];simp;omega
   ·rw[decide_eq_false (λz=>hc (this.mp z))];simp;omega
 |_::_::_,h=>simp at h
def oZ(x:Str)(p:Nat):(iP x p).cps.toList.length<=1:=by
 unfold iP;simp;omega
def Not(f:Nat->Bool)(l:IN):Prop:=∀c,l.head? =some c->f c=false
noncomputable def qV(c:Nat):Bool:=decide (48<=c)&&decide (c<=57)
noncomputable def wq(c:Nat):Bool:=decide (97<=c)&&decide (c<=122)
noncomputable def Ft(c:Nat):Bool:=decide (65<=c)&&decide (c<=90)
def bM(n:Int):List Nat:=(fQ n).cps.toList
def jK:bM 1=[]:=by decide+kernel
def jZ{n:Nat}(h:n≠1):bM (n:Int)=(Nat.toDigits 10 n).map Char.toNat:=by
 unfold bM fQ;rw[if_neg 0e2];exact PySem.W.KIN.signs_num n
def o5(n:Nat):(bM (n:Int)).all qV=true:=by
 by_cases h:n=1
 ·subst h;rw[show ((1 :Nat):Int)=1 from rfl,jK];rfl
 ·rw[jZ h,all_eq_true];intro c hc;obtain⟨ch,Ja,e⟩:=mem_map.mp hc;have r:=PyProof.Rows.digit_range (Nat.isDigit_of_mem_toDigits 0e1 0e1 Ja);rw[<-e];simp only [qV,and_eq_true,decide_eq_true_eq];exact r
def dig_ne(n:Nat):Nat.toDigits 10 n≠[]:=by
 simp_all
def KN:∀n:Nat,n≠0->(Nat.toDigits 10 n).head? ≠some '0' :=by
 intro n
 induction n using Nat.strongRecOn with
 |_ m ih=>
  intro h0;by_cases h:m<10
  ·rw[Nat.toDigits_of_lt_base h];simp_all
  ·have hm:m%10<10:=Nat.mod_lt m 0e1;have t:Nat.toDigits 10 (m/10)++Nat.toDigits 10 (m%10)=Nat.toDigits 10 (10*(m/10)+m%10):=Nat.toDigits_append_toDigits 0e1 0e2 hm;rw[Nat.div_add_mod] at t;have:=ih (m/10) 0e2 0e2;rw[<-t]
   cases hh:Nat.toDigits 10 (m/10) with
   |nil=>simp_all
   |cons c r=>
    rw[hh] at this;exact this
def KO(n:Nat)(h0:n≠0):(bM (n:Int)).head? ≠some 48:=by
 by_cases h:n=1
 ·subst h;rw[show ((1 :Nat):Int)=1 from rfl,jK];simp
 ·rw[jZ h,List.head?_map];intro z
  cases e:(Nat.toDigits 10 n).head? with
  |none=>rw[e] at z;cases z
  |some c=>
   rw[e] at z;have z:c.toNat=48:=by simpa using z
   have:c='0' :=by
    apply Char.ext;apply UInt32.toNat_inj.mp;exact z
   exact KN n h0 (by rw[e,this])
def O2(n:Nat):bM (n:Int)≠[49]:=by
 by_cases h:n=1
 ·subst h;rw[show ((1 :Nat):Int)=1 from rfl,jK];simp
 ·rw[jZ h];intro z;have:=PySem.W.KIN.val_back n;rw[z] at this;exact h this.symm
def yV(n:Nat)(h:bM (n:Int)=[]):n=1:=by
 by_cases e:n=1
 ·exact e
 ·rw[jZ e] at h;simp_all
def qf{n:Nat}{k:Nat}(hk:0<k)(h:n<10^k):(fQ (n:Int)).length<=k:=by
 unfold fQ;split
 ·exact zero_le _
 ·rw[PySem.ofString_length];show (Nat.repr n).length<=k;rw[Nat.length_repr_le_iff hk];exact h
def yW(n:Nat)(h:n<10^12)(h1:n≠1):PySem.intText? (fQ (n:Int))=some (n:Int):=by
 have hd:PySem.NumText.AllDigits (fQ (n:Int)).cps.toList:=by
  intro c hc;have:=all_eq_true.mp (o5 n) c hc;simpa only [qV,and_eq_true,decide_eq_true_eq] using this
 have nj:(fQ (n:Int)).cps.toList≠[]:=λz=>h1 (yV n z);have e:=PySem.intText_digits hd nj (le_trans (qf 0e1 h) 0e1);rw[show (fQ (n:Int)).cps.toList=_ from jZ h1,PySem.W.KIN.val_back] at e;exact e
instance memKey (k:Key) (K:List Key):Decidable (k∈K):=decidable_of_iff ((K.any λx=>decide (x=k))=true) 2e3
noncomputable def dm(acc:Py)(l:List (Key×Int)):List 19e8:=l.foldl (λacc p=>cU acc p.1 p.2) acc
noncomputable def lI(K:P3)(k:Key):List Key:=if k∈K then K else K++[k]
noncomputable def fR(K L:P3):List Key:=L.foldl lI K
noncomputable def sumK(l:List (Key×Int))(j:Key):Int:=(l.map λp=>if p.1=j then p.2 else 0).sum
def iQ(D:Py)(k j:Key)(n:Int):aM (putK D k (.int n)) j=if j=k then n else aM D j:=by
 unfold aM;rw[JF];by_cases h:j=k
 ·rw[if_pos h,if_pos h]
 ·rw[if_neg h,if_neg h]
def Fu(D:Py)(k j:Key)(n:Int):aM (cU D k n) j=aM D j+if k=j then n else 0:=by
 unfold cU;rw[iQ];by_cases h:j=k
 ·rw[if_pos h,if_pos h.symm,h]
 ·rw[if_neg h,if_neg (Ne.symm h),add_zero]
def uk(D:Py)(k:Key)(v:V):(putK D k v).map 2e1=lI (D.map 2e1) k:=by
 unfold lI
 cases e:cA D k with
 |none=>rw[if_neg (oE e),oA v e,map_append];rfl
 |some x=>
  rw[if_pos (rQ e)];have ha:(D.any λkv=>decide (kv.1=k))=true:=by rw[gj,e];rfl
  unfold putK;rw[if_pos ha,map_map];apply map_congr_left
  lia
theorem ma:∀(l:List (Key×Int)) (acc:Py),(dm acc l).map 2e1=fR (acc.map 2e1) (l.map 2e1)
 | [],_=>rfl
 |p::r,acc=>by
  show (dm (cU acc p.1 p.2) r).map 2e1=fR (lI (acc.map 2e1) p.1) (r.map 2e1);rw[ma r];unfold cU;rw[uk]
theorem o6:∀(l:List (Key×Int)) (acc:Py) (j:Key),aM (dm acc l) j=aM acc j+sumK l j
 | [],acc,j=>by show aM acc j=aM acc j+0;rw[add_zero]
 |p::r,acc,j=>by
  show aM (dm (cU acc p.1 p.2) r) j=aM acc j+((if p.1=j then p.2 else 0)+sumK r j);rw[o6 r,Fu,Int.add_assoc]
theorem sj:∀(l:List (Key×Int)) (acc:Py),bh acc->bh (dm acc l)
 | [],_,h=>h
 |_::r,_,h=>sj r _ (h.add _ _)
theorem DG:∀(l:List (Key×Int)) (acc:Py),(acc.map 2e1).Nodup->((dm acc l).map 2e1).Nodup
 | [],_,h=>h
 |_::r,_,h=>DG r _ (yN h)
def Fv{D:Py}(hI:bh D)(hn:(D.map 2e1).Nodup):D=(D.map 2e1).map λk=>(k,V.int (aM D k)):=by
 rw[map_map];refine(List.map_id D).symm.trans ?_;apply map_congr_left;intro p hp;have e:=i8 hn hp;have:=hI.look e
 grind
def AZ{A B:Py}(hA:bh A)(hB:bh B)(nA:(A.map 2e1).Nodup)(hk:A.map 2e1=B.map 2e1)(hz:∀k,aM A k=aM B k):A=B:=by
 rw[Fv hA nA,Fv hB (hk▸nA),<-hk];simp_all
def KP{K:P3}{k j:Key}:j∈lI K k↔j∈K\/j=k:=by
 unfold lI;split
 ·rename_i h
  exact⟨.inl,λz=>z.elim id λe=>e▸h⟩
 ·simp
theorem o7:∀{L K:P3} {j:Key},j∈fR K L↔j∈K\/j∈L
 | [],K,j=>by show j∈K↔_;simp
 |x::L,K,j=>by
  show j∈fR (lI K x) L↔_;rw[o7,KP,mem_cons,or_assoc]
def Hx(K M:P3)(x:Key):fR K (lI M x)=lI (fR K M) x:=by
 unfold lI;by_cases h:x∈M
 ·rw[if_pos h,if_pos (o7.mpr (.inr h))]
 ·rw[if_neg h];unfold fR;rw[foldl_append];rfl
theorem xr(K:P3):∀(L M:P3),fR K (fR M L)=fR (fR K M) L
 | [],M=>rfl
 |x::L,M=>by
  show fR K (fR (lI M x) L)=fR (lI (fR K M) x) L;rw[xr K L,Hx]
theorem yX(f:Key->Int)(j:Key):∀{Ks:P3},Ks.Nodup->(Ks.map λk=>if k=j then f k else 0).sum=if j∈Ks then f j else 0
 | [],_=>by simp
 |k::Ks,h=>by
  rw[nodup_cons] at h;rw[map_cons,sum_cons,yX f j h.2]
  grind
def mL{D:Py}{j:Key}(h:¬j∈D.map 2e1):aM D j=0:=by
 cases e:cA D j with
 |none=>exact fG e
 |some x=>exact absurd (rQ e) h
theorem A4(c:Int)(j:Key):∀l:List (Key×Int),sumK (l.map λp=>(p.1,p.2*c)) j=sumK l j*c
 | []=>by show (0 :Int)=0*c;rw[zero_mul]
 |p::r=>by
  show (if p.1=j then p.2*c else 0)+sumK (r.map λp=>(p.1,p.2*c)) j=((if p.1=j then p.2 else 0)+sumK r j)*c;rw[A4 c j r,add_mul];split
  ·rfl
  ·rw[zero_mul]
def add_dict(c:Int){acc:Py}(hI:bh acc)(hn:(acc.map 2e1).Nodup)(l:List (Key×Int)):
  dm acc ((dm [] l).map λp=>(p.1,aM (dm [] l) p.1*c))=dm acc (l.map λp=>(p.1,p.2*c)):=by
 have hD:bh (dm [] l):=sj l [] λp hp=>by cases hp
 have nD:((dm [] l).map 2e1).Nodup:=DG l [] nodup_nil;refine AZ (sj _ _ hI) (sj _ _ hI) (DG _ _ hn) ?_ λj=>?_
 ·rw[ma,ma,map_map,map_map];show fR (acc.map 2e1) ((dm [] l).map 2e1)=fR (acc.map 2e1) (l.map 2e1);rw[ma,xr];rfl
 ·rw[o6,o6,A4];congr 1;have e:=yX (λk=>aM (dm [] l) k*c) j nD;rw[map_map] at e
  have e2:sumK ((dm [] l).map λp=>(p.1,aM (dm [] l) p.1*c)) j=if j∈(dm [] l).map 2e1 then aM (dm [] l) j*c else 0:=by
   rw[<-e];unfold sumK;rw[map_map];rfl
  have e3:aM (dm [] l) j=sumK l j:=by
   rw[o6];show (0 :Int)+_=_;rw[zero_add]
  rw[e2];split
  ·rw[e3]
  ·rename_i h
   rw[<-e3,mL h,zero_mul]
theorem sr(t:Int):∀(as:WP) (acc:Py),bj t acc as=dm acc (as.map λp=>((Sum.inr p.1 :Key),p.2*t))
 | [],_=>rfl
 |p::r,acc=>sr t r _
theorem Fw(c:Int)(all:Py):∀(l acc:Py),jJ c acc l all=dm acc (l.map λp=>(p.1,aM all p.1*c))
 | [],_=>rfl
 |p::r,acc=>Fw c all r _
def yY(c t:Int)(as:WP){acc:Py}(hI:bh acc)(hn:(acc.map 2e1).Nodup):jJ c acc (bj t [] as) (bj t [] as)=bj (t*c) acc as:=by
 rw[Fw,sr,sr,add_dict c hI hn,map_map];congr 1;apply map_congr_left
 grind
def ntp:¬(("text" :Str)="place"):=by decide+kernel
noncomputable def jd(x:Str)(p:Nat):List (Str×V):=di "place" (.int p) (di "text" (.str x) [])
def gY(x:Str)(p:Nat):(jd x p).lookup ("text" :Str)=some (.str x):=by
 unfold jd;rw[az,if_neg ntp,az,if_pos rfl]
def aW(x:Str)(p:Nat):(jd x p).lookup ("place" :Str)=some (.int p):=by
 unfold jd;rw[az,if_pos rfl]
def aI(x:Str)(p:Nat){m:Str}(h1:¬m="place" :=by decide+kernel)(h2:¬m="text" :=by decide+kernel):(jd x p).lookup m=none:=by
 unfold jd;rw[az,if_neg h1,az,if_neg h2]
 all_goals rfl
def mM(x:Str)(p q:Nat):di "place" (.int q) (jd x p)=jd x q:=by
 unfold jd;simp only [di,if_neg ntp,if_true]
def mN(x:Str)(p:Nat):(jd x p).length<1000:=by
 unfold jd;simp only [di,if_neg ntp];show 2<1000;decide
def dX(R:Ps)(H:Hp)(r:Ps)(x:Str)(p:Nat):Prop:=∃dx,H r=some (.ins R dx (jd x p))
def Kept(r:Ps)(H H':Hp):Prop:=∀b o,H b=some o->b≠r->H' b=some o
def Kept.refl(r:Ps)(H:Hp):Kept r H H:=λ_ _ h _=>h
def Kept.trans{r:Ps}{H H' cM:Hp}(h:Kept r H H')(h':Kept r H' cM):Kept r H cM:=λb o e n=>h' b o (h b o e n) n
def Kept.of{r:Ps}{H H':Hp}(h:au H H'):Kept r H H':=λb o e _=>h b o e
inductive IspR(lo hi:Nat)(vs:5e2)(H:Hp)(Q:VK)(E:XK):Prop
 |mk (s:Str) (bJ:vs=[.str s]) (bT:s.cps.toList.length<=1) (cw:Q (.bl (inR lo hi s)) H)
def Ri(lo hi:Nat):Sp:=IspR lo hi
inductive KQ(R:9e7)(vs:5e2)(H:Hp)(Q:VK)(E:XK):Prop
 |mk (r dx:9e7) (x:Str) (bJ:vs=[.ref r, .str x]) (bT:H r=some (.ins R dx [])) (cw:∀H',dX R H' r x 0->Kept r H H'->Q .cR H')
def yZ(R:Ps):Sp:=KQ R
inductive O3(R:9e7)(vs:5e2)(H:Hp)(Q:VK)(E:XK):Prop
 |mk (r:9e7) (x:Str) (p:Nat) (bJ:vs=[.ref r]) (bT:18e0) (cw:16e8) (dh:13e2) (eQ:Q (.str (iP x p)) H)
def kJ(R:Ps):Sp:=O3 R
inductive kK(k:19e4):Prop
 |mk (c r:_) (bJ:k=c::r) (bT:Ft c=true) (cw:r.all wq=true) (dh:r.length<=2)
structure wu(K:1e5)(mg:2e0)(C R:9e7)(uK uN:Tok):Prop extends oY K mg C where
 aw:vQ K R
 kL:dj K R "text"
 bN:dj K R "place"
 um:mg "LONGEST_KIND" =some (.int 3 uK)
 rF:mg "LONGEST_COUNT" =some (.int 3 uN)
section
seal ni PS PE PT PW PA PG Ws PI PC ND
variable [js]{P:On}{w:8e8}{K:Uf}{mg:Wp}{base:Heap}{C R G Pc Fo:Ps}{uK uN uB uE uM:Tok}
def O4:ax ["sign"] ["sign"] (ak Dp):=dO
def O5:ax ["sign"] ["sign"] (ak Dx):=dO
def KR:ax ["sign"] ["sign"] (ak yB):=dO
def DH(lo hi:Nat)(s:Str)(h:s.cps.toList.length<=1):(if (!decide (s.cps.toList< [lo]))=true then (!decide ([hi] <s.cps.toList)) else false)=inR lo hi s:=by
 rw[Uo lo s h,Up hi s h];unfold inR
 match hh:s.cps.toList,h with
 | [],_=>rfl
 | [c],_=>
   show (if decide (lo<=c)=true then decide (c<=hi) else false)=(decide (lo<=c)&&decide (c<=hi));cases decide (lo<=c)<;>rfl
 |_::_::_,h=>simp at h
def KS(D:Def K mg "is_great" "is_great" Dp ["sign"]):bA P w K mg base 1 "is_great" ["sign"] (Ri 65 90):=by
 refine D.fF O4 0e4 0e0
 ·obtain⟨n,rfl,_⟩:=h;rfl
 ·obtain⟨x,rfl,hl,q⟩:=h;refine⟨_,(ao (aD (tj iX iX aU 1e3 aU))),?_⟩;rw[<-DH 65 90 x hl] at q;have e1:("A" :Str).cps.toList=[65]:=by decide+kernel
  have e2:("Z" :Str).cps.toList=[90]:=by decide+kernel
  refine⟨_,U,_,_,U,U,_,U,?_⟩;rw[e1]
  cases hh:(!decide (x.cps.toList< [65])) with
  |false=>rw[hh] at q;exact dP q
  |true=>rw[hh] at q;exact gi ⟨_,_,rfl,rfl,by rw[e2];exact q⟩
def KU(D:Def K mg "is_small" "is_small" Dx ["sign"]):bA P w K mg base 1 "is_small" ["sign"] (Ri 97 122):=by
 refine D.fF O5 0e4 0e0
 ·obtain⟨n,rfl,_⟩:=h;rfl
 ·obtain⟨x,rfl,hl,q⟩:=h;refine⟨_,(ao (aD (tj iX iX aU 1e3 aU))),?_⟩;rw[<-DH 97 122 x hl] at q;have e1:("a" :Str).cps.toList=[97]:=by decide+kernel
  have e2:("z" :Str).cps.toList=[122]:=by decide+kernel
  refine⟨_,U,_,_,U,U,_,U,?_⟩;rw[e1]
  cases hh:(!decide (x.cps.toList< [97])) with
  |false=>rw[hh] at q;exact dP q
  |true=>rw[hh] at q;exact gi ⟨_,_,rfl,rfl,by rw[e2];exact q⟩
def Hy(D:Def K mg "is_figure" "is_figure" yB ["sign"]):bA P w K mg base 1 "is_figure" ["sign"] (Ri 48 57):=by
 refine D.fF KR 0e4 0e0
 ·obtain⟨n,rfl,_⟩:=h;rfl
 ·obtain⟨x,rfl,hl,q⟩:=h;refine⟨_,(ao (aD (tj iX iX aU 1e3 aU))),?_⟩;rw[<-DH 48 57 x hl] at q;have e1:("0" :Str).cps.toList=[48]:=by decide+kernel
  have e2:("9" :Str).cps.toList=[57]:=by decide+kernel
  refine⟨_,U,_,_,U,U,_,U,?_⟩;rw[e1]
  cases hh:(!decide (x.cps.toList< [48])) with
  |false=>rw[hh] at q;exact dP q
  |true=>rw[hh] at q;exact gi ⟨_,_,rfl,rfl,by rw[e2];exact q⟩
def O6:ax 12e8 12e8 (ak yG):=dO
def A5(D:lP K R "Reader.__init__" yG 12e8 [])(T:wu K mg C R uK uN):iE P w K mg base 1 R 12e8 [] (yZ R):=by
 refine D.fF O6 0e4 0e0
 ·obtain⟨r,dx,x,rfl,_⟩:=h;rfl
 ·obtain⟨r,dx,x,rfl,hp,q⟩:=h;refine⟨_,(ai (fO 1e3 3e6 rfl) (ao (fO 1e3 aq rfl))),?_⟩;refine⟨_,U,_,U,r,R,dx,[],U,hp,T.aw,T.kL,17e1,_,U,r,R,dx,_,U,af,T.aw,T.bN,12e7,?_⟩;refine q _ ⟨dx,af⟩ λb o e hb=>?_;rw[ah hb,ah hb];exact e
def Uq:ax 1e0 1e0 (ak Fj):=dO
def Fx(D:bw K R "sign" "Reader.sign" Fj 1e0)(T:wu K mg C R uK uN):bU P w K mg base 1 R "sign" 1e0 (kJ R):=by
 refine D.fF Uq 0e4 0e0
 ·obtain⟨r,x,p,rfl,_⟩:=h;rfl
 ·obtain⟨r,x,p,rfl,⟨dx,hR⟩,hp,hx,q⟩:=h;have big:(1000 :Nat)<=sizeLine:=by decide
  refine⟨_,(ao (aD (oB yu 2e6 (ju 2e6) (ju (aB cq 2e6 aq))))),?_⟩;rw[<-xq x hp] at q;exact⟨_,U,r,R,dx,_,_,U,hR,T.aw,T.kL,gY _ _,_,U,r,R,dx,_,_,U,hR,T.aw,T.bN,aW _ _,_,U,_,U,r,R,dx,_,_,U,hR,T.aw,T.bN,aW _ _,_,_,U,U,_,U,x,U,by omega,q⟩
def Ur:ax ["self","sign"] ["self","sign"] (ak Fn):=dO
def xt:ax ["self","signs","sign"] ["self","signs"] (ak oR):=dO
def Hz:ax 1e0 1e0 (ak t8):=dO
def Yz{n:Int}(h1:1<=n)(h2:n<10^12):∃m:Nat,n=(m:Int)/\m<10^12/\m≠0:=⟨n.toNat,by omega,by omega,by omega⟩
def qg:ax ["self","longest","begin","written"] ["self","longest"] (ak oP):=dO
def KW:ax 1e0 1e0 (ak rY):=dO
def aY{r a:Ps}{H H':Hp}{o:HO}(k:Kept r H H')(hr:H' r=some o)(h:H' a=none):H a=none:=by
 cases hh:H a with
 |none=>rfl
 |some o'=>
  by_cases e:a=r
  ·lia
  ·rw[k a o' hh e] at h;cases h
def O7{f:Nat->Bool}{l post:IN}(h1:∀c∈l,f c=false)(h2:Not f post):Not f (l++post):=by
 cases l with
 |nil=>exact h2
 |cons c r=>
  intro d hd;simp_all
def KY{n:Int}(h1:1<=n)(h2:n<=999):∀c∈bM n,wq c=false:=by
 intro c hc;obtain⟨m,rfl,m1,m0⟩:=Yz h1 0e2;have:=all_eq_true.mp (o5 m) c hc;simp only [qV,wq,and_eq_true,decide_eq_true_eq] at*;simp;omega
def y7:ax ["self","begin","kind"] 1e0 (ak yF):=dO
inductive Tr where
 |one (k:19e4) (n:Int)
 |gr (ts:List Tr) (n:Int)
noncomputable def dJ:Nat->Tr->List Nat
 |_, .one k n=>k++bM n
 |0, .gr _ _=>[]
 |d+1, .gr ts n=>40::(ts.flatMap (dJ d)++41::bM n)
def og:Nat->Tr->Prop
 |_, .one k n=>kK k/\1<=n/\n<=999
 |0, .gr _ _=>False
 |d+1, .gr ts n=>ts≠[]/\(∀t∈ts,og d t)/\1<=n/\n<=999
def dF(C G:Ps):Nat->Hp->Addr->Tr->Prop
 |_,H,p, .one k n=>gW C H p 3e0 n
 |0,_,_, .gr _ _=>False
 |d+1,H,p, .gr ts n=>∃dx l ps,H p=some (.ins G dx (oU l n))/\H l=some (.lst (ps.map V.ref))/\Paired (dF C G d H) ps ts
def Us(C G:Ps)(d:Nat)(H H':Hp)(a:Ps)(t:Tr):Prop:=∀cM,7e3->dF C G d cM a t
def NewL(C G L:Ps)(d:Nat)(H H':Hp)(a:Ps)(t:Tr):Prop:=∀cM,(∀b o,H b=none->b≠L->H' b=some o->cM b=some o)->dF C G d cM a t
def YA(C G:Ps)(d:Nat)(H H':Hp)(l:Ps)(ts:List Tr):Prop:=H l=none/\∃ps,H' l=some (.lst (ps.map V.ref))/\∀cM,7e3->Paired (dF C G d cM) ps ts
def Stop(post:IN):Prop:=Not qV post/\Not wq post/\Not Ft post/\Not (λc=>decide (c=40)) post
structure uo(K:1e5)(mg:2e0)(C R G:9e7)(uK uN uB uE uM:Tok):Prop extends wu K mg C R uK uN where
 fM:vQ K G
 qh:dj K G "parts"
 qi:dj K G "count"
 O8:mg "Group" =some (.ref G)
 hX:mg "GROUP_BEGIN" =some (.str "(" uB)
 qW:mg "GROUP_END" =some (.str ")" uE)
 md:mg "MOST_GROUPS_AROUND" =some (.int 3 uM)
def Ut:("(" :Str)=⟨#[40]⟩:=by decide+kernel
def e41:(")" :Str)=⟨#[41]⟩:=by decide+kernel
def y8{d:Nat}{t:Tr}(h:og d t):∃c r,dJ d t=c::r/\((Ft c=true/\∃k n,t= .one k n)\/(c=40/\∃ts n,t= .gr ts n)):=by
 cases t with
 |one k n=>
  have h:kK k/\1<=n/\n<=999:=by cases d<;>exact h
  obtain⟨⟨c,r,rfl,hc,_⟩,_⟩:=h;have e:dJ d (.one (c::r) n)=c::(r++bM n):=by cases d<;>rfl
  exact⟨c,_,e, .inl ⟨hc,_,_,U⟩⟩
 |gr ts n=>
  cases d with
  |zero=>exact h.elim
  |succ d=>exact⟨40,_,U, .inr ⟨U,_,_,U⟩⟩
def O9:ax 3e9 3e9 (ak t5):=dO
inductive KZ(X:9e7)(vs:5e2)(H:Hp)(Q:VK)(E:XK):Prop
 |mk (p dx l:9e7) (c:Int) (xs:5e2) (bJ:vs=[.ref p, .ref l, .int c]) (bT:H p=some (.ins X dx [])) (cw:H l=some (.lst xs)) (dh:∀n H',H n=none->H' p=some (.ins X dx (oU n c))->H' n=some (.lst xs)->(∀b o,H b=some o->b≠p->H' b=some o)->Q .cR H')
def o8(X:Ps):Sp:=KZ X
def gZ{H:Hp}{a b m:Ps}{o o':HO}(h:(upd (upd H a o) b o') m=none):H m=none:=by
 by_cases e:m=b
 ·rw[e,af] at h;cases h
 ·rw[ah e] at h;by_cases e':m=a
  ·rw[e',af] at h;cases h
  ·rwa [ah e'] at h
def Uv(l:IN):Stop (41::l):=by
 refine⟨?_,?_,?_,?_⟩<;>(intro c hc;have e:41=c:=by simpa using hc)<;>subst e<;>decide
def uq:ax ["self","around","parts"] 3e9 (ak mK):=dO
theorem A6{d:Nat}:∀{ts:List Tr},(∀t∈ts,og d t)->ts.length<=(ts.flatMap (dJ d)).length
 | [],_=>le_refl _
 |t::ts,h=>by
  obtain⟨c,r,e,_⟩:=y8 (h t 1e8);have:=A6 (d:=d) (ts:=ts) λu hu=>h u (mem_cons_of_mem _ hu)
  grind
def list_at{α:Type}{l:List α}{i:Nat}(h:i<l.length):l=l.take i++l[i]::l.drop 12e0:=by
 simp_all
def ur{d:Nat}{ts:List Tr}{post:IN}(h:∀t∈ts,og d t)(hs:Stop post):Not qV (ts.flatMap (dJ d)++post)/\Not wq (ts.flatMap (dJ d)++post):=by
 cases ts with
 |nil=>exact⟨hs.1,hs.2.1⟩
 |cons t ts=>
  obtain⟨c,r,e,hc⟩:=y8 (h t 1e8);have hc:Ft c=true\/c=40:=hc.elim (λz=> .inl z.1) λz=> .inr z.1;rw[flatMap_cons,e];refine⟨λb hb=>?_,λb hb=>?_⟩<;>have eb:c=b:=by simpa using hb
  ·subst eb;rcases hc with hc|rfl
   ·simp only [Ft,qV,and_eq_true,decide_eq_true_eq] at*;simp;omega
   ·decide
  ·subst eb;rcases hc with hc|rfl
   ·simp only [Ft,wq,and_eq_true,decide_eq_true_eq] at*;simp;omega
   ·decide
theorem av{α β:Type}{p q:α->β->Prop}(h:∀a b,p a b->q a b):∀{as:List α} {bs:List β},Paired p as bs->Paired q as bs
 |_,_, .nil=> .nil
 |_,_, .cons x t=> .cons (h _ _ x) (av h t)
theorem bI{α β:Type}{p:α->β->Prop}{a:α}{b:β}(x:p a b):∀{as:List α} {bs:List β},Paired p as bs->Paired p (as++[a]) (bs++[b])
 |_,_, .nil=> .cons x .nil
 |_,_, .cons y t=> .cons y (bI x t)
def A7:ax ["self","around","parts"] 3e9 (ak oQ):=dO
noncomputable def lz(n:Int):List Nat:=if n=0 then [] else 94::(bM (if n<0 then -n else n)++[if 0<n then 43 else 45])
def K0(post:IN):Prop:=post=[]\/∃r,post=32::r
def K0.stop{post:IN}(h:K0 post):Stop post:=by
 rcases h with rfl| ⟨r,rfl⟩
 ·refine⟨?_,?_,?_,?_⟩<;>(intro c hc;cases hc)
 ·refine⟨?_,?_,?_,?_⟩<;>(intro c hc;have e:32=c:=by simpa using hc)<;>subst e<;>decide
structure YB(K:1e5)(mg:2e0)(C R:9e7)(uK uN uC uP uI:Tok):Prop extends wu K mg C R uK uN where
 jL:mg "CHARGE_MARK" =some (.str "^" uC)
 y9:mg "PLUS" =some (.str "+" uP)
 ze:mg "MINUS" =some (.str "-" uI)
def YC:("^" :Str)=⟨#[94]⟩:=by decide+kernel
def e43:8e6=⟨#[43]⟩:=by decide+kernel
def YD:("-" :Str)=⟨#[45]⟩:=by decide+kernel
def xu:ax ["self","count"] 1e0 (ak oO):=dO
def npch:¬(("pieces" :Str)="charge"):=by decide+kernel
noncomputable def qX(l:Ps)(n:Int):List (Str×V):=di "charge" (.int n) (di "pieces" 18e6 [])
def kM(l:Ps)(n:Int):(qX l n).lookup ("pieces" :Str)=some 18e6:=by
 unfold qX;rw[az,if_neg npch,az,if_pos rfl]
def o9(l:Ps)(n:Int):(qX l n).lookup ("charge" :Str)=some (.int n):=by
 unfold qX;rw[az,if_pos rfl]
def uu(l:Ps)(n:Int){m:Str}(h1:¬m="charge")(h2:¬m="pieces"):(qX l n).lookup m=none:=by
 unfold qX;rw[az,if_neg h1,az,if_neg h2]
 all_goals rfl
inductive K1(X:9e7)(vs:5e2)(H:Hp)(Q:VK)(E:XK):Prop
 |mk (p dx l:9e7) (c:Int) (xs:5e2) (bJ:vs=[.ref p, .ref l, .int c]) (bT:H p=some (.ins X dx [])) (cw:H l=some (.lst xs)) (dh:∀n H',H n=none->H' p=some (.ins X dx (qX n c))->H' n=some (.lst xs)->(∀b o,H b=some o->b≠p->H' b=some o)->Q .cR H')
def zf(X:Ps):Sp:=K1 X
abbrev ia:=Int×List Tr
inductive kN(C G Pc:9e7)(d:Nat)(H:Hp)(p:9e7)(x:ia):Prop
 |mk (dx l ps:_) (bJ:H p=some (.ins Pc dx (oU l x.1))) (bT:H l=some (.lst (ps.map V.ref))) (cw:Paired (dF C G d H) ps x.2)
inductive me(C G Pc Fo:9e7)(d:Nat)(H:Hp)(f:9e7)(xs:20e0)(n:Int):Prop
 |mk (dx l ps:_) (bJ:H f=some (.ins Fo dx (qX l n))) (bT:H l=some (.lst (ps.map V.ref))) (cw:Paired (kN C G Pc d H) ps xs)
def YE(C G Pc L:Ps)(d:Nat)(H H':Hp)(p:Ps)(x:ia):Prop:=∀cM,(∀b o,H b=none->b≠L->H' b=some o->cM b=some o)->kN C G Pc d cM p x
def Pa(C G Pc Fo:Ps)(d:Nat)(H H':Hp)(f:Ps)(xs:20e0)(n:Int):Prop:=∀cM,7e3->me C G Pc Fo d cM f xs n
noncomputable def nq(d:Nat)(x:ia):List Nat:=bM x.1++x.2.flatMap (dJ d)
noncomputable def d9(d:Nat)(xs:20e0):List Nat:=xs.flatMap λx=>46::nq d x
noncomputable def wL(d:Nat):List ia->Int->List Nat
 | [],_=>[101,94,45]
 |x::r,n=>x.2.flatMap (dJ d)++(d9 d r++lz n)
def Dc(d:Nat)(x:ia):Prop:=x.2≠[]/\(∀t∈x.2,og d t)/\1<=x.1/\x.1<=999
def Jf(d:Nat):List ia->Int->Prop
 | [],n=>n= -1
 |x::r,n=>x.1=1/\(∀y∈x::r,Dc d y)/\ -999<=n/\n<=999
structure m8(K:1e5)(mg:2e0)(C R G Pc Fo:9e7)(uK uN uB uE uM uC uP uI uD uL uT:Tok):Prop extends uo K mg C R G uK uN uB uE uM,YB K mg C R uK uN uC uP uI where
 dY:vQ K Pc
 b7:vQ K Fo
 qj:dj K Pc "parts"
 qk:dj K Pc "count"
 kO:dj K Fo "pieces"
 nN:dj K Fo "charge"
 Fy:mg "Piece" =some (.ref Pc)
 xv:mg "Formula" =some (.ref Fo)
 mf:mg "PIECE_DOT" =some (.str "." uD)
 nO:mg "ELECTRON" =some (.str "e^-" uL)
 uv:mg "LONGEST_TEXT" =some (.int 400 uT)
 n_list:mg "list" =none
 K2:mg "abs" =none
def eE:("e^-" :Str)=⟨#[101,94,45]⟩:=by decide+kernel
def A8:ax 1e0 1e0 (ak kE):=dO
def Fz(n:Int):lz n=[]\/∃r,lz n=94::r:=by
 unfold lz;split
 ·exact .inl rfl
 ·exact .inr 3e5
def xw{c:Nat}{l:IN}(h:c=46\/c=94):Stop (c::l):=by
 refine⟨?_,?_,?_,?_⟩<;>(intro b hb;have e:c=b:=by simpa using hb)<;>subst e<;>rcases h with rfl|rfl<;>decide
def HA(d:Nat)(xs:20e0)(n:Int){post:IN}(hpo:K0 post):Stop (d9 d xs++(lz n++post)):=by
 cases xs with
 |nil=>
  show Stop (lz n++post);rcases Fz n with e| ⟨r,e⟩
  ·rw[e];exact hpo.stop
  ·rw[e];exact xw (.inr rfl)
 |cons x r=>exact xw 9e8
theorem FA(d:Nat):∀xs:List ia,xs.length<=(d9 d xs).length
 | []=>le_refl _
 |y::r=>by
  have ih:=FA d r;show r.length+1<=(46::nq d y++d9 d r).length
  grind
def e46:("." :Str)=⟨#[46]⟩:=by decide+kernel
def uw:ax ["self","pieces","count"] 1e0 (ak rZ):=dO
def HB:ax ["text"] ["text"] (ak t9):=dO
structure YF(K:1e5)(mg:2e0)(C R G Pc Fo:9e7)(uK uN uB uE uM uC uP uI uD uL uT:Tok):Prop extends m8 K mg C R G Pc Fo uK uN uB uE uM uC uP uI uD uL uT where
 K4:mg "Reader" =some (.ref R)
def nP:ax ["text","reader","formula"] ["text"] (ak qb):=dO
def Pb:∀(w:IN),w.all qV=true->w.head? ≠some 48->w≠[]->∃n:Nat,0<n/\(Nat.toDigits 10 n).map Char.toNat=w/\n<10^w.length:=by
 have one:∀c:Nat,c<10->(Nat.toDigits 10 c).map Char.toNat=[c+48]:=by decide
 intro w
 induction hl:w.length generalizing w with
 |zero=>intro _ _ h;exact absurd (length_eq_zero_iff.mp hl) h
 |succ m ih=>
  intro ha hh _;obtain⟨v,c,rfl⟩:∃v c,w=v++[c]:=⟨w.dropLast,w.getLast (by lia),(List.dropLast_concat_getLast _).symm⟩;rw[all_append,and_eq_true] at ha;obtain⟨ha,hc⟩:=ha;have hc:48<=c/\c<=57:=by simpa [qV] using hc
  have hv:v.length=m:=by simpa using hl
  cases v with
  |nil=>
   have hc0:c≠48:=λz=>hh (by rw[z];rfl);refine⟨c - 48,by omega,?_,by have:m=0:=hv.symm;subst this;omega⟩
   grind
  |cons b r=>
   obtain⟨n,n0,en,nl⟩:=ih (b::r) hv ha (λz=>hh (by simpa using z)) 2e3;refine⟨10*n+(c - 48),by omega,?_,?_⟩
   ·rw[<-Nat.toDigits_append_toDigits 0e1 n0 (by omega:c - 48<10),map_append,en,one (c - 48) 0e2,Nat.sub_add_cancel hc.1]
   ·have:m+1=(b::r).length+1:=by omega
    rw[Nat.pow_succ];omega
def Uw{w:IN}(ha:w.all qV=true)(hh:w.head? ≠some 48)(h1:w≠[49]):∃n:Nat,bM (n:Int)=w/\0<n/\(w=[]/\n=1\/w≠[]/\n≠1)/\n<10^(w.length+1)/\(w≠[]->n<10^w.length):=by
 by_cases hw:w=[]
 ·subst hw;exact⟨1,jK,by decide, .inl ⟨U,U⟩,by decide,λz=>absurd rfl z⟩
 ·obtain⟨n,n0,en,nl⟩:=Pb w ha hh hw;have n1:n≠1:=λz=>h1 (by rw[<-en,z];rfl);exact⟨n,by rw[jZ n1,en],n0, .inr ⟨hw,n1⟩,lt_of_lt_of_le nl (Nat.pow_le_pow_right 0e1 0e2),λ_=>nl⟩
abbrev sf(x:Str)(p:Nat):List Nat:=x.cps.toList.drop p
def j2(lg:Nat)(u:IN)(n:Int)(v:IN):Prop:=u=bM n++v/\1<=n/\n<10^lg/\(bM n).length<=lg/\(Not qV v\/(bM n).length=lg)
def ux(u v:IN):Prop:=v=u/\u.head? =some 48\/u=49::v/\Not qV v
inductive mh(u k:19e4)(n:Int)(v:19e4):Prop
 |mk (w:_) (bJ:u=k++w) (bT:kK k) (cw:(k.length=3\/Not wq w)) (dh:j2 3 w n v)
def FC(u v:IN):Prop:=v=u/\Not Ft u\/∃k w,u=k++w/\kK k/\(k.length=3\/Not wq w)/\ux w v
inductive More(u:19e4):Prop
 |mk (c:_) (bJ:u.head? =some c) (bT:(Ft c=true\/c=40))
inductive Sq(p:List Nat->Tr->List Nat->Prop)(u:19e4):List Tr->List Nat->Prop
 |one (t:Tr) (v:19e4) (h:p u t v):Sq p u [t] v
 |snoc (ts:List Tr) (w:19e4) (t:Tr) (v:19e4) (s:Sq p u ts w) (m:More w) (h:p w t v):Sq p u (ts++[t]) v
def FD(p:List Nat->Tr->List Nat->Prop)(u:IN)(ts:List Tr)(v:IN):Prop:=Sq p u ts v/\¬More v
def NH(p:List Nat->Tr->List Nat->Prop)(b:List Nat->List Nat->Prop)(u v:IN):Prop:=b u v\/∃ts w,Sq p u ts w/\More w/\b w v
def lA:Nat->List Nat->Tr->List Nat->Prop
 |0,u,t,v=>∃k n,t= .one k n/\mh u k n v
 |d+1,u,t,v=>(u.head? ≠some 40/\∃k n,t= .one k n/\mh u k n v)\/∃u' ts n w,u=40::u'/\t= .gr ts n/\FD (lA d) u' ts (41::w)/\j2 3 w n v
def K5:Nat->List Nat->List Nat->Prop
 |0,u,v=>FC u v
 |d+1,u,v=>(u.head? ≠some 40/\FC u v)\/∃u',u=40::u'/\(NH (lA d) (K5 d) u' v\/(∃ts,FD (lA d) u' ts v/\v.head? ≠some 41)\/∃ts w,FD (lA d) u' ts (41::w)/\ux w v)
def YG(u:IN)(n:Int)(v:IN):Prop:=(u.head? ≠some 94/\n=0/\v=u)\/∃u' m w,u=94::u'/\j2 3 u' m w/\(w=45::v/\n= -m\/w=43::v/\n=m)
inductive CrB(u v:19e4):Prop
 |mk (u':_) (bJ:u=94::u') (bT:(ux u' v\/∃m,j2 3 u' m v/\v.head? ≠some 45/\v.head? ≠some 43))
def ElB(u v:IN):Prop:=u=101::v/\v.head? ≠some 94\/u=101::94::v/\v.head? ≠some 45
inductive vT(u:19e4):List ia->List Nat->Prop
 |one (ts:List Tr) (v:19e4) (h:FD (lA 4) u ts v):vT u [(1,ts)] v
 |snoc (ps:20e0) (w:19e4) (m:Int) (w1:19e4) (ts:List Tr) (v:19e4) (s:vT u ps (46::w)) (n:j2 3 w m w1) (h:FD (lA 4) w1 ts v):vT u (ps++[(m,ts)]) v
def DI(u:IN)(xs:20e0)(n:Int)(v:IN):Prop:=(u=101::94::45::v/\xs=[]/\n= -1)\/u.head? ≠some 101/\∃w,vT u xs w/\w.head? ≠some 46/\YG w n v
def Rj(u v:IN):Prop:=ElB u v\/u.head? ≠some 101/\(NH (lA 4) (K5 4) u v\/(∃ps w,vT u ps (46::w)/\(ux w v\/∃m w1,j2 3 w m w1/\NH (lA 4) (K5 4) w1 v))\/∃ps w,vT u ps w/\w.head? ≠some 46/\CrB w v)
def FmB(u v:IN):Prop:=Rj u v\/∃xs n,DI u xs n v/\v≠[]
def kQ(x:Str)(p:Nat):(sf x p).length=x.length - p:=by
 unfold sf;rw[List.length_drop];simp [Str.length]
def K6(x:Str)(p:Nat):iP x p=⟨((sf x p).take 1).toArray⟩:=rfl
def gR{x:Str}{p c:Nat}:(V.str (iP x p)=V.str (⟨#[c]⟩:Str))↔(sf x p).head? =some c:=by
 rw[K6]
 cases hs:sf x p with
 |nil=>
  simp_all
 |cons b r=>
  simp_all
def fN{x:Str}{p c:Nat}(h:(sf x p).head? =some c):sf x p=c::sf x (p+1)/\p+1<=x.length:=by
 have hl:=kQ x p;have ed:sf x (p+1)=(sf x p).drop 1:=by simp_all
 cases hs:sf x p with
 |nil=>rw[hs] at h;cases h
 |cons b r=>
  grind
def uz{x:Str}{p:Nat}(lo hi:Nat):inR lo hi (iP x p)=true↔∃c,(sf x p).head? =some c/\(decide (lo<=c)&&decide (c<=hi))=true:=by
 rw[K6]
 cases hs:sf x p with
 |nil=>exact⟨λz=>(by cases z),fun⟨c,z,_⟩=>(by cases z)⟩
 |cons b r=>
  refine⟨λz=>⟨b,U,z⟩,fun⟨c,z,h⟩=>?_⟩;have:b=c:=by simpa using z
  rw[this];exact h
def DJ{x:Str}{p lo hi:Nat}(h:inR lo hi (iP x p)=false):Not (λc=>decide (lo<=c)&&decide (c<=hi)) 18e1:=λc z=>by
 cases hb:(decide (lo<=c)&&decide (c<=hi)) with
 |false=>exact hb
 |true=>rw[(uz lo hi).mpr ⟨c,z,hb⟩] at h;cases h
def K7{x:Str}{p j:Nat}(h:p+j<=x.length):∃w,sf x p=w++sf x (p+j)/\w.length=j/\Txt.slice x (some (p:Int)) (some ((p+j:Nat):Int))=⟨w.toArray⟩:=by
 have hl:=kQ x p;have ed:sf x (p+j)=(sf x p).drop j:=by unfold sf;rw[List.drop_drop]
 refine⟨(sf x p).take j,by rw[ed,take_append_drop],by rw[length_take];omega,?_⟩;apply kI;rw[qe x 0e2 0e2,Nat.add_sub_cancel_left]
variable {HE NF TL:Ps}
structure zg(K:1e5)(mg:2e0)(HE NF TL:9e7):Prop where
 dA:mg "HallError" =some (.ref HE)
 dB:Fe K HE
 A9:mg "NoFormula" =some (.ref NF)
 Wz:mg "TooLong" =some (.ref TL)
 Pd:PySem.W.takerIn K NF "place" =some none
 Ux:PySem.W.takerIn K TL "many" =some none
def pb{n:Int}(h0:0<=n)(h:n<10^50):(toString n:Str).length<=50:=by
 obtain⟨m,rfl⟩:=eq_ofNat_of_zero_le h0;rw[PySem.ofString_length];show (Nat.repr m).length<=50;rw[Nat.length_repr_le_iff 0e1];omega
def pe{n:Int}(h0:0<=n)(h:n<10^50):n.natAbs.log2<1920:=by
 by_cases e:n.natAbs=0
 ·rw[e];decide
 ·have:=(log2_lt e (k:=200)).mpr 0e2;omega
inductive Uy(X:9e7)(fld:Str)(vs:5e2)(H:Hp)(Q:VK)(E:XK):Prop
 |mk (e:9e7) (n:Int) (bJ:vs=[.ref e, .int n]) (bT:H e=some (mZ e X none)) (cw:0<=n) (dh:n<10^50) (eQ:∀dx H',H dx=none->dx≠e->H' e=some (mZ e X 16e0)->H' dx=some (qT dx [(fld, .int n)])->(∀b o,H b=some o->b≠e->H' b=some o)->Q .cR H')
def lB(X:Ps)(fld:Str):Sp:=Uy X fld
def YH:ax 14e9 14e9 (ak Ui):=dO
def Pe:ax 16e4 16e4 (ak Dy):=dO
def Uz(D:lX K mg "NoFormula" NF HE "NoFormula.__init__" Ui 14e9)(T:zg K mg HE NF TL):fP P w K mg base 1 "NoFormula" NF HE 14e9 (lB NF "place"):=by
 obtain⟨f0,_,_,Z,_⟩:=id D;refine D.fF YH 0e4 0e0
 ·obtain⟨e,n,rfl,_⟩:=h;rfl
 ·obtain⟨e,n,rfl,he,n0,n1,q⟩:=h;have big:=bgL;have z1:=pb n0 n1;have y1:("no formula, by place " :Str).length=21:=by decide+kernel
  have y2:(" of the text" :Str).length=12:=by decide+kernel
  have y0:(Str.empty).length=0:=rfl;refine⟨_,(ai (a8 (jY rfl T.dA T.dB 1e3 (mH (bZ aU (bZ (ja 3e6) (bZ aU qa)))))) (ao (gw 1e3 3e6 rfl))),?_⟩;refine⟨_,U,_,U,?_,_,U, .inl ⟨_,U,pe n0 n1,_,U,?_,_,U,?_,?_,e,NF,HE,f0,none,U,Z,he,?_⟩⟩
  any_goals (simp only [aZ,y0,y1,y2];omega)
  refine⟨_,U,_,U,e,NF,HE,f0,U,Z,T.Pd, .inl ⟨he,λdx gK gS=>?_⟩⟩;refine q dx _ gK gS af (by rw[ah gS,af]) λb o z nb=>?_;rw[ah nb,ah (ag z gK)];exact z
def K8(D:lX K mg "TooLong" TL HE "TooLong.__init__" Dy 16e4)(T:zg K mg HE NF TL):fP P w K mg base 1 "TooLong" TL HE 16e4 (lB TL "many"):=by
 obtain⟨f0,_,_,Z,_⟩:=id D;refine D.fF Pe 0e4 0e0
 ·obtain⟨e,n,rfl,_⟩:=h;rfl
 ·obtain⟨e,n,rfl,he,n0,n1,q⟩:=h;have big:=bgL;have z1:=pb n0 n1;have y1:("the text is too long to be read: " :Str).length=33:=by decide+kernel
  have y2:(" signs" :Str).length=6:=by decide+kernel
  have y0:(Str.empty).length=0:=rfl;refine⟨_,(ai (a8 (jY rfl T.dA T.dB 1e3 (mH (bZ aU (bZ (ja 3e6) (bZ aU qa)))))) (ao (gw 1e3 3e6 rfl))),?_⟩;refine⟨_,U,_,U,?_,_,U, .inl ⟨_,U,pe n0 n1,_,U,?_,_,U,?_,?_,e,TL,HE,f0,none,U,Z,he,?_⟩⟩
  any_goals (simp only [aZ,y0,y1,y2];omega)
  refine⟨_,U,_,U,e,TL,HE,f0,U,Z,T.Ux, .inl ⟨he,λdx gK gS=>?_⟩⟩;refine q dx _ gK gS af (by rw[ah gS,af]) λb o z nb=>?_;rw[ah nb,ah (ag z gK)];exact z
def Rz(NF:Ps)(H:Hp)(r:Ps)(E:XK)(e:Nat):Prop:=∀b dx H',H b=none->H dx=none->H' b=some (n9 b NF 16e0)->H' dx=some (qT dx [("place", .int (e:Int))])->Kept r H H'->E (.ref NF) 16e0 H'
def Rz.on{NF:Ps}{H H1:Hp}{r:Ps}{E:XK}{e:Nat}{o:HO}(h:Rz NF H r E e)(k:Kept r H H1)(hr:H1 r=some o):Rz NF H1 r E e:=λb dx H' nb nd h1 h2 k2=>h b dx H' (aY k hr nb) (aY k hr nd) h1 h2 (k.trans k2)
inductive K9(NF R:9e7)(vs:5e2)(H:Hp)(Q:VK)(E:XK):Prop
 |mk (r:9e7) (x:Str) (p c:Nat) (bJ:vs=[.ref r, .str ⟨#[c]⟩]) (bT:18e0) (cw:16e8) (dh:13e2) (eQ:((sf x p).head? =some c->∀H',dX R H' r x (p+1)->Kept r H H'->Q .cR H')) (ir:((sf x p).head? ≠some c->Rz NF H r E p))
def kR(NF R:Ps):Sp:=K9 NF R
inductive Ba(NF R:9e7)(vs:5e2)(H:Hp)(Q:VK)(E:XK):Prop
 |mk (r:9e7) (x:Str) (p:Nat) (s:Str) (bJ:vs=[.ref r, .str s]) (bT:s.cps.all (· <128)=true) (cw:18e0) (dh:16e8) (eQ:13e2) (ir:(sf x p=s.cps.toList++sf x (p+s.length)->p+s.length<=x.length->∀H',dX R H' r x (p+s.length)->Kept r H H'->Q .cR H')) (qQ:(∀i c,s.cps.toList[i]? =some c->sf x p=s.cps.toList.take i++sf x (p+i)->(sf x (p+i)).head? ≠some c->p+i<=x.length->Rz NF H r E (p+i)))
def kS(NF R:Ps):Sp:=Ba NF R
inductive Bb(NF R:9e7)(vs:5e2)(H:Hp)(Q:VK)(E:XK):Prop
 |mk (r:9e7) (x:Str) (p:Nat) (bJ:vs=[.ref r]) (bT:18e0) (cw:16e8) (dh:13e2) (eQ:(p=x.length->Q .cR H)) (ir:(p<x.length->Rz NF H r E p))
def uA(NF R:Ps):Sp:=Bb NF R
def Bc{H:Hp}{r:Ps}{E:XK}{e:Nat}(q:Rz NF H r E e){b dx:Ps}{H5:Hp}(hb:H b=none)(hd:H dx=none)(gS:dx≠b)(vV:H5 dx=some (qT dx [("place", .int (e:Int))]))(k5:∀b' o,(upd H b (mZ b NF none)) b'=some o->b'≠b->H5 b'=some o):E (.ref NF) 16e0 (upd H5 b (n9 b NF 16e0)):=by
 refine q b dx _ hb hd af (by rw[ah gS];exact vV) λb' o z _=>?_;have wx:b'≠b:=ag z hb;rw[ah wx];exact k5 _ _ (by rw[ah wx];exact z) wx
def Bd(D:bw K R "take" "Reader.take" Fn ["self","sign"])(T:wu K mg C R uK uN)(TE:zg K mg HE NF TL)(c1:7e0)(c2:6e0):aV P w K mg base 3 R "take" ["self","sign"] (kR NF R):=by
 obtain⟨_,_,ay⟩:=c1;obtain⟨_,_,aG⟩:=c2;refine D.iO Ur 0e4 0e0
 ·obtain⟨r,x,p,c,rfl,_⟩:=h;rfl
 ·obtain⟨r,x,p,c,rfl,⟨dx,hR⟩,hp,hx,q,qE⟩:=h
  refine⟨_,(ai (bK (aJ oq 4e8 3e6 18e3) 6e1
      aN) (ao (mC 1e3 aq yd))),?_⟩
  refine⟨_,U,r,dx,_,U,hR,aI _ _,r,x,p,U,13e4,hp,hx,_,U,U,_,U,?_⟩;by_cases hc:(sf x p).head? =some c
  ·refine EX (gR.mpr hc) ?_;refine⟨_,U,r,R,dx,_,_,U,hR,T.aw,T.bN,aW _ _,_,_,U,U,dx,_,hR,mN _ _,?_⟩;refine q hc _ ⟨dx,?_⟩ λb o e hb=>?_
   ·rw[af];exact congrArg (λz=>some (HO.ins R dx z)) (mM x p (p+1))
   ·rw[ah hb];exact e
  ·have ne:¬V.str (iP x p)=V.str (⟨#[c]⟩:Str):=λz=>hc (gR.mp z);rw[decide_eq_false ne];refine gi ⟨_,rfl,r,R,dx,_,_,rfl,hR,T.aw,T.bN,aW _ _,14e1,λb hb=>?_⟩;refine⟨b,_,U,af,by omega,by omega,λdM H5 gK gS zh vV k5=>⟨U,b,NF,HE,_,some dM,U,aG.z,zh,?_⟩⟩;exact Bc (qE hc) hb (by rw[ah gS] at gK;exact gK) gS vV k5
variable {HE NF TL:Ps}
def qY(D:bw K R "take_all" "Reader.take_all" oR ["self","signs"])(T:wu K mg C R uK uN)(c1:6e9):aV P w K mg base 4 R "take_all" ["self","signs"] (kS NF R):=by
 obtain⟨_,_,aH⟩:=c1;refine D.iO xt 0e4 0e0
 ·obtain⟨r,x,p,sg,rfl,_⟩:=h;rfl
 ·obtain⟨r,x,p,sg,rfl,ha,hR,hp,hx,q,qE⟩:=h;refine⟨_,(ao (b8 kA rfl (Tu 3e6) (aE (i:=2) xt.nd rfl 0e3) (ao (a8 (b9 1e3 T.aw aH.m aH.ok 1e1 aH.b .nil aL (aa 5e5 aj)))))),?_⟩;refine⟨_,U,sg,U,ha,OH (λi σ H'=>∃v:Option V,σ=[some (.ref r),some (.str sg),v]/\dX R H' r x (p+i)/\Kept r H H'/\sf x p=sg.cps.toList.take i++sf x (p+i)/\p+i<=x.length) ⟨none,U,hR,Kept.refl r H,U,hp⟩ ?_ ?_⟩
  ·rintro i c σ H' hc ⟨v,rfl,⟨dx,d5⟩,kk,es,hpi⟩;have N7:sg.cps.toList[i]? =some c:=by rw[Array.getElem?_toList];exact hc
   refine⟨_,U,r,dx,_,U,d5,aI _ _,_,U,r,x,p+i,c,U,⟨dx,d5⟩,hpi,hx,λhd cM hR'' k''=>?_,λhd=>(qE i c N7 es hd hpi).on kk d5⟩;obtain⟨e1,e2⟩:=fN hd;refine⟨_,U,hR'',kk.trans k'',?_,e2⟩;rw[es,e1,take_add_one,N7,append_assoc];rfl
  ·rintro σ H' ⟨v,rfl,d5,kk,es,hpi⟩;have hl:sg.cps.toList.length=sg.length:=by simp [Str.length]
   refine q ?_ hpi _ d5 kk;have:sg.cps.toList.take sg.length=sg.cps.toList:=List.take_of_length_le 0e2;rw[<-this];exact es
def Be(D:bw K R "take_end" "Reader.take_end" t8 1e0)(T:wu K mg C R uK uN)(TE:zg K mg HE NF TL)(c2:6e0):aV P w K mg base 3 R "take_end" 1e0 (uA NF R):=by
 obtain⟨_,_,aG⟩:=c2;refine D.iO Hz 0e4 0e0
 ·obtain⟨r,x,p,rfl,_⟩:=h;rfl
 ·obtain⟨r,x,p,rfl,⟨dx,hR⟩,hp,hx,q,qE⟩:=h
  refine⟨_,(ao (bK (aJ ou 2e6 (bL iI rfl T.lu ix 17e5) 18e3) 6e1
      aN)),?_⟩
  refine⟨_,U,r,R,dx,_,_,U,hR,T.aw,T.bN,aW _ _,_,U,r,R,dx,_,_,U,hR,T.aw,T.kL,gY _ _,x,U,le_trans hx 0e1,_,_,U,U,_,U,?_⟩;by_cases hc:p<x.length
  ·refine lH 0e2 ⟨_,rfl,r,R,dx,_,_,rfl,hR,T.aw,T.bN,aW _ _,14e1,λb hb=>?_⟩;refine⟨b,_,U,af,by omega,by omega,λdM H5 gK gS zh vV k5=>⟨U,b,NF,HE,_,some dM,U,aG.z,zh,?_⟩⟩;exact Bc (qE hc) hb (by rw[ah gS] at gK;exact gK) gS vV k5
  ·exact ky 0e2 (q 0e2)
inductive DK(NF R:9e7)(vs:5e2)(H:Hp)(Q:VK)(E:XK):Prop
 |mk (r:9e7) (x:Str) (p lg:Nat) (bJ:vs=[.ref r, .int (lg:Int)]) (bT:18e0) (cw:16e8) (dh:13e2) (eQ:2<=lg) (ir:lg<=12) (qQ:(∀n q H',j2 lg 18e1 n (sf x q)->p<=q->q<=x.length->dX R H' r x q->Kept r H H'->Q (.int n) H')) (Di:(∀e,ux 18e1 (sf x e)->p<=e->e<=x.length->Rz NF H r E e))
def ql(NF R:Ps):Sp:=DK NF R
inductive DL(NF R:9e7)(vs:5e2)(H:Hp)(Q:VK)(E:XK):Prop
 |mk (r:9e7) (x:Str) (p:Nat) (bJ:vs=[.ref r]) (bT:18e0) (cw:16e8) (dh:13e2) (eQ:(∀n q H',j2 3 18e1 n (sf x q)->p<=q->q<=x.length->dX R H' r x q->Kept r H H'->Q (.int n) H')) (ir:(∀e,ux 18e1 (sf x e)->p<=e->e<=x.length->Rz NF H r E e))
def iZ(NF R:Ps):Sp:=DL NF R
def uF(D:bw K R "read_number" "Reader.read_number" oP ["self","longest"])(T:wu K mg C R uK uN)(TE:zg K mg HE NF TL)(c1:7e0)(c2:bA P w K mg base 1 "is_figure" ["sign"] (Ri 48 57))(c3:6e0):aV P w K mg base 3 R "read_number" ["self","longest"] (ql NF R):=by
 obtain⟨_,_,ay⟩:=c1;obtain⟨_,_,Bf⟩:=c2;obtain⟨_,_,aG⟩:=c3;refine D.iO qg 0e4 0e0
 ·obtain⟨r,x,p,lg,rfl,_⟩:=h;rfl
 ·obtain⟨r,x,p,lg,rfl,⟨dx,hR⟩,hp,hx,l2,WA,q,qE⟩:=h;have big:(1000 :Nat)<=sizeLine:=by decide
  have e0:("0" :Str)=⟨#[48]⟩:=by decide+kernel
  have e1:("1" :Str)=⟨#[49]⟩:=by decide+kernel
  refine⟨_,(ai (bK (aJ fA 4e8 aU 18e3) 6e1
      aN) (ai (aA (i:=2) qg.nd rfl 0e3 2e6) (ai (jU kA (PW.pt (sX (gT (gN Bf hr (aa 4e8 aj))) (oj (aJ ou (aB km 2e6 5e5) 3e6 18e3)))) (ao (mC 1e3 aq yd))) (ai (aA (i:=3) qg.nd rfl 0e3 (oB yu 2e6 (ju 5e5) (ju 2e6))) (ai (bK (aJ fA 19e2 aU 18e3) 6e1
      aN) (ao (aD (An (tD 19e2 (λ_=>rfl)) (bD He rfl T.AY tP (aa 19e2 aj)) aq)))))))),?_⟩
  refine⟨_,U,r,dx,_,U,hR,aI _ _,r,x,p,U,13e4,hp,hx,U,_,U,?_⟩;by_cases h0:(sf x p).head? =some 48
  ·refine lH (by rw[e0];exact gR.mpr h0) ⟨_,rfl,r,R,dx,_,_,rfl,hR,T.aw,T.bN,aW _ _,14e1,λb hb=>?_⟩;refine⟨b,_,U,af,by omega,by omega,λdM H5 gK gS zh vV k5=>⟨U,b,NF,HE,_,some dM,U,aG.z,zh,?_⟩⟩;exact Bc (qE p (.inl ⟨rfl,h0⟩) 3e1 hp) hb (by rw[ah gS] at gK;exact gK) gS vV k5
  refine ky (by rw[e0];exact λz=>h0 (gR.mp z)) ?_;refine⟨_,U,r,R,dx,_,_,U,hR,T.aw,T.bN,aW _ _,?_⟩;refine⟨λk σ H'=>∃j:Nat,k+j=lg/\p+j<=x.length/\(∃w,sf x p=w++sf x (p+j)/\w.length=j/\w.all qV=true)/\σ=[some (.ref r),some (.int lg),some (.int p),none]/\dX R H' r x (p+j)/\Kept r H H',⟨lg,0,by omega,hp,⟨[],U,U,U⟩,U,13e4,Kept.refl r H⟩,?_⟩;rintro k σ H' ⟨j,hk,hj,⟨w,ew,wl,wf⟩,rfl,⟨dM,d5⟩,kk⟩
  have wh:w.head? ≠some 48:=λz=>h0 (by
   rw[ew]
   cases w with
   |nil=>cases z
   |cons c r=>simpa using z)
  refine⟨_,U,r,dM,_,U,d5,aI _ _,r,x,p+j,U,⟨dM,d5⟩,hj,hx,_,U,oZ _ _,_,U,?_⟩;by_cases hf:inR 48 57 (iP x (p+j))=true/\j<lg
  ·obtain⟨ev,hjl⟩:=hf;obtain⟨c,hc,cF⟩:=(uz 48 57).mp ev;rw[ev];refine gi ⟨_,rfl,r,R,dM,_,_,rfl,d5,T.aw,T.bN,aW _ _,_,rfl,_,_,rfl,rfl,_,rfl,_,_,rfl,rfl,_,rfl,lH 0e2 ?_⟩;refine⟨_,fun σ' cM h=>⟨k - 1,by omega,h⟩,?_⟩;obtain⟨e1',e2'⟩:=fN hc;refine⟨_,U,r,R,dM,_,_,U,d5,T.aw,T.bN,aW _ _,_,_,U,U,dM,_,d5,mN _ _,?_⟩;refine⟨j+1,by omega,e2',⟨w++[c],by rw[ew,e1',append_assoc];rfl,by rw[length_append,wl];rfl,by rw[all_append,wf];simpa [qV] using cF⟩,U,⟨dM,?_⟩,λb o z w=>?_⟩
   ·rw[af];exact congrArg (λz=>some (HO.ins R dM z)) (mM x (p+j) (p+j+1))
   ·rw[ah w];exact kk b o z w
  have he:Not qV (sf x (p+j))\/j=lg:=by
   cases ev:inR 48 57 (iP x (p+j)) with
   |true=>exact .inr (by have:¬j<lg:=λz=>hf ⟨ev,z⟩;omega)
   |false=>exact .inl (DJ ev)
  have ec:Txt.slice x (some (p:Int)) (some ((p+j:Nat):Int))=⟨w.toArray⟩:=by
   obtain⟨w',e1',e2',e3'⟩:=K7 hj;rw[e3',List.append_cancel_right (e1'.symm.trans ew)]
  cases ev:inR 48 57 (iP x (p+j))
  case' true=>
   refine gi ⟨_,rfl,r,R,dM,_,_,rfl,d5,T.aw,T.bN,aW _ _,_,rfl,_,_,rfl,rfl,_,rfl,_,_,rfl,rfl,_,rfl,ky (by have:¬j<lg:=λz=>hf ⟨ev,z⟩;omega) ?_⟩
  case' false=>
   refine dP (dP ?_)
  all_goals
   refine⟨_,U,r,R,dM,_,_,U,d5,T.aw,T.kL,gY _ _,_,U,_,U,_,U,r,R,dM,_,_,U,d5,T.aw,T.bN,aW _ _,_,U,x,U,by omega,?_⟩;rw[ec];by_cases hw1:w=[49]
   ·subst hw1;have hj1:j=1:=wl.symm;refine⟨_,U,U,_,U,lH (by rw[e1]) ⟨_,U,r,R,dM,_,_,U,d5,T.aw,T.bN,aW _ _,14e1,λb hb=>?_⟩⟩;refine⟨b,_,U,af,by omega,by omega,λgy H5 gK gS zh vV k5=>⟨U,b,NF,HE,_,some gy,U,aG.z,zh,?_⟩⟩;exact Bc ((qE (p+j) (.inr ⟨ew,he.elim id λz=>by omega⟩) 0e2 hj).on kk d5) hb (by rw[ah gS] at gK;exact gK) gS vV k5
   ·obtain⟨n,en,n0,hn,_,nl⟩:=Uw wf wh hw1;have es:(⟨w.toArray⟩:Str)=fQ (n:Int):=kI (by rw[<-en];rfl)
    have nw:¬V.str (fQ (n:Int))=V.str "1" :=by
     rw[<-es,e1];intro z;have z:(⟨w.toArray⟩:Str)=⟨#[49]⟩:=by injection z
     exact hw1 (by have:=congrArg (λs:Str=>s.cps.toList) z;simpa using this)
    have lf:(fQ (n:Int)).length=j:=by rw[<-es,<-wl];simp [Str.length]
    have nb:n<10^lg:=by
     by_cases hw:w=[]
     ·have:n=1:=by rcases hn with z|z;exact z.2;exact absurd hw z.1
      rw[this];exact Nat.one_lt_pow 0e2 0e1
     ·exact lt_of_lt_of_le (nl hw) (Nat.pow_le_pow_right 0e1 0e2)
    have n12:n<10^12:=lt_of_lt_of_le nb (Nat.pow_le_pow_right 0e1 WA);have fin:=q n (p+j) H' ⟨by rw[en];exact ew,by omega,by exact_mod_cast nb,by rw[en];omega,by rw[en,wl];exact he⟩ 0e2 hj ⟨dM,d5⟩ kk;rw[es];refine⟨_,U,U,_,U,ky nw ?_⟩;refine⟨_,U,_,⟨by rw[lf];omega,U⟩,?_⟩;rcases hn with ⟨hw,hn⟩ | ⟨hw,hn⟩
    ·have ez:(((fQ (n:Int)).length:Int) != 0)=false:=by rw[lf,<-wl,hw];rfl
     rw[ez];rw[hn] at fin;exact dP fin
    ·have ez:(((fQ (n:Int)).length:Int) != 0)=true:=by
      rw[lf,<-wl];have:w.length≠0:=λz=>hw (length_eq_zero_iff.mp z);simp only [bne_iff_ne,ne_eq];omega
     rw[ez];exact gi ⟨_,rfl,_,_,rfl,yW n n12 hn,by rw[lf];omega,fin⟩
def uH(D:bw K R "read_count" "Reader.read_count" rY 1e0)(T:wu K mg C R uK uN)(c1:aV P w K mg base 3 R "read_number" ["self","longest"] (ql NF R)):aV P w K mg base 4 R "read_count" 1e0 (iZ NF R):=by
 obtain⟨_,_,bR⟩:=c1;refine D.iO KW 0e4 0e0
 ·obtain⟨r,x,p,rfl,_⟩:=h;rfl
 ·obtain⟨r,x,p,rfl,⟨dx,hR⟩,hp,hx,q,qE⟩:=h;refine⟨_,(ao (aD (b9 1e3 T.aw bR.m bR.ok 1e1 bR.b .nil aL (aa (bo (v:= .int 3) rfl T.rF 7e6) aj)))),?_⟩;exact⟨_,U,r,dx,_,U,hR,aI _ _,r,x,p,3,U,13e4,hp,hx,by decide,by decide,q,qE⟩
variable {HE NF TL:Ps}
inductive HC(NF C R:9e7)(vs:5e2)(H:Hp)(Q:VK)(E:XK):Prop
 |mk (r:9e7) (x:Str) (p:Nat) (bJ:vs=[.ref r]) (bT:18e0) (cw:16e8) (dh:13e2) (eQ:(∀k n q a H',mh 18e1 k n (sf x q)->p<=q->q<=x.length->H a=none->gW C H' a 3e0 n->dX R H' r x q->Kept r H H'->Q 18e2 H')) (ir:(∀e,FC 18e1 (sf x e)->p<=e->e<=x.length->Rz NF H r E e))
def uJ(NF C R:Ps):Sp:=HC NF C R
def xx(D:bw K R "read_atom" "Reader.read_atom" yF 1e0)(T:wu K mg C R uK uN)(TE:zg K mg HE NF TL)(c1:7e0)(c2:bA P w K mg base 1 "is_great" ["sign"] (Ri 65 90))(c3:bA P w K mg base 1 "is_small" ["sign"] (Ri 97 122))(c4:11e1)
  (c5:iE P w K mg base 1 C ["self","kind","count"] [1] (KI C)) (c6:6e0):aV P w K mg base 5 R "read_atom" 1e0 (uJ NF C R):=by
 obtain⟨_,_,ay⟩:=c1;obtain⟨_,_,nQ⟩:=c2;obtain⟨_,_,DM⟩:=c3;obtain⟨_,_,aK⟩:=c4;obtain⟨_,_,iy⟩:=c5;obtain⟨_,K',La⟩:=iy.b 1 0e1;obtain⟨_,_,aG⟩:=c6;refine D.iO y7 0e4 0e0
 ·obtain⟨r,x,p,rfl,_⟩:=h;rfl
 ·obtain⟨r,x,p,rfl,⟨dx,hR⟩,hp,hx,q,qE⟩:=h;have big:(1000 :Nat)<=sizeLine:=by decide
  refine⟨_,(ai (bK (nH (gT (gN nQ hr (aa 4e8 aj)))) 6e1
      aN) (ai (aA (i:=1) y7.nd rfl 0e3 2e6) (ai (mC 1e3 aq yd) (ai (jU kA (PW.pt (sX (gT (gN DM hr (aa 4e8 aj))) (oj (aJ ou (aB km 2e6 3e6) (bo (v:= .int 3) rfl T.um 7e6) 18e3)))) (ao (mC 1e3 aq yd))) (ai (aA (i:=2) y7.nd rfl 0e3 (oB yu 2e6 (ju 3e6) (ju 2e6))) (ao (aD (hV iy.m iy.ok 1e1 rfl T.Ul La K' ck (aa 5e5 (aa (cm 1e3 T.aw aK.m aK.ok 1e1 aK.b .nil aL) aj)))))))))),?_⟩
  refine⟨_,U,r,dx,_,U,hR,aI _ _,r,x,p,U,13e4,hp,hx,_,U,oZ _ _,_,U,?_⟩
  cases ev:inR 65 90 (iP x p) with
  |false=>
   refine gi ⟨_,rfl,r,R,dx,_,_,rfl,hR,T.aw,T.bN,aW _ _,14e1,λb hb=>?_⟩;refine⟨b,_,U,af,by omega,by omega,λgy H5 gK gS zh vV k5=>⟨U,b,NF,HE,_,some gy,U,aG.z,zh,?_⟩⟩;exact Bc (qE p (.inl ⟨rfl,DJ ev⟩) 3e1 hp) hb (by rw[ah gS] at gK;exact gK) gS vV k5
  |true=>
  obtain⟨c,hc,cG⟩:=(uz 65 90).mp ev;obtain⟨e1,e2⟩:=fN hc;refine dP ?_;refine⟨_,U,r,R,dx,_,_,U,hR,T.aw,T.bN,aW _ _,?_⟩;refine⟨_,U,r,R,dx,_,_,U,hR,T.aw,T.bN,aW _ _,_,_,U,U,dx,_,hR,mN _ _,?_⟩
  have fw:(upd H r (.ins R dx (di "place" (.int ((p:Int)+1)) (jd x p)))) r=some (.ins R dx (jd x (p+1))):=by
   rw[af];exact congrArg (λz=>some (HO.ins R dx z)) (mM x p (p+1))
  have k1:Kept r H (upd H r (.ins R dx (di "place" (.int ((p:Int)+1)) (jd x p)))):=λb o z w=>by rw[ah w];exact z
  generalize upd H r _=H1 at fw k1 |-;refine⟨λm σ H'=>∃j:Nat,m+j=2/\p+1+j<=x.length/\(∃w,sf x (p+1)=w++sf x (p+1+j)/\w.length=j/\w.all wq=true)/\σ=[some (.ref r),some (.int p),none]/\dX R H' r x (p+1+j)/\Kept r H H',⟨2,0,U,e2,⟨[],U,U,U⟩,U,⟨dx,fw⟩,k1⟩,?_⟩;rintro m σ H' ⟨j,hm,hj,⟨w,ew,wl,wf⟩,rfl,⟨dM,d5⟩,kk⟩;refine⟨_,U,r,dM,_,U,d5,aI _ _,r,x,p+1+j,U,⟨dM,d5⟩,hj,hx,_,U,oZ _ _,_,U,?_⟩;by_cases hf:inR 97 122 (iP x (p+1+j))=true/\j<2
  ·obtain⟨ev,hjl⟩:=hf;obtain⟨b,hb,bS⟩:=(uz 97 122).mp ev;rw[ev];refine gi ⟨_,rfl,r,R,dM,_,_,rfl,d5,T.aw,T.bN,aW _ _,_,rfl,_,_,rfl,rfl,_,_,rfl,rfl,_,rfl,lH 0e2 ?_⟩;refine⟨_,fun σ' cM h=>⟨m - 1,by omega,h⟩,?_⟩;obtain⟨f1,f2⟩:=fN hb;refine⟨_,U,r,R,dM,_,_,U,d5,T.aw,T.bN,aW _ _,_,_,U,U,dM,_,d5,mN _ _,?_⟩;refine⟨j+1,by omega,f2,⟨w++[b],by rw[ew,f1,append_assoc];rfl,by rw[length_append,wl];rfl,by rw[all_append,wf];simpa [wq] using bS⟩,U,⟨dM,?_⟩,λb o z w=>?_⟩
   ·rw[af];exact congrArg (λz=>some (HO.ins R dM z)) (mM x (p+1+j) (p+1+j+1))
   ·rw[ah w];exact kk b o z w
  have he:(c::w).length=3\/Not wq (sf x (p+1+j)):=by
   cases ev:inR 97 122 (iP x (p+1+j)) with
   |true=>exact .inl (by have:¬j<2:=λz=>hf ⟨ev,z⟩;rw[length_cons];omega)
   |false=>exact .inr (DJ ev)
  have ew':sf x p=(c::w)++sf x (p+1+j):=by rw[e1,ew];rfl
  have ok:kK (c::w):=⟨c,w,rfl,by simpa [Ft] using cG,wf,by omega⟩
  have ec:Txt.slice x (some (p:Int)) (some ((p+1+j:Nat):Int))=⟨(c::w).toArray⟩:=by
   obtain⟨w',a1,a2,a3⟩:=K7 (x:=x) (p:=p) (j:=1+j) 0e2;rw[<-Nat.add_assoc] at a1 a3;rw[a3,List.append_cancel_right (a1.symm.trans ew')]
  cases ev:inR 97 122 (iP x (p+1+j))
  case' true=>
   refine gi ⟨_,rfl,r,R,dM,_,_,rfl,d5,T.aw,T.bN,aW _ _,_,rfl,_,_,rfl,rfl,_,_,rfl,rfl,_,rfl,ky (by have:¬j<2:=λz=>hf ⟨ev,z⟩;omega) ?_⟩
  case' false=>
   refine dP (dP ?_)
  all_goals
   refine⟨_,U,r,R,dM,_,_,U,d5,T.aw,T.kL,gY _ _,_,U,_,U,_,U,r,R,dM,_,_,U,d5,T.aw,T.bN,aW _ _,_,U,x,U,by omega,?_⟩;rw[ec];refine⟨_,U,_,U,r,dM,_,U,d5,aI _ _,r,x,p+1+j,U,⟨dM,d5⟩,hj,hx,λn q' H2 hN Pf hq i0 k2=>?_,λe hB hpe AN=>(qE e (.inr ⟨c::w,_,ew',ok,he,hB⟩) 0e2 AN).on kk d5⟩;obtain⟨gy,i0⟩:=i0;refine λa da na HD nea=>⟨a,da,_,n,rfl,af,λH3 h3 k3=>⟨rfl,?_⟩⟩;have s3:au H2 H3:=λb o z=>k3 b o (by rw[ah (ag z na),ah (ag z HD)];exact z) (ag z na);have kf:=(kk.trans k2);exact q (c::w) n q' a H3 ⟨_,ew',ok,he,hN⟩ 0e2 hq (aY kf i0 na) ⟨da,h3⟩ ⟨gy,s3 _ _ i0⟩ (kf.trans (Kept.of s3))
variable {HE NF TL:Ps}
inductive HF(NF C G R:9e7)(d:Nat)(vs:5e2)(H:Hp)(Q:VK)(E:XK):Prop
 |mk (r:9e7) (x:Str) (p a:Nat) (bJ:vs=[.ref r, .int a]) (bT:18e0) (cw:16e8) (dh:13e2) (eQ:a+d=4) (ir:(∀t q y H',lA d 18e1 t (sf x q)->p<q->q<=x.length->H y=none->Us C G d H H' y t->dX R H' r x q->Kept r H H'->Q (.ref y) H')) (qQ:(∀e,K5 d 18e1 (sf x e)->p<=e->e<=x.length->Rz NF H r E e))
def Bg(NF C G R:Ps)(d:Nat):Sp:=HF NF C G R d
def qm(NF C G R:Ps):Nat->Sp
 |0=>λ_ _ _ _=>False
 |d+1=>λvs H Q E=>∃(r:Ps) (x:Str) (p a:Nat) (u':IN),vs=[.ref r, .int a]/\dX R H r x p/\p<=x.length/\x.length<=1000/\a+d+1=4/\sf x p=40::u'/\
  (∀ts n w q y H',FD (lA d) u' ts (41::w)->j2 3 w n (sf x q)->p<q->q<=x.length->H y=none->Us C G (d+1) H H' y (.gr ts n)->dX R H' r x q->Kept r H H'->Q (.ref y) H')/\
  (∀e,(NH (lA d) (K5 d) u' (sf x e)\/(∃ts,FD (lA d) u' ts (sf x e)/\(sf x e).head? ≠some 41)\/∃ts w,FD (lA d) u' ts (41::w)/\ux w (sf x e))->p<=e->e<=x.length->Rz NF H r E e)
inductive DN(NF C G R:9e7)(d:Nat)(vs:5e2)(H:Hp)(Q:VK)(E:XK):Prop
 |mk (r:9e7) (x:Str) (p a:Nat) (bJ:vs=[.ref r, .int a]) (bT:18e0) (cw:16e8) (dh:13e2) (eQ:a+d=4) (ir:(∀ts q l H',FD (lA d) 18e1 ts (sf x q)->p<q->q<=x.length->YA C G d H H' l ts->dX R H' r x q->Kept r H H'->Q 18e6 H')) (qQ:(∀e,NH (lA d) (K5 d) 18e1 (sf x e)->p<=e->e<=x.length->Rz NF H r E e))
def mO(NF C G R:Ps)(d:Nat):Sp:=DN NF C G R d
def mh.lt{x:Str}{p q:Nat}{k:IN}{n:Int}(h:mh 18e1 k n (sf x q))(hp:16e8)(hq:q<=x.length):p<q:=by
 obtain⟨w,e,⟨c,r,rfl,_⟩,_,e2,_⟩:=h;have:=congrArg List.length e;rw[e2,length_append,length_append,kQ,kQ,length_cons] at this;omega
def xy(d:Nat)(D:bw K R "read_part" "Reader.read_part" t5 3e9)(T:7e8)(c1:7e0)(c2:aV P w K mg base 5 R "read_atom" 1e0 (uJ NF C R))(c3:aV P w K mg base (3*d+5) R "read_group" 3e9 (qm NF C G R d)):
  aV P w K mg base (3*d+6) R "read_part" 3e9 (Bg NF C G R d):=by
 obtain⟨_,_,ay⟩:=c1;obtain⟨_,_,fS⟩:=c2;obtain⟨_,_,fj⟩:=c3;refine D.iO O9 0e4 0e0
 ·obtain⟨r,x,p,a,rfl,_⟩:=h;rfl
 ·obtain⟨r,x,p,a,rfl,⟨dx,hR⟩,hp,hx,ha,q,qE⟩:=h
  refine⟨_,(ai (bK (PW.pt (sX (aJ fA (bu 1e3 T.aw ay.m ay.ok 11e8 ay.b .nil ck) (bo (v:= .str "(") rfl T.hX 7e6) 18e3) (oj (aJ QY 3e6 (bo (v:= .int 3) rfl T.md 7e6) 18e3)))) (ao (aD (b9 1e3 T.aw fj.m fj.ok 11e8 fj.b .nil aL 11e2)))
      aN) (ao (aD (cm 1e3 T.aw fS.m fS.ok 11e8 fS.b .nil aL)))),?_⟩
  refine⟨_,U,r,dx,_,U,hR,aI _ _,r,x,p,U,13e4,hp,hx,U,_,U,?_⟩
  have atom:∀{k:IN} {n:Int} {y:Ps} {H':Hp},H y=none->gW C H' y 3e0 n->Us C G d H H' y (.one k n):=fun {k n y H'} ny hA cM ke=>by
   obtain⟨dy,hA⟩:=hA;have e:dF C G d cM y (.one k n)=gW C cM y 3e0 n:=by cases d<;>rfl
   rw[e];exact⟨dy,ke _ _ ny hA⟩
  by_cases Rk:(sf x p).head? =some 40
  ·refine lH (by rw[Ut];exact gR.mpr Rk) ?_;obtain⟨e1,e2⟩:=fN Rk
   cases d with
   |zero=>
    refine⟨_,U,_,_,U,U,_,U,ky 0e2 ?_⟩;exact⟨_,U,r,dx,_,U,hR,aI _ _,r,x,p,U,13e4,hp,hx,λk n q' y H' hA Pf hq ny hy d5 kp=>q (.one k n) q' y H' ⟨k,n,U,hA⟩ (hA.lt hp hq) hq ny (atom ny hy) d5 kp,λe hB=>qE e hB⟩
   |succ d=>
    refine⟨_,U,_,_,U,U,_,U,lH 0e2 ?_⟩;exact⟨_,U,r,dx,_,U,hR,aI _ _,_,U,r,x,p,a,_,U,13e4,hp,hx,by omega,e1,λts n w q' y H' hS hN Pf hq ny hy d5 kp=>q (.gr ts n) q' y H' (.inr ⟨_,ts,n,w,e1,U,hS,hN⟩) Pf hq ny hy d5 kp,λe hB=>qE e (.inr ⟨_,e1,hB⟩)⟩
  ·refine ky (by rw[Ut];exact λz=>Rk (gR.mp z)) ?_;refine⟨_,U,r,dx,_,U,hR,aI _ _,r,x,p,U,13e4,hp,hx,λk n q' y H' hA Pf hq ny hy d5 kp=>q (.one k n) q' y H' ?_ (hA.lt hp hq) hq ny (atom ny hy) d5 kp,λe hB=>qE e ?_⟩
   ·cases d with
    |zero=>exact⟨k,n,U,hA⟩
    |succ d=>exact .inl ⟨Rk,k,n,rfl,hA⟩
   ·cases d with
    |zero=>exact hB
    |succ d=>exact .inl ⟨Rk,hB⟩
variable {HE NF TL:Ps}
def Bh(D:bw K R "read_group" "Reader.read_group" mK 3e9):aV P w K mg base 5 R "read_group" 3e9 (qm NF C G R 0):=
 D.iO (k:=4) uq (λvs H Q E h=>h.elim) (λf a9 A outer s H vs Q E hr h=>h.elim)
def DO(d:Nat)(D:bw K R "read_group" "Reader.read_group" mK 3e9)(T:7e8)(c1:6e9)(c2:11e1)(c3:aV P w K mg base (3*d+7) R "read_parts" 3e9 (mO NF C G R d))
  (c4:iE P w K mg base 1 G 6e7 [1] (o8 G)):aV P w K mg base (3*d+8) R "read_group" 3e9 (qm NF C G R (d+1)):=by
 obtain⟨_,_,aH⟩:=c1;obtain⟨_,_,aK⟩:=c2;obtain⟨_,_,bg⟩:=c3;obtain⟨_,_,fM⟩:=c4;obtain⟨_,HG,HH⟩:=fM.b 1 0e1;refine D.iO uq 0e4 0e0
 ·obtain⟨r,x,p,a,u',rfl,_⟩:=h;rfl
 ·obtain⟨r,x,p,a,u',rfl,⟨dx,hR⟩,hp,hx,ha,hu,q,qE⟩:=h;refine⟨_,(ai (a8 (b9 1e3 T.aw aH.m aH.ok 11e8 aH.b .nil aL (aa (bo (v:= .str "(") rfl T.hX 7e6) aj))) (ai (aA (i:=2) uq.nd rfl 0e3 (b9 1e3 T.aw bg.m bg.ok 11e8 bg.b .nil aL (aa (aB cq 3e6 aq) aj))) (ai (a8 (b9 1e3 T.aw aH.m aH.ok 11e8 aH.b .nil aL (aa (bo (v:= .str ")") rfl T.qW 7e6) aj))) (ao (aD (hV fM.m fM.ok 11e8 rfl T.O8 HH HG ck (aa 5e5 (aa (cm 1e3 T.aw aK.m aK.ok 11e8 aK.b .nil aL) aj)))))))),?_⟩;have Rk:(sf x p).head? =some 40:=by rw[hu];rfl
  obtain⟨eu,e2⟩:=fN Rk;have eu':u'=sf x (p+1):=by lia
  subst eu';refine⟨_,U,r,dx,_,U,hR,aI _ _,r,x,p,40,congrArg (λz=>[V.ref r,V.str z]) Ut,13e4,hp,hx,λ_ H1 fw k1=>?_,λn=>absurd Rk n⟩;obtain⟨pK,fw⟩:=fw;refine⟨_,U,r,pK,_,U,fw,aI _ _,_,U,_,_,U,U,r,x,p+1,a+1,U,⟨pK,fw⟩,e2,hx,by omega,λts q2 l H2 hS NI Bi hN i0 k2=>?_,λe hB h1 h2=>(qE e (.inl hB) 0e2 h2).on k1 fw⟩;obtain⟨gy,i0⟩:=i0;obtain⟨E2,ps,vR,OB⟩:=hN;refine⟨_,U,r,gy,_,U,i0,aI _ _,r,x,q2,41,congrArg (λz=>[V.ref r,V.str z]) e41,⟨gy,i0⟩,Bi,hx,λh41 H3 iR k3=>?_,λn=>(qE q2 (.inr (.inl ⟨ts,hS,n⟩)) 0e2 Bi).on (k1.trans k2) i0⟩;obtain⟨zj,iR⟩:=iR;obtain⟨e3,e3l⟩:=fN h41;rw[e3] at hS;refine⟨_,U,_,U,r,zj,_,U,iR,aI _ _,r,x,q2+1,U,⟨zj,iR⟩,e3l,hx,λn q4 H4 YI hq4 Lb wy k4=>?_,λe hB h1 h2=>(qE e (.inr (.inr ⟨ts,_,hS,hB⟩)) 0e2 h2).on ((k1.trans k2).trans k3) iR⟩;obtain⟨Rl,wy⟩:=wy;have nlr:l≠r:=λz=>by lia
  have Rm:=k4 _ _ (k3 _ _ vR nlr) nlr;refine λg dg ng DP neg=>⟨g,dg,l,n,ps.map V.ref,rfl,af,?_,λm H5 hm hg WB kp=>⟨rfl,?_⟩⟩
  ·rw[ah (ag Rm ng),ah (ag Rm DP)];exact Rm
  have s5:au H4 H5:=λb o z=>kp b o (by rw[ah (ag z ng),ah (ag z DP)];exact z) (ag z ng);have kf:Kept r H H4:=((k1.trans k2).trans k3).trans k4;refine q ts n _ q4 g H5 hS YI 0e2 Lb (aY kf wy ng) (λcM ke=>?_) ⟨Rl,s5 _ _ wy⟩ (kf.trans (Kept.of s5));refine⟨dg,m,ps,ke _ _ (aY kf wy ng) hg,ke _ _ (aY kf wy (gZ hm)) WB,OB cM λb o z1 z2=>?_⟩;have Jg:b≠r:=λz=>by lia
  exact ke _ _ (aY k1 fw z1) (s5 _ _ (k4 _ _ (k3 _ _ z2 Jg) Jg))
def uO(d:Nat)(D:bw K R "read_parts" "Reader.read_parts" oQ 3e9)(T:7e8)(c1:7e0)(c2:bA P w K mg base 1 "is_great" ["sign"] (Ri 65 90))(c3:aV P w K mg base (3*d+6) R "read_part" 3e9 (Bg NF C G R d)):
  aV P w K mg base (3*d+7) R "read_parts" 3e9 (mO NF C G R d):=by
 obtain⟨_,_,ay⟩:=c1;obtain⟨_,_,nQ⟩:=c2;obtain⟨_,_,cI⟩:=c3;refine D.iO A7 0e4 0e0
 ·obtain⟨r,x,p,a,rfl,_⟩:=h;rfl
 ·obtain⟨r,x,p,a,rfl,⟨dx,hR⟩,hp,hx,ha,q,qE⟩:=h;have big:=bgL;refine⟨_,(ai (aA (i:=2) A7.nd rfl 0e3 (cC (aa (b9 1e3 T.aw cI.m cI.ok 11e8 cI.b .nil aL 11e2) aj))) (ai (jU kA (PW.pt (om (gT (gN nQ hr (aa (bu 1e3 T.aw ay.m ay.ok 11e8 ay.b .nil ck) aj))) (lL (aJ fA (bu 1e3 T.aw ay.m ay.ok 11e8 ay.b .nil ck) (bo (v:= .str "(") rfl T.hX 7e6) 18e3)))) (ao (a8 (gP PySem.F.plainAttrs_list PySem.F.slot_list_append PySem.F.type_list_append cH 5e5 (aa (b9 1e3 T.aw cI.m cI.ok 11e8 cI.b .nil aL 11e2) aj))))) (ao (aD 5e5)))),?_⟩;refine⟨_,U,r,dx,_,U,hR,aI _ _,_,U,r,x,p,a,U,13e4,hp,hx,ha,λt q1 y H1 hP Pf Jh ny hN fw k1=>⟨6e6,λL hL=>?_⟩,λe hB=>qE e (.inl hB)⟩;obtain⟨pK,fw⟩:=fw;have vW:H L=none:=aY k1 fw hL;have wz:L≠r:=λz=>by rw[z,fw] at hL;cases hL
  refine⟨λm σ H'=>∃q' ts,m+q'=x.length/\p<q'/\Sq (lA d) 18e1 ts (sf x q')/\σ=[some (.ref r),some (.int a),some (.ref L)]/\dX R H' r x q'/\Kept r H H'/\∃ps,H' L=some (.lst (ps.map V.ref))/\ps.length<=q'/\Paired (NewL C G L d H H') ps ts,⟨x.length - q1,q1,[t],by omega,Pf, .one t _ hP,U,⟨pK,?_⟩,?_,[y],af,by show 1<=q1;omega,?_⟩,?_⟩
  ·rw[ah (Ne.symm wz),fw]
  ·exact k1.trans (Kept.of (au.new hL))
  ·refine .cons (λcM ke=>hN cM λb o z1 z2=>?_) .nil;have Lc:b≠L:=ag z2 hL;exact ke b o z1 Lc (by rw[ah Lc];exact z2)
  rintro m σ H' ⟨q',ts,hm,hpq',hS,rfl,⟨dM,d5⟩,kk,ps,uQ,f6,hP⟩;have jr:q'<=x.length:=by omega
  refine⟨_,U,r,dM,_,U,d5,aI _ _,r,x,q',U,⟨dM,d5⟩,jr,hx,_,U,oZ _ _,_,U,?_⟩;by_cases hM:More (sf x q')
  ·obtain⟨c,hc,hcc⟩:=id hM;have OB:ps.length<sizeLine:=by omega
   rcases hcc with hg|hc40
   case' inl=>
    have ev:inR 65 90 (iP x q')=true:=(uz 65 90).mpr ⟨c,hc,hg⟩;rw[ev];refine gi (gi ?_)
   case' inr=>
    subst hc40
    have ev:inR 65 90 (iP x q')=false:=by
     cases ev:inR 65 90 (iP x q') with
     |false=>rfl
     |true=>
      obtain⟨b,hb,AI⟩:=(uz 65 90).mp ev;rw[hc] at hb;cases hb;cases AI
    rw[ev];refine dP ⟨_,rfl,r,dM,_,rfl,d5,aI _ _,r,x,_,rfl,⟨dM,d5⟩,jr,hx,rfl,_,rfl,lH (by rw[Ut];exact gR.mpr hc) ?_⟩
   all_goals
    refine⟨_,fun σ' cM h=>h,?_⟩;refine⟨_,U, .inl ⟨U,_,bH.of uQ⟩,_,U,r,dM,_,U,d5,aI _ _,_,U,r,x,q',a,U,⟨dM,d5⟩,jr,hx,ha,λt q2 y H2 hT NI Bi ny hN i0 k2=>?_,λe hB h1 h2=>(qE e (.inr ⟨ts,_,hS,hM,hB⟩) 0e2 h2).on kk d5⟩;obtain⟨gy,i0⟩:=i0;have uR:=k2 _ _ uQ wz;refine⟨L,_,_,U,U,uR,by rw[length_map];exact OB,?_⟩;refine⟨x.length - q2,by omega,q2,ts++[t],by omega,by omega, .snoc ts _ t _ hS hM hT,U,⟨gy,?_⟩,λb o z w=>?_,ps++[y],by rw[af,map_append];rfl,by rw[length_append];show ps.length+1<=q2;omega,?_⟩
    ·rw[ah (Ne.symm wz),i0]
    ·rw[ah (ag z vW)];exact k2 _ _ (kk _ _ z w) w
    ·refine bI (λcM ke=>hN cM λb o z1 z2=>?_) (av (λc t h cM ke=>h cM λb o z1 z2 z3=>ke b o z1 z2 ?_) hP)
     ·have Lc:b≠L:=λz=>by rw[z,uQ] at z1;cases z1
      exact ke b o (aY kk d5 z1) Lc (by rw[ah Lc];exact z2)
     ·have Jg:b≠r:=λz=>by rw[z,hR] at z1;cases z1
      rw[ah z2];exact k2 _ _ z3 Jg
  ·have ev:inR 65 90 (iP x q')=false:=by
    cases ev:inR 65 90 (iP x q') with
    |false=>rfl
    |true=>
     obtain⟨b,hb,AI⟩:=(uz 65 90).mp ev;exact absurd ⟨b,hb, .inl AI⟩ hM
   rw[ev];refine dP ⟨_,rfl,r,dM,_,rfl,d5,aI _ _,r,x,_,rfl,⟨dM,d5⟩,jr,hx,rfl,_,rfl,ky (by rw[Ut];exact λz=>hM ⟨40,gR.mp z, .inr rfl⟩) ?_⟩;exact⟨_,U,q ts q' L H' ⟨hS,hM⟩ hpq' jr ⟨vW,ps,uQ,λcM ke=>av (λc t h=>h cM λb o z1 _ z3=>ke b o z1 z3) hP⟩ ⟨dM,d5⟩ kk⟩
theorem qo(D1:bw K R "read_group" "Reader.read_group" mK 3e9)(D2:bw K R "read_part" "Reader.read_part" t5 3e9)(D3:bw K R "read_parts" "Reader.read_parts" oQ 3e9)(T:7e8)
  (c1:7e0) (c2:bA P w K mg base 1 "is_great" ["sign"] (Ri 65 90)) (c3:aV P w K mg base 5 R "read_atom" 1e0 (uJ NF C R)) (c4:6e9) (c5:11e1)
  (c6:iE P w K mg base 1 G 6e7 [1] (o8 G)):∀d:Nat,aV P w K mg base (3*d+7) R "read_parts" 3e9 (mO NF C G R d)
 |0=>uO 0 D3 T c1 c2 (xy 0 D2 T c1 c3 (Bh D1))
 |d+1=>uO (d+1) D3 T c1 c2 (xy (d+1) D2 T c1 c3 (by rw[show 3*(d+1)+5=3*d+8 by omega];exact DO d D1 T c4 c5 (qo D1 D2 D3 T c1 c2 c3 c4 c5 c6 d) c6))
variable {HE NF TL:Ps}{uC uP uI uD uL uT:Tok}
inductive Bj(NF R:9e7)(vs:5e2)(H:Hp)(Q:VK)(E:XK):Prop
 |mk (r:9e7) (x:Str) (p:Nat) (bJ:vs=[.ref r]) (bT:18e0) (cw:16e8) (dh:13e2) (eQ:(∀n q H',YG 18e1 n (sf x q)->p<=q->q<=x.length->dX R H' r x q->Kept r H H'->Q (.int n) H')) (ir:(∀e,CrB 18e1 (sf x e)->p<=e->e<=x.length->Rz NF H r E e))
def uU(NF R:Ps):Sp:=Bj NF R
def qZ(D:bw K R "read_charge" "Reader.read_charge" oO 1e0)(T:YB K mg C R uK uN uC uP uI)(c1:7e0)(c2:6e9)(c3:11e1):
  aV P w K mg base 5 R "read_charge" 1e0 (uU NF R):=by
 obtain⟨_,_,ay⟩:=c1;obtain⟨_,_,aH⟩:=c2;obtain⟨_,_,aK⟩:=c3;refine D.iO xu 0e4 0e0
 ·obtain⟨r,x,p,rfl,_⟩:=h;rfl
 ·obtain⟨r,x,p,rfl,⟨dx,hR⟩,hp,hx,q,qE⟩:=h
  refine⟨_,(ai (bK (aJ oq 4e8 (bo (v:= .str "^") rfl T.jL 7e6) 18e3) (ao (aD aq))
      aN) (ai (a8 (b9 1e3 T.aw aH.m aH.ok 1e1 aH.b .nil aL (aa (bo (v:= .str "^") rfl T.jL 7e6) aj))) (ai (aA (i:=1) xu.nd rfl 0e3 (cm 1e3 T.aw aK.m aK.ok 1e1 aK.b .nil aL)) (ai (bK (aJ fA 4e8 (bo (v:= .str "-") rfl T.ze 7e6) 18e3) (ai (a8 (b9 1e3 T.aw aH.m aH.ok 1e1 aH.b .nil aL (aa (bo (v:= .str "-") rfl T.ze 7e6) aj))) (ao (aD (qP lM 3e6))))
      aN) (ai (a8 (b9 1e3 T.aw aH.m aH.ok 1e1 aH.b .nil aL (aa (bo (v:= .str "+") rfl T.y9 7e6) aj))) (ao (aD 3e6))))))),?_⟩
  refine⟨_,U,r,dx,_,U,hR,aI _ _,r,x,p,U,13e4,hp,hx,U,_,U,?_⟩;by_cases h0:(sf x p).head? =some 94
  ·have eq:V.str (iP x p)=V.str "^" :=by rw[YC];exact gR.mpr h0
   rw[decide_eq_true eq];refine dP ?_;obtain⟨e1,e2⟩:=fN h0;refine⟨_,U,r,dx,_,U,hR,aI _ _,r,x,p,94,congrArg (λz=>[V.ref r,V.str z]) YC,13e4,hp,hx,λ_ H1 fw k1=>?_,λn=>absurd h0 n⟩;obtain⟨pK,fw⟩:=fw;refine⟨_,U,r,pK,_,U,fw,aI _ _,r,x,p+1,U,⟨pK,fw⟩,e2,hx,λm q2 H2 hN NI Bi i0 k2=>?_,λe hB h1 h2=>(qE e ⟨_,e1, .inl hB⟩ 0e2 h2).on k1 fw⟩;obtain⟨gy,i0⟩:=i0;have kk:=k1.trans k2;refine⟨_,U,r,gy,_,U,i0,aI _ _,r,x,_,U,⟨gy,i0⟩,Bi,hx,U,_,U,?_⟩;by_cases NJ:(sf x q2).head? =some 45
   ·obtain⟨f1,f2⟩:=fN NJ;refine lH (by rw[YD];exact gR.mpr NJ) ?_;refine⟨_,U,r,gy,_,U,i0,aI _ _,r,x,q2,45,congrArg (λz=>[V.ref r,V.str z]) YD,⟨gy,i0⟩,Bi,hx,λ_ H3 iR k3=>?_,λn=>absurd NJ n⟩;exact⟨_,U,_,U,q (-m) (q2+1) H3 (.inr ⟨_,m,_,e1,hN, .inl ⟨f1,U⟩⟩) 0e2 f2 iR (kk.trans k3)⟩
   ·refine ky (by rw[YD];exact λz=>NJ (gR.mp z)) ?_;refine⟨_,U,r,gy,_,U,i0,aI _ _,r,x,q2,43,congrArg (λz=>[V.ref r,V.str z]) e43,⟨gy,i0⟩,Bi,hx,λh43 H3 iR k3=>?_,λh43=>(qE q2 ⟨_,e1, .inr ⟨m,hN,NJ,h43⟩⟩ 0e2 Bi).on kk i0⟩;obtain⟨f1,f2⟩:=fN h43;exact⟨_,U,q m (q2+1) H3 (.inr ⟨_,m,_,e1,hN, .inr ⟨f1,U⟩⟩) 0e2 f2 iR (kk.trans k3)⟩
  ·have ne:¬V.str (iP x p)=V.str "^" :=by rw[YC];exact λz=>h0 (gR.mp z)
   rw[decide_eq_false ne];exact gi (q 0 p H (.inl ⟨h0,rfl,rfl⟩) 3e1 hp 13e4 (Kept.refl r H))
inductive wA(NF C G Pc Fo R:9e7)(vs:5e2)(H:Hp)(Q:VK)(E:XK):Prop
 |mk (r:9e7) (x:Str) (p:Nat) (bJ:vs=[.ref r]) (bT:18e0) (cw:16e8) (dh:13e2) (eQ:(sf x p).head? =some 101) (ir:(sf x p=101::94::45::sf x (p+3)->p+3<=x.length->∀f H',H f=none->Pa C G Pc Fo 4 H H' f [] (-1)->dX R H' r x (p+3)->Kept r H H'->Q 8e3 H')) (qQ:(∀e,ElB 18e1 (sf x e)->p<=e->e<=x.length->Rz NF H r E e))
def pf(NF C G Pc Fo R:Ps):Sp:=wA NF C G Pc Fo R
def nv(D:bw K R "read_electron" "Reader.read_electron" kE 1e0)(T:2e2)(c1:aV P w K mg base 4 R "take_all" ["self","signs"] (kS NF R))(c2:iE P w K mg base 1 Fo 14e8 [0] (zf Fo)):
  aV P w K mg base 5 R "read_electron" 1e0 (pf NF C G Pc Fo R):=by
 obtain⟨_,_,aR⟩:=c1;obtain⟨_,_,b7⟩:=c2;obtain⟨_,mi,mj⟩:=b7.b 1 0e1;refine D.iO A8 0e4 0e0
 ·obtain⟨r,x,p,rfl,_⟩:=h;rfl
 ·obtain⟨r,x,p,rfl,⟨dx,hR⟩,hp,hx,h101,q,qE⟩:=h;refine⟨_,(ai (a8 (b9 1e3 T.aw aR.m aR.ok 1e1 aR.b .nil aL (aa (bo (v:= .str "e^-") rfl T.nO 7e6) aj))) (ao (aD (hV b7.m b7.ok 1e1 rfl T.xv mj mi ck (aa (cC aj) (aa (qP lM aq) aj)))))),?_⟩;have ee:("e^-" :Str).cps.toList=[101,94,45]:=by decide+kernel
  have ea:("e^-" :Str).cps.all (· <128)=true:=by decide+kernel
  have el:("e^-" :Str).length=3:=by decide+kernel
  refine⟨_,U,r,dx,_,U,hR,aI _ _,r,x,p,_,U,ea,13e4,hp,hx,λhs hl3 H1 fw k1=>?_,λi c hc hs hn hl=>?_⟩
  ·obtain⟨pK,fw⟩:=fw;rw[ee,el] at hs;rw[el] at hl3 fw;refine⟨9e9,λl hl=>⟨1,U,λg dg ng DP neg=>⟨g,dg,l, -1,[],U,af,?_,λm H5 hm hg WB kp=>⟨U,?_⟩⟩⟩⟩
   ·rw[ah (ag af ng),ah (ag af DP)];exact af
   have sl:au H1 (upd H1 l 9e6):=au.new hl;have s5:au (upd H1 l 9e6) H5:=λb o z=>kp b o (by rw[ah (ag z ng),ah (ag z DP)];exact z) (ag z ng);have kf:Kept r H (upd H1 l 9e6):=k1.trans (Kept.of sl);have WC:=sl _ _ fw;exact q hs hl3 g H5 (aY kf WC ng) (λcM ke=>⟨dg,m,[],ke _ _ (aY kf WC ng) hg,ke _ _ (aY kf WC (gZ hm)) WB, .nil⟩) ⟨pK,s5 _ _ WC⟩ (kf.trans (Kept.of s5))
  ·rw[ee] at hc hs;refine qE (p+i) ?_ 0e2 hl
   match i,hc with
   |0,hc=>
    have:101=c:=by simpa using hc
    subst this;exact absurd h101 hn
   |1,hc=>
    have:94=c:=by simpa using hc
    subst this;exact .inl ⟨hs,hn⟩
   |2,hc=>
    have:45=c:=by simpa using hc
    subst this;exact .inr ⟨hs,hn⟩
inductive DQ(NF C G Pc Fo R:9e7)(vs:5e2)(H:Hp)(Q:VK)(E:XK):Prop
 |mk (r:9e7) (x:Str) (p:Nat) (bJ:vs=[.ref r]) (bT:18e0) (cw:16e8) (dh:13e2) (eQ:(∀xs n q f H',DI 18e1 xs n (sf x q)->p<=q->q<=x.length->H f=none->Pa C G Pc Fo 4 H H' f xs n->dX R H' r x q->Kept r H H'->Q 8e3 H')) (ir:(∀e,Rj 18e1 (sf x e)->p<=e->e<=x.length->Rz NF H r E e))
def qp(NF C G Pc Fo R:Ps):Sp:=DQ NF C G Pc Fo R
def uV(D:bw K R "read_whole" "Reader.read_whole" rZ 1e0)(T:2e2)(c1:7e0)(c2:6e9)(c3:11e1)(c4:aV P w K mg base 19 R "read_parts" 3e9 (mO NF C G R 4))
  (c5:aV P w K mg base 5 R "read_charge" 1e0 (uU NF R)) (c6:aV P w K mg base 5 R "read_electron" 1e0 (pf NF C G Pc Fo R)) (c7:iE P w K mg base 1 Pc 6e7 [1] (o8 Pc)) (c8:iE P w K mg base 1 Fo 14e8 [0] (zf Fo)):
  aV P w K mg base 20 R "read_whole" 1e0 (qp NF C G Pc Fo R):=by
 obtain⟨_,_,ay⟩:=c1;obtain⟨_,_,aH⟩:=c2;obtain⟨_,_,aK⟩:=c3;obtain⟨_,_,bg⟩:=c4;obtain⟨_,_,eU⟩:=c5;obtain⟨_,_,dZ⟩:=c6;obtain⟨_,_,dY⟩:=c7;obtain⟨_,_,b7⟩:=c8;obtain⟨_,HI,HJ⟩:=dY.b 0 0e1;obtain⟨_,HK,HL⟩:=dY.b 1 0e1;obtain⟨_,mi,mj⟩:=b7.b 1 0e1;refine D.iO uw 0e4 0e0
 ·obtain⟨r,x,p,rfl,_⟩:=h;rfl
 ·obtain⟨r,x,p,rfl,⟨dx,hR⟩,hp,hx,q,qE⟩:=h;have big:=bgL
  refine⟨_,(ai (bK (aJ fA 4e8 (bF yj (bo (v:= .str "e^-") rfl T.nO 7e6) aq 1e6) 18e3) (ao (aD (cm 1e3 T.aw dZ.m dZ.ok 1e1 dZ.b .nil aL)))
      aN) (ai (aA (i:=1) uw.nd rfl 0e3 (cC (aa (hV dY.m dY.ok 1e1 rfl T.Fy HJ HI ck (aa (b9 1e3 T.aw bg.m bg.ok 1e1 bg.b .nil aL 16e6) aj)) aj))) (ai (jU kA (aJ fA 4e8 (bo (v:= .str ".") rfl T.mf 7e6) 18e3) (ai (a8 (b9 1e3 T.aw aH.m aH.ok 1e1 aH.b .nil aL (aa (bo (v:= .str ".") rfl T.mf 7e6) aj))) (ai (aA (i:=2) uw.nd rfl 0e3 (cm 1e3 T.aw aK.m aK.ok 1e1 aK.b .nil aL)) (ao (a8 (gP PySem.F.plainAttrs_list PySem.F.slot_list_append PySem.F.type_list_append cH 3e6 (aa (hV dY.m dY.ok 1e1 rfl T.Fy HL HK ck (aa (b9 1e3 T.aw bg.m bg.ok 1e1 bg.b .nil aL 16e6) (aa 5e5 aj))) aj))))))) (ao (aD (hV b7.m b7.ok 1e1 rfl T.xv mj mi ck (aa 3e6 (aa (cm 1e3 T.aw eU.m eU.ok 1e1 eU.b .nil aL) aj)))))))),?_⟩
  refine⟨_,U,r,dx,_,U,hR,aI _ _,r,x,p,U,13e4,hp,hx,"e^-",0,101,U,U,0e5,0e5,U,_,U,?_⟩;by_cases h0:(sf x p).head? =some 101
  ·refine lH (gR.mpr h0) ?_;exact⟨_,U,r,dx,_,U,hR,aI _ _,r,x,p,U,13e4,hp,hx,h0,λhs hl f H' nf hF d5 k'=>q [] (-1) (p+3) f H' (.inl ⟨hs,U,U⟩) 0e2 hl nf hF d5 k',λe hB=>qE e (.inl hB)⟩
  ·refine ky (λz=>h0 (gR.mp z)) ?_;refine⟨_,U,r,dx,_,U,hR,aI _ _,r,x,p,0,U,13e4,hp,hx,U,λts0 q1 l H1 hS Jh Bk hN fw k1=>?_,λe hB=>qE e (.inr ⟨h0, .inl hB⟩)⟩;obtain⟨pK,fw⟩:=fw;obtain⟨hl0,ps0,E2,hps0⟩:=hN;refine λg dg ng DP neg=>⟨g,dg,l,1,ps0.map V.ref,rfl,af,?_,λm H2 hm hg WB kp=>⟨rfl,6e6,λL hL=>?_⟩⟩
   ·rw[ah (ag E2 ng),ah (ag E2 DP)];exact E2
   have s2:au H1 H2:=λb o z=>kp b o (by rw[ah (ag z ng),ah (ag z DP)];exact z) (ag z ng);have i0:=s2 _ _ fw;have k2:Kept r H H2:=k1.trans (Kept.of s2);have vW:H L=none:=aY k2 i0 hL;have wz:L≠r:=λz=>by lia
   have sL:au H2 (upd H2 L (.lst [V.ref g])):=au.new hL;have ng0:=aY k1 fw ng;have nm0:=aY k1 fw (gZ hm);have first:YE C G Pc L 4 H (upd H2 L (.lst [V.ref g])) g (1,ts0):=λcM ke=>
    ⟨dg,m,ps0,ke _ _ ng0 (ag hg hL) (sL _ _ hg),ke _ _ nm0 (ag WB hL) (sL _ _ WB),hps0 cM λb o z1 z2=>ke b o z1 (ag (s2 _ _ z2) hL) (sL _ _ (s2 _ _ z2))⟩
   refine⟨λk σ H'=>∃q' xs,k+q'=x.length/\p<q'/\vT 18e1 xs (sf x q')/\(∃v:Option V,σ=[some (.ref r),some (.ref L),v])/\dX R H' r x q'/\Kept r H H'/\∃ps,H' L=some (.lst (ps.map V.ref))/\ps.length<=q'/\Paired (YE C G Pc L 4 H H') ps xs,⟨x.length - q1,q1,[(1,ts0)],by omega,Jh, .one ts0 _ hS,⟨none,U⟩,⟨pK,sL _ _ i0⟩,k2.trans (Kept.of sL),[g],af,by show 1<=q1;omega, .cons first .nil⟩,?_⟩
   rintro k σ H' ⟨q',xs,hk,Pf,NK,⟨v,rfl⟩,⟨dM,d5⟩,kk,ps,uQ,f6,hP⟩;have jr:q'<=x.length:=by omega
   refine⟨_,U,r,dM,_,U,d5,aI _ _,r,x,_,U,⟨dM,d5⟩,jr,hx,U,_,U,?_⟩;by_cases WD:(sf x q').head? =some 46
   ·obtain⟨f1,f2⟩:=fN WD;rw[f1] at NK;refine lH (by rw[e46];exact gR.mpr WD) ?_;refine⟨_,fun σ' cM h=>h,?_⟩;refine⟨_,U,r,dM,_,U,d5,aI _ _,r,x,q',46,congrArg (λz=>[V.ref r,V.str z]) e46,⟨dM,d5⟩,jr,hx,λ_ H3 iR k3=>?_,λn=>absurd WD n⟩;obtain⟨zj,iR⟩:=iR;refine⟨_,U,r,zj,_,U,iR,aI _ _,r,x,q'+1,U,⟨zj,iR⟩,f2,hx,λc q4 H4 hC hq4 Lb wy k4=>?_,λe hB h1 h2=>(qE e (.inr ⟨h0, .inr (.inl ⟨xs,_,NK, .inl hB⟩)⟩) 0e2 h2).on (kk.trans k3) iR⟩;obtain⟨Rl,wy⟩:=wy;have UA:=k3.trans k4;have zo:=UA _ _ uQ wz;refine⟨_,U, .inl ⟨U,_,bH.of zo⟩,_,U,r,Rl,_,U,wy,aI _ _,r,x,q4,0,U,⟨Rl,wy⟩,Lb,hx,U,λlJ q5 l' H5 T7 hq5 hq5l hN' Ld k5=>?_,λe hB h1 h2=>(qE e (.inr ⟨h0, .inr (.inl ⟨xs,_,NK, .inr ⟨c,_,hC,hB⟩⟩)⟩) 0e2 h2).on (kk.trans UA) wy⟩;obtain⟨dx5,Ld⟩:=Ld;obtain⟨hl0',Pg,UB,hps'⟩:=hN';refine⟨_,U,λg' YJ Ji Le neg'=>⟨g',YJ,l',c,Pg.map V.ref,U,af,?_,λm' H6 hm' su UC kp'=>⟨U,?_⟩⟩⟩
    ·rw[ah (ag UB Ji),ah (ag UB Le)];exact UB
    have s6:au H5 H6:=λb o z=>kp' b o (by rw[ah (ag z Ji),ah (ag z Le)];exact z) (ag z Ji);have k36:Kept r H' H6:=(UA.trans k5).trans (Kept.of s6);have j3:=k5 _ _ zo wz;have Cv:=s6 _ _ j3;have k45:Kept r H H4:=kk.trans UA;have k55:Kept r H H5:=k45.trans k5;refine⟨L,_,_,U,U,Cv,by rw[length_map];omega,x.length - q5,by omega,q5,xs++[(c,lJ)],by omega,by omega, .snoc xs _ c _ lJ _ NK hC T7,7e6,⟨dx5,?_⟩,λb o z w=>?_,ps++[g'],by rw[af,map_append];rfl,by rw[length_append];show ps.length+1<=q5;omega,?_⟩
    ·rw[ah (Ne.symm wz),s6 _ _ Ld]
    ·rw[ah (ag z vW)];exact k36 _ _ (kk _ _ z w) w
    ·refine bI (λcM ke=>?_) (av (λc t h cM ke=>h cM λb o z1 z2 z3=>ke b o z1 z2 ?_) hP)
     ·have u:∀{b o},H6 b=some o->b≠L->(upd H6 L (.lst (ps.map V.ref++[V.ref g']))) b=some o:=fun {b o} z w=>by rw[ah w];exact z
      have ngL:g'≠L:=λz=>by rw[z,j3] at Ji;cases Ji
      have nm5:=gZ hm';have nmL:m'≠L:=λz=>by rw[z,j3] at nm5;cases nm5
      refine⟨YJ,m',Pg,ke _ _ (aY k55 Ld Ji) ngL (u su ngL),ke _ _ (aY k55 Ld nm5) nmL (u UC nmL),hps' cM λb o z1 z2=>?_⟩;have Lc:b≠L:=λz=>by rw[z,zo] at z1;cases z1
      exact ke b o (aY k45 wy z1) Lc (u (s6 _ _ z2) Lc)
     ·have Jg:b≠r:=λz=>by rw[z,hR] at z1;cases z1
      rw[ah z2];exact k36 _ _ z3 Jg
   ·refine ky (by rw[e46];exact λz=>WD (gR.mp z)) ?_;refine⟨_,U,_,U,r,dM,_,U,d5,aI _ _,r,x,q',U,⟨dM,d5⟩,jr,hx,λn q3 H3 hC UD UE iR k3=>?_,λe hB h1 h2=>(qE e (.inr ⟨h0, .inr (.inr ⟨xs,_,NK,WD,hB⟩)⟩) 0e2 h2).on kk d5⟩;obtain⟨zj,iR⟩:=iR;have nR:=k3 _ _ uQ wz;have k03:=kk.trans k3;refine λg' YJ Ji Le neg'=>⟨g',YJ,L,n,ps.map V.ref,rfl,af,?_,λm' H6 hm' su UC kp'=>⟨rfl,?_⟩⟩
    ·rw[ah (ag nR Ji),ah (ag nR Le)];exact nR
    have s6:au H3 H6:=λb o z=>kp' b o (by rw[ah (ag z Ji),ah (ag z Le)];exact z) (ag z Ji);refine q xs n q3 g' H6 (.inr ⟨h0,_,NK,WD,hC⟩) 0e2 UE (aY k03 iR Ji) (λcM ke=>?_) ⟨zj,s6 _ _ iR⟩ (k03.trans (Kept.of s6));refine⟨YJ,m',ps,ke _ _ (aY k03 iR Ji) su,ke _ _ (aY k03 iR (gZ hm')) UC,av (λc t h=>h cM λb o z1 z2 z3=>ke b o z1 ?_) hP⟩;have Jg:b≠r:=λz=>by rw[z,hR] at z1;cases z1
    exact s6 _ _ (k3 _ _ z3 Jg)
variable {HE NF TL:Ps}{uC uP uI uD uL uT:Tok}
def Rf(X:Ps)(fld:Str)(H:Hp)(E:XK)(e:Nat):Prop:=∀b dx H',H b=none->H dx=none->H' b=some (n9 b X 16e0)->H' dx=some (qT dx [(fld, .int (e:Int))])->au H H'->E (.ref X) 16e0 H'
inductive Bl(TL:9e7)(vs:5e2)(H:Hp)(Q:VK)(E:XK):Prop
 |mk (x:Str) (bJ:vs=[.str x]) (bT:x.length<=10000) (cw:(x.length<=400->Q .cR H)) (dh:(400<x.length->Rf TL "many" H E x.length))
def nS(TL:Ps):Sp:=Bl TL
inductive Lf(NF TL C G Pc Fo:9e7)(vs:5e2)(H:Hp)(Q:VK)(E:XK):Prop
 |mk (x:Str) (bJ:vs=[.str x]) (bT:x.length<=10000) (cw:(x.length<=400->∀xs n f H',DI x.cps.toList xs n []->H f=none->Pa C G Pc Fo 4 H H' f xs n->au H H'->Q 8e3 H')) (dh:(x.length<=400->∀e,e<=x.length->FmB x.cps.toList (sf x e)->Rf NF "place" H E e)) (eQ:(400<x.length->Rf TL "many" H E x.length))
def FE(NF TL C G Pc Fo:Ps):Sp:=Lf NF TL C G Pc Fo
def Bm(D:Def K mg "refuse_too_long" "refuse_too_long" t9 ["text"])(T:2e2)(TE:zg K mg HE NF TL)(c1:fP P w K mg base 1 "TooLong" TL HE 16e4 (lB TL "many")):lq P w K mg base 3 "refuse_too_long" ["text"] (nS TL):=by
 obtain⟨_,_,i3⟩:=c1;refine D.iO HB 0e4 0e0
 ·obtain⟨x,rfl,_⟩:=h;rfl
 ·obtain⟨x,rfl,hx,q,qE⟩:=h;have big:(10000 :Nat)<=sizeLine:=by decide
  refine⟨_,(ao (bK (aJ lN (bL iI rfl T.lu ix 15e5) (bo (v:= .int 400) rfl T.uv 7e6) 18e3) (ao (gu rfl aL (gq i3.z i3.ok 1e1 rfl i3.g i3.kp i3.b (aa (bL iI rfl T.lu ix 15e5) aj))))
      aN)),?_⟩
  refine⟨_,U,x,U,by omega,_,_,U,U,_,U,?_⟩;by_cases h:400<x.length
  ·refine lH 0e2 ⟨_,rfl,x,rfl,by omega,14e1,λb hb=>?_⟩;refine⟨b,_,U,af,by omega,by omega,λgy H5 gK gS zh vV k5=>⟨U,b,TL,HE,_,some gy,U,i3.z,zh,?_⟩⟩;rw[ah gS] at gK;refine qE h b gy _ hb gK af (by rw[ah gS];exact vV) λb' o z=>?_;have wx:b'≠b:=ag z hb;rw[ah wx];exact k5 _ _ (by rw[ah wx];exact z) wx
  ·exact ky 0e2 (q 0e2)
def zp(D:Def K mg "read_formula" "read_formula" qb ["text"])(T:YF K mg C R G Pc Fo uK uN uB uE uM uC uP uI uD uL uT)(c1:lq P w K mg base 3 "refuse_too_long" ["text"] (nS TL))(c2:iE P w K mg base 1 R 12e8 [] (yZ R))(c3:aV P w K mg base 20 R "read_whole" 1e0 (qp NF C G Pc Fo R))(c4:aV P w K mg base 3 R "take_end" 1e0 (uA NF R)):
  lq P w K mg base 21 "read_formula" ["text"] (FE NF TL C G Pc Fo):=by
 obtain⟨_,_,bO⟩:=c1;obtain⟨_,_,aw⟩:=c2;obtain⟨_,_,bW⟩:=c3;obtain⟨_,_,gD⟩:=c4;obtain⟨_,DR,DS⟩:=aw.b 0 0e1;refine D.iO nP 0e4 0e0
 ·obtain⟨x,rfl,_⟩:=h;rfl
 ·obtain⟨x,rfl,hx,q,qE,qL⟩:=h;refine⟨_,(ai (a8 (lV bO.ok 1e1 rfl bO.g bO.kp bO.b .nil aL 15e5)) (ai (aA (i:=1) nP.nd rfl 0e3 (hV aw.m aw.ok 1e1 rfl T.K4 DS DR ck 15e5)) (ai (aA (i:=2) nP.nd rfl 0e3 (cm 3e6 T.aw bW.m bW.ok 1e1 bW.b .nil aL)) (ai (a8 (cm 3e6 T.aw gD.m gD.ok 1e1 gD.b .nil aL)) (ao (aD 5e5)))))),?_⟩;refine⟨_,U,x,U,hx,λh4=>?_,qL⟩;have q:=q h4;have qE:=qE h4;refine⟨_,U,λr dr nr ndr ner=>⟨r,dr,x,U,af,λH1 fw k1=>⟨U,?_⟩⟩⟩;obtain⟨pK,fw⟩:=fw;have s1:au H H1:=λb o z=>k1 b o (by rw[ah (ag z nr),ah (ag z ndr)];exact z) (ag z nr)
  have back:∀b,H1 b=none->H b=none:=λb z=>by
   cases hh:H b with
   |none=>rfl
   |some o=>rw[s1 _ _ hh] at z;cases z
  have up:∀{e},Rf NF "place" H E e->Rz NF H1 r E e:=λh b dx H' nb nd h1 h2 k=>h b dx H' (back b nb) (back dx nd) h1 h2 λb o z=>k b o (s1 _ _ z) (ag z nr);have xl:x.cps.toList.length=x.length:=by simp [Str.length]
  refine⟨_,U,r,pK,_,U,fw,aI _ _,r,x,0,U,⟨pK,fw⟩,zero_le _,by omega,λxs n q2 f H2 hW _ NI nf hF i0 k2=>?_,λe hB _ he=>up (qE e he (.inl hB))⟩;obtain⟨gy,i0⟩:=i0;refine⟨_,U,r,gy,_,U,i0,aI _ _,r,x,q2,U,⟨gy,i0⟩,NI,by omega,λh=>?_,λh=>(up (qE q2 NI (.inr ⟨xs,n,hW,?_⟩))).on k2 i0⟩
  ·refine⟨_,U,q xs n f H2 ?_ (back f nf) (λcM ke=>hF cM λb o z1 z2=>ke b o (back b z1) z2) λb o z=>k2 b o (s1 _ _ z) (ag z nr)⟩
   grind
  simp_all
variable {HE NF TL NC TM:Ps}
structure FF(K:1e5)(mg:2e0)(HE NF TL NC TM:9e7):Prop extends zg K mg HE NF TL where
 uW:mg "NoChange" =some (.ref NC)
 WE:mg "TooMany" =some (.ref TM)
 Lg:PySem.W.takerIn K NC "place" =some none
 Ph:PySem.W.takerIn K TM "many" =some none
 zq:PySem.W.AS K NF
 Pj:PySem.W.findIn K (.ref NF) "place" =some none
 up:PySem.W.mroIn K NF (.ref NF)=some true
 lt:js.AQ NC
 nl:¬js.AQ NF
def YK:ax 14e9 14e9 (ak Uh):=dO
def Pl:ax 16e4 16e4 (ak Dz):=dO
def UG(D:lX K mg "NoChange" NC HE "NoChange.__init__" Uh 14e9)(T:FF K mg HE NF TL NC TM):Dh P w K mg base 1 "NoChange" NC HE 14e9 (lB NC "place"):=by
 obtain⟨f0,_,_,Z,_⟩:=id D;refine D.calH YK 0e4 (λf e' a9 A outer s H vs Q E hr h=>?_)
 ·obtain⟨e,n,rfl,_⟩:=h;rfl
 ·obtain⟨e,n,rfl,he,n0,n1,q⟩:=h;have big:=bgL;have z1:=pb n0 n1;have y1:("no change, by place " :Str).length=20:=by decide+kernel
  have y2:(" of the text" :Str).length=12:=by decide+kernel
  have y0:(Str.empty).length=0:=rfl;refine⟨_,(ai (a8 (jY rfl T.dA T.dB 1e3 (mH (bZ aU (bZ (ja 3e6) (bZ aU qa)))))) (ao (gw 1e3 3e6 rfl))),?_⟩;refine⟨_,U,_,U,?_,_,U, .inl ⟨_,U,pe n0 n1,_,U,?_,_,U,?_,?_,e,NC,HE,f0,none,U,Z,he,?_⟩⟩
  any_goals (simp only [aZ,y0,y1,y2];omega)
  refine⟨_,U,_,U,e,NC,HE,f0,U,Z,T.Lg, .inl ⟨he,λdx gK gS=>?_⟩⟩;refine q dx _ gK gS af (by rw[ah gS,af]) λb o z nb=>?_;rw[ah nb,ah (ag z gK)];exact z
def Lh(D:lX K mg "TooMany" TM HE "TooMany.__init__" Dz 16e4)(T:FF K mg HE NF TL NC TM):fP P w K mg base 1 "TooMany" TM HE 16e4 (lB TM "many"):=by
 obtain⟨f0,_,_,Z,_⟩:=id D;refine D.fF Pl 0e4 0e0
 ·obtain⟨e,n,rfl,_⟩:=h;rfl
 ·obtain⟨e,n,rfl,he,n0,n1,q⟩:=h;have big:=bgL;have z1:=pb n0 n1;have y1:("too many: " :Str).length=10:=by decide+kernel
  have y0:(Str.empty).length=0:=rfl;refine⟨_,(ai (a8 (jY rfl T.dA T.dB 1e3 (mH (bZ aU (bZ (ja 3e6) qa))))) (ao (gw 1e3 3e6 rfl))),?_⟩;refine⟨_,U,_,U,?_,_,U, .inl ⟨_,U,pe n0 n1,_,U,?_,?_,e,TM,HE,f0,none,U,Z,he,?_⟩⟩
  any_goals (simp only [aZ,y0,y1];omega)
  refine⟨_,U,_,U,e,TM,HE,f0,U,Z,T.Ph, .inl ⟨he,λdx gK gS=>?_⟩⟩;refine q dx _ gK gS af (by rw[ah gS,af]) λb o z nb=>?_;rw[ah nb,ah (ag z gK)];exact z
def bP(a b:IN):(⟨a.toArray⟩:Str)++⟨b.toArray⟩=⟨(a++b).toArray⟩:=by
 show (⟨a.toArray++b.toArray⟩:Str)=_;simp
theorem FG(d:Nat):∀ts:List Tr,jn (ts.map λt=>(⟨(dJ d t).toArray⟩:Str))=⟨(ts.flatMap (dJ d)).toArray⟩
 | []=>rfl
 |t::ts=>by
  rw[map_cons,OY,FG d ts,bP,flatMap_cons]
def bp(a:IN):(⟨a.toArray⟩:Str).length=a.length:=by simp [Str.length]
def dC(n:Int):fQ n=⟨(bM n).toArray⟩:=by
 apply kI;simp [bM]
def zr{d:Nat}{ts:List Tr}{t:Tr}(h:t∈ts):(dJ d t).length<=(ts.flatMap (dJ d)).length:=by
 obtain⟨s,r,rfl⟩:=append_of_mem h
 grind
def qq(C G:Ps):Nat->Sp
 |0=>λ_ _ _ _=>False
 |d+1=>λvs H Q _=>∃(g:Ps) (ts:List Tr) (n:Int),vs=[.ref g]/\dF C G (d+1) H g (.gr ts n)/\og (d+1) (.gr ts n)/\(dJ (d+1) (.gr ts n)).length<=1000/\∀H',au H H'->Q (.str ⟨(dJ (d+1) (.gr ts n)).toArray⟩) H'
inductive DT(C G:9e7)(d:Nat)(vs:5e2)(H:Hp)(Q:VK)(E:XK):Prop
 |mk (l:9e7) (ps:List Addr) (ts:List Tr) (bJ:vs=[.ref l]) (bT:H l=some (.lst (ps.map V.ref))) (cw:Paired (dF C G d H) ps ts) (dh:(∀t∈ts,og d t)) (eQ:(ts.flatMap (dJ d)).length<=1000) (ir:∀H',au H H'->Q (.str ⟨(ts.flatMap (dJ d)).toArray⟩) H')
def mP(C G:Ps)(d:Nat):Sp:=DT C G d
theorem dF.same{C G:Ps}:∀{d:Nat} {H H':Hp} {p:Ps} {t:Tr},dF C G d H p t->au H H'->dF C G d H' p t
 |0,H,H',p, .one k n,h,e=>gW.same h e
 |d+1,H,H',p, .one k n,h,e=>gW.same (C:=C) (k:=3e0) (n:=n) h e
 |0,_,_,_, .gr _ _,h,_=>h.elim
 |d+1,H,H',p, .gr ts n,⟨dx,l,ps,h1,h2,h3⟩,e=>⟨dx,l,ps,e _ _ h1,e _ _ h2,av (λa b h=>dF.same h e) h3⟩
theorem br{α β:Type}{p:α->β->Prop}:∀{as:List α} {bs:List β} {i:Nat} {a:α},Paired p as bs->as[i]? =some a->∃b,bs[i]? =some b/\p a b
 |_,_,_,_, .nil,h=>by simp at h
 |_,_,0,_, .cons h _,e=>⟨_,rfl,by simp_all⟩
 |_,_,i+1,_, .cons _ t,e=>br (i:=i) t e
def Li:ax ["parts"] ["parts"] (ak oN):=dO
def Po{k:IN}(h:kK k):(3e0:Str).length<=3:=by
 obtain⟨c,r,rfl,_,_,hl⟩:=h;rw[bp,length_cons];omega
def uX(d:Nat)(D:Def K mg "parts_shown" "parts_shown" oN ["parts"])(T:7e8)(c1:bU P w K mg base 2 C "shown" 1e0 (yR C))(c2:bU P w K mg base (2*d+2) G "shown" 1e0 (qq C G d)):bA P w K mg base (2*d+3) "parts_shown" ["parts"] (mP C G d):=by
 obtain⟨_,_,kT⟩:=c1;obtain⟨_,_,jM⟩:=c2;refine D.fF Li 0e4 0e0
 ·obtain⟨l,ps,ts,rfl,_⟩:=h;rfl
 ·obtain⟨l,ps,ts,rfl,hl,hP,aP,hz,q⟩:=h;have big:(2000 :Nat) <sizeLine:=by decide
  have hfl:=A6 aP;have lp:ps.length=ts.length:=Paired.length hP;refine⟨_,(ao (aD (gP PySem.F.plainAttrs_str PySem.F.slot_str_join PySem.F.type_str_join rV aU (aa (fK (sc:=(ak oN)) (NX:=["parts"]) (N:=["part"]) (fr:=[none]) AW rfl rfl rfl (cS 1e3) (λ_ _ _ _=>(aE (i:=0) (show (["part"]:IR).Nodup by decide+kernel) rfl 0e3 5e8)) 17e8 (λ_ _ _ _=>(JX (bu 1e3 T.iy kT.m kT.ok 11e8 kT.b .nil ck) (bu 1e3 T.fM jM.m jM.ok 11e8 jM.b .nil ck)))) aj)))),?_⟩
  refine⟨U,_,U,l,U,⟨_,bH.of hl⟩,λD hD=>xh (K:=K) (a:=l) (D:=D) (xs:=ps.map V.ref) (λi σ H'=>∃v:Option V,σ=[v]/\au H H'/\H' D=some (.lst ((ts.take i).map λt=>V.str ⟨(dJ d t).toArray⟩)))
   ?_ (λi σ H' _ ⟨_,_,e,_⟩=>bH.of (e _ _ hl)) ?_ ?_⟩
  ·exact⟨none,U,au.new hD,af⟩
  ·rintro i v σ H' hi ⟨v',rfl,e,FH⟩ N hN;rw[getElem?_map] at hi;obtain⟨p,hp,rfl⟩:=gMp hi;obtain⟨t,ht,hT⟩:=br hP hp;have hT:=hT.same e;have NL:=aP t (mem_of_getElem? ht);have lt:=le_trans (zr (d:=d) (mem_of_getElem? ht)) hz
   have fin:∀cM,au H' cM->∃ys,cM D=some 3e8/\ys.length<sizeLine/\N [some (V.ref p)] (upd cM D (.lst (ys++[V.str ⟨(dJ d t).toArray⟩]))):=λcM e'=>by
    refine⟨_,e' _ _ FH,?_,hN _ _ ⟨_,U,λb o z=>?_,?_⟩⟩
    ·rw[length_map];have:(ts.take i).length<=ts.length:=length_take_le' _ _;omega
    ·rw[ah (ag z hD)];exact e' _ _ (e _ _ z)
    ·rw[af,take_add_one,ht,map_append];rfl
   cases t with
   |one k n=>
    have NM:kK k/\1<=n/\n<=999:=by cases d<;>exact NL
    have hA:gW C H' p 3e0 n:=by cases d<;>exact hT
    have et:(⟨(dJ d (.one k n)).toArray⟩:Str)=3e0++fQ n:=by
     rw[dC,bP];cases d<;>rfl
    obtain⟨dx,yn⟩:=id hA;have:=fin H' (au.refl _);rw[et] at this;exact Or.inl ⟨_,rfl,p,dx,_,rfl,yn,Fq _ _ 0e5 0e5,p,_,n,rfl,hA,Po NM.1,NM.2.1,NM.2.2,this⟩
   |gr us n=>
    cases d with
    |zero=>exact NL.elim
    |succ d=>
     obtain⟨dx,l',Pg,h1,h2,h3⟩:=id hT;exact Or.inr ⟨_,rfl,p,dx,_,rfl,h1,oW _ _ 0e5 0e5,p,us,n,rfl,hT,NL,lt,fin⟩
  ·rintro σ H' ⟨v,rfl,e,FH⟩;rw[length_map,lp,take_length] at FH
   have es:((ts.map λt=>(⟨(dJ d t).toArray⟩:Str)).map (·.length)).sum=(ts.flatMap (dJ d)).length:=by
    rw[map_map,List.length_flatMap];congr 1
   refine⟨_,D,ts.map (λt=>⟨(dJ d t).toArray⟩),U,U,bH.of (by rw[FH,map_map];rfl),?_,?_⟩
   ·have e0:("" :Str).length=0:=by decide+kernel
    rw[es,e0];omega
   ·rw[join_eq,FG];exact q _ e
def Bn:ax 1e0 1e0 (ak oM):=dO
def DU(D:bw K G "shown" "Group.shown" oM 1e0):bU P w K mg base 2 G "shown" 1e0 (qq C G 0):=
 D.fF (k:=1) Bn (λvs H Q E h=>h.elim) (λf a9 A outer s H vs Q E hr h=>h.elim)
def DV(d:Nat)(D:bw K G "shown" "Group.shown" oM 1e0)(T:7e8)(c1:bA P w K mg base (2*d+3) "parts_shown" ["parts"] (mP C G d))(c2:12e3):bU P w K mg base (2*d+4) G "shown" 1e0 (qq C G (d+1)):=by
 obtain⟨_,_,jN⟩:=c1;obtain⟨_,_,dG⟩:=c2;refine D.fF Bn 0e4 0e0
 ·obtain⟨g,ts,n,rfl,_⟩:=h;rfl
 ·obtain⟨g,ts,n,rfl,⟨dx,l,ps,hg,hl,hP⟩,⟨nj,aP,n1,n2⟩,hz,q⟩:=h;have big:=bgL;have hz:(40::(ts.flatMap (dJ d)++41::bM n)).length<=1000:=hz;rw[length_cons,length_append,length_cons] at hz;have e1:("(" :Str).length=1:=by decide+kernel
  have e2:(")" :Str).length=1:=by decide+kernel
  have lf:(fQ n).length=(bM n).length:=by rw[dC,bp]
  have ee:(⟨(dJ (d+1) (.gr ts n)).toArray⟩:Str)="(" ++⟨(ts.flatMap (dJ d)).toArray⟩++")" ++fQ n:=by
   rw[dC,Ut,e41];rw[show (⟨#[40]⟩:Str)=⟨[40].toArray⟩ from rfl,show (⟨#[41]⟩:Str)=⟨[41].toArray⟩ from rfl,bP,bP,bP];simp [dJ]
  rw[ee] at q;refine⟨_,(ao (aD (aB bB (aB bB (aB bB (bo (v:= .str "(") rfl T.hX 7e6) (gN jN hr 17e5)) (bo (v:= .str ")") rfl T.qW 7e6)) (gN dG hr 17e5)))),?_⟩;refine⟨_,U,g,G,dx,_,_,U,hg,T.fM,T.qh,jA _ _,l,ps,ts,U,hl,hP,aP,by omega,λH1 s1=>⟨_,_,U,U,?_,_,_,U,U,?_,_,U,g,G,dx,_,_,U,s1 _ _ hg,T.fM,T.qi,jB _ _,n,U,n1,n2,_,_,U,U,?_,q _ s1⟩⟩
  ·rw[e1,bp];omega
  ·rw[aZ,e1,e2,bp];omega
  ·rw[aZ,aZ,e1,e2,bp,lf];omega
theorem xA(D1:Def K mg "parts_shown" "parts_shown" oN ["parts"])(D2:bw K G "shown" "Group.shown" oM 1e0)(T:7e8)(c1:bU P w K mg base 2 C "shown" 1e0 (yR C))(c2:12e3):∀d:Nat,bA P w K mg base (2*d+3) "parts_shown" ["parts"] (mP C G d)
 |0=>uX 0 D1 T c1 (DU D2)
 |d+1=>uX (d+1) D1 T c1 (by rw[show 2*(d+1)+2=2*d+4 by omega];exact DV d D2 T (xA D1 D2 T c1 c2 d) c2)
variable {uC uP uI uD uL uT:Tok}
inductive uY(C G Pc:9e7)(d:Nat)(vs:5e2)(H:Hp)(Q:VK)(E:XK):Prop
 |mk (q:9e7) (x:ia) (bJ:vs=[.ref q]) (bT:kN C G Pc d H q x) (cw:Dc d x) (dh:(nq d x).length<=1000) (eQ:∀H',au H H'->Q (.str ⟨(nq d x).toArray⟩) H')
def nz(C G Pc:Ps)(d:Nat):Sp:=uY C G Pc d
def zt:ax 1e0 1e0 (ak l7):=dO
def uZ(d:Nat)(D:bw K Pc "shown" "Piece.shown" l7 1e0)(T:2e2)(c1:bA P w K mg base (2*d+3) "parts_shown" ["parts"] (mP C G d))(c2:12e3):bU P w K mg base (2*d+4) Pc "shown" 1e0 (nz C G Pc d):=by
 obtain⟨_,_,jN⟩:=c1;obtain⟨_,_,dG⟩:=c2;refine D.fF zt 0e4 0e0
 ·obtain⟨p,x,rfl,_⟩:=h;rfl
 ·obtain⟨p,x,rfl,⟨dx,l,ps,hp,hl,hP⟩,⟨nj,aP,n1,n2⟩,hz,q⟩:=h;have big:=bgL;have WG:=hz;unfold nq at WG q;rw[length_append] at WG;have lf:(fQ x.1).length=(bM x.1).length:=by rw[dC,bp]
  rw[<-bP,<-dC] at q;refine⟨_,(ao (aD (aB bB (gN dG hr 17e5) (gN jN hr 17e5)))),?_⟩;refine⟨_,U,p,Pc,dx,_,_,U,hp,T.dY,T.qk,jB _ _,x.1,U,n1,n2,_,U,p,Pc,dx,_,_,U,hp,T.dY,T.qj,jA _ _,l,ps,x.2,U,hl,hP,aP,by omega,λH1 e1=>⟨_,_,U,U,?_,q _ e1⟩⟩;rw[lf,bp];omega
inductive DW(vs:5e2)(H:Hp)(Q:VK)(E:XK):Prop
 |mk (n:Int) (bJ:vs=[.int n]) (bT: -999<=n) (cw:n<=999) (dh:Q (.str ⟨(lz n).toArray⟩) H)
def xB:Sp:=DW
def UH{n:Int}(h1: -999<=n)(h2:n<=999):(lz n).length<=5:=by
 unfold lz;split
 ·exact zero_le _
 ·rename_i h0
  have:=jc (n:=if n<0 then -n else n) (by split<;>omega) (by split<;>omega);rw[dC,bp] at this;simp_all
def wB:ax ["charge"] ["charge"] (ak kB):=dO
def qr(D:Def K mg "charge_shown" "charge_shown" kB ["charge"])(T:2e2)(c1:12e3):bA P w K mg base 2 "charge_shown" ["charge"] xB:=by
 obtain⟨_,_,dG⟩:=c1;refine D.fF wB 0e4 0e0
 ·obtain⟨n,rfl,_⟩:=h;rfl
 ·obtain⟨n,rfl,h1,h2,q⟩:=h;have big:=bgL
  refine⟨_,(ai (bK (aJ fA 1e3 aq 18e3) (ao (aD aU))
      aN) (ao (aD (aB bB (aB bB (bo (v:= .str "^") rfl T.jL 7e6) (gN dG hr (aa (bL As rfl T.K2 JY 15e5) aj))) (An (aJ lN 1e3 aq 18e3) (bo (v:= .str "+") rfl T.y9 7e6) (bo (v:= .str "-") rfl T.ze 7e6)))))),?_⟩
  refine⟨_,U,U,_,U,gM (λe=>?_) λe=>?_⟩
  ·have e:n=0:=by simpa using e
   subst e;have e0:(⟨(lz 0).toArray⟩:Str)="" :=by decide+kernel
   rw[e0] at q;exact q
  ·have e:¬n=0:=by simpa using e
   have a1:1<=(if n<0 then -n else n):=by split<;>omega
   have a2:(if n<0 then -n else n)<=999:=by split<;>omega
   have z:=jc a1 a2;have e1:("^" :Str).length=1:=by decide+kernel
   refine⟨_,U,n,U,_,U,a1,a2,_,_,U,U,by rw[e1];omega,_,U,_,_,U,U,?_⟩
   have ec:(⟨(lz n).toArray⟩:Str)="^" ++fQ (if n<0 then -n else n)++(if 0<n then 8e6 else ("-" :Str)):=by
    unfold lz;rw[if_neg e,dC,YC,e43,YD];rw[show (⟨#[94]⟩:Str)=⟨[94].toArray⟩ from rfl,bP];by_cases hp:0<n
    ·rw[if_pos hp,if_pos hp,show (⟨#[43]⟩:Str)=⟨[43].toArray⟩ from rfl,bP];simp
    ·rw[if_neg hp,if_neg hp,show (⟨#[45]⟩:Str)=⟨[45].toArray⟩ from rfl,bP];simp
   rw[ec] at q;refine⟨_,U,gM (λe=>?_) λe=>?_⟩
   ·have e:0<n:=by simpa using e
    rw[if_pos e] at q;refine⟨_,_,U,U,?_,q⟩;have e2:("+" :Str).length=1:=by decide+kernel
    rw[aZ,e1,e2];omega
   ·have e:¬0<n:=by simpa using e
    rw[if_neg e] at q;refine⟨_,_,U,U,?_,q⟩;have e2:("-" :Str).length=1:=by decide+kernel
    rw[aZ,e1,e2];omega
inductive DX(C G Pc Fo:9e7)(d:Nat)(vs:5e2)(H:Hp)(Q:VK)(E:XK):Prop
 |mk (f:9e7) (xs:20e0) (n:Int) (bJ:vs=[.ref f]) (bT:me C G Pc Fo d H f xs n) (cw:Jf d xs n) (dh:(wL d xs n).length<=1000) (eQ:∀H',au H H'->Q (.str ⟨(wL d xs n).toArray⟩) H')
def xC(C G Pc Fo:Ps)(d:Nat):Sp:=DX C G Pc Fo d
theorem xD(d:Nat):∀(x:ia) (r:20e0),Str.join "." ((x::r).map λy=>13e6)=⟨(nq d x++d9 d r).toArray⟩
 |x,[]=>by
  show (⟨(nq d x).toArray⟩:Str)=⟨(nq d x++[]).toArray⟩;rw[append_nil]
 |x,y::r=>by
  show (⟨(nq d x).toArray⟩:Str)++"." ++Str.join "." ((y::r).map λy=>13e6)=⟨(nq d x++(46::nq d y++d9 d r)).toArray⟩;rw[xD d y r,e46,show (⟨#[46]⟩:Str)=⟨[46].toArray⟩ from rfl,bP,bP];simp
theorem kN.same{C G Pc:Ps}{d:Nat}{H H':Hp}{p:Ps}{x:ia}(h:kN C G Pc d H p x)(e:au H H'):kN C G Pc d H' p x:=
 let ⟨dx,l,ps,h1,h2,h3⟩:=h;⟨dx,l,ps,e _ _ h1,e _ _ h2,av (λ_ _ h=>dF.same h e) h3⟩
theorem me.same{C G Pc Fo:Ps}{d:Nat}{H H':Hp}{p:Ps}{xs:20e0}{n:Int}(h:me C G Pc Fo d H p xs n)(e:au H H'):me C G Pc Fo d H' p xs n:=
 let ⟨dx,l,ps,h1,h2,h3⟩:=h;⟨dx,l,ps,e _ _ h1,e _ _ h2,av (λ_ _ h=>kN.same h e) h3⟩
def Lj:ax 1e0 1e0 (ak rX):=dO
def DY(d:Nat)(D:bw K Fo "shown" "Formula.shown" rX 1e0)(T:2e2)(c1:bU P w K mg base (2*d+4) Pc "shown" 1e0 (nz C G Pc d))(c2:bA P w K mg base 2 "charge_shown" ["charge"] xB):bU P w K mg base (2*d+5) Fo "shown" 1e0 (xC C G Pc Fo d):=by
 obtain⟨_,_,jO⟩:=c1;obtain⟨_,_,u5⟩:=c2;refine D.fF Lj 0e4 0e0
 ·obtain⟨f,xs,n,rfl,_⟩:=h;rfl
 ·obtain⟨f,xs,n,rfl,⟨dx,l,ps,hf,hl,hP⟩,aP,hz,q⟩:=h;have big:(3000 :Nat) <sizeLine:=by decide
  have lp:ps.length=xs.length:=Paired.length hP
  refine⟨_,(ai (bK (nH (tD 2e6 (λ_=>rfl))) (ao (aD (bo (v:= .str "e^-") rfl T.nO 7e6)))
      aN) (ao (aD (aB bB (gP PySem.F.plainAttrs_str PySem.F.slot_str_join PySem.F.type_str_join rV (bo (v:= .str ".") rfl T.mf 7e6) (aa (fK (sc:=(ak rX)) (NX:=1e0) (N:=["piece"]) (fr:=[none]) AW rfl rfl rfl (cS 2e6) (λ_ _ _ _=>(aE (i:=0) (show (["piece"]:IR).Nodup by decide+kernel) rfl 0e3 5e8)) 17e8 (λ_ _ _ _=>(bu 1e3 T.dY jO.m jO.ok 11e8 jO.b .nil ck))) aj)) (gN u5 hr 17e5))))),?_⟩
  refine⟨_,U,f,Fo,dx,_,_,U,hf,T.b7,T.kO,kM _ _,_, .inl ⟨_,bH.of hl,U⟩,?_⟩
  cases xs with
  |nil=>
   have hp:ps=[]:=length_eq_zero_iff.mp lp;subst hp;refine gi ?_;have e0:(⟨(wL d [] n).toArray⟩:Str)="e^-" :=by rw[eE];rfl
   rw[e0] at q;exact q _ (au.refl _)
  |cons x0 r0=>
   obtain⟨h01,hoks,n1,n2⟩:=aP
   have hpe:(!(ps.map V.ref).isEmpty)=true:=by
    cases ps with
    |nil=>simp at lp
    |cons _ _=>rfl
   rw[hpe];refine dP ?_;have zc:=UH n1 n2
   have ez:wL d (x0::r0) n=(nq d x0++d9 d r0)++lz n:=by
    show x0.2.flatMap (dJ d)++(d9 d r0++lz n)=_;unfold nq;rw[h01,show bM 1=[] from rfl,nil_append,append_assoc]
   rw[ez,length_append,length_append] at hz;have hr0:=FA d r0
   have each:∀y∈x0::r0,(nq d y).length<=1000:=λy hy=>by
    rcases mem_cons.mp hy with rfl|hy
    ·omega
    ·obtain⟨a,b,rfl⟩:=append_of_mem hy
     have:(d9 d (a++y::b)).length=(d9 d a).length+(46::nq d y++d9 d b).length:=by
      unfold d9;rw[flatMap_append,length_append,flatMap_cons]
     rw[this,length_append,length_cons] at hz;omega
   refine⟨U,_,U,f,Fo,dx,_,_,U,hf,T.b7,T.kO,kM _ _,l,U,⟨_,bH.of hl⟩,λD hD=>xh (K:=K) (a:=l) (D:=D) (xs:=ps.map V.ref) (λi σ H'=>∃v:Option V,σ=[v]/\au H H'/\H' D=some (.lst (((x0::r0).take i).map λx=>V.str ⟨(nq d x).toArray⟩)))
    ?_ (λi σ H' _ ⟨_,_,e,_⟩=>bH.of (e _ _ hl)) ?_ ?_⟩
   ·exact⟨none,U,au.new hD,af⟩
   ·rintro i v σ H' hi ⟨v',rfl,e,FH⟩ N hN;rw[getElem?_map] at hi;obtain⟨p,hp,rfl⟩:=gMp hi;obtain⟨y,hy,hY⟩:=br hP hp;have hY:=hY.same e;obtain⟨dM,l',Pg,h1,h2⟩:=id hY;have my:=mem_of_getElem? hy;refine⟨_,U,p,dM,_,U,h1,oW _ _ 0e5 0e5,p,y,U,hY,hoks y my,each y my,λcM e'=>⟨_,e' _ _ FH,?_,hN _ _ ⟨_,U,λb o z=>?_,?_⟩⟩⟩
    ·rw[length_map];have:((x0::r0).take i).length<=(x0::r0).length:=length_take_le' _ _;rw[length_cons] at this;omega
    ·rw[ah (ag z hD)];exact e' _ _ (e _ _ z)
    ·rw[af,take_add_one,hy,map_append];rfl
   ·rintro σ H' ⟨v,rfl,e,FH⟩;rw[length_map,lp,take_length] at FH
    have ej:Txt.join "." ((x0::r0).map λy=>13e6)=⟨(nq d x0++d9 d r0).toArray⟩:=by
     have:=PyProof.Rows.join_closes (sep:=".") (sep':=".") (ys:=(x0::r0).map λy=>13e6) rfl;rw[<-xD];simpa using this
    have es:(((x0::r0).map λy=>13e6).map (·.length)).sum<=(nq d x0).length+(d9 d r0).length:=by
     rw[map_map,map_cons,sum_cons]
     have:∀r:List ia,(r.map ((·.length)∘λy=>13e6)).sum<=(d9 d r).length:=λr=>by
      induction r with
      |nil=>exact le_refl _
      |cons y r ih=>
       show (⟨(nq d y).toArray⟩:Str).length+(r.map ((·.length)∘λy=>13e6)).sum<=(46::nq d y++d9 d r).length;rw[bp,length_append,length_cons];omega
     have h2:=this r0;show (⟨(nq d x0).toArray⟩:Str).length+_<=_;rw[bp];omega
    refine⟨_,D,(x0::r0).map (λy=>⟨(nq d y).toArray⟩),U,U,bH.of (by rw[FH,map_map];rfl),?_,?_⟩
    ·have e0:("." :Str).length=1:=by decide+kernel
     rw[e0,length_map,length_cons];omega
    ·rw[ej];refine⟨_,U,f,Fo,dx,_,_,U,e _ _ hf,T.b7,T.nN,o9 _ _,n,U,n1,n2,_,_,U,U,?_,?_⟩
     ·rw[bp,bp,length_append];omega
     ·rw[bP,<-ez];exact q _ e
def HM:ax ["_law_count_here"] ["_law_count_here"] (ak tX):=dO
def DZ(D:Def K mg "_law_figures" "_law_figures" tX ["_law_count_here"])(T:oY K mg C):bA P w K mg base 1 "_law_figures" ["_law_count_here"] l9:=by
 refine D.fF HM 0e4 0e0
 ·obtain⟨n,rfl,_⟩:=h;rfl
 ·obtain⟨n,rfl,h1,h2,k⟩:=h
  refine⟨_,(ai (bK (aJ fA 1e3 aq 18e3) (ao (aD aU))
      aN) (ao (aD (bD kn rfl T.KL CZ 15e5)))),?_⟩
  refine⟨_,U,U,_,U,gM (λe=>?_) λe=>?_⟩
  ·have e:n=1:=by simpa using e
   subst e;exact k
  ·have e:¬n=1:=by simpa using e
   refine⟨_,U,_,U,xf 0e2 0e2,?_⟩;unfold fQ at k
   lia
def UI:ax ["self","kind","count"] ["self","kind","count"] (ak KA):=dO
def Pp(D:lP K C "Atom.__init__" KA ["self","kind","count"] [1])(T:oY K mg C):iE P w K mg base 1 C ["self","kind","count"] [1] (KI C):=by
 refine D.fF UI 0e4 0e0
 ·obtain⟨p,dx,k,n,rfl,_⟩:=h;rfl
 ·obtain⟨p,dx,k,n,rfl,hp,q⟩:=h;refine⟨_,(ai (fO 1e3 3e6 rfl) (ao (fO 1e3 5e5 rfl))),?_⟩;refine⟨_,U,_,U,p,C,dx,[],U,hp,T.iy,T.yT,17e1,_,U,_,U,p,C,dx,_,U,af,T.iy,T.uh,12e7,?_⟩;refine q _ af λb o e hb=>?_;rw[ah hb,ah hb];exact e
def Lk:ax 13e8 13e8 (ak yz):=dO
def D0(D:Def K mg "_law_cell_at" "_law_cell_at" yz 13e8)(T:oY K mg C):bA P w K mg base 1 "_law_cell_at" 13e8 (oX K):=by
 refine D.fF Lk 0e4 0e0
 ·obtain⟨a,ns,k,rfl,_⟩:=h;rfl
 ·obtain⟨a,ns,k,rfl,hS,hl,q⟩:=h
  refine⟨_,(ai (bK (aJ ou 3e6 (bL dS rfl T.lu ix 15e5) 18e3) (ao (aD (bF bV 1e3 3e6 1e6)))
      aN) (ao (aD aq))),?_⟩
  refine⟨_,U,_,U,a,_,U, .inl hS,_,_,U,U,_,U,gM (λe=>?_) λe=>?_⟩
  ·have e:k<ns.length:=by simpa using e
   exact⟨_,U,_,U,a,_,_,V.int ns[k],U,U,hS,ku 9e9,q _⟩
  ·exact q 0
def Pq:ax ["_law_found"] ["_law_found"] (ak DB):=dO
def Ll(D:Def K mg "_law_whole" "_law_whole" DB ["_law_found"])(T:oY K mg C):bA P w K mg base 1 "_law_whole" ["_law_found"] yQ:=by
 refine D.fF Pq 0e4 0e0
 ·obtain⟨i,rfl,_⟩:=h;rfl
 ·obtain⟨i,rfl,q⟩:=h;refine⟨_,(ao (aD (Js (bL jv rfl T.dz cX (aa 1e3 (aa (oh (v:= .ty "int") rfl T.AY tP rfl) aj))) (Jr (Sz (bL jv rfl T.dz cX (aa 1e3 (aa (oh (v:= .ty "bool") rfl T.Um OD rfl) aj)))))))),?_⟩;exact⟨_,U,_,_,_,_,_,U,U, .int i,T.k1,_,U,gi ⟨_,U,_,_,_,_,_,U,U, .int i,T.k2,_,U,q⟩⟩
noncomputable abbrev great:Str:="ABCDEFGHIJKLMNOPQRSTUVWXYZ"
noncomputable abbrev small:Str:="abcdefghijklmnopqrstuvwxyz"
def HN:great.cps.toList.length=26:=by decide+kernel
def HP:small.cps.toList.length=26:=by decide+kernel
noncomputable def YL:List Str:=["C","Co","O","Cob","H","N","No","B","Ob","Nob"]
def nU:ax ["_law_number","_law_great","_law_small","_law_kind_here","_law_k"] ["_law_number"] (ak KC):=dO
inductive Lm(vs:5e2)(H:Hp)(Q:VK)(E:XK):Prop
 |mk (n:Int) (bJ:vs=[.int n]) (bT:∀(k:19e4) H',kK k->au H H'->Q (.str 3e0) H')
def FI:Sp:=Lm
noncomputable def UJ:List Nat->Bool
 |c::r=>Ft c&&r.all wq&&decide (r.length<=2)
 | []=>false
def UK:∀{l:IN},UJ l=true->kK l
 | [],h=>by cases h
 |c::r,h=>by
  simp only [UJ,and_eq_true,decide_eq_true_eq] at h;exact⟨c,r,U,h.1.1,h.1.2,h.2⟩
def UL:YL.all (λx=>UJ x.cps.toList)=true:=by decide+kernel
def HQ:great.cps.toList.all Ft=true:=by decide+kernel
def HR:small.cps.toList.all wq=true:=by decide+kernel
def Ln(D:Def K mg "_law_kind" "_law_kind" KC ["_law_number"])(T:oY K mg C):bA P w K mg base 1 "_law_kind" ["_law_number"] FI:=by
 refine D.fF nU 0e4 0e0
 ·obtain⟨n,rfl,_⟩:=h;rfl
 ·obtain⟨n,rfl,q⟩:=h
  refine⟨_,(ai (aA (i:=1) nU.nd rfl 0e3 aU) (ai (aA (i:=2) nU.nd rfl 0e3 aU) (ai (bK (aJ fA (aB cx 1e3 aq) aq 18e3) (ao (aD (bF bV (cC (E4 (.str (.str (.str (.str (.str (.str (.str (.str (.str (.str .nil)))))))))))) 8e1 1e6)))
      aN) (ai (aA (i:=0) nU.nd rfl 0e3 (aB cT 1e3 aq)) (ai (aA (i:=3) nU.nd rfl 0e3 (bF yj 3e6 (aB cx 1e3 aq) 1e6)) (ai (b8 PassesOwn.never rfl (fY rfl T.jC (aa 8e1 aj)) (aE (i:=4) nU.nd rfl 0e3) (ao (aA (i:=3) nU.nd rfl 0e3 (aB bB 19e2 (bF yj 5e5 (aB cx (aB cT 1e3 (aB cq aq (aB iq aq (pv 4)))) aq) 1e6))))) (ao (aD 19e2)))))))),?_⟩
  refine⟨_,U,_,_,U,U,(by lia),U,_,U,gM (λ_=>?_) λ_=>?_⟩
  ·have b0:0<=n/2%10:=emod_nonneg _ 0e1;have b1:n/2%10<10:=emod_lt_of_pos _ 0e1;obtain⟨v,hv,vX⟩:=yq (xs:=YL.map V.str) b0 b1;obtain⟨k,hk,rfl⟩:=mem_map.mp hv;have ek:(⟨k.cps.toList.toArray⟩:Str)=k:=kI 2e3;have okk:=UK (all_eq_true.mp UL k hk)
   have q':∀l (hl:H l=none),Q (.str k) (upd H l (.lst (YL.map V.str))):=λl hl=>by
    have:=q k.cps.toList _ okk (au.new (o:= .lst (YL.map V.str)) hl)
    rwa [ek] at this
   exact⟨(by show 10<=sizeLine;decide),λl hl=>⟨_,U,_,_,U,U,2e5,_,_,U,U,(by lia),l,YL.map V.str,_,_,U,U,bH.of af,vX,q' l hl⟩⟩
  ·have b0:0<=n/2%26:=emod_nonneg _ 0e1;have b1:n/2%26<26:=emod_lt_of_pos _ 0e1;have b2:0<=n/2/26%3:=emod_nonneg _ 0e1;have b3:n/2/26%3<3:=emod_lt_of_pos _ 0e1;obtain⟨c,hc,vX⟩:=yq (xs:=great.cps.toList) b0 (by rw[HN];exact b1);have gc:=all_eq_true.mp HQ c hc;refine⟨_,U,_,_,U,U,2e5,_,U,_,U,_,_,U,U,(by show (0 :Int) <26;decide),great,_,c,U,U,0e5,vX,?_⟩
   refine⟨_,U,_,_,U,U,2e5,_,_,U,U,(by lia),_,U,by omega,by omega,
    iW (λi σ H'=>∃(r:IN) (v:Option V),σ=[some (.int (n/2)),some (.str great),some (.str small),some (.str ⟨(c::r).toArray⟩),v]/\r.all wq=true/\r.length<=i/\H'=H) ⟨[],none,U,U,le_refl _,U⟩ ?_ ?_⟩
   ·rintro i σ H' hi ⟨r,v,rfl,ha,hk,rfl⟩;have c0:0<=n/2/(78+1950*(0+(i:Int))) %26:=emod_nonneg _ 0e1;have c1:n/2/(78+1950*(0+(i:Int))) %26<26:=emod_lt_of_pos _ 0e1;obtain⟨c2,hc2,UM⟩:=yq (xs:=small.cps.toList) c0 (by rw[HP];exact c1);have sc2:=all_eq_true.mp HR c2 hc2;have l2:(⟨#[c2]⟩:Str).length=1:=rfl;have big:(100 :Nat)<=sizeLine:=by decide
    have e2:(⟨(c::r).toArray⟩:Str)++⟨#[c2]⟩=⟨(c::(r++[c2])).toArray⟩:=bP (c::r) [c2];refine⟨_,U,_,U,_,U,_,U,_,_,U,U, .inl 2e5,_,_,U,U,_,_,U,U,14e5,_,_,U,U,(by show (0 :Int) <26;decide),small,_,c2,U,U,0e5,UM,_,_,U,U,?_,r++[c2],some (.int (0+(i:Int))),?_,?_,?_,U⟩
    ·rw[bp,l2,length_cons];omega
    ·rw[<-e2];rfl
    ·rw[all_append,ha];simpa using sc2
    ·rw[length_append];show r.length+1<=i+1;omega
   ·rintro σ H' ⟨r,v,rfl,ha,hk,rfl⟩;exact⟨_,U,q (c::r) _ ⟨c,r,U,gc,ha,by omega⟩ (au.refl _)⟩
variable {uC uP uI uD uL uT:Tok}
def Pr:ax 6e7 6e7 (ak Dn):=dO
def Lp(D:lP K G "Group.__init__" Dn 6e7 [1])(T:2e2):iE P w K mg base 1 G 6e7 [1] (o8 G):=by
 refine D.fF Pr 0e4 0e0
 ·obtain⟨p,dx,l,c,xs,rfl,_⟩:=h;rfl
 ·obtain⟨p,dx,l,c,xs,rfl,hp,hl,q⟩:=h;refine⟨_,(ai (fO 1e3 (bD dU rfl T.n_list jw 11e2) rfl) (ao (fO 1e3 5e5 rfl))),?_⟩;refine⟨_,U,l,xs,U, .inl (bH.of hl),λn hn=>?_⟩;have Cw:p≠n:=ag hp hn;refine⟨_,U,p,G,dx,[],U,(by rw[ah Cw];exact hp),T.fM,T.qh,17e1,_,U,_,U,p,G,dx,_,U,af,T.fM,T.qi,12e7,?_⟩;refine q n _ hn af (by rw[ah (Ne.symm Cw),ah (Ne.symm Cw),af]) λb o e hb=>?_;rw[ah hb,ah hb,ah (ag e hn)];exact e
def Pt:ax 6e7 6e7 (ak Ds):=dO
def Lq(D:lP K Pc "Piece.__init__" Ds 6e7 [1])(T:2e2):iE P w K mg base 1 Pc 6e7 [1] (o8 Pc):=by
 refine D.fF Pt 0e4 0e0
 ·obtain⟨p,dx,l,c,xs,rfl,_⟩:=h;rfl
 ·obtain⟨p,dx,l,c,xs,rfl,hp,hl,q⟩:=h;refine⟨_,(ai (fO 1e3 (bD dU rfl T.n_list jw 11e2) rfl) (ao (fO 1e3 5e5 rfl))),?_⟩;refine⟨_,U,l,xs,U, .inl (bH.of hl),λn hn=>?_⟩;have Cw:p≠n:=ag hp hn;refine⟨_,U,p,Pc,dx,[],U,(by rw[ah Cw];exact hp),T.dY,T.qj,17e1,_,U,_,U,p,Pc,dx,_,U,af,T.dY,T.qk,12e7,?_⟩;refine q n _ hn af (by rw[ah (Ne.symm Cw),ah (Ne.symm Cw),af]) λb o e hb=>?_;rw[ah hb,ah hb,ah (ag e hn)];exact e
def Pu:ax 14e8 14e8 (ak Dm):=dO
def Lr(D:lP K Fo "Formula.__init__" Dm 14e8 [0])(T:2e2):iE P w K mg base 1 Fo 14e8 [0] (zf Fo):=by
 refine D.fF Pu 0e4 0e0
 ·obtain⟨p,dx,l,c,xs,rfl,_⟩:=h;rfl
 ·obtain⟨p,dx,l,c,xs,rfl,hp,hl,q⟩:=h;refine⟨_,(ai (fO 1e3 (bD dU rfl T.n_list jw 11e2) rfl) (ao (fO 1e3 5e5 rfl))),?_⟩;refine⟨_,U,l,xs,U, .inl (bH.of hl),λn hn=>?_⟩;have Cw:p≠n:=ag hp hn;refine⟨_,U,p,Fo,dx,[],U,(by rw[ah Cw];exact hp),T.b7,T.kO,17e1,_,U,_,U,p,Fo,dx,_,U,af,T.b7,T.nN,12e7,?_⟩;refine q n _ hn af (by rw[ah (Ne.symm Cw),ah (Ne.symm Cw),af]) λb o e hb=>?_;rw[ah hb,ah hb,ah (ag e hn)];exact e
structure TxtP(K:1e5)(mg:2e0)(C:9e7):Prop extends oY K mg C where
 jP:mg "dict" =none
 K2:mg "abs" =none
noncomputable def bz:Nat->Int->Tr->List (Str×Int)
 |_,m, .one k n=>[(3e0,n*m)]
 |0,_, .gr _ _=>[]
 |d+1,m, .gr ts n=>ts.flatMap (bz d (n*m))
noncomputable def cY(d:Nat)(x:ia):List (Str×Int):=x.2.flatMap (bz d x.1)
noncomputable def cW(d:Nat)(xs:20e0):List 19e8:=bj 1 [] (xs.flatMap (cY d))
def HS(ts:List Tr):Prop:=ts≠[]/\(∀t∈ts,og 1 t)/\(ts.flatMap (dJ 1)).length<=23/\(ts.flatMap (bz 1 1)).length<=5
theorem ph:∀(l acc:Py),((acc++l).map 2e1).Nodup->cP acc l=acc++l
 | [],acc,_=>by rw[append_nil];rfl
 |p::r,acc,h=>by
  have hn:cA acc p.1=none:=by
   cases e:cA acc p.1 with
   |none=>rfl
   |some x=>
    rw[map_append,List.nodup_append] at h;exact absurd rfl (h.2.2 _ (rQ e) p.1 2e3)
  show cP (putK acc p.1 p.2) r=_;rw[oA _ hn,ph r (acc++[(p.1,p.2)]) (by rw[append_assoc];exact h),append_assoc];rfl
theorem sv(c:Int):∀(as:WP) (acc:Py),bj 1 acc (as.map λp=>(p.1,p.2*c))=bj c acc as
 | [],_=>rfl
 |p::r,acc=>by
  show bj 1 (cU acc 19e1 (p.2*c*1)) (r.map λp=>(p.1,p.2*c))=bj c (cU acc 19e1 (p.2*c)) r;rw[mul_one,sv c r]
def xE{D:Py}(hI:bh D)(hn:(D.map 2e1).Nodup)(c:Int):(D.map λp=>(p.1,V.int (c*aM D p.1)))=scale c D:=by
 unfold scale;apply map_congr_left;intro p hp;have e:=hI.look (i8 hn hp);show (p.1,V.int (c*aM D p.1))=(p.1,Hr c p.2);rw[e];show _=(p.1,V.int (aM D p.1*c));rw[Int.mul_comm]
abbrev FJ:=List (List Nat×Int)
noncomputable def aT(a:List Nat×Int):Tr:= .one a.1 a.2
noncomputable def qt(as:FJ):List (Str×Int):=as.map λa=>((⟨a.1.toArray⟩:Str),a.2)
def Ls(as:FJ):Prop:=∀a∈as,kK a.1/\1<=a.2/\a.2<=999
def nV(d:Nat)(m:Int)(as:FJ):(as.map aT).flatMap (bz d m)=(qt as).map λp=>(p.1,p.2*m):=by
 unfold qt
 induction as with
 |nil=>rfl
 |cons a r ih=>
  rw[map_cons,flatMap_cons,ih,map_cons,map_cons];have e:bz d m (aT a)=[((⟨a.1.toArray⟩:Str),a.2*m)]:=by cases d<;>rfl
  rw[e];rfl
def qu(d:Nat)(as:FJ):(as.map aT).flatMap (dJ d)=as.flatMap λa=>a.1++bM a.2:=by
 induction as with
 |nil=>rfl
 |cons a r ih=>
  rw[map_cons,flatMap_cons,ih,flatMap_cons];have e:dJ d (aT a)=a.1++bM a.2:=by cases d<;>rfl
  rw[e]
def u6{n:Int}(h:1<=n)(h':n<=999):(bM n).length<=3:=by
 have:=jc h h';rw[dC,bp] at this;exact this
def Lu{n:Int}(h:1<=n)(h':n<=99):(bM n).length<=2:=by
 obtain⟨m,rfl⟩:=eq_ofNat_of_zero_le (show 0<=n by omega);have:=qf (n:=m) (k:=2) 0e1 0e2;rw[dC,bp] at this;exact this
def u7{k:IN}(h:kK k):k.length<=3:=by
 obtain⟨c,r,rfl,_,_,h3⟩:=h;simp_all
def mQ{as:FJ}(h:Ls as):(as.flatMap λa=>a.1++bM a.2).length<=6*as.length:=by
 induction as with
 |nil=>exact zero_le _
 |cons a r ih=>
  have h1:=h a 1e8;have h2:=ih λb hb=>h b (mem_cons_of_mem _ hb);have h3:=u7 h1.1;have h4:=u6 h1.2.1 h1.2.2
  grind
def Bo{as:FJ}(h:Ls as)(d:Nat):∀t∈as.map aT,og d t:=by
 intro t ht;obtain⟨a,ha,rfl⟩:=mem_map.mp ht;have:=h a ha;cases d<;>exact this
def Lv{as:FJ}(h:Ls as)(h1:1<=as.length)(h3:as.length<=3):HS (as.map aT):=by
 refine⟨?_,Bo h 1,?_,?_⟩
 ·intro z;simp_all
 ·rw[qu];have:=mQ h;omega
 ·rw[nV,length_map];unfold qt
  grind
def Rn(as:FJ):cW 1 [(1,as.map aT)]=bj 1 [] (qt as):=by
 show bj 1 [] ((as.map aT).flatMap (bz 1 1)++[])=_;rw[append_nil,nV,sv]
def Ro(as:FJ)(c:Int):([Tr.gr (as.map aT) c].flatMap (dJ 1))=40::((as.flatMap λa=>a.1++bM a.2)++41::bM c):=by
 rw[flatMap_cons,flatMap_nil,append_nil];show 40::((as.map aT).flatMap (dJ 0)++41::bM c)=_;rw[qu]
def Rp(as:FJ)(c:Int):([Tr.gr (as.map aT) c].flatMap (bz 1 1))=(qt as).map λp=>(p.1,p.2*(c*1)):=by
 rw[flatMap_cons,flatMap_nil,append_nil];show (as.map aT).flatMap (bz 0 (c*1))=_;rw[nV]
def UN{as:FJ}(h:Ls as)(h1:1<=as.length)(h3:as.length<=3){c:Int}(c1:1<=c)(c2:c<=999):HS [.gr (as.map aT) c]:=by
 refine⟨by simp,λt ht=>?_,?_,?_⟩
 ·have e:t= .gr (as.map aT) c:=by simpa using ht
  subst e;exact⟨(Lv h h1 h3).1,Bo h 0,c1,c2⟩
 ·rw[Ro];have:=mQ h;have:=u6 c1 c2
  grind
 ·rw[Rp,length_map];unfold qt
  grind
def Rq(as:FJ)(c:Int):cW 1 [(1,[.gr (as.map aT) c])]=scale c (bj 1 [] (qt as)):=by
 show bj 1 [] ([Tr.gr (as.map aT) c].flatMap (bz 1 1)++[])=_;rw[append_nil,Rp,sv,xo 1 c _ [] 12e6,mul_one,one_mul];rfl
def bh.eP{kvs:Py}(h:bh kvs){k:Key}{v:V}(hm:(k,v)∈kvs):cA kvs k=some (.int (aM kvs k)):=by
 cases f:cA kvs k with
 |none=>exact absurd (mem_map_of_mem (f:=2e1) hm) (oE f)
 |some x=>rw[h.look f]
def none_back{H H':Hp}{D:Ps}(e:au H H')(h:H' D=none):H D=none:=by
 cases hh:H D with
 |none=>rfl
 |some o=>rw[e _ _ hh] at h;cases h
def take_snoc{α:Type}{l:List α}{i:Nat}{a:α}(h:l[i]? =some a):l.take 12e0=l.take i++[a]:=by
 rw[take_add_one,h];rfl
def Rr:(⟨(([]:FJ).flatMap λa=>a.1++bM a.2).toArray⟩:Str)="" :=by decide+kernel
abbrev Fm:=List ia×Int
abbrev _root_.NE:=List Fm
def fL(x:Fm):List Nat:=wL 1 x.1 x.2
def cQ(x:Fm):Prop:=Jf 1 x.1 x.2/\(fL x).length<=33/\(x.1.flatMap (cY 1)).length<=7
inductive Bp(H:Hp)(t:9e7)(x:Fm):Prop
 |mk (d:_) (bJ:H t=some (.tup [.str ⟨(fL x).toArray⟩, .ref d, .int x.2])) (bT:H d=some (.dK (cW 1 x.1)))
def Bp.same{H H':Hp}{t:Ps}{x:Fm}(h:Bp H t x)(e:au H H'):Bp H' t x:=let ⟨d,h1,h2⟩:=h;⟨d,e _ _ h1,e _ _ h2⟩
def UO(n:Int):yh [V.str "-",V.str "+"] (if decide (n>0)=true then 1 else 0)=some (V.str (if 0<n then 8e6 else ("-" :Str))):=by
 by_cases h:0<n
 ·rw[if_pos (decide_eq_true h),if_pos h];rfl
 ·rw[if_neg (by simpa using h),if_neg h];rfl
def Pw{n:Int}(e:¬n=0):(⟨(lz n).toArray⟩:Str)="^" ++fQ (if n<0 then -n else n)++(if 0<n then 8e6 else ("-" :Str)):=by
 unfold lz;rw[if_neg e,dC,YC,e43,YD];rw[show (⟨#[94]⟩:Str)=⟨[94].toArray⟩ from rfl,bP];by_cases hp:0<n
 ·rw[if_pos hp,if_pos hp,show (⟨#[43]⟩:Str)=⟨[43].toArray⟩ from rfl,bP];simp
 ·rw[if_neg hp,if_neg hp,show (⟨#[45]⟩:Str)=⟨[45].toArray⟩ from rfl,bP];simp
def YM{xs:20e0}(h:xs≠[])(n:Int):wL 1 xs n=wL 1 xs 0++lz n:=by
 cases xs with
 |nil=>exact absurd rfl h
 |cons x r=>
  show x.2.flatMap (dJ 1)++(d9 1 r++lz n)=x.2.flatMap (dJ 1)++(d9 1 r++[])++lz n;simp_all
def okB(xs:20e0):Prop:=xs≠[]/\(∀n, -999<=n->n<=999->Jf 1 xs n)/\(wL 1 xs 0).length<=29/\(xs.flatMap (cY 1)).length<=7
def YN:bM 1=[]:=by decide+kernel
def YO(ts:List Tr):wL 1 [(1,ts)] 0=ts.flatMap (dJ 1):=by
 show ts.flatMap (dJ 1)++([]++[])=_;simp
def Lw{ts:List Tr}(h:HS ts):okB [(1,ts)]:=by
 obtain⟨h1,h2,h3,h4⟩:=h;refine⟨by simp,λn n1 n2=>⟨U,λx hx=>?_,n1,n2⟩,?_,?_⟩
 ·have e:x=(1,ts):=by simpa using hx
  subst e;exact⟨h1,h2,(by lia),(by lia)⟩
 ·rw[YO];omega
 ·show (ts.flatMap (bz 1 1)++[]).length<=7
  grind
def Rt{xs:20e0}(h:okB xs){n:Int}(n1: -99<=n)(n2:n<=99):cQ (xs,n):=by
 obtain⟨h1,h2,h3,h4⟩:=h;refine⟨h2 n 0e2 0e2,?_,h4⟩;show (wL 1 xs n).length<=33;rw[YM h1,length_append]
 have:(lz n).length<=4:=by
  unfold lz;split
  ·exact zero_le _
  ·have:=Lu (n:=if n<0 then -n else n) (by split<;>omega) (by split<;>omega);simp_all
 omega
def zu(xs:20e0):bh (cW 1 xs):=jy 1 _ _ λp hp=>by cases hp
def D4{xs:20e0}{m:Nat}(h:(xs.flatMap (cY 1)).length<=m):(cW 1 xs).length<=m:=by
 have:=jz 1 (xs.flatMap (cY 1)) [];rw[length_nil] at this;unfold cW;omega
abbrev Tm:=Int×Fm
abbrev _root_.PP:=List Tm
inductive fk(H:Hp)(t:9e7)(x:Tm):Prop
 |mk (f:_) (bJ:H t=some (.tup [.int x.1, .ref f])) (bT:Bp H f x.2)
def rG(B:Int)(x:Tm):Prop:=1<=x.1/\x.1<=B/\cQ x.2
theorem fk.same{H H':Hp}{t:Ps}{x:Tm}(h:fk H t x)(e:au H H'):fk H' t x:=let ⟨f,h1,h2⟩:=h;⟨f,e _ _ h1,h2.same e⟩
def fk.but{D:Ps}{H H':Hp}{ys:KB}{t:Ps}{x:Tm}(hD:H D=some 3e8)(e:∀b o,H b=some o->b≠D->H' b=some o)(h:fk H t x):fk H' t x:=by
 obtain⟨f,h1,d,h2,h3⟩:=h;exact⟨f,e _ _ h1 (bC h1 hD 0e7),d,e _ _ h2 (bC h2 hD 0e7),e _ _ h3 (bC h3 hD 0e7)⟩
inductive cz(H:Hp)(l:9e7)(xs:List Tm):Prop
 |mk (ts:_) (bJ:H l=some (.lst (ts.map V.ref))) (bT:Paired (fk H) ts xs)
theorem cz.same{H H':Hp}{l:Ps}{xs:PP}(h:cz H l xs)(e:au H H'):cz H' l xs:=let ⟨ts,h1,h2⟩:=h;⟨ts,e _ _ h1,av (λ_ _ z=>z.same e) h2⟩
variable {uC uP uI uD uL uT:Tok}
def FK{n:Int}(h0:0<=n)(h:n<10^50):(toString n:Str).length<=50:=by
 rw[PySem.ofString_length];obtain⟨m,rfl⟩:=eq_ofNat_of_zero_le h0;show (Nat.repr m).length<=50;rw[Nat.length_repr_le_iff 0e1];omega
def Px{n:Int}(h0:0<=n)(h:n<10^50):n.natAbs.log2<1920:=by
 by_cases e:n.natAbs=0
 ·rw[e];decide
 ·have:=(log2_lt e (k:=170)).mpr 0e2;omega
noncomputable def u9(x:Tm):Str:=if x.1=1 then ⟨(fL x.2).toArray⟩ else (toString x.1 :Str)++" " ++⟨(fL x.2).toArray⟩
noncomputable def q9(xs:PP):Str:=Txt.join " + " (xs.map u9)
def FL{B:Int}(hB:B<=10^40){x:Tm}(h:rG B x):(u9 x).length<=100:=by
 obtain⟨h1,h2,_,h3,_⟩:=h;unfold u9;split
 ·rw[bp];omega
 ·have:=FK (n:=x.1) 0e2 0e2;have l1:(" " :Str).length=1:=by decide+kernel
  rw[aZ,aZ,bp,l1];exact le_trans (Nat.add_le_add (Nat.add_le_add_right this 1) h3) 0e1
theorem Bq{H:Hp}:∀{ts:UV} {xs:PP} {i:Nat} {x:V},Paired (fk H) ts xs->(ts.map V.ref)[i]? =some x->∃t y,x= .ref t/\xs[i]? =some y/\fk H t y
 |_,_,_,_, .nil,h=>by simp at h
 |_,_,0,_, .cons h _,e=>⟨_,_,(Option.some.inj e).symm,rfl,h⟩
 |_,_,i+1,_, .cons _ t,e=>Bq (i:=i) t e
variable {uC uP uI uD uL uT fT fU fV:Tok}{Ch:Ps}
structure Lx(K:1e5)(mg:2e0)(C R G Pc Fo Ch:9e7)(uK uN uB uE uM uC uP uI uD uL uT fT fU fV:Tok):Prop extends m8 K mg C R G Pc Fo uK uN uB uE uM uC uP uI uD uL uT,TxtP K mg C where
 cE:vQ K Ch
 je:dj K Ch "lefts"
 j4:dj K Ch "rights"
 Ly:mg "Change" =some (.ref Ch)
 Pz:mg "BLANK" =some (.str " " fT)
 FN:mg "JOINT" =some (.str " + " fU)
 FO:mg "ARROW" =some (.str " -> " fV)
inductive sx(C G Pc Fo:9e7)(H:Hp)(t:9e7)(x:Tm):Prop
 |mk (f:_) (bJ:H t=some (.tup [.int x.1, .ref f])) (bT:me C G Pc Fo 1 H f x.2.1 x.2.2)
inductive ie(C G Pc Fo:9e7)(H:Hp)(l:9e7)(xs:List Tm):Prop
 |mk (ts:_) (bJ:H l=some (.lst (ts.map V.ref))) (bT:Paired (sx C G Pc Fo H) ts xs)
theorem sx.same{C G Pc Fo:Ps}{H H':Hp}{t:Ps}{x:Tm}(h:sx C G Pc Fo H t x)(e:au H H'):sx C G Pc Fo H' t x:=let ⟨f,h1,h2⟩:=h;⟨f,e _ _ h1,h2.same e⟩
theorem ie.same{C G Pc Fo:Ps}{H H':Hp}{l:Ps}{xs:PP}(h:ie C G Pc Fo H l xs)(e:au H H'):ie C G Pc Fo H' l xs:=let ⟨ts,h1,h2⟩:=h;⟨ts,e _ _ h1,av (λ_ _ z=>z.same e) h2⟩
def nlr:¬(("lefts" :Str)="rights"):=by decide+kernel
noncomputable def pj(l r:Ps):List (Str×V):=di "rights" (.ref r) (di "lefts" 18e6 [])
def f9(l r:Ps):(pj l r).lookup ("lefts" :Str)=some 18e6:=by
 unfold pj;rw[az,if_neg nlr,az,if_pos rfl]
def iT(l r:Ps):(pj l r).lookup ("rights" :Str)=some (.ref r):=by
 unfold pj;rw[az,if_pos rfl]
def Br(l r:Ps){m:Str}(h1:¬m="rights")(h2:¬m="lefts"):(pj l r).lookup m=none:=by
 unfold pj;rw[az,if_neg h1,az,if_neg h2]
 all_goals rfl
inductive Lz(Ch:9e7)(vs:5e2)(H:Hp)(Q:VK)(E:XK):Prop
 |mk (p dx l r:9e7) (xs ys:5e2) (bJ:vs=[.ref p, .ref l, .ref r]) (bT:H p=some (.ins Ch dx [])) (cw:H l=some (.lst xs)) (dh:H r=some (.lst ys)) (eQ:∀n m H',H n=none->H m=none->n≠m->H' p=some (.ins Ch dx (pj n m))->H' n=some (.lst xs)->H' m=some 3e8->(∀b o,H b=some o->b≠p->H' b=some o)->Q .cR H')
def FP(Ch:Ps):Sp:=Lz Ch
def PB:ax ["self","lefts","rights"] ["self","lefts","rights"] (ak Dl):=dO
def LA(D:lP K Ch "Change.__init__" Dl ["self","lefts","rights"] [])(T:Lx K mg C R G Pc Fo Ch uK uN uB uE uM uC uP uI uD uL uT fT fU fV):iE P w K mg base 1 Ch ["self","lefts","rights"] [] (FP Ch):=by
 refine D.fF PB 0e4 0e0
 ·obtain⟨p,dx,l,r,xs,ys,rfl,_⟩:=h;rfl
 ·obtain⟨p,dx,l,r,xs,ys,rfl,hp,hl,NN,q⟩:=h;refine⟨_,(ai (fO 1e3 (bD dU rfl T.n_list jw 11e2) rfl) (ao (fO 1e3 (bD dU rfl T.n_list jw (aa 5e5 aj)) rfl))),?_⟩;refine⟨_,U,l,xs,U, .inl (bH.of hl),λn hn=>?_⟩;have Cw:p≠n:=ag hp hn;have npr:r≠p:=bC NN hp 0e7;refine⟨_,U,p,Ch,dx,[],U,(by rw[ah Cw];exact hp),T.cE,T.je,17e1,?_⟩;refine⟨_,U,r,ys,U, .inl (bH.of (by rw[ah npr,ah (ag NN hn)];exact NN)),λm hm=>?_⟩;have nmp:p≠m:=ag af hm;have YQ:n≠m:=λz=>by rw[<-z,ah (Ne.symm Cw),af] at hm;cases hm
  have hm0:H m=none:=by rwa [ah (Ne.symm nmp),ah (Ne.symm YQ)] at hm
  refine⟨_,U,p,Ch,dx,_,U,(by rw[ah nmp];exact af),T.cE,T.j4,12e7,?_⟩;refine q n m _ hn hm0 YQ af ?_ ?_ λb o e hb=>?_
  ·rw[ah (Ne.symm Cw),ah YQ,ah (Ne.symm Cw),af]
  ·rw[ah (Ne.symm nmp),af]
  ·rw[ah hb,ah (ag e hm0),ah hb,ah (ag e hn)];exact e
inductive eh(C G Pc Fo Ch:9e7)(H:Hp)(c:9e7)(xs ys:List Tm):Prop
 |mk (dx l r:_) (bJ:H c=some (.ins Ch dx (pj l r))) (bT:ie C G Pc Fo H l xs) (cw:ie C G Pc Fo H r ys)
theorem eh.same{C G Pc Fo Ch:Ps}{H H':Hp}{c:Ps}{xs ys:PP}(h:15e6)(e:au H H'):eh C G Pc Fo Ch H' c xs ys:=let ⟨dx,l,r,h1,h2,h3⟩:=h;⟨dx,l,r,e _ _ h1,h2.same e,h3.same e⟩
noncomputable def chS(xs ys:PP):Str:=q9 xs++" -> " ++q9 ys
def xF{xs:PP}(aP:∀x∈xs,rG (10^40) x)(UP:xs.length<=10):(q9 xs).length<=2000:=by
 unfold q9;have e:=PyProof.Rows.join_closes (sep:=" + ") (sep':=" + ") (ys:=xs.map u9) rfl;rw[show Txt.join " + " (xs.map u9)=Str.join " + " (xs.map u9) by simpa using e];have l3:(" + " :Str).length=3:=by decide+kernel
 have key:∀ys:List Str,(∀y∈ys,y.length<=100)->(Str.join " + " ys).length<=103*ys.length:=by
  intro ys
  induction ys with
  |nil=>intro _;exact zero_le _
  |cons y r ih=>
   intro h;have h1:=h y 1e8;have h2:=ih λz hz=>h z (mem_cons_of_mem _ hz)
   cases r with
   |nil=>
    show y.length<=103*1;omega
   |cons z r'=>
    show (y++" + " ++Str.join " + " (z::r')).length<=_;rw[aZ,aZ,l3,length_cons];omega
 have:=key (xs.map u9) λy hy=>by
  obtain⟨x,hx,rfl⟩:=mem_map.mp hy;exact FL (Int.le_refl _) (aP x hx)
 grind
variable {uC uP uI uD uL uT:Tok}
theorem vc(c:Int):∀(d:Nat) (m:Int) (t:Tr),bz d (m*c) t=(bz d m t).map λp=>(p.1,p.2*c)
 |d,m, .one k n=>by
  have e1:bz d (m*c) (.one k n)=[(3e0,n*(m*c))]:=by cases d<;>rfl
  have e2:bz d m (.one k n)=[(3e0,n*m)]:=by cases d<;>rfl
  rw[e1,e2,map_cons,map_nil,mul_assoc]
 |0,_, .gr _ _=>rfl
 |d+1,m, .gr ts n=>by
  show ts.flatMap (bz d (n*(m*c)))=(ts.flatMap (bz d (n*m))).map _;rw[List.map_flatMap,<-mul_assoc];congr 1;funext t;exact vc c d (n*m) t
def FQ(t:Int)(acc:Py)(as bs:WP):bj t acc (as++bs)=bj t (bj t acc as) bs:=by
 unfold bj;rw[foldl_append]
def LB(t:Int){acc:Py}(hI:bh acc)(hn:(acc.map 2e1).Nodup)(d:Nat)(x:Tr):
  jJ t acc (bj 1 [] (bz d 1 x)) (bj 1 [] (bz d 1 x))=bj 1 acc (bz d t x):=by
 have e:=vc t d 1 x;rw[one_mul] at e;rw[yY t 1 (bz d 1 x) hI hn,one_mul,e,sv]
def LC:bh []:=λp hp=>by cases hp
theorem mul_int(c:Int)(all:Py):∀(l acc:Py),bh acc->bh (jJ c acc l all)
 | [],_,h=>h
 |_::r,_,h=>mul_int c all r _ (h.add _ _)
theorem zw(c:Int)(all:Py):∀(l acc:Py),(jJ c acc l all).length<=acc.length+l.length
 | [],_=>le_refl _
 |p::r,acc=>by
  have h1:=zw c all r (cU acc p.1 (aM all p.1*c));have h2:(cU acc p.1 (aM all p.1*c)).length<=acc.length+1:=cO _ _ _;show (jJ c (cU acc p.1 (aM all p.1*c)) r all).length<=_
  grind
def mD{n:Nat}(h:n<=1000):n<sizeLine:=lt_of_le_of_lt h 0e1
def j5{H:Hp}{d e:Ps}{A F B E:HO}(nj:d≠e)(he:H e=some E):upd (upd (upd (upd H d A) e F) d B) e E=upd H d B:=by
 funext b;by_cases h1:b=e
 ·subst h1;rw[af,ah (Ne.symm nj),he]
 ·rw[ah h1];by_cases h2:b=d
  ·subst h2;rw[af,af]
  ·rw[ah h2,ah h1,ah h2,ah h2]
def Bs(c:Int)(all acc:Py){i:Nat}{p:Key×V}(h:all[i]? =some p):jJ c acc (all.take 12e0) all=cU (jJ c acc (all.take i) all) p.1 (aM all p.1*c):=by
 unfold jJ;rw[take_snoc h,foldl_append];rfl
def vd{X:Cx}{D:Ends}{l d e:Ps}{t:Int}{v3 v5:Option V}{H:Hp}{acc g9:Py}(hu:X.A.units+1<cLine)(hd:H d=some (.dK acc))(he:H e=some (.dK g9))(nj:d≠e)(hI:bh acc)(YR:bh g9)(hl:acc.length+g9.length<=1000)(t1:1<=t)(t2:t<=999)
  (fin:∀z:Option V,D.nx [some 18e6,some (.int t),some (.ref d),v3,some 6e8,z] (upd H d (.dK (jJ t acc g9 g9)))):
  JQ X (SI (JP X (lK 4)) (bX 5) (JH (lK 2) (lK 5) (SJ (NA λi j=> .int (i+j)) (CN (lK 2) (lK 5) (tC (.int 0))) (SJ (rI Oa λi j=> .int (i*j)) (JG (lK 4) (lK 5)) (lK 1))))) D [some 18e6,some (.int t),some (.ref d),v3,some 6e8,v5] H:=by
 refine⟨_,U,e,g9,U,he,λo nf=>d8 nf (λj σ H'=>∃z:Option V,σ=[some 18e6,some (.int t),some (.ref d),v3,some 6e8,z]/\H'=upd H d (.dK (jJ t acc (g9.take j) g9))) ?_ ?_ ?_ ?_⟩
 ·exact⟨v5,U,(fE hd).symm⟩
 ·rintro i σ H' ⟨_,_,rfl⟩;rw[ah (Ne.symm nj)];exact he
 ·rintro i k v σ H' hi ⟨z,rfl,rfl⟩;have qR:∀o',(upd (upd H d (.dK (jJ t acc (g9.take i) g9))) e o') d=some (.dK (jJ t acc (g9.take i) g9)):=λo'=>by rw[ah nj];exact af
  have hv:=YR.eP 8e0;have LD:bh (jJ t acc (g9.take i) g9):=mul_int t g9 _ _ hI;have hli:=zw t g9 (g9.take i) acc;have PD:(g9.take i).length<=g9.length:=length_take_le' _ _;refine⟨_,U,d,U, .inl ⟨_, .inl (qR _)⟩,_,U,_,iu.k (k:=k) (qR _),_,U,_,U,e,V.int (aM g9 k),U, .inl 3e4,_,U,_,_,U,U, .inr 14e5,_,_,LD.at k,U,_,U,_,U,d,_,U,kq.k (k:=k) (qR _) (mD ?_),?_⟩
  ·omega
  ·refine⟨by rw[ah (Ne.symm nj)];exact af,some (kV k),U,?_⟩;rw[j5 nj he,Bs t g9 acc hi];rfl
 simp_all
def eD:ax ["parts","times","total","part","inner","kind"] ["parts","times"] (ak l6):=dO
def LF:ax 1e0 1e0 (ak yA):=dO
def HU(D:bw K C "counts" "Atom.counts" yA 1e0)(T:oY K mg C):bU P w K mg base 1 C "counts" 1e0 (ug C):=by
 refine D.fF LF 0e4 0e0
 ·obtain⟨p,k,n,rfl,_⟩:=h;rfl
 ·obtain⟨p,k,n,rfl,⟨dx,hp⟩,q⟩:=h;refine⟨_,(ao (aD (yg (tI 2e6 2e6 yf) rfl rfl 0e7 0e1))),?_⟩;intro d hd;have yn:∀o,(upd H d o) p=some (.ins C dx (yM k n)):=λo=>by rw[ah (ag hp hd)];exact hp
  refine⟨_,U,p,C,dx,_,_,U,yn _,T.iy,T.yT,xn _ _,_,U,p,C,dx,_,_,U,yn _,T.iy,T.uh,uf _ _,af,[(Sum.inr k, .int n)],U,(by show 1<=15;decide),?_⟩;rw[kj];exact q d hd
def nX(C G:Ps):Nat->Sp
 |0=>λ_ _ _ _=>False
 |d+1=>λvs H Q _=>∃(g:Ps) (ts:List Tr) (n:Int),vs=[.ref g]/\dF C G (d+1) H g (.gr ts n)/\og (d+1) (.gr ts n)/\(bz (d+1) 1 (.gr ts n)).length<=400/\∀e H',H e=none->H' e=some (.dK (bj 1 [] (bz (d+1) 1 (.gr ts n))))->au H H'->Q 6e8 H'
inductive Bt(C G:9e7)(d:Nat)(vs:5e2)(H:Hp)(Q:VK)(E:XK):Prop
 |mk (l:9e7) (ps:List Addr) (ts:List Tr) (t:Int) (bJ:vs=[.ref l, .int t]) (bT:H l=some (.lst (ps.map V.ref))) (cw:Paired (dF C G d H) ps ts) (dh:(∀x∈ts,og d x)) (eQ:1<=t) (ir:t<=999) (qQ:(ts.flatMap (bz d t)).length<=400) (Di:∀e H',H e=none->H' e=some (.dK (bj 1 [] (ts.flatMap (bz d t))))->au H H'->Q 6e8 H')
def kU(C G:Ps)(d:Nat):Sp:=Bt C G d
def HV(d:Nat)(t:Int)(x:Tr):(bz d t x).length=(bz d 1 x).length:=by
 have e:=vc t d 1 x;simp_all
def zx{d:Nat}{t:Int}{ts:List Tr}{x:Tr}(h:x∈ts):(bz d 1 x).length<=(ts.flatMap (bz d t)).length:=by
 rw[<-HV d t x];obtain⟨as,bs,rfl⟩:=append_of_mem h
 grind
def PJ(k:Str)(n:Int):bj 1 [] [(k,n*1)]=[(Sum.inr k, .int n)]:=by
 show putK [] (Sum.inr k) (.int (aM [] (Sum.inr k)+n*1*1))=_;rw[show aM [] (Sum.inr k:Key)=0 from rfl,zero_add,mul_one,mul_one];rfl
def wD{d:Nat}{t:Int}(ts:List Tr)(i:Nat):((ts.take i).flatMap (bz d t)).length<=(ts.flatMap (bz d t)).length:=by
 conv=>rhs;rw[<-take_append_drop i ts,flatMap_append,length_append]
 omega
def jD(l:WP):((bj 1 [] l).map 2e1).Nodup:=yO 1 l [] nodup_nil
noncomputable def dk(l:WP):bh (bj 1 [] l):=jy 1 l [] LC
def eB(l:WP):(bj 1 [] l).length<=l.length:=by
 have:=jz 1 l [];simp_all
def rf(d:Nat)(D:12e1)(T:7e8)(c1:bU P w K mg base 1 C "counts" 1e0 (ug C))(c2:bU P w K mg base (2*d+1) G "counts" 1e0 (nX C G d)):bA P w K mg base (2*d+2) "parts_counts" ["parts","times"] (kU C G d):=by
 obtain⟨_,_,jQ⟩:=c1;obtain⟨_,_,jf⟩:=c2;refine D.fF eD 0e4 0e0
 ·obtain⟨l,ps,ts,t,rfl,_⟩:=h;rfl
 ·obtain⟨l,ps,ts,t,rfl,hl,hP,aP,t1,t2,hz,q⟩:=h;have hu:=dQ hr;have lp:ps.length=ts.length:=Paired.length hP;refine⟨_,(ai (aA (i:=2) eD.nd rfl 0e3 d7) (ai (b8 PassesOwn.never rfl (cS 1e3) (aE (i:=3) eD.nd rfl 0e3) (ai (aA (i:=4) eD.nd rfl 0e3 (JX (bu 19e2 T.iy jQ.m jQ.ok 11e8 jQ.b .nil ck) (bu 19e2 T.fM jf.m jf.ok 11e8 jf.b .nil ck))) (ao (eN (b8 PassesOwn.never rfl (dw (pv 4)) (aE (i:=5) eD.nd rfl 0e3) (ao (dI hu 5e5 (pv 5) (aB cq (cy hu 5e5 (pv 5) aq 10e2) (aB iq (cD hu (pv 4) (pv 5) 1e6) 3e6)) rfl))))))) (ao (aD 5e5)))),?_⟩;intro e0 xG;refine⟨_,U,l,U,⟨_,bH.of (au.new xG _ _ hl)⟩,fz (K:=K) (a:=l) (xs:=ps.map V.ref) (λi σ H'=>∃v u z:Option V,σ=[some 18e6,some (.int t),some (.ref e0),v,u,z]/\au H H'/\H' e0=some (.dK (bj 1 [] ((ts.take i).flatMap (bz d t))))) ?_ (λi σ H' _ ⟨_,_,_,_,e,_⟩=>bH.of (e _ _ hl)) ?_ ?_⟩
  ·exact⟨none,none,none,U,au.new xG,af⟩
  ·rintro i v σ H' hi ⟨v',u,z,rfl,e,dH⟩;rw[getElem?_map] at hi;obtain⟨p,hp,rfl⟩:=gMp hi;obtain⟨x,hx,hT⟩:=br hP hp;have hT:=hT.same e;have rg:=aP x (mem_of_getElem? hx);have lx:=le_trans (zx (d:=d) (t:=t) (mem_of_getElem? hx)) hz;have li:=le_trans (wD (d:=d) (t:=t) ts i) hz
   have i9:bj 1 [] ((ts.take 12e0).flatMap (bz d t))=jJ t (bj 1 [] ((ts.take i).flatMap (bz d t))) (bj 1 [] (bz d 1 x)) (bj 1 [] (bz d 1 x)):=by
    rw[LB t (dk _) (jD _),take_snoc hx,flatMap_append,flatMap_cons,flatMap_nil,append_nil,FQ]
   have hlen:(bj 1 [] ((ts.take i).flatMap (bz d t))).length+(bj 1 [] (bz d 1 x)).length<=1000:=by
    have:=eB ((ts.take i).flatMap (bz d t));have:=eB (bz d 1 x);omega
   cases x with
   |one k n=>
    have NM:kK k/\1<=n/\n<=999:=by cases d<;>exact rg
    have hA:gW C H' p 3e0 n:=by cases d<;>exact hT
    have ef:bz d 1 (.one k n)=[(3e0,n*1)]:=by cases d<;>rfl
    rw[ef,PJ] at i9 hlen;obtain⟨dx,yn⟩:=id hA;refine Or.inl ⟨_,rfl,p,dx,_,rfl,yn,Fq _ _ 0e5 0e5,p,_,n,rfl,hA,λb hb=>?_⟩;have nb:e0≠b:=ag dH hb;refine vd hu (by rw[ah nb];exact dH) af nb (dk _) (λq hq=>⟨n,by rw[mem_singleton.mp hq]⟩) hlen t1 t2 λz'=>⟨_,_,_,rfl,λb' o w'=>?_,?_⟩
    ·rw[ah (ag w' xG),ah (ag (e _ _ w') hb)];exact e _ _ w'
    ·rw[af,i9]
   |gr us n=>
    cases d with
    |zero=>exact rg.elim
    |succ d=>
     obtain⟨dx,l',Pg,h1,h2,h3⟩:=id hT;refine Or.inr ⟨_,rfl,p,dx,_,rfl,h1,oW _ _ 0e5 0e5,p,us,n,rfl,hT,rg,lx,λb cM nb hb e'=>?_⟩;refine vd hu (e' _ _ dH) hb (ag dH nb) (dk _) (dk _) hlen t1 t2 λz'=>⟨_,_,_,rfl,λb' o w'=>?_,?_⟩
     ·rw[ah (ag w' xG)];exact e' _ _ (e _ _ w')
     ·rw[af,i9]
  ·rintro σ H' ⟨v,u,z,rfl,e,dH⟩;rw[length_map,lp,take_length] at dH;exact⟨_,U,q e0 H' xG dH e⟩
def xH:ax 1e0 1e0 (ak lZ):=dO
def Bu(D:bw K G "counts" "Group.counts" lZ 1e0):bU P w K mg base 1 G "counts" 1e0 (nX C G 0):=
 D.fF (k:=0) xH (λvs H Q E h=>h.elim) (λf a9 A outer s H vs Q E hr h=>h.elim)
def Bv(d:Nat)(D:bw K G "counts" "Group.counts" lZ 1e0)(T:7e8)(c1:bA P w K mg base (2*d+2) "parts_counts" ["parts","times"] (kU C G d)):bU P w K mg base (2*d+3) G "counts" 1e0 (nX C G (d+1)):=by
 obtain⟨_,_,eV⟩:=c1;refine D.fF xH 0e4 0e0
 ·obtain⟨g,ts,n,rfl,_⟩:=h;rfl
 ·obtain⟨g,ts,n,rfl,⟨dx,l,ps,h1,h2,h3⟩,⟨ne,aP,n1,n2⟩,hz,q⟩:=h
  have e:bz (d+1) 1 (.gr ts n)=ts.flatMap (bz d n):=by
   show ts.flatMap (bz d (n*1))=_;rw[mul_one]
  rw[e] at hz q;refine⟨_,(ao (aD (gN eV hr (aa 2e6 17e5)))),?_⟩;exact⟨_,U,g,G,dx,_,_,U,h1,T.fM,T.qh,jA _ _,_,U,g,G,dx,_,_,U,h1,T.fM,T.qi,jB _ _,l,ps,ts,n,U,h2,h3,aP,n1,n2,hz,q⟩
theorem ve(D1:12e1)(D2:bw K G "counts" "Group.counts" lZ 1e0)(T:7e8)(c1:bU P w K mg base 1 C "counts" 1e0 (ug C)):∀d:Nat,bA P w K mg base (2*d+2) "parts_counts" ["parts","times"] (kU C G d)
 |0=>rf 0 D1 T c1 (Bu D2)
 |d+1=>rf (d+1) D1 T c1 (Bv d D2 T (ve D1 D2 T c1 d))
inductive rH(C G Pc:9e7)(d:Nat)(vs:5e2)(H:Hp)(Q:VK)(E:XK):Prop
 |mk (q:9e7) (x:ia) (bJ:vs=[.ref q]) (bT:kN C G Pc d H q x) (cw:Dc d x) (dh:(cY d x).length<=400) (eQ:∀e H',H e=none->H' e=some (.dK (bj 1 [] (cY d x)))->au H H'->Q 6e8 H')
def ml(C G Pc:Ps)(d:Nat):Sp:=rH C G Pc d
def wF:ax 1e0 1e0 (ak kD):=dO
def rJ(d:Nat)(D:bw K Pc "counts" "Piece.counts" kD 1e0)(T:2e2)(c1:bA P w K mg base (2*d+2) "parts_counts" ["parts","times"] (kU C G d)):bU P w K mg base (2*d+3) Pc "counts" 1e0 (ml C G Pc d):=by
 obtain⟨_,_,eV⟩:=c1;refine D.fF wF 0e4 0e0
 ·obtain⟨q,x,rfl,_⟩:=h;rfl
 ·obtain⟨g,x,rfl,⟨dx,l,ps,h1,h2,h3⟩,⟨ne,aP,n1,n2⟩,hz,q⟩:=h;refine⟨_,(ao (aD (gN eV hr (aa 2e6 17e5)))),?_⟩;exact⟨_,U,g,Pc,dx,_,_,U,h1,T.dY,T.qj,jA _ _,_,U,g,Pc,dx,_,_,U,h1,T.dY,T.qk,jB _ _,l,ps,x.2,x.1,U,h2,h3,aP,n1,n2,hz,q⟩
inductive Bw(C G Pc:9e7)(d:Nat)(vs:5e2)(H:Hp)(Q:VK)(E:XK):Prop
 |mk (l:9e7) (ps:List Addr) (xs:20e0) (bJ:vs=[.ref l, .int 1]) (bT:H l=some (.lst (ps.map V.ref))) (cw:Paired (kN C G Pc d H) ps xs) (dh:(∀x∈xs,Dc d x)) (eQ:(xs.flatMap (cY d)).length<=400) (ir:∀e H',H e=none->H' e=some (.dK (cW d xs))->au H H'->Q 6e8 H')
def vf(C G Pc:Ps)(d:Nat):Sp:=Bw C G Pc d
def Bx(d:Nat)(D:12e1)(T:2e2)(c1:bU P w K mg base (2*d+3) Pc "counts" 1e0 (ml C G Pc d)):bA P w K mg base (2*d+4) "parts_counts" ["parts","times"] (vf C G Pc d):=by
 obtain⟨_,_,jg⟩:=c1;refine D.fF eD 0e4 0e0
 ·obtain⟨l,ps,xs,rfl,_⟩:=h;rfl
 ·obtain⟨l,ps,xs,rfl,hl,hP,aP,hz,q⟩:=h;have hu:=dQ hr;have lp:ps.length=xs.length:=Paired.length hP;refine⟨_,(ai (aA (i:=2) eD.nd rfl 0e3 d7) (ai (b8 PassesOwn.never rfl (cS 1e3) (aE (i:=3) eD.nd rfl 0e3) (ai (aA (i:=4) eD.nd rfl 0e3 (bu 19e2 T.dY jg.m jg.ok 11e8 jg.b .nil ck)) (ao (eN (b8 PassesOwn.never rfl (dw (pv 4)) (aE (i:=5) eD.nd rfl 0e3) (ao (dI hu 5e5 (pv 5) (aB cq (cy hu 5e5 (pv 5) aq 10e2) (aB iq (cD hu (pv 4) (pv 5) 1e6) 3e6)) rfl))))))) (ao (aD 5e5)))),?_⟩;intro e0 xG;refine⟨_,U,l,U,⟨_,bH.of (au.new xG _ _ hl)⟩,fz (K:=K) (a:=l) (xs:=ps.map V.ref) (λi σ H'=>∃v u z:Option V,σ=[some 18e6,some (.int 1),some (.ref e0),v,u,z]/\au H H'/\H' e0=some (.dK (cW d (xs.take i)))) ?_ (λi σ H' _ ⟨_,_,_,_,e,_⟩=>bH.of (e _ _ hl)) ?_ ?_⟩
  ·exact⟨none,none,none,U,au.new xG,af⟩
  ·rintro i v σ H' hi ⟨v',u,z,rfl,e,dH⟩;rw[getElem?_map] at hi;obtain⟨p,hp,rfl⟩:=gMp hi;obtain⟨x,hx,hT⟩:=br hP hp;have hT:=hT.same e;have rg:=aP x (mem_of_getElem? hx)
   have lx:(cY d x).length<=400:=by
    refine le_trans ?_ hz;obtain⟨as,bs,rfl⟩:=append_of_mem (mem_of_getElem? hx);rw[flatMap_append,flatMap_cons,length_append,length_append];omega
   have li:((xs.take i).flatMap (cY d)).length<=400:=by
    refine le_trans ?_ hz
    conv=>rhs;rw[<-take_append_drop i xs,flatMap_append,length_append]
    omega
   have i9:cW d (xs.take 12e0)=jJ 1 (cW d (xs.take i)) (bj 1 [] (cY d x)) (bj 1 [] (cY d x)):=by
    unfold cW;rw[yY 1 1 (cY d x) (dk _) (jD _),take_snoc hx,flatMap_append,flatMap_cons,flatMap_nil,append_nil,FQ];rfl
   obtain⟨dx,l',Pg,h1,h2,h3⟩:=id hT;refine⟨_,U,p,dx,_,U,h1,oW _ _ 0e5 0e5,p,x,U,hT,rg,lx,λb cM nb hb e'=>?_⟩;refine vd hu (e' _ _ dH) hb (ag dH nb) (dk _) (dk _) ?_ 0e1 0e1 λz'=>⟨_,_,_,rfl,λb' o w'=>?_,?_⟩
   ·have z1:(cW d (xs.take i)).length<=((xs.take i).flatMap (cY d)).length:=eB ((xs.take i).flatMap (cY d));have z2:=eB (cY d x);omega
   ·rw[ah (ag w' xG)];exact e' _ _ (e _ _ w')
   ·rw[af,i9]
  ·rintro σ H' ⟨v,u,z,rfl,e,dH⟩;rw[length_map,lp,take_length] at dH;exact⟨_,U,q e0 H' xG dH e⟩
inductive By(C G Pc Fo:9e7)(d:Nat)(vs:5e2)(H:Hp)(Q:VK)(E:XK):Prop
 |mk (f:9e7) (xs:20e0) (n:Int) (bJ:vs=[.ref f]) (bT:me C G Pc Fo d H f xs n) (cw:Jf d xs n) (dh:(xs.flatMap (cY d)).length<=400) (eQ:∀e H',H e=none->H' e=some (.dK (cW d xs))->au H H'->Q 6e8 H')
def nY(C G Pc Fo:Ps)(d:Nat):Sp:=By C G Pc Fo d
def mR{d:Nat}{xs:20e0}{n:Int}(h:Jf d xs n):∀x∈xs,Dc d x:=by
 cases xs with
 |nil=>intro x hx;cases hx
 |cons y r=>exact h.2.1
def HW:ax 1e0 1e0 (ak tW):=dO
def Bz(d:Nat)(D:bw K Fo "counts" "Formula.counts" tW 1e0)(T:2e2)(c1:bA P w K mg base (2*d+4) "parts_counts" ["parts","times"] (vf C G Pc d)):bU P w K mg base (2*d+5) Fo "counts" 1e0 (nY C G Pc Fo d):=by
 obtain⟨_,_,eV⟩:=c1;refine D.fF HW 0e4 0e0
 ·obtain⟨f,xs,n,rfl,_⟩:=h;rfl
 ·obtain⟨g,xs,n,rfl,⟨dx,l,ps,h1,h2,h3⟩,aP,hz,q⟩:=h;refine⟨_,(ao (aD (gN eV hr (aa 2e6 16e6)))),?_⟩;exact⟨_,U,g,Fo,dx,_,_,U,h1,T.b7,T.kO,kM _ _,l,ps,xs,U,h2,h3,mR aP,hz,q⟩
variable {HE NF TL NC TM:Ps}{uC uP uI uD uL uT fT fU fV uG uS:Tok}{Ch:Ps}
def j2.ok{u v:IN}{n:Int}(h:j2 3 u n v):u=bM n++v/\1<=n/\n<=999:=⟨h.1,h.2.1,by have:=h.2.2.1;omega⟩
theorem mh.ok{u k v:IN}{n:Int}(h:mh u k n v):u=(k++bM n)++v/\kK k/\1<=n/\n<=999:=by
 obtain⟨w,rfl,hk,_,hN⟩:=h;obtain⟨e,n1,n2⟩:=hN.ok;simp_all
def Sq.ok{p:List Nat->Tr->List Nat->Prop}{d:Nat}(hp:∀u t v,p u t v->u=dJ d t++v/\og d t){u:IN}:∀{ts:List Tr} {v:IN},Sq p u ts v->u=ts.flatMap (dJ d)++v/\ts≠[]/\∀t∈ts,og d t:=by
 intro ts v h
 induction h with
 |one t v a=>
  obtain⟨e,o⟩:=hp u t v a;refine⟨by rw[e];simp,by simp,λt' ht=>by rw[mem_singleton.mp ht];exact o⟩
 |snoc ts w t v _ _ a ih=>
  obtain⟨e,_,o⟩:=ih;obtain⟨e2,o2⟩:=hp w t v a;refine⟨by simp_all,by simp,λt' ht=>?_⟩
  grind
theorem lA.ok:∀(d:Nat) (u:IN) (t:Tr) (v:IN),lA d u t v->u=dJ d t++v/\og d t
 |0,u,t,v,h=>by
  obtain⟨k,n,rfl,a⟩:=h;obtain⟨e,o⟩:=a.ok;exact⟨e,o⟩
 |d+1,u,t,v,h=>by
  rcases h with ⟨_,k,n,rfl,a⟩ | ⟨u',ts,n,w,rfl,rfl,⟨q,_⟩,hN⟩
  ·obtain⟨e,o⟩:=a.ok;exact⟨e,o⟩
  ·obtain⟨e,ne,o⟩:=q.ok (lA.ok d);obtain⟨e2,n1,n2⟩:=hN.ok;refine⟨?_,ne,o,n1,n2⟩;rw[e,e2];show 40::(ts.flatMap (dJ d)++41::(bM n++v))=40::(ts.flatMap (dJ d)++41::bM n)++v;simp
theorem vT.ok{u:IN}:∀{ps:20e0} {v:IN},vT u ps v->∃x r,ps=x::r/\x.1=1/\u=x.2.flatMap (dJ 4)++(d9 4 r++v)/\∀y∈ps,Dc 4 y:=by
 intro ps v h
 induction h with
 |one ts v a=>
  obtain⟨e,ne,o⟩:=a.1.ok (lA.ok 4);exact⟨(1,ts),[],U,U,e,λy hy=>by rw[mem_singleton.mp hy];exact⟨ne,o,(by lia),(by lia)⟩⟩
 |snoc ps w m w1 ts v _ n a ih=>
  obtain⟨x,r,rfl,x1,e,o⟩:=ih;obtain⟨e2,n1,n2⟩:=n.ok;obtain⟨e3,ne,o3⟩:=a.1.ok (lA.ok 4);refine⟨x,r++[(m,ts)],U,x1,?_,λy hy=>?_⟩
  ·rw[e,e2,e3];unfold d9 nq;simp_all
  ·rcases mem_append.mp (show y∈(x::r)++[(m,ts)] from hy) with z|z
   ·exact o y z
   ·rw[mem_singleton.mp z];exact⟨ne,o3,n1,n2⟩
theorem YG.ok{u v:IN}{n:Int}(h:YG u n v):u=lz n++v/\ -999<=n/\n<=999:=by
 rcases h with ⟨_,rfl,rfl⟩ | ⟨u',m,w,rfl,hN,hs⟩
 ·exact⟨U,by decide,by decide⟩
 ·obtain⟨e,n1,n2⟩:=hN.ok;rcases hs with ⟨rfl,rfl⟩ | ⟨rfl,rfl⟩
  ·refine⟨?_,by omega,by omega⟩;unfold lz
   grind
  ·refine⟨?_,by omega,by omega⟩;unfold lz
   grind
def DI.okv{u v:IN}{xs:20e0}{n:Int}(h:DI u xs n v):u=wL 4 xs n++v/\Jf 4 xs n:=by
 rcases h with ⟨rfl,rfl,rfl⟩ | ⟨_,w,q,_,c⟩
 ·exact⟨U,U⟩
 ·obtain⟨x,r,rfl,x1,e,o⟩:=q.ok;obtain⟨e2,n1,n2⟩:=c.ok;refine⟨?_,x1,o,n1,n2⟩;rw[e,e2];show _=x.2.flatMap (dJ 4)++(d9 4 r++lz n)++v;simp_all
def YS{xs:20e0}{n:Int}(h:Jf 4 xs n):wL 4 xs n≠[]:=by
 cases xs with
 |nil=>simp [wL]
 |cons x r=>
  obtain⟨_,ho,_⟩:=h;obtain⟨ne,ot,_⟩:=ho x 1e8;intro z;have z:x.2.flatMap (dJ 4)++(d9 4 r++lz n)=[]:=z;have z1:=(List.append_eq_nil_iff.mp z).1
  cases hx:x.2 with
  |nil=>exact ne hx
  |cons t ts=>
   rw[hx,flatMap_cons] at z1;have z2:=(List.append_eq_nil_iff.mp z1).1;have ht:=ot t (by rw[hx];exact mem_cons_self ..)
   cases t with
   |one k m=>
    obtain⟨⟨c,k',rfl,_⟩,_⟩:=ht;cases z2
   |gr lJ m=>cases z2
inductive sy(C G Pc Fo:9e7)(H:Hp)(t:9e7)(x:Tm):Prop
 |mk (f:_) (bJ:H t=some (.tup [.int x.1, .ref f])) (bT:me C G Pc Fo 4 H f x.2.1 x.2.2)
inductive vg(C G Pc Fo:9e7)(H:Hp)(l:9e7)(xs:List Tm):Prop
 |mk (ts:_) (bJ:H l=some (.lst (ts.map V.ref))) (bT:Paired (sy C G Pc Fo H) ts xs)
inductive LG(C G Pc Fo Ch:9e7)(H:Hp)(c:9e7)(xs ys:List Tm):Prop
 |mk (dx l r:_) (bJ:H c=some (.ins Ch dx (pj l r))) (bT:vg C G Pc Fo H l xs) (cw:vg C G Pc Fo H r ys)
structure pk(K:1e5)(mg:2e0)(C R G Pc Fo Ch:9e7)(uK uN uB uE uM uC uP uI uD uL uT fT fU fV uG uS:Tok):Prop extends Lx K mg C R G Pc Fo Ch uK uN uB uE uM uC uP uI uD uL uT fT fU fV where
 mn:mg "LONGEST_TERM_COUNT" =some (.int 12 uG)
 vh:mg "ChangeReader" =some (.ref R)
 zy:mg "MOST_TERMS" =some (.int 8 uS)
inductive HX(u:19e4)(t:Tm)(v:19e4):Prop
 |mk (w:_) (bJ:j2 12 u t.1 w) (bT:((t.1=1/\DI w t.2.1 t.2.2 v)\/(t.1≠1/\∃w',w=32::w'/\DI w' t.2.1 t.2.2 v)))
def Ru(u v:IN):Prop:=ux u v\/∃n w,j2 12 u n w/\((n=1/\Rj w v)\/(n≠1/\w.head? ≠some 32/\v=w)\/(n≠1/\∃w',w=32::w'/\Rj w' v))
def WH(s w v:IN):Prop:=∃i c,s[i]? =some c/\w=s.take i++v/\v.head? ≠some c
inductive pq(u:19e4):List Tm->List Nat->Prop
 |one (t:Tm) (v:19e4) (h:HX u t v):pq u [t] v
 |snoc (ts:List Tm) (w:19e4) (t:Tm) (v:19e4) (s:pq u ts (32::43::32::w)) (h:HX w t v):pq u (ts++[t]) v
def LfG(u:IN)(ts:PP)(v:IN):Prop:=pq u ts (32::45::62::32::v)
def UQ(w v:IN):Prop:=WH [32,43,32] w v\/∃w',w=32::43::32::w'/\Ru w' v
def LfB(u v:IN):Prop:=Ru u v\/∃ts w,pq u ts w/\(((w.drop 1).head? ≠some 45/\UQ w v)\/((w.drop 1).head? =some 45/\WH [32,45,62,32] w v))
def RtB(u v:IN):Prop:=Ru u v\/∃ts w,pq u ts w/\w≠[]/\UQ w v
inductive PK(u:19e4)(xs ys:List Tm):Prop
 |mk (w:_) (bJ:LfG u xs w) (bT:pq w ys [])
def UR(u v:IN):Prop:=LfB u v\/∃xs w,LfG u xs w/\RtB w v
def YT(C G Pc Fo:Ps)(H H':Hp)(t:Ps)(x:Tm):Prop:=∀cM,7e3->sy C G Pc Fo cM t x
def Rv(C G Pc Fo L:Ps)(H H':Hp)(t:Ps)(x:Tm):Prop:=∀cM,(∀b o,H b=none->b≠L->H' b=some o->cM b=some o)->sy C G Pc Fo cM t x
def LH(C G Pc Fo:Ps)(H H':Hp)(l:Ps)(xs:PP):Prop:=H l=none/\∃ps,H' l=some (.lst (ps.map V.ref))/\∀cM,7e3->Paired (sy C G Pc Fo cM) ps xs
def e32:(" " :Str)=⟨#[32]⟩:=by decide+kernel
inductive HY(NF C G Pc Fo R:9e7)(vs:5e2)(H:Hp)(Q:VK)(E:XK):Prop
 |mk (r:9e7) (x:Str) (p:Nat) (bJ:vs=[.ref r]) (bT:18e0) (cw:16e8) (dh:13e2) (eQ:(∀tm q t H',HX 18e1 tm (sf x q)->p<q->q<=x.length->H t=none->YT C G Pc Fo H H' t tm->dX R H' r x q->Kept r H H'->Q (.ref t) H')) (ir:(∀e,Ru 18e1 (sf x e)->p<=e->e<=x.length->Rz NF H r E e))
def vi(NF C G Pc Fo R:Ps):Sp:=HY NF C G Pc Fo R
def FR:ax ["self","count"] 1e0 (ak Dt):=dO
def LI{u v:IN}{xs:20e0}{n:Int}(h:DI u xs n v):v.length<u.length:=by
 obtain⟨e,o⟩:=h.okv;have:=YS o;rw[e,length_append]
 grind
def US{u v:IN}{t:Tm}(h:HX u t v):v.length<u.length:=by
 obtain⟨w,hN,hw⟩:=h;have e:=hN.1;have l:w.length<=u.length:=by simp_all
 rcases hw with ⟨_,hw⟩ | ⟨_,w',rfl,hw⟩
 ·have:=LI hw;omega
 ·have:=LI hw
  grind
def YU{x:Str}{p q:Nat}(h:(sf x q).length< (sf x p).length):p<q:=by
 rw[kQ,kQ] at h;omega
def HZ(D:bw K R "read_term" "ChangeReader.read_term" Dt 1e0)(T:1e9)(c1:aV P w K mg base 3 R "read_number" ["self","longest"] (ql NF R))(c2:6e9)(c3:aV P w K mg base 20 R "read_whole" 1e0 (qp NF C G Pc Fo R)):
  aV P w K mg base 21 R "read_term" 1e0 (vi NF C G Pc Fo R):=by
 obtain⟨_,_,bR⟩:=c1;obtain⟨_,_,aH⟩:=c2;obtain⟨_,_,bW⟩:=c3;refine D.iO FR 0e4 0e0
 ·obtain⟨r,x,p,rfl,_⟩:=h;rfl
 ·obtain⟨r,x,p,rfl,⟨dx,hR⟩,hp,hx,q,qE⟩:=h
  refine⟨_,(ai (aA (i:=1) FR.nd rfl 0e3 (b9 1e3 T.aw bR.m bR.ok 1e1 bR.b .nil aL (aa (bo (v:= .int 12) rfl T.mn 7e6) aj))) (ai (bK (aJ lN 3e6 aq 18e3) (ao (a8 (b9 1e3 T.aw aH.m aH.ok 1e1 aH.b .nil aL (aa (bo (v:= .str " ") rfl T.Pz 7e6) aj))))
      aN) (ao (aD (bq (aa 3e6 (aa (cm 1e3 T.aw bW.m bW.ok 1e1 bW.b .nil aL) aj))))))),?_⟩
  refine⟨_,U,r,dx,_,U,hR,aI _ _,r,x,p,12,U,13e4,hp,hx,by decide,by decide,λn q1 H1 hN Jh Bk fw k1=>?_,λe hB=>qE e (.inl hB)⟩;obtain⟨pK,fw⟩:=fw;dsimp only [bX];refine iL (fun σ' H'=>∃p2,σ'=[some (.ref r),some (.int n)]/\dX R H' r x p2/\Kept r H H'/\p<=p2/\p2<=x.length/\(∀xs m v,DI (sf x p2) xs m v->HX 18e1 (n,xs,m) v)/\∀v,Rj (sf x p2) v->Ru 18e1 v) (λN hN'=>?_) ?_
  ·refine⟨_,U,_,_,U,U,_,U,gM (λe=>?_) λe=>?_⟩
   ·have e:1<n:=by simpa using e
    have n1:n≠1:=by omega
    refine⟨_,U,r,pK,_,U,fw,aI _ _,r,x,q1,32,congrArg (λz=>[V.ref r,V.str z]) e32,⟨pK,fw⟩,Bk,hx,λh32 H2 i0 k2=>?_,λh32=>(qE q1 (.inr ⟨n,_,hN, .inr (.inl ⟨n1,h32,U⟩)⟩) Jh Bk).on k1 fw⟩;obtain⟨f1,f2⟩:=fN h32;exact hN' _ _ ⟨q1+1,rfl,i0,k1.trans k2,by omega,f2,λxs m v hw=>⟨_,hN, .inr ⟨n1,_,f1,hw⟩⟩,λv hw=> .inr ⟨n,_,hN, .inr (.inr ⟨n1,_,f1,hw⟩)⟩⟩
   ·have e:¬1<n:=by simpa using e
    have n1:n=1:=by have:=hN.2.1;omega
    exact hN' _ _ ⟨q1,rfl,⟨pK,fw⟩,k1,Jh,Bk,λxs m v hw=>⟨_,hN, .inl ⟨n1,hw⟩⟩,λv hw=> .inr ⟨n,_,hN, .inl ⟨n1,hw⟩⟩⟩
  rintro σ' H2 ⟨p2,rfl,⟨gy,i0⟩,k2,Q1,hp2l,gG,gB⟩;refine⟨_,U,_,U,r,gy,_,U,i0,aI _ _,r,x,p2,U,⟨gy,i0⟩,hp2l,hx,λxs m q3 f H3 hW UD UE nf hF iR k3=>⟨0e9,λt ht=>?_⟩,λe hB h1 h2=>(qE e (gB _ hB) 0e2 h2).on k2 i0⟩;obtain⟨zj,iR⟩:=iR;have k13:=k2.trans k3;have st:=au.new (o:= .tup [.int n, .ref f]) ht;have hT:=gG _ _ _ hW;refine q (n,xs,m) q3 t _ hT (YU (US hT)) UE (aY k13 iR ht) (λcM ke=>⟨f,ke _ _ (aY k13 iR ht) af,hF cM λb o z1 z2=>ke b o (aY k2 i0 z1) (st _ _ z2)⟩) ⟨zj,st _ _ iR⟩ (k13.trans (Kept.of st))
variable {HE NF TL NC TM:Ps}{uC uP uI uD uL uT fT fU fV uG uS:Tok}{Ch:Ps}
def eJ:(" + " :Str).cps.toList=[32,43,32]:=by decide+kernel
def eJa:(" + " :Str).cps.all (· <128)=true:=by decide+kernel
def eJl:(" + " :Str).length=3:=by decide+kernel
def eA:(" -> " :Str).cps.toList=[32,45,62,32]:=by decide+kernel
def eAa:(" -> " :Str).cps.all (· <128)=true:=by decide+kernel
def eAl:(" -> " :Str).length=4:=by decide+kernel
def D5(x:Str){p:Nat}(hp:16e8):Txt.slice x (some ((p:Int)+1)) (some ((p:Int)+2))=iP x (p+1):=by
 by_cases h:p+1<=x.length
 ·have:=xq x h
  lia
 ·have ep:p=x.length:=by omega
  apply kI
  have e:Builtin.Str.strSliceIndices (some ((p:Int)+1)) (some ((p:Int)+2)) 1 x.length=Builtin.Str.strSliceIndices (some ((x.length:Nat):Int)) (some ((x.length:Nat):Int)) 1 x.length:=by
   simp only [Builtin.Str.strSliceIndices,show ((1 :Int) >0)=True from by simp,if_true]
   lia
  have h3:Txt.slice x (some ((p:Int)+1)) (some ((p:Int)+2))=Txt.slice x (some ((x.length:Nat):Int)) (some ((x.length:Nat):Int)):=by
   unfold Txt.slice;rw[e]
  rw[h3,qe x 3e1 3e1,Nat.sub_self,List.take_zero];rw[K6];have:sf x (p+1)=[]:=drop_eq_nil_of_le (by simp [Str.length] at ep |-;omega);rw[this];rfl
def FT(x:Str)(p:Nat):(sf x p).drop 1=sf x (p+1):=by simp_all
inductive nB(C G Pc Fo L:9e7)(H H':Hp)(q:Nat)(xs:List Tm):Prop
 |mk (ps:_) (bJ:H' L=some (.lst (ps.map V.ref))) (bT:ps.length<=q) (cw:Paired (Rv C G Pc Fo L H H') ps xs)
inductive D6(NF C G Pc Fo R:9e7)(vs:5e2)(H:Hp)(Q:VK)(E:XK):Prop
 |mk (r:9e7) (x:Str) (p:Nat) (bJ:vs=[.ref r]) (bT:18e0) (cw:16e8) (dh:13e2) (eQ:(∀xs q l H',LfG 18e1 xs (sf x q)->p<q->q<=x.length->xs.length<=1000->LH C G Pc Fo H H' l xs->dX R H' r x q->Kept r H H'->Q 18e6 H')) (ir:(∀e,LfB 18e1 (sf x e)->p<=e->e<=x.length->Rz NF H r E e))
def xI(NF C G Pc Fo R:Ps):Sp:=D6 NF C G Pc Fo R
inductive BC(NF C G Pc Fo R:9e7)(vs:5e2)(H:Hp)(Q:VK)(E:XK):Prop
 |mk (r:9e7) (x:Str) (p:Nat) (bJ:vs=[.ref r]) (bT:18e0) (cw:16e8) (dh:13e2) (eQ:(∀xs l H',pq 18e1 xs []->xs.length<=1000->LH C G Pc Fo H H' l xs->Kept r H H'->(∃o,H' r=some o)->Q 18e6 H')) (ir:(∀e,RtB 18e1 (sf x e)->p<=e->e<=x.length->Rz NF H r E e))
def vj(NF C G Pc Fo R:Ps):Sp:=BC NF C G Pc Fo R
def BE:ax ["self","terms"] 1e0 (ak yH):=dO
def nB.done{L r:Ps}{H H':Hp}{q:Nat}{xs:PP}{o:HO}(h:nB C G Pc Fo L H H' q xs)(vW:H L=none)(k:Kept r H H')(hr:H r=some o):LH C G Pc Fo H H' L xs:=by
 obtain⟨ps,h1,h2,h3⟩:=h;exact⟨vW,ps,h1,λcM ke=>av (λ_ _ z=>z cM λb o z1 _ z3=>ke b o z1 z3) h3⟩
def nB.len{L:Ps}{H H':Hp}{q:Nat}{xs:PP}(h:nB C G Pc Fo L H H' q xs):xs.length<=q:=by
 obtain⟨ps,h1,h2,h3⟩:=h;rw[<-Paired.length h3];exact h2
def nB.more{L r t:Ps}{H H' H3 H4:Hp}{q q':Nat}{xs:PP}{y:Tm}{o o3:HO}{ps:UV}(h1:H' L=some (.lst (ps.map V.ref)))(h2:ps.length<=q)(h3:Paired (Rv C G Pc Fo L H H') ps xs)(vW:H L=none)(hr0:H r=some o)(kk:Kept r H H')(k3:Kept r H' H3)(k4:Kept r H3 H4)(hr3:H3 r=some o3)(wz:L≠r)(hN:YT C G Pc Fo H3 H4 t y)(hq:q<q'):
  nB C G Pc Fo L H (upd H4 L (.lst (ps.map V.ref++[V.ref t]))) q' (xs++[y])/\Kept r H (upd H4 L (.lst (ps.map V.ref++[V.ref t]))):=by
 have kk3:=kk.trans k3;have nR:=k3 _ _ h1 wz;have UA:=k3.trans k4;refine⟨⟨ps++[t],by rw[af,map_append];rfl,by grind,?_⟩,λb o z w=>?_⟩
 ·refine bI (λcM ke=>hN cM λb o z1 z2=>?_) (av (λc t h cM ke=>h cM λb o z1 z2 z3=>ke b o z1 z2 ?_) h3)
  ·have Lc:b≠L:=λz=>by lia
   exact ke b o (aY kk3 hr3 z1) Lc (by rw[ah Lc];exact z2)
  ·have Jg:b≠r:=λz=>by lia
   rw[ah z2];exact UA _ _ z3 Jg
 ·rw[ah (ag z vW)];exact UA _ _ (kk _ _ z w) w
def D7(D:bw K R "read_lefts" "ChangeReader.read_lefts" yH 1e0)(T:1e9)(c1:aV P w K mg base 21 R "read_term" 1e0 (vi NF C G Pc Fo R))(c2:aV P w K mg base 4 R "take_all" ["self","signs"] (kS NF R)):
  aV P w K mg base 22 R "read_lefts" 1e0 (xI NF C G Pc Fo R):=by
 obtain⟨_,_,aS⟩:=c1;obtain⟨_,_,aR⟩:=c2;refine D.iO BE 0e4 0e0
 ·obtain⟨r,x,p,rfl,_⟩:=h;rfl
 ·obtain⟨r,x,p,rfl,⟨dx,hR⟩,hp,hx,q,qE⟩:=h;have big:=bgL;refine⟨_,(ai (aA (i:=1) BE.nd rfl 0e3 (cC (aa (cm 1e3 T.aw aS.m aS.ok 1e1 aS.b .nil aL) aj))) (ai (jU kA (aJ oq (oB yu 2e6 (ju (aB cq 2e6 aq)) (ju (aB cq 2e6 aq))) (bF yj (bo (v:= .str " -> ") rfl T.FO 7e6) aq 1e6) 18e3) (ai (a8 (b9 1e3 T.aw aR.m aR.ok 1e1 aR.b .nil aL (aa (bo (v:= .str " + ") rfl T.FN 7e6) aj))) (ao (a8 (gP PySem.F.plainAttrs_list PySem.F.slot_list_append PySem.F.type_list_append cH 3e6 (aa (cm 1e3 T.aw aS.m aS.ok 1e1 aS.b .nil aL) aj)))))) (ai (a8 (b9 1e3 T.aw aR.m aR.ok 1e1 aR.b .nil aL (aa (bo (v:= .str " -> ") rfl T.FO 7e6) aj))) (ao (aD 3e6))))),?_⟩;refine⟨_,U,r,dx,_,U,hR,aI _ _,r,x,p,U,13e4,hp,hx,λt0 q1 a0 H1 hT Jh Bk na0 hN fw k1=>⟨6e6,λL hL=>?_⟩,λe hB=>qE e (.inl hB)⟩;obtain⟨pK,fw⟩:=fw;have vW:H L=none:=aY k1 fw hL;have wz:L≠r:=λz=>by lia
  have sL:au H1 (upd H1 L (.lst [V.ref a0])):=au.new hL;refine⟨λk σ H'=>∃q' xs,k+q'=x.length/\p<q'/\pq 18e1 xs (sf x q')/\σ=[some (.ref r),some (.ref L)]/\dX R H' r x q'/\Kept r H H'/\nB C G Pc Fo L H H' q' xs,⟨x.length - q1,q1,[t0],by omega,Jh, .one t0 _ hT,U,⟨pK,sL _ _ fw⟩,k1.trans (Kept.of sL),[a0],af,by show 1<=q1;omega, .cons (λcM ke=>hN cM λb o z1 z2=>ke b o z1 (ag z2 hL) (sL _ _ z2)) .nil⟩,?_⟩;rintro k σ H' ⟨q',xs,hk,Pf,hQ,rfl,⟨dM,d5⟩,kk,WI⟩;have jr:q'<=x.length:=by omega
  refine⟨_,U,r,R,dM,_,_,U,d5,T.aw,T.kL,gY _ _,_,U,r,R,dM,_,_,U,d5,T.aw,T.bN,aW _ _,_,_,U,U,_,U,_,U,r,R,dM,_,_,U,d5,T.aw,T.bN,aW _ _,_,_,U,U,_,U,x,U,by omega," -> ",1,45,U,U,0e5,0e5,U,_,U,?_⟩;rw[D5 x jr];by_cases NJ:(sf x (q'+1)).head? =some 45
  ·have PL:((sf x q').drop 1).head? =some 45:=by rw[FT];exact NJ
   rw[decide_eq_true (gR.mpr NJ)];refine dP ?_;refine⟨_,U,r,dM,_,U,d5,aI _ _,r,x,q'," -> ",U,eAa,⟨dM,d5⟩,jr,hx,λhs hl H3 iR k3=>?_,λi c hc hs hn hl=>(qE (q'+i) (.inr ⟨xs,_,hQ, .inr ⟨PL,i,c,by rw[<-eA];exact hc,by rw[<-eA];exact hs,hn⟩⟩) 0e2 hl).on kk d5⟩;rw[eA,eAl] at hs;rw[eAl] at hl iR;rw[hs] at hQ;obtain⟨ps,p1,p2,p3⟩:=WI;obtain⟨zj,iR⟩:=iR;have nR:=k3 _ _ p1 wz;refine⟨_,U,q xs (q'+4) L H3 hQ 0e2 hl ?_ ⟨vW,ps,nR,λcM ke=>av (λ_ _ z=>z cM λb o z1 _ z3=>ke b o z1 (k3 _ _ z3 λe=>by rw[e,hR] at z1;cases z1)) p3⟩ ⟨zj,iR⟩ (kk.trans k3)⟩;have:=Paired.length p3;omega
  ·have PL:((sf x q').drop 1).head? ≠some 45:=by rw[FT];exact NJ
   rw[decide_eq_false (λz=>NJ (gR.mp z))];refine gi ⟨_,fun σ' cM h=>h,?_⟩;refine⟨_,U,r,dM,_,U,d5,aI _ _,r,x,q'," + ",U,eJa,⟨dM,d5⟩,jr,hx,λhs hl H3 iR k3=>?_,λi c hc hs hn hl=>(qE (q'+i) (.inr ⟨xs,_,hQ, .inl ⟨PL, .inl ⟨i,c,by rw[<-eJ];exact hc,by rw[<-eJ];exact hs,hn⟩⟩⟩) 0e2 hl).on kk d5⟩;rw[eJ,eJl] at hs;rw[eJl] at hl iR;have pJ:sf x q'=32::43::32::sf x (q'+3):=hs;obtain⟨ps,p1,p2,p3⟩:=WI;obtain⟨zj,iR⟩:=iR;have nR:=k3 _ _ p1 wz;refine⟨_,U, .inl ⟨U,_,bH.of nR⟩,_,U,r,zj,_,U,iR,aI _ _,r,x,q'+3,U,⟨zj,iR⟩,hl,hx,λt4 q4 a4 H4 Rw hq4 Lb na4 YI wy k4=>?_,λe hB h1 h2=>(qE e (.inr ⟨xs,_,hQ, .inl ⟨PL, .inr ⟨_,pJ,hB⟩⟩⟩) 0e2 h2).on (kk.trans k3) iR⟩;obtain⟨Rl,wy⟩:=wy;have zo:=k4 _ _ nR wz;obtain⟨m1,m2⟩:=nB.more (q':=q4) p1 p2 p3 vW hR kk k3 k4 iR wz YI 0e2;refine⟨L,_,_,U,U,zo,by rw[length_map];omega,x.length - q4,by omega,q4,xs++[t4],by omega,by omega, .snoc xs _ t4 _ (by rw[<-pJ];exact hQ) Rw,U,⟨Rl,by rw[ah (Ne.symm wz)];exact wy⟩,m2,m1⟩
def xJ:ax ["self","terms"] 1e0 (ak t7):=dO
def BF(D:bw K R "read_rights" "ChangeReader.read_rights" t7 1e0)(T:1e9)(c1:aV P w K mg base 21 R "read_term" 1e0 (vi NF C G Pc Fo R))(c2:aV P w K mg base 4 R "take_all" ["self","signs"] (kS NF R)):
  aV P w K mg base 22 R "read_rights" 1e0 (vj NF C G Pc Fo R):=by
 obtain⟨_,_,aS⟩:=c1;obtain⟨_,_,aR⟩:=c2;refine D.iO xJ 0e4 0e0
 ·obtain⟨r,x,p,rfl,_⟩:=h;rfl
 ·obtain⟨r,x,p,rfl,⟨dx,hR⟩,hp,hx,q,qE⟩:=h;have big:=bgL;refine⟨_,(ai (aA (i:=1) xJ.nd rfl 0e3 (cC (aa (cm 1e3 T.aw aS.m aS.ok 1e1 aS.b .nil aL) aj))) (ai (jU kA (aJ ou 2e6 (bL iI rfl T.lu ix 17e5) 18e3) (ai (a8 (b9 1e3 T.aw aR.m aR.ok 1e1 aR.b .nil aL (aa (bo (v:= .str " + ") rfl T.FN 7e6) aj))) (ao (a8 (gP PySem.F.plainAttrs_list PySem.F.slot_list_append PySem.F.type_list_append cH 3e6 (aa (cm 1e3 T.aw aS.m aS.ok 1e1 aS.b .nil aL) aj)))))) (ao (aD 3e6)))),?_⟩;refine⟨_,U,r,dx,_,U,hR,aI _ _,r,x,p,U,13e4,hp,hx,λt0 q1 a0 H1 hT Jh Bk na0 hN fw k1=>⟨6e6,λL hL=>?_⟩,λe hB=>qE e (.inl hB)⟩;obtain⟨pK,fw⟩:=fw;have vW:H L=none:=aY k1 fw hL;have wz:L≠r:=λz=>by lia
  have sL:au H1 (upd H1 L (.lst [V.ref a0])):=au.new hL;refine⟨λk σ H'=>∃q' xs,k+q'=x.length/\p<q'/\pq 18e1 xs (sf x q')/\σ=[some (.ref r),some (.ref L)]/\dX R H' r x q'/\Kept r H H'/\nB C G Pc Fo L H H' q' xs,⟨x.length - q1,q1,[t0],by omega,Jh, .one t0 _ hT,U,⟨pK,sL _ _ fw⟩,k1.trans (Kept.of sL),[a0],af,by show 1<=q1;omega, .cons (λcM ke=>hN cM λb o z1 z2=>ke b o z1 (ag z2 hL) (sL _ _ z2)) .nil⟩,?_⟩;rintro k σ H' ⟨q',xs,hk,Pf,hQ,rfl,⟨dM,d5⟩,kk,WI⟩;have jr:q'<=x.length:=by omega
  refine⟨_,U,r,R,dM,_,_,U,d5,T.aw,T.bN,aW _ _,_,U,r,R,dM,_,_,U,d5,T.aw,T.kL,gY _ _,x,U,by omega,_,_,U,U,_,U,?_⟩;by_cases rB:q'<x.length
  ·have nj:sf x q'≠[]:=λz=>by
    have:=kQ x q';rw[z] at this;simp at this;omega
   refine lH 0e2 ⟨_,fun σ' cM h=>h,?_⟩;refine⟨_,U,r,dM,_,U,d5,aI _ _,r,x,q'," + ",U,eJa,⟨dM,d5⟩,jr,hx,λhs hl H3 iR k3=>?_,λi c hc hs hn hl=>(qE (q'+i) (.inr ⟨xs,_,hQ,nj, .inl ⟨i,c,by rw[<-eJ];exact hc,by rw[<-eJ];exact hs,hn⟩⟩) 0e2 hl).on kk d5⟩;rw[eJ,eJl] at hs;rw[eJl] at hl iR;have pJ:sf x q'=32::43::32::sf x (q'+3):=hs;obtain⟨ps,p1,p2,p3⟩:=WI;obtain⟨zj,iR⟩:=iR;have nR:=k3 _ _ p1 wz;refine⟨_,U, .inl ⟨U,_,bH.of nR⟩,_,U,r,zj,_,U,iR,aI _ _,r,x,q'+3,U,⟨zj,iR⟩,hl,hx,λt4 q4 a4 H4 Rw hq4 Lb na4 YI wy k4=>?_,λe hB h1 h2=>(qE e (.inr ⟨xs,_,hQ,nj, .inr ⟨_,pJ,hB⟩⟩) 0e2 h2).on (kk.trans k3) iR⟩;obtain⟨Rl,wy⟩:=wy;have zo:=k4 _ _ nR wz;obtain⟨m1,m2⟩:=nB.more (q':=q4) p1 p2 p3 vW hR kk k3 k4 iR wz YI 0e2;refine⟨L,_,_,U,U,zo,by rw[length_map];omega,x.length - q4,by omega,q4,xs++[t4],by omega,by omega, .snoc xs _ t4 _ (by rw[<-pJ];exact hQ) Rw,U,⟨Rl,by rw[ah (Ne.symm wz)];exact wy⟩,m2,m1⟩
  ·refine ky 0e2 ?_;have hnil:sf x q'=[]:=drop_eq_nil_of_le (by simp [Str.length] at rB |-;omega);rw[hnil] at hQ;have:=WI.len;exact⟨_,U,q xs L H' hQ 0e2 (WI.done vW kk hR) kk ⟨_,d5⟩⟩
variable {HE NF TL NC TM:Ps}{uC uP uI uD uL uT fT fU fV uG uS:Tok}{Ch:Ps}
def BG(C G Pc Fo Ch:Ps)(H H':Hp)(c:Ps)(xs ys:PP):Prop:=∀cM,7e3->LG C G Pc Fo Ch cM c xs ys
inductive D8(NF C G Pc Fo Ch R:9e7)(vs:5e2)(H:Hp)(Q:VK)(E:XK):Prop
 |mk (r:9e7) (x:Str) (bJ:vs=[.ref r]) (bT:dX R H r x 0) (cw:13e2) (dh:(∀xs ys c H',PK x.cps.toList xs ys->xs.length<=1000->ys.length<=1000->H c=none->BG C G Pc Fo Ch H H' c xs ys->Kept r H H'->Q (.ref c) H')) (eQ:(∀e,UR x.cps.toList (sf x e)->e<=x.length->Rz NF H r E e))
def xK(NF C G Pc Fo Ch R:Ps):Sp:=D8 NF C G Pc Fo Ch R
def BH:ax ["self","lefts"] 1e0 (ak yI):=dO
def D9(D:bw K R "read_sides" "ChangeReader.read_sides" yI 1e0)(T:1e9)(c1:aV P w K mg base 22 R "read_lefts" 1e0 (xI NF C G Pc Fo R))(c2:aV P w K mg base 22 R "read_rights" 1e0 (vj NF C G Pc Fo R))(c3:iE P w K mg base 1 Ch ["self","lefts","rights"] [] (FP Ch)):
  aV P w K mg base 23 R "read_sides" 1e0 (xK NF C G Pc Fo Ch R):=by
 obtain⟨_,_,fq⟩:=c1;obtain⟨_,_,eX⟩:=c2;obtain⟨_,_,cE⟩:=c3;obtain⟨_,Ea,Eb⟩:=cE.b 0 0e1;refine D.iO BH 0e4 0e0
 ·obtain⟨r,x,rfl,_⟩:=h;rfl
 ·obtain⟨r,x,rfl,⟨dx,hR⟩,hx,q,qE⟩:=h;refine⟨_,(ai (aA (i:=1) BH.nd rfl 0e3 (cm 1e3 T.aw fq.m fq.ok 1e1 fq.b .nil aL)) (ao (aD (hV cE.m cE.ok 1e1 rfl T.Ly Eb Ea ck (aa 3e6 (aa (cm 1e3 T.aw eX.m eX.ok 1e1 eX.b .nil aL) aj)))))),?_⟩;refine⟨_,U,r,dx,_,U,hR,aI _ _,r,x,0,U,13e4,zero_le _,hx,λxs q1 l H1 hG Jh Bk lx hN1 fw k1=>?_,λe hB _ he=>qE e (.inl hB) he⟩;obtain⟨pK,fw⟩:=fw;refine⟨_,U,_,U,r,pK,_,U,fw,aI _ _,r,x,q1,U,⟨pK,fw⟩,Bk,hx,λys m H2 hG2 ly hN2 k2 i0=>?_,λe hB _ he=>(qE e (.inr ⟨xs,_,hG,hB⟩) he).on k1 fw⟩;obtain⟨o2,i0⟩:=i0;obtain⟨hl0,ps,E2,OB⟩:=hN1;obtain⟨hm0,us,hm1,OO⟩:=hN2;have nlr':l≠r:=λz=>by lia
  have vR:=k2 _ _ E2 nlr';have k12:=k1.trans k2;refine λc dc nc ndc nec=>⟨c,dc,l,m,ps.map V.ref,us.map V.ref,rfl,af,?_,?_,λn1 n2 H3 hn1 Oc n12 hc3 hn13 hn23 kp=>⟨rfl,?_⟩⟩
  ·rw[ah (ag vR nc),ah (ag vR ndc)];exact vR
  ·rw[ah (ag hm1 nc),ah (ag hm1 ndc)];exact hm1
  have s3:au H2 H3:=λb o z=>kp b o (by rw[ah (ag z nc),ah (ag z ndc)];exact z) (ag z nc);have back:∀b,H2 b=none->H b=none:=λb z=>aY k12 i0 z;refine q xs ys c H3 ⟨_,hG,hG2⟩ lx ly (back c nc) (λcM ke=>⟨dc,n1,n2,ke _ _ (back c nc) hc3,⟨ps,ke _ _ (back n1 (gZ hn1)) hn13,OB cM λb o z1 z2=>?_⟩,⟨us,ke _ _ (back n2 (gZ Oc)) hn23,OO cM λb o z1 z2=>?_⟩⟩) (k12.trans (Kept.of s3))
  ·have Jg:b≠r:=λz=>by lia
   exact ke b o z1 (s3 _ _ (k2 _ _ z2 Jg))
  ·exact ke b o (aY k1 fw z1) (s3 _ _ z2)
structure Rx(K:1e5)(mg:2e0)(C R G Pc Fo Ch HE NF TL NC TM:9e7)(uK uN uB uE uM uC uP uI uD uL uT fT fU fV uG uS:Tok):Prop extends pk K mg C R G Pc Fo Ch uK uN uB uE uM uC uP uI uD uL uT fT fU fV uG uS,FF K mg HE NF TL NC TM
inductive BI(TL NC TM C G Pc Fo Ch:9e7)(vs:5e2)(H:Hp)(Q:VK)(E:XK):Prop
 |mk (x:Str) (bJ:vs=[.str x]) (bT:x.length<=10000) (cw:(x.length<=400->∀xs ys c H',PK x.cps.toList xs ys->xs.length+ys.length<=8->H c=none->BG C G Pc Fo Ch H H' c xs ys->au H H'->Q (.ref c) H')) (dh:(x.length<=400->∀xs ys,PK x.cps.toList xs ys->8<xs.length+ys.length->Rf TM "many" H E (xs.length+ys.length))) (eQ:(x.length<=400->∀e,UR x.cps.toList (sf x e)->e<=x.length->Rf NC "place" H E e)) (ir:(400<x.length->Rf TL "many" H E x.length))
def vk(TL NC TM C G Pc Fo Ch:Ps):Sp:=BI TL NC TM C G Pc Fo Ch
def mS:ax ["text","change","e","many"] ["text"] (ak tY):=dO
def BJ(D:Def K mg "read_change" "read_change" tY ["text"])(T:Rx K mg C R G Pc Fo Ch HE NF TL NC TM uK uN uB uE uM uC uP uI uD uL uT fT fU fV uG uS)(c1:lq P w K mg base 3 "refuse_too_long" ["text"] (nS TL))(c2:iE P w K mg base 1 R 12e8 [] (yZ R))(c3:aV P w K mg base 23 R "read_sides" 1e0 (xK NF C G Pc Fo Ch R))
  (c4:Dh P w K mg base 1 "NoChange" NC HE 14e9 (lB NC "place")) (c5:fP P w K mg base 1 "TooMany" TM HE 16e4 (lB TM "many")) (c6:6e0):
  lq P w K mg base 24 "read_change" ["text"] (vk TL NC TM C G Pc Fo Ch):=by
 obtain⟨_,_,bO⟩:=c1;obtain⟨_,_,jh⟩:=c2;obtain⟨_,_,fu⟩:=c3;obtain⟨fc,_,g8⟩:=c4;obtain⟨_,_,i5⟩:=c5;obtain⟨fn,_,aG⟩:=c6;obtain⟨_,qv,qw⟩:=jh.b 0 0e1;refine D.iO mS 0e4 0e0
 ·obtain⟨x,rfl,_⟩:=h;rfl
 ·obtain⟨x,rfl,hx,q,qM,qE,qL⟩:=h;have big:(10000 :Nat)<=sizeLine:=by decide
  refine⟨_,(ai (a8 (lV bO.ok 1e1 rfl bO.g bO.kp bO.b .nil aL 15e5)) (ai (Ff ⟨U,U⟩ (λ_ _=> (ao (aA (i:=1) mS.nd rfl 0e3 (cm (hV jh.m jh.ok 1e1 rfl T.vh qw qv ck 15e5) T.aw fu.m fu.ok 1e1 fu.b .nil oK)))) (λ_=>(OX K rfl ⟨U,U⟩ (AU aL) (i:=2) rfl T.A9 T.zq mS.nd rfl rfl (λ_=> (ao (Dj K rfl rfl oK (Kw rfl g8.z g8.ok 1e1 rfl g8.g g8.kp g8.b (aa (Kr K rfl 5e5 rfl) aj))))) (Kj (AU aL))))) (ai (aA (i:=3) mS.nd rfl 0e3 (aB cq (bL dS rfl T.lu ix (aa (aQ 3e6 rfl) aj)) (bL dS rfl T.lu ix (aa (aQ 3e6 rfl) aj)))) (ai (bK (aJ lN 19e2 (bo (v:= .int 8) rfl T.zy 7e6) 18e3) (ao (gu rfl aL (gq i5.z i5.ok 1e1 rfl i5.g i5.kp i5.b (aa 19e2 aj))))
      aN) (ao (aD 3e6)))))),?_⟩
  refine⟨_,U,x,U,hx,λh4=>?_,qL⟩;have q:=q h4;have qM:=qM h4;have qE:=qE h4;refine⟨_,U,λr dr nr ndr ner=>⟨r,dr,x,U,af,λH1 fw k1=>⟨U,?_⟩⟩⟩;obtain⟨pK,fw⟩:=fw;have s1:au H H1:=λb o z=>k1 b o (by rw[ah (ag z nr),ah (ag z ndr)];exact z) (ag z nr)
  have back:∀b,H1 b=none->H b=none:=λb z=>by
   cases hh:H b with
   |none=>rfl
   |some o=>rw[s1 _ _ hh] at z;cases z
  refine⟨r,pK,_,U,fw,aI _ _,r,x,U,⟨pK,fw⟩,by omega,λxs ys c H2 hG lx ly nc hC k2=>?_,λe hB he b dxe H2 nb nd OP hd2 k2=>?_⟩
  ·have hC2:=hC H2 λb o _ z=>z;obtain⟨dc,l,m,hc,⟨ps,hl,hP⟩,⟨us,hm,hU⟩⟩:=hC2;have e1:=Paired.length hP;have e2:=Paired.length hU;have s2:au H H2:=λb o z=>k2 b o (s1 _ _ z) (ag z nr);dsimp only [bX];refine⟨_,U,c,Ch,dc,_,_,U,hc,T.cE,T.je,f9 _ _,l,_,U, .inl (bH.of hl),_,U,c,Ch,dc,_,_,U,hc,T.cE,T.j4,iT _ _,m,_,U, .inl (bH.of hm),_,_,U,U,?_⟩;rw[length_map,length_map,e1,e2];by_cases h8:8<xs.length+ys.length
   ·refine⟨_,U,_,_,U,U,_,U,lH 0e2 ⟨_,U,14e1,λb hb=>?_⟩⟩;refine⟨b,_,U,af,by omega,by omega,λgy H5 gK gS zh vV k5=>⟨U,b,TM,HE,_,some gy,U,i5.z,zh,?_⟩⟩;rw[ah gS] at gK;have ec:((xs.length:Nat):Int)+((ys.length:Nat):Int)=((xs.length+ys.length:Nat):Int):=by omega
    rw[ec] at vV;refine qM xs ys hG h8 b gy _ (s2.free hb) (s2.free gK) af (by rw[ah gS];exact vV) λb' o z=>?_;have wx:b'≠b:=ag (s2 _ _ z) hb;rw[ah wx];exact k5 _ _ (by rw[ah wx];exact s2 _ _ z) wx
   ·refine⟨_,U,_,_,U,U,_,U,ky 0e2 ?_⟩;exact⟨_,U,q xs ys c H2 hG 0e2 (back c nc) (λcM ke=>hC cM λb o z1 z2=>ke b o (back b z1) z2) s2⟩
  ·have s2:au H H2:=λb o z=>k2 b o (s1 _ _ z) (ag z nr);refine⟨NF,HE,fn,true,U,aG.z,T.up,gi λe' AN=>?_⟩;refine⟨_,U,e',NF,HE,fn,dxe,_, .int (e:Int),U,aG.z,T.Pj,AN,hd2,U,14e1,λb2 PM=>?_⟩;have ne2:b2≠e':=λz=>by rw[z,AN] at PM;cases PM
   refine⟨b2,(e:Int),U,af,by omega,by omega,λgy H5 gK gS zh vV k5=>⟨U,b2,NC,HE,fc,some gy,NF,some dxe,U,g8.z,zh,T.lt,ne2,k5 _ _ (by rw[ah (Ne.symm ne2)];exact AN) (Ne.symm ne2),T.nl,?_⟩⟩;rw[ah gS] at gK;refine qE e hB he b2 gy _ (s2.free PM) (s2.free gK) af (by rw[ah gS];exact vV) λb' o z=>?_;have wx:b'≠b2:=ag (s2 _ _ z) PM;rw[ah wx];exact k5 _ _ (by rw[ah wx];exact s2 _ _ z) wx
structure Jj{α:Type}(g:α->List Nat->Prop)(b:List Nat->Prop):Prop where
 gg:∀{t v t' v'},g t v->g t' v'->t=t'/\v=v'
 gb:∀{t v v'},g t v->b v'->False
 bb:∀{v v'},b v->b v'->v=v'
theorem LJ{f:Nat->Bool}:∀{a a' v v':IN} {m:Nat},a.all f=true->a'.all f=true->a.length<=m->a'.length<=m->(Not f v\/a.length=m)->(Not f v'\/a'.length=m)->a++v=a'++v'->a=a'/\v=v'
 | [],[],_,_,_,_,_,_,_,_,_,e=>⟨rfl,e⟩
 | [],c::a',v,v',m,_,ha,_,hl,hv,_,e=>by
   have hc:f c=true:=by simp at ha;exact ha.1
   rcases hv with hv|hv
   ·have:=hv c 9e9;rw[hc] at this;cases this
   ·simp at hv hl;omega
 |c::a,[],v,v',m,ha,_,hl,_,_,hv,e=>by
  have hc:f c=true:=by simp at ha;exact ha.1
  rcases hv with hv|hv
  ·have:=hv c (by rw[show v'=c::(a++v) from e.symm];rfl);rw[hc] at this;cases this
  ·simp at hv hl;omega
 |c::a,c'::a',v,v',m,ha,ha',hl,YV,hv,Xq,e=>by
  injection e with e1 e2;subst e1
  cases m with
  |zero=>simp at hl
  |succ m=>
   have z:=LJ (m:=m) (by simp at ha;simpa using ha.2) (by simp at ha';simpa using ha'.2) (by simpa using hl) (by simpa using YV) (by simpa using hv) (by simpa using Xq) e2
   lia
def LK{n n':Int}(h:1<=n)(h':1<=n')(b:n<10^12)(b':n'<10^12)(e:bM n=bM n'):n=n':=by
 obtain⟨m,rfl⟩:=eq_ofNat_of_zero_le (show 0<=n by omega);obtain⟨m',rfl⟩:=eq_ofNat_of_zero_le (show 0<=n' by omega);have e:bM (m:Int)=bM (m':Int):=e;by_cases h1:m=1
 ·subst h1;rw[show bM ((1 :Nat):Int)=[] from jK] at e;rw[yV m' e.symm]
 ·by_cases h2:m'=1
  ·subst h2;rw[show bM ((1 :Nat):Int)=[] from jK] at e;exact absurd (yV m e) h1
  ·have a:=yW m 0e2 h1;have c:=yW m' 0e2 h2;rw[show fQ (m:Int)=fQ (m':Int) from kI e] at a
   lia
def BK{n:Int}(h:1<=n):(bM n).all qV=true:=by
 obtain⟨m,rfl⟩:=eq_ofNat_of_zero_le (show 0<=n by omega);exact o5 m
def kW{lg:Nat}(l0:0<lg)(WA:lg<=12)(u:IN):Jj (j2 lg u) (ux u) where
 gg:=fun {n v n' v'} h h'=>by
  obtain⟨e,a,b,c,d⟩:=h;obtain⟨e',a',b',c',d'⟩:=h';have z:=LJ (BK a) (BK a') c c' d d' (e.symm.trans e');have p:(10 :Int) ^lg<=10^12:=by exact_mod_cast Nat.pow_le_pow_right (by decide:10>0) WA
  exact⟨LK a a' 0e2 0e2 z.1,z.2⟩
 gb:=fun {n v v'} h h'=>by
  obtain⟨e,a,b,c,d⟩:=h;obtain⟨m,rfl⟩:=eq_ofNat_of_zero_le (show 0<=n by omega);have hh:=KO m 0e2;have h1:=O2 m;have lG:=o5 m;have e:u=bM (m:Int)++v:=e;have d:Not qV v\/(bM (m:Int)).length=lg:=d
  cases hf:bM (m:Int) with
  |nil=>
   rw[hf] at e d;have d:=d.resolve_right (by grind);rcases h' with ⟨_,z⟩ | ⟨z,_⟩
   ·have:=d 48 (by rw[<-z,e];rfl);cases this
   ·have:=d 49 (by rw[show v=u from e.symm,z];rfl);cases this
  |cons c r=>
   rw[hf] at e hh h1 lG;rcases h' with ⟨_,z⟩ | ⟨z,w⟩
   ·simp_all
   ·rw[e] at z;injection z with z1 z2;subst z1
    cases r with
    |nil=>exact h1 rfl
    |cons c2 r=>
     have:=w c2 (by rw[<-z2];rfl);simp_all
 bb:=fun {v v'} h h'=>by
  rcases h with ⟨rfl,h⟩ | ⟨h,_⟩<;>rcases h' with ⟨rfl,h'⟩ | ⟨h',_⟩
  ·rfl
  ·rw[h'] at h;cases h
  ·rw[h] at h';cases h'
  lia
def vm{k k' w w':IN}(h:kK k)(h':kK k')(a:k.length=3\/Not wq w)(a':k'.length=3\/Not wq w')(e:k++w=k'++w'):k=k'/\w=w':=by
 obtain⟨c,r,rfl,_,hr,hl⟩:=h;obtain⟨c',r',rfl,_,jE,YV⟩:=h';injection e with e1 e2;subst e1;have z:=LJ (f:=wq) (m:=2) hr jE hl YV (a.symm.imp id λz=>by simpa using z) (a'.symm.imp id λz=>by simpa using z) e2
 lia
def LL{k w:IN}(h:kK k):¬Not Ft (k++w):=λz=>by
 obtain⟨c,r,rfl,hc,_⟩:=h;have:=z c rfl
 lia
def j6(u:IN):Jj (λ(t:List Nat×Int) v=>mh u t.1 t.2 v) (FC u) where
 gg:=fun {t v t' v'} h h'=>by
  obtain⟨w,e,k,a,n⟩:=h;obtain⟨w',e',k',a',n'⟩:=h';obtain⟨z1,z2⟩:=vm k k' a a' (e.symm.trans e');rw[<-z2] at n';have z:=(kW (lg:=3) 0e1 0e1 w).gg n n';exact⟨Prod.ext z1 z.1,z.2⟩
 gb:=fun {t v v'} h h'=>by
  obtain⟨w,e,k,a,n⟩:=h;rcases h' with ⟨_,z⟩ | ⟨k',w',e',o',a',n'⟩
  ·exact LL k (e▸z)
  ·obtain⟨_,z2⟩:=vm k o' a a' (e.symm.trans e');rw[<-z2] at n';exact(kW (lg:=3) 0e1 0e1 w).gb n n'
 bb:=fun {v v'} h h'=>by
  rcases h with ⟨rfl,h⟩ | ⟨k,w,e,o,a,n⟩<;>rcases h' with ⟨rfl,h'⟩ | ⟨k',w',e',o',a',n'⟩
  ·rfl
  ·exact(LL o' (e'▸h)).elim
  ·exact(LL o (e▸h')).elim
  ·obtain⟨_,z2⟩:=vm o o' a a' (e.symm.trans e');rw[<-z2] at n';exact(kW (lg:=3) 0e1 0e1 w).bb n n'
def LM{α:Type}(q:List α->List Nat->Prop)(s:List Nat->α->List Nat->Prop):Prop:=∀ts v,q ts v->(∃t,ts=[t]/\∀t' v',q [t'] v'->t'=t/\v'=v)\/∃lJ w t,ts=lJ++[t]/\lJ≠[]/\q lJ w/\s w t v
def PN{α:Type}(s:List Nat->α->List Nat->Prop):Prop:=∀w t v t' v',s w t v->s w t' v'->t=t'/\v=v'
theorem Ec{α:Type}{q:List α->List Nat->Prop}{s:List Nat->α->List Nat->Prop}(inv:LM q s)(hs:PN s):
  ∀(n:Nat) {ts v lJ v'},ts.length=n->lJ.length=n->q ts v->q lJ v'->ts=lJ/\v=v'
 |0,ts,v,lJ,v',hn,_,h,_=>by
  rcases inv _ _ h with ⟨t,rfl,_⟩ | ⟨_,_,_,rfl,_⟩
  ·cases hn
  ·simp at hn
 |n+1,ts,v,lJ,v',hn,N6,h,h'=>by
  rcases inv _ _ h' with ⟨t,rfl,hu⟩ | ⟨us,w,t,rfl,ne,hq,fJ⟩<;>rcases inv _ _ h with ⟨t',rfl,_⟩ | ⟨xM,w',t',rfl,ne',jr,Kq⟩
  ·obtain⟨e1,e2⟩:=hu _ _ h;exact⟨by rw[e1],e2⟩
  ·simp_all
  ·simp_all
  ·obtain⟨e1,e2⟩:=Ec inv hs n (by simpa using hn) (by simpa using N6) jr hq;subst e1 e2;obtain⟨e3,e4⟩:=hs _ _ _ _ _ Kq fJ;exact⟨by rw[e3],e4⟩
theorem LN{α:Type}{q:List α->List Nat->Prop}{s:List Nat->α->List Nat->Prop}(inv:LM q s):
  ∀(m:Nat) {ts v} {n:Nat},ts.length=m->q ts v->0<n->n<m->∃us w t x,us.length=n/\q us w/\s w t x
 |0,_,_,_,_,_,_,h=>absurd h (Nat.not_lt_zero _)
 |m+1,ts,v,n,hm,h,h0,hl=>by
  rcases inv _ _ h with ⟨t,rfl,_⟩ | ⟨us,w,t,rfl,ne,hq,fJ⟩
  ·simp at hm;omega
  ·have hu:us.length=m:=by simpa using hm
   by_cases e:n=m
   ·grind
   ·exact LN inv m hu hq h0 0e2
def mT{α:Type}{q:List α->List Nat->Prop}{s:List Nat->α->List Nat->Prop}(inv:LM q s)(hs:PN s)
  {ts lJ v v'} (h:q ts v) (h':q lJ v') (hl:ts.length<=lJ.length):(ts=lJ/\v=v')\/∃t w,s v t w:=by
 by_cases e:ts.length=lJ.length
 ·exact .inl (Ec inv hs _ e rfl h h')
 ·have h0:0<ts.length:=by
   rcases inv _ _ h with ⟨t,rfl,_⟩ | ⟨_,_,_,rfl,_⟩<;>simp
  obtain⟨us,w,t,x,e1,e2,e3⟩:=LN inv _ rfl h' h0 0e2;obtain⟨z1,z2⟩:=Ec inv hs _ rfl e1 h e2;exact .inr ⟨t,x,by rw[z2];exact e3⟩
def sA{α:Type}{q:List α->List Nat->Prop}{s:List Nat->α->List Nat->Prop}{stop b0:List Nat->Prop}{b1:List Nat->List Nat->Prop}(inv:LM q s)(hs:PN s)
  (s0:∀{v t w},stop v->s v t w->False) (q0:∀{ts v v'},q ts v->b0 v'->False) (b2:∀{w v t x},b1 w v->s w t x->False) (sb:∀{w v},stop w->b1 w v->False) (d0:∀{v v'},b0 v->b0 v'->v=v') (d1:∀{w v v'},b1 w v->b1 w v'->v=v'):
  Jj (λts v=>q ts v/\stop v) (λv=>b0 v\/∃ts w,q ts w/\b1 w v) where
 gg:=fun {t v t' v'} h h'=>by
  rcases le_total t.length t'.length with hl|hl
  ·rcases mT inv hs h.1 h'.1 hl with z| ⟨_,_,z⟩
   ·exact z
   ·exact(s0 h.2 z).elim
  ·rcases mT inv hs h'.1 h.1 hl with z| ⟨_,_,z⟩
   ·exact⟨z.1.symm,z.2.symm⟩
   ·exact(s0 h'.2 z).elim
 gb:=fun {t v v'} h h'=>by
  rcases h' with h'| ⟨ts,w,h1,h2⟩
  ·exact q0 h.1 h'
  ·rcases le_total t.length ts.length with hl|hl
   ·rcases mT inv hs h.1 h1 hl with ⟨_,z⟩ | ⟨_,_,z⟩
    ·exact sb h.2 (z▸h2)
    ·exact s0 h.2 z
   ·rcases mT inv hs h1 h.1 hl with ⟨_,z⟩ | ⟨_,_,z⟩
    ·exact sb h.2 (z▸h2)
    ·exact b2 h2 z
 bb:=fun {v v'} h h'=>by
  rcases h with h| ⟨ts,w,h1,h2⟩<;>rcases h' with h'| ⟨lJ,w',h1',Yu⟩
  ·exact d0 h h'
  ·exact(q0 h1' h).elim
  ·exact(q0 h1 h').elim
  ·rcases le_total ts.length lJ.length with hl|hl
   ·rcases mT inv hs h1 h1' hl with ⟨_,z⟩ | ⟨_,_,z⟩
    ·exact d1 h2 (z▸Yu)
    ·exact(b2 h2 z).elim
   ·rcases mT inv hs h1' h1 hl with ⟨_,z⟩ | ⟨_,_,z⟩
    ·exact d1 h2 (z▸Yu)
    ·exact(b2 Yu z).elim
def Sq.first{p:List Nat->Tr->List Nat->Prop}{u v:IN}{ts:List Tr}(h:Sq p u ts v):ts≠[]/\∃t w,p u t w:=by
 induction h with
 |one t v h=>exact⟨by simp,t,v,h⟩
 |snoc ts w t v _ _ _ ih=>simp_all
def LO{p:List Nat->Tr->List Nat->Prop}{b:List Nat->List Nat->Prop}(d:∀w,Jj (p w) (b w))(u:IN):Jj (FD p u) (NH p b u):=
 sA (q:=Sq p u) (s:=λw t v=>More w/\p w t v) (stop:=λv=>¬More v) (b0:=b u) (b1:=λw v=>More w/\b w v)
  (λts v h=>by
   cases h with
   |one t _ h=>exact .inl ⟨t,rfl,λt' v' h'=>by
     generalize e:[t']=l at h'
     cases h' with
     |one t2 _ h2=>cases e;exact(d u).gg h2 h
     |snoc YW w2 t2 _ s2=>exact(s2.first.1 (by cases YW with|nil=>rfl|cons a r=>simp at e)).elim⟩
   |snoc ts w t _ s m h=>exact .inr ⟨ts,w,t,rfl,s.first.1,s,m,h⟩)
  (λ_ _ _ _ _ h h'=>(d _).gg h.2 h'.2) (λh h'=>h h'.1) (λh h'=>let ⟨_,_,_,z⟩:=h.first;(d u).gb z h') (λh h'=>(d _).gb h'.2 h.2) (λh h'=>h h'.1) (λh h'=>(d u).bb h h') (λh h'=>(d _).bb h.2 h'.2)
theorem LP:∀(d:Nat) (u:IN),Jj (lA d u) (K5 d u)
 |0,u=>⟨fun {t v t' v'} ⟨k,n,e,h⟩ ⟨k',n',e',h'⟩=>by
   have z:=(j6 u).gg (t:=(k,n)) (t':=(k',n')) h h'
   lia,fun {t v v'} ⟨k,n,e,h⟩ h'=>(j6 u).gb (t:=(k,n)) h h',λh h'=>(j6 u).bb h h'⟩
 |d+1,u=>by
  have D:=LO (LP d);have N:=λw=>kW (lg:=3) 0e1 0e1 w;refine⟨fun {t v t' v'} h h'=>?_,fun {t v v'} h h'=>?_,fun {v v'} h h'=>?_⟩
  ·rcases h with ⟨a,k,n,e,h⟩ | ⟨u',ts,n,w,a,e,h,m⟩<;>rcases h' with ⟨a',k',n',e',h'⟩ | ⟨u2,lJ,n',w',a',e',h',m'⟩
   ·obtain⟨z1,z2⟩:=(j6 u).gg (t:=(k,n)) (t':=(k',n')) h h'
    lia
   ·exact(a (by rw[a'];rfl)).elim
   ·exact(a' (by rw[a];rfl)).elim
   ·rw[a] at a';injection a' with _ a';subst a';obtain⟨z1,z2⟩:=(D u').gg h h';injection z2 with _ z2;subst z1 z2;obtain⟨z3,z4⟩:=(N w).gg m m'
    lia
  ·rcases h with ⟨a,k,n,e,h⟩ | ⟨u',ts,n,w,a,e,h,m⟩<;>rcases h' with ⟨a',h'⟩ | ⟨u2,a',h'⟩
   ·exact(j6 u).gb (t:=(k,n)) h h'
   ·simp_all
   ·simp_all
   ·rw[a] at a';injection a' with _ a';subst a';rcases h' with h'| ⟨lJ,h',z⟩ | ⟨lJ,w',h',z⟩
    ·exact(D u').gb h h'
    ·have:=((D u').gg h h').2
     grind
    ·have:=((D u').gg h h').2;injection this with _ this;subst this;exact(N w).gb m z
  ·rcases h with ⟨a,h⟩ | ⟨u',a,h⟩<;>rcases h' with ⟨a',h'⟩ | ⟨u2,a',h'⟩
   ·exact(j6 u).bb h h'
   ·exact(a (by rw[a'];rfl)).elim
   ·exact(a' (by rw[a];rfl)).elim
   ·rw[a] at a';injection a' with _ a';subst a';rcases h with h| ⟨ts,h,z⟩ | ⟨ts,w,h,z⟩<;>rcases h' with h'| ⟨lJ,h',z'⟩ | ⟨lJ,w',h',z'⟩
    ·exact(D u').bb h h'
    ·exact((D u').gb h' h).elim
    ·exact((D u').gb h' h).elim
    ·exact((D u').gb h h').elim
    ·exact((D u').gg h h').2
    ·exact(z (by rw[((D u').gg h h').2];rfl)).elim
    ·exact((D u').gb h h').elim
    ·exact(z' (by rw[<-((D u').gg h h').2];rfl)).elim
    ·have:=((D u').gg h h').2;injection this with _ this;subst this;exact(N w).bb z z'
def Ed(u:IN):Jj (YG u) (CrB u):=by
 have N:=λw=>kW (lg:=3) 0e1 0e1 w;refine⟨fun {t v t' v'} h h'=>?_,fun {t v v'} h h'=>?_,fun {v v'} h h'=>?_⟩
 ·rcases h with ⟨a,rfl,rfl⟩ | ⟨u',m,w,rfl,n,h⟩<;>rcases h' with ⟨a',rfl,rfl⟩ | ⟨u2,m',w',a',n',h'⟩
  ·exact⟨U,U⟩
  ·simp_all
  ·exact(a' rfl).elim
  ·injection a' with _ a';subst a';obtain⟨z1,z2⟩:=(N _).gg n n'
   lia
 ·obtain⟨u2,a',h'⟩:=h';rcases h with ⟨a,_⟩ | ⟨u',m,w,a,n,h⟩
  ·simp_all
  ·rw[a] at a';injection a' with _ a';subst a';rcases h' with h'| ⟨m',n',z1,z2⟩
   ·exact(N _).gb n h'
   ·obtain⟨_,e⟩:=(N _).gg n n'
    grind
 ·obtain⟨u',rfl,h⟩:=h;obtain⟨u2,a',h'⟩:=h';injection a' with _ a';subst a';rcases h with h| ⟨m,n,_⟩<;>rcases h' with h'| ⟨m',n',_⟩
  ·exact(N _).bb h h'
  ·exact((N _).gb n' h).elim
  ·exact((N _).gb n h').elim
  ·exact((N _).gg n n').2
def vT.first{u v:IN}{ps:20e0}(h:vT u ps v):ps≠[]/\∃t w,FD (lA 4) u t w:=by
 induction h with
 |one t v h=>exact⟨by simp,t,v,h⟩
 |snoc ps w m w1 t v _ _ _ ih=>simp_all
def PQ(u:IN):Jj (λps w=>vT u ps w/\w.head? ≠some 46) (λv=>NH (lA 4) (K5 4) u v\/∃ps w,vT u ps w/\∃w0,w=46::w0/\(ux w0 v\/∃m w1,j2 3 w0 m w1/\NH (lA 4) (K5 4) w1 v)):=by
 have N:=λw=>kW (lg:=3) 0e1 0e1 w;have D:=LO (LP 4);refine sA (q:=vT u) (s:=λw (x:ia) v=>∃w0 w1,w=46::w0/\j2 3 w0 x.1 w1/\FD (lA 4) w1 x.2 v) (λts v h=>?_) (λw x v x' v' h h'=>?_) (fun {v t w} h h'=>?_) (λh h'=>let ⟨_,_,_,z⟩:=h.first;(D u).gb z h') (fun {w v t x} h h'=>?_) (fun {w v} h h'=>?_) (λh h'=>(D u).bb h h') (fun {w v v'} h h'=>?_)
 ·cases h with
  |one t _ h=>
   refine .inl ⟨(1,t),rfl,λt' v' h'=>?_⟩;generalize e:[t']=l at h'
   cases h' with
   |one t2 _ h2=>
    cases e;obtain⟨z1,z2⟩:=(D u).gg h2 h
    lia
   |snoc YW w2 m2 w3 t2 _ s2=>exact(s2.first.1 (by cases YW with|nil=>rfl|cons a r=>simp at e)).elim
  |snoc ps w m w1 t _ s n h=>exact .inr ⟨ps,_,(m,t),rfl,s.first.1,s,w,w1,rfl,n,h⟩
 ·obtain⟨w0,w1,rfl,n,s⟩:=h;obtain⟨w0',w1',e,n',s'⟩:=h';injection e with _ e;subst e;obtain⟨z1,z2⟩:=(N _).gg n n';subst z2;obtain⟨z3,z4⟩:=(D _).gg s s';exact⟨Prod.ext z1 z3,z4⟩
 ·grind
 ·obtain⟨w0,rfl,h⟩:=h;obtain⟨w0',w1',e,n',s'⟩:=h';injection e with _ e;subst e;rcases h with h| ⟨m,w1,n,h⟩
  ·exact(N _).gb n' h
  ·obtain⟨_,z⟩:=(N _).gg n n';subst z;exact(D _).gb s' h
 ·grind
 ·obtain⟨w0,rfl,h⟩:=h;obtain⟨w0',e,h'⟩:=h';injection e with _ e;subst e;rcases h with h| ⟨m,w1,n,h⟩<;>rcases h' with h'| ⟨m',w1',n',h'⟩
  ·exact(N _).bb h h'
  ·exact((N _).gb n' h).elim
  ·exact((N _).gb n h').elim
  ·obtain⟨_,z⟩:=(N _).gg n n';subst z;exact(D _).bb h h'
def zA(u:IN):Jj (λ(x:Fm) v=>DI u x.1 x.2 v) (Rj u):=by
 have D:=PQ u
 have cv:∀{v:IN},Rj u v->u.head? ≠some 101->(NH (lA 4) (K5 4) u v\/∃ps w,vT u ps w/\∃w0,w=46::w0/\(ux w0 v\/∃m w1,j2 3 w0 m w1/\NH (lA 4) (K5 4) w1 v))\/∃ps w,vT u ps w/\w.head? ≠some 46/\CrB w v:=fun {v} h n=>by
  rcases h with h| ⟨_,h| ⟨ps,w,h,z⟩ |h⟩
  ·rcases h with ⟨e,_⟩ | ⟨e,_⟩<;>simp_all
  ·exact .inl (.inl h)
  ·exact .inl (.inr ⟨ps,_,h,w,rfl,z⟩)
  ·exact .inr h
 refine⟨fun {t v t' v'} h h'=>?_,fun {t v v'} h h'=>?_,fun {v v'} h h'=>?_⟩
 ·rcases h with ⟨e,a,b⟩ | ⟨n,w,h,c,d⟩<;>rcases h' with ⟨e',a',b'⟩ | ⟨n',w',h',c',d'⟩
  ·lia
  ·simp_all
  ·simp_all
  ·obtain⟨z1,z2⟩:=D.gg ⟨h,c⟩ ⟨h',c'⟩;subst z2;obtain⟨z3,z4⟩:=(Ed w).gg d d';exact⟨Prod.ext z1 z3,z4⟩
 ·rcases h with ⟨e,_⟩ | ⟨n,w,h,c,d⟩
  ·rcases h' with h'| ⟨n,_⟩
   ·rcases h' with ⟨e',z⟩ | ⟨e',z⟩<;>rw[e] at e'<;>simp at e'
    ·exact z (by rw[<-e'];rfl)
    ·exact z (by rw[<-e'];rfl)
   simp_all
  ·rcases cv h' n with h'| ⟨ps,w',h',c',d'⟩
   ·exact D.gb ⟨h,c⟩ h'
   ·obtain⟨_,z2⟩:=D.gg ⟨h,c⟩ ⟨h',c'⟩;subst z2;exact(Ed w).gb d d'
 ·by_cases n:u.head? =some 101
  ·have el:∀{v:IN},Rj u v->ElB u v:=fun {v} h=>h.elim id λz=>(z.1 n).elim;rcases el h with ⟨e,z⟩ | ⟨e,z⟩<;>rcases el h' with ⟨e',z'⟩ | ⟨e',z'⟩<;>rw[e] at e'<;>simp at e'
   ·exact e'
   ·simp_all
   ·grind
   ·exact e'
  ·rcases cv h n with h| ⟨ps,w,h,c,d⟩<;>rcases cv h' n with h'| ⟨Pg,w',h',c',d'⟩
   ·exact D.bb h h'
   ·exact(D.gb ⟨h',c'⟩ h).elim
   ·exact(D.gb ⟨h,c⟩ h').elim
   ·obtain⟨_,z2⟩:=D.gg ⟨h,c⟩ ⟨h',c'⟩;subst z2;exact(Ed w).bb d d'
def mq(u:IN):Jj (HX u) (Ru u):=by
 have N:=kW (lg:=12) 0e1 0e1 u;have W:=λw=>zA w;refine⟨fun {t v t' v'} h h'=>?_,fun {t v v'} h h'=>?_,fun {v v'} h h'=>?_⟩
 ·obtain⟨w,n,h⟩:=h;obtain⟨w',n',h'⟩:=h';obtain⟨z1,z2⟩:=N.gg n n';subst z2;obtain⟨a,x⟩:=t;obtain⟨a',x'⟩:=t';have z1:a=a':=z1;subst z1;rcases h with ⟨e,h⟩ | ⟨e,y,rfl,h⟩<;>rcases h' with ⟨e',h'⟩ | ⟨e',y',z,h'⟩
  ·obtain⟨z3,z4⟩:=(W _).gg (t:=x) (t':=x') h h';exact⟨by rw[z3],z4⟩
  ·exact(e' e).elim
  ·exact(e e').elim
  ·injection z with _ z;subst z;obtain⟨z3,z4⟩:=(W _).gg (t:=x) (t':=x') h h';exact⟨by rw[z3],z4⟩
 ·obtain⟨w,n,h⟩:=h;rcases h' with h'| ⟨n2,w',n',h'⟩
  ·exact N.gb n h'
  ·obtain⟨z1,z2⟩:=N.gg n n';subst z1 z2;rcases h with ⟨e,h⟩ | ⟨e,y,rfl,h⟩<;>rcases h' with ⟨e',h'⟩ | ⟨e',z,_⟩ | ⟨e',y',z,h'⟩
   ·exact(W _).gb (t:=t.2) h h'
   ·exact e' e
   ·exact e' e
   ·exact e e'
   ·exact z rfl
   ·injection z with _ z;subst z;exact(W _).gb (t:=t.2) h h'
 ·rcases h with h| ⟨n,w,a,h⟩<;>rcases h' with h'| ⟨n',w',a',h'⟩
  ·exact N.bb h h'
  ·exact(N.gb a' h).elim
  ·exact(N.gb a h').elim
  ·obtain⟨z1,z2⟩:=N.gg a a';subst z1 z2;rcases h with ⟨e,h⟩ | ⟨e,z,h⟩ | ⟨e,y,z,h⟩<;>rcases h' with ⟨e',h'⟩ | ⟨e',z',h'⟩ | ⟨e',y',z',h'⟩
   ·exact(W _).bb h h'
   ·exact(e' e).elim
   ·exact(e' e).elim
   ·exact(e e').elim
   ·exact h.trans h'.symm
   ·simp_all
   ·exact(e e').elim
   ·simp_all
   ·rw[z] at z';injection z' with _ z';subst z';exact(W _).bb h h'
theorem LQ:∀{s w v v':IN},WH s w v->WH s w v'->v=v'
 | [],_,_,_,⟨i,c,h,_⟩,_=>by simp at h
 |a::s,w,v,v',⟨i,c,h,e,n⟩,⟨i',c',h',e',n'⟩=>by
  cases i with
  |zero=>
   cases i' with
   |zero=>exact e.symm.trans e'
   |succ j=>
    have hc:a=c:=by simpa using h
    exact(n (by rw[show v=w from e.symm,e',hc];rfl)).elim
  |succ i=>
   cases i' with
   |zero=>
    simp_all
   |succ j=>
    rw[e] at e';injection e' with _ e';exact LQ (w:=s.take i++v) ⟨i,c,h,rfl,n⟩ ⟨j,c',h',e',n'⟩
def FU{s w v:IN}(h:WH s (s++w) v):False:=by
 obtain⟨i,c,h,e,n⟩:=h;refine n ?_;have hi:=(List.getElem?_eq_some_iff.mp h).1;have ed:=drop_eq_getElem_cons hi;have ec:s[i]=c:=(List.getElem?_eq_some_iff.mp h).2;have e2:s.take i++(s.drop i++w)=s.take i++v:=by rw[<-append_assoc,take_append_drop];exact e
 rw[<-List.append_cancel_left e2,ed,ec];rfl
def pq.first{u v:IN}{ts:PP}(h:pq u ts v):ts≠[]/\∃t w,HX u t w:=by
 induction h with
 |one t v h=>exact⟨by simp,t,v,h⟩
 |snoc ts w t v _ _ ih=>exact⟨by simp,ih.2⟩
inductive LfS(w:19e4)(t:Tm)(v:19e4):Prop
 |mk (y:_) (bJ:w=32::43::32::y) (bT:HX y t v)
def LR(u:IN):LM (pq u) LfS:=λts v h=>by
 cases h with
 |one t _ h=>exact .inl ⟨t,rfl,λt' v' h'=>by
   generalize e:[t']=l at h'
   cases h' with
   |one t2 _ h2=>cases e;exact(mq u).gg h2 h
   |snoc YW w2 t2 _ s2=>exact(s2.first.1 (by cases YW with|nil=>rfl|cons a r=>simp at e)).elim⟩
 |snoc ts w t _ s h=>exact .inr ⟨ts,_,t,rfl,s.first.1,s,w,rfl,h⟩
def LS:PN LfS:=λw t v t' v' ⟨y,e,h⟩ ⟨y',e',h'⟩=>by
 rw[e] at e';simp at e';subst e';exact(mq y).gg h h'
def Ry{w v x:IN}{t:Tm}(h:UQ w v)(h':LfS w t x):False:=by
 obtain⟨y,rfl,h'⟩:=h';rcases h with h| ⟨y',e,h⟩
 ·exact FU (s:=[32,43,32]) h
 ·simp at e;subst e;exact(mq y).gb h' h
def RA{w v v':IN}(h:UQ w v)(h':UQ w v'):v=v':=by
 rcases h with h| ⟨y,e,h⟩<;>rcases h' with h'| ⟨y',e',h'⟩
 ·exact LQ h h'
 ·rw[e'] at h;exact(FU (s:=[32,43,32]) h).elim
 ·rw[e] at h';exact(FU (s:=[32,43,32]) h').elim
 ·rw[e] at e';simp at e';subst e';exact(mq y).bb h h'
def Ee(u:IN):Jj (λts v=>pq u ts v/\v=[]) (λv=>Ru u v\/∃ts w,pq u ts w/\(w≠[]/\UQ w v)):=
 sA (LR u) LS (λh ⟨_,e,_⟩=>by rw[h] at e;cases e) (λh h'=>let ⟨_,_,_,z⟩:=h.first;(mq u).gb z h') (λh h'=>Ry h.2 h') (λh h'=>h'.1 h) (λh h'=>(mq u).bb h h') (λh h'=>RA h.2 h'.2)
def nZ(u:IN):Jj (λts w=>pq u ts w/\∃v,w=32::45::62::32::v) (λv=>Ru u v\/∃ts w,pq u ts w/\(((w.drop 1).head? ≠some 45/\UQ w v)\/((w.drop 1).head? =some 45/\WH [32,45,62,32] w v))):=
 sA (LR u) LS (fun⟨_,h⟩ ⟨_,e,_⟩=>by rw[h] at e;simp at e) (λh h'=>let ⟨_,_,_,z⟩:=h.first;(mq u).gb z h')
  (λh h'=>by
   rcases h with ⟨_,h⟩ | ⟨h,_⟩
   ·exact Ry h h'
   ·obtain⟨y,rfl,_⟩:=h'
    simp at h)
  (fun⟨_,h⟩ h'=>by
   subst h;rcases h' with ⟨h',_⟩ | ⟨_,h'⟩
   ·exact h' rfl
   ·exact FU (s:=[32,45,62,32]) h')
  (λh h'=>(mq u).bb h h')
  (λh h'=>by
   rcases h with ⟨a,h⟩ | ⟨a,h⟩<;>rcases h' with ⟨a',h'⟩ | ⟨a',h'⟩
   ·exact RA h h'
   ·exact(a a').elim
   ·exact(a' a).elim
   ·exact LQ h h')
def RB{u:IN}{xs ys NO ys':PP}(h:PK u xs ys)(h':PK u NO ys'):xs=NO/\ys=ys':=by
 obtain⟨w,a,b⟩:=h;obtain⟨w',a',b'⟩:=h';obtain⟨z1,z2⟩:=(nZ u).gg ⟨a,w,rfl⟩ ⟨a',w',rfl⟩;simp at z2;subst z2;exact⟨z1,((Ee w).gg ⟨b,U⟩ ⟨b',U⟩).1⟩
def LU{u v:IN}{xs ys:PP}(h:PK u xs ys)(h':UR u v):False:=by
 obtain⟨w,a,b⟩:=h;rcases h' with h'| ⟨NO,w',a',h'⟩
 ·exact(nZ u).gb ⟨a,w,rfl⟩ h'
 ·obtain⟨z1,z2⟩:=(nZ u).gg ⟨a,w,rfl⟩ ⟨a',w',rfl⟩;simp at z2;subst z2;exact(Ee w).gb ⟨b,rfl⟩ h'
def YX{u v v':IN}(h:UR u v)(h':UR u v'):v=v':=by
 rcases h with h| ⟨xs,w,a,h⟩<;>rcases h' with h'| ⟨NO,w',a',h'⟩
 ·exact(nZ u).bb h h'
 ·exact((nZ u).gb ⟨a',w',U⟩ h).elim
 ·exact((nZ u).gb ⟨a,w,U⟩ h').elim
 ·obtain⟨z1,z2⟩:=(nZ u).gg ⟨a,w,rfl⟩ ⟨a',w',rfl⟩;simp at z2;subst z2;exact(Ee w).bb h h'
theorem zB{f g:Tr->List Nat}:∀{ts:List Tr},(∀t∈ts,f t=g t)->ts.flatMap f=ts.flatMap g
 | [],_=>rfl
 |t::r,h=>by rw[flatMap_cons,flatMap_cons,h t 1e8,zB λu hu=>h u (mem_cons_of_mem _ hu)]
theorem mr:∀{d:Nat} {t:Tr},og d t->og (d+1) t/\dJ (d+1) t=dJ d t
 |0, .one k n,h=>⟨h,rfl⟩
 |0, .gr _ _,h=>h.elim
 |d+1, .one k n,h=>⟨h,rfl⟩
 |d+1, .gr ts n,⟨a,b,c⟩=>by
  refine⟨⟨a,λt ht=>(mr (b t ht)).1,c⟩,?_⟩;show 40::(ts.flatMap (dJ (d+1))++41::bM n)=40::(ts.flatMap (dJ d)++41::bM n);rw[zB λt ht=>(mr (b t ht)).2]
theorem zC{R S:Addr->Tr->Prop}:∀{ts:List Tr} {ps:UV},(∀t∈ts,∀a,R a t->S a t)->Paired R ps ts->Paired S ps ts
 | [],_,_, .nil=> .nil
 |t::r,_,o, .cons a b=> .cons (o t 1e8 _ a) (zC (λu hu=>o u (mem_cons_of_mem _ hu)) b)
theorem FV:∀{d:Nat} {t:Tr} {H:Hp} {a:Ps},og d t->dF C G (d+1) H a t->dF C G d H a t
 |0, .one k n,_,_,_,h=>h
 |0, .gr _ _,_,_,o,_=>o.elim
 |d+1, .one k n,_,_,_,h=>h
 |d+1, .gr ts n,H,a,⟨_,o,_⟩,⟨dx,l,ps,h1,h2,h3⟩=>⟨dx,l,ps,h1,h2,zC (λt ht _ h=>FV (o t ht) h) h3⟩
def zD{d:Nat}{H:Hp}{ts:List Tr}{ps:UV}(o:∀t∈ts,og d t)(h:Paired (dF C G (d+1) H) ps ts):Paired (dF C G d H) ps ts:=zC (λt ht _ h=>FV (o t ht) h) h
variable {uC uP uI uD uL uT:Tok}{HE NF TL NC TM Ch:Ps}
def LV{t:Tr}(h:og 1 t):og 4 t/\dJ 4 t=dJ 1 t:=by
 have a:=mr h;have b:=mr a.1;have c:=mr b.1
 lia
def RC{ts:List Tr}(h:∀t∈ts,og 1 t):ts.flatMap (dJ 4)=ts.flatMap (dJ 1):=zB λt ht=>(LV (h t ht)).2
def UT{x:ia}(h:Dc 1 x):Dc 4 x:=⟨h.1,λt ht=>(LV (h.2.1 t ht)).1,h.2.2⟩
theorem LW:∀{xs:20e0},(∀x∈xs,Dc 1 x)->d9 4 xs=d9 1 xs
 | [],_=>rfl
 |x::r,h=>by
  have ih:=LW (xs:=r) λy hy=>h y 11e5;unfold d9 at ih |-;rw[flatMap_cons,flatMap_cons,ih];unfold nq;rw[RC (h x 1e8).2.1]
def LX{xs:20e0}{n:Int}(h:Jf 1 xs n):Jf 4 xs n/\wL 4 xs n=wL 1 xs n:=by
 cases xs with
 |nil=>exact⟨h,U⟩
 |cons x r=>
  obtain⟨a,b,c⟩:=h;refine⟨⟨a,λy hy=>UT (b y hy),c⟩,?_⟩;show x.2.flatMap (dJ 4)++(d9 4 r++lz n)=x.2.flatMap (dJ 1)++(d9 1 r++lz n);rw[RC (b x 1e8).2.1,LW λy hy=>b y 11e5]
def PR{H:Hp}{ts:List Tr}{ps:UV}(o:∀t∈ts,og 1 t)(h:Paired (dF C G 4 H) ps ts):Paired (dF C G 1 H) ps ts:=
 zD o (zD (λt ht=>(mr (o t ht)).1) (zD (λt ht=>(mr (mr (o t ht)).1).1) h))
def FW{H:Hp}{f:Ps}{xs:20e0}{n:Int}(o:Jf 1 xs n)(h:me C G Pc Fo 4 H f xs n):me C G Pc Fo 1 H f xs n:=by
 obtain⟨dx,l,ps,h1,h2,h3⟩:=h
 have o2:∀x∈xs,Dc 1 x:=by
  cases xs with
  |nil=>intro x hx;cases hx
  |cons y r=>exact o.2.1
 refine⟨dx,l,ps,h1,h2,?_⟩;clear h2 o
 induction h3 with
 |nil=>exact .nil
 |cons a _ ih=>
  obtain⟨dM,l',Pg,k1,k2,k3⟩:=a;exact .cons ⟨dM,l',Pg,k1,k2,PR (o2 _ 1e8).2.1 k3⟩ (ih λy hy=>o2 y 11e5)
def YY{n:Int}(h1:1<=n)(h2:n<=999):(bM n).length<=3:=by
 have:=jc h1 h2
 rwa [dC,bp] at this
def j2.mk3{n:Int}{v:IN}(n1:1<=n)(n2:n<=999)(h:Not qV v):j2 3 (bM n++v) n v:=⟨rfl,n1,by omega,YY n1 n2, .inl h⟩
def mh.mkA{k v:IN}{n:Int}(hk:kK k)(n1:1<=n)(n2:n<=999)(h:Not qV v)(hs:Not wq v):mh ((k++bM n)++v) k n v:=
 ⟨bM n++v,append_assoc ..,hk, .inr (O7 (KY n1 n2) hs), .mk3 n1 n2 h⟩
def Stop.more{v:IN}(h:Stop v):¬More v:=fun⟨c,hc,z⟩=>by
 rcases z with z|z
 ·rw[h.2.2.1 c hc] at z;cases z
 ·have:=h.2.2.2 c hc;simp [z] at this
def Sq.mkS{d:Nat}(hp:∀t v,og d t->Not qV v->Not wq v->lA d (dJ d t++v) t v){ts:List Tr}(nj:ts≠[])(ho:∀t∈ts,og d t){v:IN}(hs:Stop v):FD (lA d) (ts.flatMap (dJ d)++v) ts v:=by
 have step:∀i,i<ts.length->Sq (lA d) (ts.flatMap (dJ d)++v) (ts.take 12e0) ((ts.drop 12e0).flatMap (dJ d)++v):=by
  intro i
  induction i with
  |zero=>
   intro h;have e:ts=ts[0]::ts.drop 1:=by have:=list_at h;simpa using this
   have nn:=ur (d:=d) (ts:=ts.drop 1) (λt ht=>ho t (List.mem_of_mem_drop ht)) hs
   have:=Sq.one (p:=lA d) (u:=ts.flatMap (dJ d)++v) ts[0] ((ts.drop 1).flatMap (dJ d)++v) (by
    have e2:ts.flatMap (dJ d)++v=dJ d ts[0]++((ts.drop 1).flatMap (dJ d)++v):=by
     conv=>lhs;rw[e]
     rw[flatMap_cons,append_assoc]
    rw[e2]
    exact hp _ _ (ho _ (getElem_mem h)) nn.1 nn.2)
   have e1:ts.take 1=[ts[0]]:=by rw[take_add_one,getElem?_eq_getElem h];rfl
   rw[Nat.zero_add,e1];exact this
  |succ i ih=>
   intro h;have q:=ih 0e2;have e:ts.drop 12e0=ts[i+1]::ts.drop (i+2):=drop_eq_getElem_cons h;have NL:=ho _ (getElem_mem h);have nn:=ur (d:=d) (ts:=ts.drop (i+2)) (λt ht=>ho t (List.mem_of_mem_drop ht)) hs;obtain⟨c,r,hc,ht⟩:=y8 NL;have em:(ts.drop 12e0).flatMap (dJ d)++v=dJ d ts[i+1]++((ts.drop (i+2)).flatMap (dJ d)++v):=by rw[e,flatMap_cons,append_assoc]
   rw[em] at q;rw[take_add_one,getElem?_eq_getElem h];refine .snoc _ _ _ _ q ⟨c,by rw[hc];rfl,ht.imp 2e1 2e1⟩ (hp _ _ NL nn.1 nn.2)
 have hl:0<ts.length:=List.length_pos_iff.mpr nj;have:=step (ts.length - 1) 0e2;rw[show ts.length - 1+1=ts.length by omega,take_length,drop_eq_nil_of_le 3e1] at this;exact⟨this,hs.more⟩
theorem lA.mkP:∀(d:Nat) (t:Tr) (v:IN),og d t->Not qV v->Not wq v->lA d (dJ d t++v) t v
 |0, .one k n,v,h,hf,hs=>⟨k,n,rfl, .mkA h.1 h.2.1 h.2.2 hf hs⟩
 |0, .gr _ _,_,h,_,_=>h.elim
 |d+1, .one k n,v,h,hf,hs=>by
  refine .inl ⟨?_,k,n,rfl, .mkA h.1 h.2.1 h.2.2 hf hs⟩;obtain⟨c,r,rfl,hg,_⟩:=h.1;intro z;have:c=40:=by simpa [dJ] using z
  subst this;cases hg
 |d+1, .gr ts n,v,⟨nj,ho,n1,n2⟩,hf,hs=>by
  refine .inr ⟨ts.flatMap (dJ d)++41::(bM n++v),ts,n,bM n++v,?_,rfl,Sq.mkS (lA.mkP d) nj ho (Uv _), .mk3 n1 n2 hf⟩;show 40::(ts.flatMap (dJ d)++41::bM n)++v=_;simp
def vT.mkQ{x:ia}{r:20e0}(x1:x.1=1)(ho:∀y∈x::r,Dc 4 y){v:IN}(hs:∀ys:List ia,Stop (d9 4 ys++v)):vT (x.2.flatMap (dJ 4)++(d9 4 r++v)) (x::r) v:=by
 have step:∀i,i<=r.length->vT (x.2.flatMap (dJ 4)++(d9 4 r++v)) (x::r.take i) (d9 4 (r.drop i)++v):=by
  intro i
  induction i with
  |zero=>
   intro _;obtain⟨ne,o,_⟩:=ho x 1e8;have:=vT.one x.2 (d9 4 r++v) (Sq.mkS (lA.mkP 4) ne o (hs r));rw[<-x1] at this;exact this
  |succ i ih=>
   intro h;have q:=ih 0e2;have hi:i<r.length:=h;have e:r.drop i=r[i]::r.drop 12e0:=drop_eq_getElem_cons hi;obtain⟨ne,o,n1,n2⟩:=ho r[i] (mem_cons_of_mem _ (getElem_mem hi))
   have em:d9 4 (r.drop i)++v=46::(bM r[i].1++(r[i].2.flatMap (dJ 4)++(d9 4 (r.drop 12e0)++v))):=by
    rw[e];unfold d9 nq;rw[flatMap_cons];simp
   rw[em] at q;have st:=hs (r.drop 12e0);have nn:=ur o st;have:=vT.snoc _ _ r[i].1 _ r[i].2 _ q (.mk3 n1 n2 nn.1) (Sq.mkS (lA.mkP 4) ne o st);rw[take_add_one,getElem?_eq_getElem hi];exact this
 have:=step r.length 3e1;rw[take_length,drop_eq_nil_of_le 3e1] at this;exact this
def DI.mkE{xs:20e0}{n:Int}{post:IN}(h:Jf 4 xs n)(hp:K0 post):DI (wL 4 xs n++post) xs n post:=by
 have he:∀{c:Nat},c≠32->post.head? ≠some c:=fun {c} hc z=>by
  rcases hp with rfl| ⟨r,rfl⟩
  ·cases z
  simp_all
 cases xs with
 |nil=>
  have:n= -1:=h;subst this;exact .inl ⟨rfl,rfl,rfl⟩
 |cons x r=>
  obtain⟨x1,ho,n1,n2⟩:=h;obtain⟨ne,o,_⟩:=ho x 1e8
  have ew:wL 4 (x::r) n++post=x.2.flatMap (dJ 4)++(d9 4 r++(lz n++post)):=by
   show x.2.flatMap (dJ 4)++(d9 4 r++lz n)++post=_;simp_all
  rw[ew];refine .inr ⟨?_,lz n++post,?_,?_,?_⟩
  ·have t0:0<x.2.length:=List.length_pos_iff.mpr ne;obtain⟨c,rest,hc,ht⟩:=y8 (o _ (getElem_mem t0));have e:x.2=x.2[0]::x.2.drop 1:=by have:=list_at t0;simpa using this
   intro z
   have:c=101:=by
    rw[e,flatMap_cons,hc] at z;simpa using z
   subst this;rcases ht with ⟨hg,_⟩ | ⟨z,_⟩
   ·cases hg
   ·cases z
  ·exact vT.mkQ x1 ho λys=>HA 4 ys n hp
  ·rcases Fz n with e| ⟨rr,e⟩<;>rw[e]
   ·exact he 0e1
   ·simp
  ·by_cases h0:n=0
   ·subst h0;exact .inl ⟨by simpa [lz] using he 0e1,rfl,by simp [lz]⟩
   ·refine .inr ⟨bM (if n<0 then -n else n)++((if 0<n then 43 else 45)::post),(if n<0 then -n else n),(if 0<n then 43 else 45)::post,by unfold lz;rw[if_neg h0];simp, .mk3 (by split<;>omega) (by split<;>omega) (λc hc=>?_),?_⟩
    ·have e:(if 0<n then 43 else 45)=c:=by simpa using hc
     rw[<-e];split<;>rfl
    ·by_cases hp:0<n
     ·right;rw[if_pos hp,if_neg 0e2];exact⟨U,U⟩
     ·left;rw[if_neg hp,if_pos 0e2];exact⟨U,by omega⟩
noncomputable def Jc(n:Int):List Nat:=if n=1 then [] else [32]
def Af(x:Tm):List Nat:=bM x.1++(Jc x.1++fL x.2)
abbrev eC(x:Tm):Prop:=rG 999999999999 x
noncomputable def YZ(x:Tm):List Nat:=[32,43,32]++Af x
noncomputable def LY(xs:PP):List Nat:=xs.flatMap YZ
def zE:List Tm->List Nat
 | []=>[]
 |x::r=>Af x++LY r
noncomputable def LZ:List Nat:=[32,45,62,32]
def Y0{u v:IN}{xs:20e0}{n:Int}(h:DI u xs n v):Not qV u:=λc hc=>by
 rcases h with ⟨e,_⟩ | ⟨_,w,h,_⟩
 ·rw[e] at hc;have:c=101:=by simpa using hc.symm
  subst this;rfl
 ·obtain⟨_,t,w2,hS⟩:=h.first
  obtain⟨_,t2,w3,hP⟩:=hS.1.first
  have key:∀{k m:IN},u=k++m->kK k->qV c=false:=fun {k m} e o=>by
   obtain⟨g,r,rfl,hg,_⟩:=o;rw[e] at hc;have:g=c:=by simpa using hc
   subst this;simp only [Ft,qV,and_eq_true,decide_eq_true_eq] at*;simp;omega
  rcases hP with ⟨_,k,m,_,y,e,o,_⟩ | ⟨u',_,_,_,e,_⟩
  ·exact key e o
  ·rw[e] at hc;have:c=40:=by simpa using hc.symm
   subst this;rfl
def RD{n:Int}(h1:1<=n)(h2:n<=999999999999):((bM n).length:Int)<=12:=by
 obtain⟨m,rfl⟩:=eq_ofNat_of_zero_le (show 0<=n by omega);have:=qf (n:=m) (k:=12) 0e1 0e2;rw[dC,bp] at this
 lia
def HX.mkT{t:Tm}{post:IN}(h:eC t)(hp:K0 post):HX (Af t++post) t post:=by
 obtain⟨h1,h2,okf,_⟩:=h;obtain⟨o4,e4⟩:=LX okf;have hW:=DI.mkE o4 hp;rw[e4] at hW;have hF:=Y0 hW;have fl:=RD h1 h2;refine⟨Jc t.1++(fL t.2++post),⟨by unfold Af;simp_all,h1,by omega,by omega, .inl ?_⟩,?_⟩
 ·unfold Jc;split
  ·exact hF
  ·intro c hc;have:32=c:=by simpa using hc
   subst this;rfl
 ·unfold Jc;split
  ·rename_i e
   exact .inl ⟨e,hW⟩
  ·rename_i e
   exact .inr ⟨e,fL t.2++post,rfl,hW⟩
def UU(x:Tm):(YZ x).length=3+(Af x).length:=by
 unfold YZ;rw[length_append];rfl
def L0(xs:PP){post:IN}(h:K0 post):K0 (LY xs++post):=by
 cases xs with
 |nil=>exact h
 |cons x r=>exact .inr 3e5
def pq.mkL{x:Tm}{r:PP}{post:IN}(ho:∀t∈x::r,eC t)(hp:K0 post):pq (zE (x::r)++post) (x::r) post:=by
 have step:∀i,i<=r.length->pq (zE (x::r)++post) (x::r.take i) (LY (r.drop i)++post):=by
  intro i
  induction i with
  |zero=>
   intro _;have:=pq.one x _ (HX.mkT (ho x 1e8) (L0 r hp));rw[<-append_assoc] at this;exact this
  |succ i ih=>
   intro h;have q:=ih 0e2;have hi:i<r.length:=h;have e:r.drop i=r[i]::r.drop 12e0:=drop_eq_getElem_cons hi
   have em:LY (r.drop i)++post=32::43::32::(Af r[i]++(LY (r.drop 12e0)++post)):=by
    rw[e];unfold LY YZ;rw[flatMap_cons];simp
   rw[em] at q;have:=pq.snoc _ _ r[i] _ q (HX.mkT (ho _ (mem_cons_of_mem _ (getElem_mem hi))) (L0 _ hp));rw[take_add_one,getElem?_eq_getElem hi];exact this
 have:=step r.length 3e1;rw[take_length,drop_eq_nil_of_le 3e1] at this;exact this
def pq.mkN{xs:PP}{post:IN}(ne:xs≠[])(ho:∀t∈xs,eC t)(hp:K0 post):pq (zE xs++post) xs post:=by
 cases xs with
 |nil=>exact absurd rfl ne
 |cons x r=>exact pq.mkL ho hp
def PK.mkC{xs ys:PP}(nx:xs≠[])(ny:ys≠[])(hx:∀t∈xs,eC t)(hy:∀t∈ys,eC t):PK (zE xs++LZ++zE ys) xs ys:=by
 refine⟨zE ys,?_,?_⟩
 ·have:=pq.mkN nx hx (post:=LZ++zE ys) (.inr 3e5);rw[append_assoc];exact this
 ·have:=pq.mkN ny hy (post:=[]) 9e8;simp_all
def fB.calm{k:Nat}{f:Ps}{fd:17e4}{ps:IR}{sp sp':Sp}(F:fB P w K mg base (Cu P w) k f fd ps sp)(h:∀vs H Q E,sp' vs H Q E->sp vs H Q E0):fB P w K mg base oC k f fd ps sp':=
 ⟨λvs H Q E q=>F.len vs H Q E0 (h _ _ _ _ q),λA outer s H args us vs Q E hr he hb hv hs=>codeAny_mono (F.run A outer s H args us vs Q E0 hr he hb hv (h _ _ _ _ hs)) λr s' z=>by
  cases r with
  |ok o=>cases o<;>exact z
  |error e=>
   obtain⟨_,_,_,_,_,_,_,_,_,_,_,_,_,z⟩:=z
   exact z.elim⟩
def Y1(C G Pc Fo Ch:Ps)(H H':Hp)(c:Ps)(xs ys:PP):Prop:=∀cM,7e3->eh C G Pc Fo Ch cM c xs ys
def BM{H:Hp}{l:Ps}{xs:PP}(ho:∀t∈xs,eC t)(h:vg C G Pc Fo H l xs):ie C G Pc Fo H l xs:=by
 obtain⟨ts,h1,h2⟩:=h;refine⟨ts,h1,?_⟩;clear h1
 induction h2 with
 |nil=>exact .nil
 |cons a _ ih=>
  obtain⟨f,a1,a2⟩:=a;exact .cons ⟨f,a1,FW (ho _ 1e8).2.2.1 a2⟩ (ih λy hy=>ho y 11e5)
def BG.dn{H H':Hp}{c:Ps}{xs ys:PP}(hx:∀t∈xs,eC t)(hy:∀t∈ys,eC t)(h:BG C G Pc Fo Ch H H' c xs ys):Y1 C G Pc Fo Ch H H' c xs ys:=λcM k=>by
 obtain⟨dx,l,r,h1,h2,h3⟩:=h cM k;exact⟨dx,l,r,h1,BM hx h2,BM hy h3⟩
inductive L4(C G Pc Fo:9e7)(d:Nat)(vs:5e2)(H:Hp)(Q:VK)(E:XK):Prop
 |mk (x:Str) (xs:20e0) (n:Int) (bJ:vs=[.str x]) (bT:x.cps.toList=wL d xs n) (cw:Jf d xs n) (dh:d<=4) (eQ:x.length<=400) (ir:∀f H',H f=none->Pa C G Pc Fo d H H' f xs n->au H H'->Q 8e3 H')
def FX(C G Pc Fo:Ps)(d:Nat):Sp:=L4 C G Pc Fo d
def zF(c:lq P w K mg base 21 "read_formula" ["text"] (FE NF TL C G Pc Fo)):bA P w K mg base 21 "read_formula" ["text"] (FX C G Pc Fo 1):=by
 obtain⟨f,fd,c⟩:=c;refine⟨f,fd,fB.calm c.ok λvs H Q E h=>?_,c.kp,c.b,c.g⟩;obtain⟨x,xs,n,rfl,ex,ok,_,hx,q⟩:=h;obtain⟨o4,e4⟩:=LX ok;have hW:=DI.mkE o4 (post:=[]) 9e8;rw[append_nil,e4,<-ex] at hW;refine⟨x,U,by omega,λ_ NO n' f H' hW' nf hF e=>?_,λ_ e _ hB=>?_,λz=>absurd z 0e2⟩
 ·obtain⟨z,_⟩:=(zA _).gg (t:=(xs,n)) (t':=(NO,n')) hW hW';cases z;exact q f H' nf (λcM k=>FW ok (hF cM k)) e
 ·rcases hB with hB| ⟨NO,n',hW',ne⟩
  ·exact((zA _).gb (t:=(xs,n)) hW hB).elim
  ·exact(ne ((zA _).gg (t:=(xs,n)) (t':=(NO,n')) hW hW').2.symm).elim
def rh(x:Str)(pl:Nat):Prop:=x.length<=400/\pl<=x.length/\UR x.cps.toList (sf x pl)
theorem rh.at{x:Str}{pl e:Nat}(h:rh x pl)(he:e<=x.length)(hB:UR x.cps.toList (sf x e)):e=pl:=by
 have:=congrArg List.length (YX hB h.2.2);rw[kQ,kQ] at this;have:=h.2.1;omega
variable {uC uP uI uD uL uT fT fU fV uG uS:Tok}{Ch:Ps}
noncomputable def gL(xs:PP):List (Str×Int):=xs.map λx=>((⟨(fL x.2).toArray⟩:Str),x.1)
inductive wG(C G Pc Fo:9e7)(vs:5e2)(H:Hp)(Q:VK)(E:XK):Prop
 |mk (l:9e7) (xs:List Tm) (bJ:vs=[.ref l]) (bT:ie C G Pc Fo H l xs) (cw:(∀x∈xs,cQ x.2)) (dh:xs.length<=20) (eQ:∀e H',H e=none->H' e=some (.dK (bj 1 [] (gL xs)))->au H H'->Q 6e8 H')
def iV(C G Pc Fo:Ps):Sp:=wG C G Pc Fo
def BN{xs:PP}{i:Nat}{y:Tm}(h:xs[i]? =some y):bj 1 [] (gL (xs.take 12e0))=cU (bj 1 [] (gL (xs.take i))) (Sum.inr 10e0) y.1:=by
 unfold gL bj;rw[take_snoc h,map_append,foldl_append];show cU _ _ (y.1*1)=_;rw[mul_one]
def gE:ax ["terms","total","count","formula","text"] ["terms"] (ak l8):=dO
def wH(D:Def K mg "side_counts" "side_counts" l8 ["terms"])(T:1e9)(c1:bU P w K mg base 7 Fo "shown" 1e0 (xC C G Pc Fo 1)):bA P w K mg base 8 "side_counts" ["terms"] (iV C G Pc Fo):=by
 obtain⟨_,_,iz⟩:=c1;refine D.fF gE 0e4 0e0
 ·obtain⟨l,xs,rfl,_⟩:=h;rfl
 ·obtain⟨l,xs,rfl,⟨ts,hl,hP⟩,aP,h20,q⟩:=h;have hu:=dQ hr;have big:(2000 :Nat) <sizeLine:=by decide
  have f6:=Paired.length hP;refine⟨_,(ai (aA (i:=1) gE.nd rfl 0e3 d7) (ai (b8 PassesOwn.never rfl (cS 1e3) (il rfl (aX (aE (i:=2) gE.nd rfl 0e3) (aX (aE (i:=3) gE.nd rfl 0e3) dR))) (ai (aA (i:=4) gE.nd rfl 0e3 (bu 19e2 T.b7 iz.m iz.ok 1e1 iz.b .nil ck)) (ao (dI hu 3e6 (pv 4) (aB cq (cy hu 3e6 (pv 4) aq 10e2) 5e5) rfl)))) (ao (aD 3e6)))),?_⟩;refine λd hd=>?_;have sD:=au.new (o:= .dK []) hd;refine⟨_,U,l,U,⟨_,bH.of (sD _ _ hl)⟩,fz (K:=K) (a:=l) (xs:=ts.map V.ref) (λi σ H'=>∃v2 v3 v4:Option V,σ=[some 18e6,some (.ref d),v2,v3,v4]/\H' d=some (.dK (bj 1 [] (gL (xs.take i))))/\au H H') ?_ (λi σ H' _ ⟨_,_,_,_,_,e⟩=>bH.of (e _ _ hl)) ?_ ?_⟩
  ·exact⟨none,none,none,U,af,sD⟩
  ·rintro i v σ H' hi ⟨v2,v3,v4,rfl,dH,e⟩;rw[getElem?_map] at hi;obtain⟨t,ht,rfl⟩:=gMp hi;obtain⟨y,hy,fo,h1,h2⟩:=br hP ht;obtain⟨dx,fl,fps,hfo,_⟩:=id h2;have rg:=aP y (mem_of_getElem? hy);have zl:(wL 1 y.2.1 y.2.2).length<=1000:=le_trans rg.2.1 0e1;have hI:bh (bj 1 [] (gL (xs.take i))):=jy 1 _ _ λp hp=>by cases hp
   have qx:=jz 1 (gL (xs.take i)) [];have hal:(gL (xs.take i)).length<=20:=by unfold gL;rw[length_map,length_take];omega
   rw[length_nil] at qx;refine⟨t,_,U,iB.of (e _ _ h1),U,_,_,U,_,_,U,U,?_⟩;refine⟨_,U,fo,dx,_,U,e _ _ hfo,uu _ _ 0e5 0e5,fo,_,_,U,h2.same e,rg.1,zl,λH2 e2=>?_⟩;have hd2:=e2 _ _ dH;refine⟨_,U,d,U, .inl ⟨_, .inl hd2⟩,_,U,_,iu.k (k:=Sum.inr 10e0) hd2,_,U,_,_,hI.at _,U,_,U,_,U,d,_,U,kq.k (k:=Sum.inr 10e0) hd2 0e2,?_⟩;refine⟨_,_,_,U,?_,λb o z=>?_⟩
   ·rw[af,BN hy];rfl
   ·rw[ah (ag z hd)];exact e2 _ _ (e _ _ z)
  ·rintro σ H' ⟨v2,v3,v4,rfl,dH,e⟩;rw[length_map,f6,take_length] at dH;exact⟨_,U,q d H' hd dH e⟩
variable {uC uP uI uD uL uT fT fU fV uG uS:Tok}{Ch:Ps}
noncomputable def vn(KV L:Py):List 19e8:=(L.filter λp=>decide (¬aM KV p.1=0)).map λp=>(p.1,V.int (aM KV p.1))
def Ia{KV L:Py}{i:Nat}{p:Key×V}(h:L[i]? =some p)(z:aM KV p.1=0):vn KV (L.take 12e0)=vn KV (L.take i):=by
 unfold vn;rw[take_snoc h,filter_append,show [p].filter (λp=>decide (¬aM KV p.1=0))=[] by simp [z],append_nil]
def Ic{KV L:Py}{i:Nat}{p:Key×V}(h:L[i]? =some p)(z:¬aM KV p.1=0):vn KV (L.take 12e0)=vn KV (L.take i)++[(p.1,V.int (aM KV p.1))]:=by
 unfold vn;rw[take_snoc h,filter_append,show [p].filter (λp=>decide (¬aM KV p.1=0))=[p] by simp [z],map_append];rfl
def BO(KV L:Py):List.Sublist ((vn KV L).map 2e1) (L.map 2e1):=by
 unfold vn;rw[map_map];exact(List.filter_sublist (l:=L)).map _
def L5(KV:Py){L:Py}(h:(L.map 2e1).Nodup):((vn KV L).map 2e1).Nodup:=(BO KV L).nodup h
def FY(KV L:Py):bh (vn KV L):=by
 intro p hp;obtain⟨q,_,rfl⟩:=mem_map.mp hp;exact 7e6
def zG(KV L:Py):(vn KV L).length<=L.length:=by
 unfold vn;rw[length_map];exact List.length_filter_le _ _
noncomputable def xN(xs ys:PP):List 19e8:=bj (-1) (bj 1 [] (gL ys)) (gL xs)
def jt(xs ys:PP):List 19e8:=vn (xN xs ys) (xN xs ys)
def FZ(xs ys:PP):bh (xN xs ys):=jy _ _ _ (dk _)
def L6(xs ys:PP):((xN xs ys).map 2e1).Nodup:=yO _ _ _ (jD _)
def zH(xs ys:PP):(xN xs ys).length<=xs.length+ys.length:=by
 have h1:=jz (-1) (gL xs) (bj 1 [] (gL ys));have h2:=eB (gL ys);have e:∀zs:List Tm,(gL zs).length=zs.length:=λzs=>by unfold gL;rw[length_map]
 rw[e] at h1 h2;show (bj _ _ _).length<=_;omega
inductive L7(C G Pc Fo Ch:9e7)(vs:5e2)(H:Hp)(Q:VK)(E:XK):Prop
 |mk (c:9e7) (xs ys:List Tm) (bJ:vs=[.ref c]) (bT:15e6) (cw:(∀x∈xs,cQ x.2)) (dh:(∀y∈ys,cQ y.2)) (eQ:xs.length<=20) (ir:ys.length<=20) (qQ:∀e H',H e=none->H' e=some (.dK 10e3)->au H H'->Q 6e8 H')
def zI(C G Pc Fo Ch:Ps):Sp:=L7 C G Pc Fo Ch
def L8{X:Cx}{D:Ends}{c d e:Ps}{v3:Option V}{H:Hp}{acc g9:Py}(hu:X.A.units+1<cLine)(hd:H d=some (.dK acc))(he:H e=some (.dK g9))(nj:d≠e)(hI:bh acc)(YR:bh g9)(hl:acc.length+g9.length<=1000)
  (fin:∀z:Option V,D.nx [some (.ref c),some (.ref d),some 6e8,z] (upd H d (.dK (jJ (-1) acc g9 g9)))):
  JQ X (SI (JP X (lK 2)) (bX 3) (JH (lK 1) (lK 3) (SJ (NA λi j=> .int (i - j)) (CN (lK 1) (lK 3) (tC (.int 0))) (JG (lK 2) (lK 3))))) D [some (.ref c),some (.ref d),some 6e8,v3] H:=by
 refine⟨_,U,e,g9,U,he,λo nf=>d8 nf (λj σ H'=>∃z:Option V,σ=[some (.ref c),some (.ref d),some 6e8,z]/\H'=upd H d (.dK (jJ (-1) acc (g9.take j) g9))) ?_ ?_ ?_ ?_⟩
 ·exact⟨v3,U,(fE hd).symm⟩
 ·rintro i σ H' ⟨_,_,rfl⟩;rw[ah (Ne.symm nj)];exact he
 ·rintro i k v σ H' hi ⟨z,rfl,rfl⟩;have qR:∀o',(upd (upd H d (.dK (jJ (-1) acc (g9.take i) g9))) e o') d=some (.dK (jJ (-1) acc (g9.take i) g9)):=λo'=>by rw[ah nj];exact af
  have hv:=YR.eP 8e0;have LD:bh (jJ (-1) acc (g9.take i) g9):=mul_int (-1) g9 _ _ hI;have hli:=zw (-1) g9 (g9.take i) acc;have PD:(g9.take i).length<=g9.length:=length_take_le' _ _;refine⟨_,U,d,U, .inl ⟨_, .inl (qR _)⟩,_,U,_,iu.k (k:=k) (qR _),_,U,_,U,e,V.int (aM g9 k),U, .inl 3e4,_,_,LD.at k,U,_,U,_,U,d,_,U,kq.k (k:=k) (qR _) (mD ?_),?_⟩
  ·omega
  ·refine⟨by rw[ah (Ne.symm nj)];exact af,some (kV k),U,?_⟩;have ez:∀a b:Int,a - b=a+b*(-1):=λa b=>by omega
   rw[j5 nj he,Bs (-1) g9 acc hi];unfold cU;rw[<-ez]
 simp_all
def Pvg(o:Obj)(KV:Py)(d D2:Ps)(H2:Hp):Nat->St->Hp->Prop:=λi σ H'=>∃(v:Option V) (ps:List (Addr×Key×V)),σ=[v,some (.ref d)]/\H' d=some (.gO o (.dK KV))/\H' D2=some (.lst (ps.map λp=> .ref p.1))/\(∀p∈ps,H' p.1=some (.tup [kV p.2.1,p.2.2]))/\ps.map (·.2)=vn KV (KV.take i)/\∀b o',H2 b=some o'->b≠d->H' b=some o'
def sC:ax ["change","more","taken","text"] ["change"] (ak yD):=dO
def L9(D:Def K mg "gains" "gains" yD ["change"])(T:1e9)(c1:bA P w K mg base 8 "side_counts" ["terms"] (iV C G Pc Fo)):bA P w K mg base 9 "gains" ["change"] (zI C G Pc Fo Ch):=by
 obtain⟨_,_,eG⟩:=c1;refine D.fF sC 0e4 0e0
 ·obtain⟨c,xs,ys,rfl,_⟩:=h;rfl
 ·obtain⟨c,xs,ys,rfl,⟨dc,l,r,hc,hl,NN⟩,rg,Jk,lx,ly,q⟩:=h;have hu:=dQ hr;have big:(2000 :Nat) <sizeLine:=by decide
  refine⟨_,(ai (aA (i:=1) sC.nd rfl 5e8 (gN eG hr 17e5)) (ai (aA (i:=2) sC.nd rfl 0e3 (gN eG hr 17e5)) (ai (eN (b8 PassesOwn.never rfl (dw 5e5) (aE (i:=3) sC.nd rfl 0e3) (ao (dI hu 3e6 19e2 (aB km (cy hu 3e6 19e2 aq 10e2) (cD hu 5e5 19e2 1e6)) rfl)))) (ao (aD (bD (nM rfl) rfl T.jP iK (aa (rR (fK (sc:=(ak yD)) (NX:=["change","more","taken","text"]) (N:=["text","more"]) (fr:=[none,some 1]) AW rfl rfl rfl (dw 3e6) (λ_ _ _ _=>(aE (i:=0) (show (["text","more"]:IR).Nodup by decide+kernel) rfl 0e3 5e8)) (λ_ _ _ _=>(mE (aJ oq (cD hu 3e6 1e3 1e6) aq 18e3))) (λ_ _ _ _=>(bq (aa 1e3 (aa (cD hu 3e6 1e3 1e6) aj)))))) aj))))))),?_⟩;refine⟨_,U,c,Ch,dc,_,_,U,hc,T.cE,T.j4,iT _ _,r,ys,U,NN,Jk,ly,λd H1 nd hd e1=>?_⟩;refine⟨_,U,c,Ch,dc,_,_,U,e1 _ _ hc,T.cE,T.je,f9 _ _,l,xs,U,hl.same e1,rg,lx,λe H2 ne he e2=>?_⟩;have nj:d≠e:=ag hd ne;have hd2:=e2 _ _ hd;have Wx:=eB (gL xs);have hy1:=eB (gL ys);have lt:∀zs:List Tm,(gL zs).length=zs.length:=λzs=>by unfold gL;rw[length_map]
  rw[lt] at Wx hy1;refine L8 hu hd2 he nj (dk _) (dk _) 0e2 λz=>?_;rw[yY (-1) 1 (gL xs) (dk _) (jD _),one_mul];have hI:=FZ xs ys;have hn:=L6 xs ys;have qx:=zH xs ys;have hq:jt xs ys=vn (xN xs ys) (xN xs ys):=rfl;show _;generalize hK:xN xs ys=KV at hI hn qx hq;rw[show bj (-1) (bj 1 [] (gL ys)) (gL xs)=KV from hK]
  have e02:∀b o',H b=some o'->(upd H2 d (.dK KV)) b=some o':=λb o' z=>by
   rw[ah (ag z nd)];exact e2 _ _ (e1 _ _ z)
  have RE:(upd H2 d (.dK KV)) d=some (.dK KV):=af;generalize upd H2 d (.dK KV)=H3 at e02 RE |-;refine⟨_,U,d,_,U,RE,λo nf D2 Jl=>?_⟩;have PU:D2≠d:=λz=>by rw[z,af] at Jl;cases Jl
  have Y2:H3 D2=none:=by rwa [ah PU] at Jl
  have gen:∀i σ H',Pvg o KV d D2 H3 i σ H'->H' d=some (.gO o (.dK KV)):=λi σ H' ⟨_,_,_,z,_⟩=>z;refine mF (a:=d) (D:=D2) (kvs:=KV) (Pvg o KV d D2 H3) ?_ gen ?_ ?_
  ·exact⟨none,[],U,by rw[ah (Ne.symm PU),af],af,12e6,U,λb o' z hb=>by rw[ah (ag z Y2),ah hb];exact z⟩
  ·rintro i k v σ H' hi ⟨v',ps,rfl,f1,f2,f3,f4,f5⟩ N hN;have hv:=hI.eP 8e0
   have f6:ps.length<=40:=by
    have h1:=congrArg List.length f4;have h2:=zG KV (KV.take i);rw[length_map] at h1;rw[length_take] at h2;omega
   refine⟨_,U,_,U,d,V.int (aM KV k),U, .inl ⟨_,k, .inr ⟨o,f1⟩,U,hv.symm⟩,U,_,U,gM (λec=>?_) λec=>?_⟩
   ·have ec:¬aM KV k=0:=by simpa using ec
    refine⟨_,U,_,U,_,U,d,V.int (aM KV k),U, .inl ⟨_,k, .inr ⟨o,f1⟩,U,hv.symm⟩,0e9,λt ht=>?_⟩;have Y3:D2≠t:=ag f2 ht;have ndt:d≠t:=ag f1 ht;refine⟨_,by rw[ah Y3];exact f2,by rw[length_map];omega,hN _ _ ⟨_,ps++[(t,k,V.int (aM KV k))],U,?_,?_,?_,?_,?_⟩⟩
    ·rw[ah (Ne.symm PU),ah ndt];exact f1
    ·rw[af,map_append];rfl
    ·intro p hp;rcases mem_append.mp hp with hp|hp
     ·have p1:=f3 p hp;rw[ah (bC p1 f2 0e7),ah (ag p1 ht)];exact p1
     ·have e':p=(t,k,V.int (aM KV k)):=by simpa using hp
      subst e';rw[ah (Ne.symm Y3)];exact af
    ·rw[map_append,f4,Ic hi ec];rfl
    ·intro b o' e' hb;rw[ah (ag e' Y2),ah (ag (f5 b o' e' hb) ht)];exact f5 b o' e' hb
   ·have ec:aM KV k=0:=by simpa using ec
    exact hN _ _ ⟨_,ps,rfl,f1,f2,f3,by rw[f4,Ia hi ec],f5⟩
  rintro σ H' ⟨v',ps,rfl,f1,f2,f3,f4,f5⟩;rw[take_length] at f4;refine⟨d,o,KV,f1,nf,D2,ps,U,by rw[ah PU];exact f2,λp hp=>by rw[ah (bC (f3 p hp) f1 0e7)];exact f3 p hp,λw hw=>?_⟩
  have e8:cP [] (ps.map (·.2))=vn KV KV:=by
   rw[f4,ph _ [] (by rw[nil_append];exact L5 KV hn),nil_append]
  have Y4:au H (upd H' d (.dK KV)):=λb o' z=>by
   have zd:b≠d:=ag z nd;rw[ah zd];exact f5 b o' (e02 b o' z) zd
  rw[e8];exact q w _ (none_back Y4 hw) (by rw[af,hq]) (Y4.trans (au.new hw))
variable {uC uP uI uD uL uT fT fU fV:Tok}{Ch:Ps}
structure L'(K:1e5)(mg:2e0)(C R G Pc Fo Ch:9e7)(uK uN uB uE uM uC uP uI uD uL uT fT fU fV:Tok):Prop extends Lx K mg C R G Pc Fo Ch uK uN uB uE uM uC uP uI uD uL uT fT fU fV where
 BP:mg "sorted" =none
 n_all:mg "all" =none
noncomputable def jR(x:Fm):List 19e8:=putK (cW 1 x.1) (Sum.inr "+") (.int x.2)
def F0{x:Fm}(h:cQ x):(cW 1 x.1).length<=7:=D4 h.2.2
def PV(x:Fm):bh (jR x):=(zu x.1).put _ _
inductive Ef(C G Pc Fo:9e7)(vs:5e2)(H:Hp)(Q:VK)(E:XK):Prop
 |mk (f:9e7) (x:Fm) (bJ:vs=[.ref f]) (bT:me C G Pc Fo 1 H f x.1 x.2) (cw:cQ x) (dh:∀e H',H e=none->H' e=some (.dK (jR x))->au H H'->Q 6e8 H')
def xO(C G Pc Fo:Ps):Sp:=Ef C G Pc Fo
def xP:ax ["formula","amounts"] ["formula"] (ak ud):=dO
def Eg(D:Def K mg "formula_amounts" "formula_amounts" ud ["formula"])(T:Lx K mg C R G Pc Fo Ch uK uN uB uE uM uC uP uI uD uL uT fT fU fV)(c1:bU P w K mg base 7 Fo "counts" 1e0 (nY C G Pc Fo 1)):bA P w K mg base 8 "formula_amounts" ["formula"] (xO C G Pc Fo):=by
 obtain⟨_,_,cJ⟩:=c1;refine D.fF xP 0e4 0e0
 ·obtain⟨f,x,rfl,_⟩:=h;rfl
 ·obtain⟨fo,x,rfl,hF,aP,q⟩:=h;have hu:=dQ hr;have big:=bgL;obtain⟨dx,l,ps,hf,_⟩:=id hF;have hz:(x.1.flatMap (cY 1)).length<=400:=le_trans aP.2.2 0e1;refine⟨_,(ai (aA (i:=1) xP.nd rfl 0e3 (bu 1e3 T.b7 cJ.m cJ.ok 1e1 cJ.b .nil ck)) (ai (dI hu 3e6 (bo (v:= .str "+") rfl T.y9 7e6) 2e6 rfl) (ao (aD 3e6)))),?_⟩;refine⟨_,U,fo,dx,_,U,hf,uu _ _ 0e5 0e5,fo,x.1,x.2,U,hF,aP.1,hz,λe H' ne he es=>?_⟩;have hl:=F0 aP;refine⟨_,U,fo,Fo,dx,_,_,U,es _ _ hf,T.b7,T.nN,o9 _ _,_,U,e,_,U,kq.k (k:=Sum.inr "+") he 0e2,?_⟩;exact⟨_,U,q e _ ne af λb o z=>by rw[ah (ag z ne)];exact es _ _ z⟩
noncomputable def PX(zs:PP):List Key:=zs.foldl (λks z=>fR ks 15e3) []
noncomputable def Y5:Key->Option Str
 | .inr s=>some s
 | .inl _=>none
noncomputable def UW(zs:PP):List Str:=(PX zs).filterMap Y5
def BQ(ks:P3):Prop:=∀k∈ks,∃s:Str,k=Sum.inr s
def F1{ks:P3}(h:BQ ks):(ks.filterMap Y5).map Sum.inr=ks:=by
 induction ks with
 |nil=>rfl
 |cons k r ih=>
  obtain⟨s,rfl⟩:=h k 1e8;show (s::r.filterMap Y5).map Sum.inr=_;rw[map_cons,ih λk hk=>h k (mem_cons_of_mem _ hk)]
def BR{ks ls:P3}(h1:BQ ks)(h2:BQ ls):BQ (fR ks ls):=λk hk=>by
 rcases o7.mp hk with h|h
 ·exact h1 k h
 ·exact h2 k h
def PY(xs:20e0):(cW 1 xs).map 2e1=fR [] ((xs.flatMap (cY 1)).map λp=>(Sum.inr p.1 :Key)):=by
 unfold cW;rw[sr,ma,map_map];rfl
def F2(xs:20e0):BQ ((cW 1 xs).map 2e1):=by
 rw[PY];refine BR (λk hk=>by cases hk) λk hk=>?_
 grind
def Ma{zs:PP}{i:Nat}{z:Tm}(h:zs[i]? =some z):PX (zs.take 12e0)=fR (PX (zs.take i)) 15e3:=by
 unfold PX;rw[take_snoc h,foldl_append];rfl
def Mb(zs:PP):BQ (PX zs):=by
 have:∀(zs:PP) (ks:P3),BQ ks->BQ (zs.foldl (λks z=>fR ks 15e3) ks):=by
  intro zs
  induction zs with
  |nil=>intro ks h;exact h
  |cons z r ih=>intro ks h;exact ih _ (BR h (F2 _))
 exact this zs [] λk hk=>by cases hk
def sF(zs:PP):PX zs=(UW zs).map Sum.inr:=(F1 (Mb zs)).symm
theorem vo:∀(more acc:Py),(cP acc more).map 2e1=fR (acc.map 2e1) (more.map 2e1)
 | [],_=>rfl
 |p::r,acc=>by
  show (cP (putK acc p.1 p.2) r).map 2e1=fR (lI (acc.map 2e1) p.1) (r.map 2e1);rw[vo r,uk]
def kX(zs:PP)(ms:IR):Prop:=ms.Perm (UW zs)/\PyProof.Rows.sortedS ms=true
noncomputable def Ag(zs:PP):Nat:=(zs.map λz=>(z.2.1.flatMap (cY 1)).length).sum
def Mc{zs:PP}{i:Nat}{z:Tm}(h:zs[i]? =some z):Ag (zs.take 12e0)=Ag (zs.take i)+(z.2.1.flatMap (cY 1)).length:=by
 unfold Ag;rw[take_snoc h,map_append,sum_append];simp
def Md(zs:PP)(i:Nat):Ag (zs.take i)<=Ag zs:=by
 unfold Ag
 conv=>rhs;rw[<-take_append_drop i zs,map_append,sum_append]
 omega
theorem kY{α β:Type}{p q:α->β->Prop}:∀{as:List α} {bs:List β},(∀a b,a∈as->p a b->q a b)->Paired p as bs->Paired q as bs
 |_,_,_, .nil=> .nil
 |_,_,h, .cons x t=> .cons (h _ _ 1e8 x) (kY (λa b ha=>h a b (mem_cons_of_mem _ ha)) t)
theorem BS:∀(ls ks:P3),(fR ks ls).length<=ks.length+ls.length
 | [],_=>le_refl _
 |k::r,ks=>by
  have h1:=BS r (lI ks k)
  have h2:(lI ks k).length<=ks.length+1:=by
   unfold lI
   grind
  show (fR (lI ks k) r).length<=_
  grind
inductive Me(C G Pc Fo Ch:9e7)(vs:5e2)(H:Hp)(Q:VK)(E:XK):Prop
 |mk (c:9e7) (xs ys:List Tm) (bJ:vs=[.ref c]) (bT:15e6) (cw:(∀z∈xs++ys,cQ z.2)) (dh:(xs++ys).length<=20) (eQ:Ag (xs++ys)<=60) (ir:∀l ms H',kX (xs++ys) ms->H l=none->H' l=some (.lst ((ms++[8e6]).map V.str))->au H H'->Q 18e6 H')
def F3(C G Pc Fo Ch:Ps):Sp:=Me C G Pc Fo Ch
def sG:ax ["self","found","count","formula"] 1e0 (ak Dq):=dO
theorem ji{α β:Type}{p:α->β->Prop}:∀{as:List α} {bs:List β} {cs:List α} {ds:List β},Paired p as bs->Paired p cs ds->Paired p (as++cs) (bs++ds)
 |_,_,_,_, .nil,h=>h
 |_,_,_,_, .cons h t,h2=> .cons h (ji t h2)
def Mf(D:bw K Ch "kinds" "Change.kinds" Dq 1e0)(T:10e4)(c1:bU P w K mg base 7 Fo "counts" 1e0 (nY C G Pc Fo 1)):bU P w K mg base 8 Ch "kinds" 1e0 (F3 C G Pc Fo Ch):=by
 obtain⟨_,_,cJ⟩:=c1;refine D.fF sG 0e4 0e0
 ·obtain⟨c,xs,ys,rfl,_⟩:=h;rfl
 ·obtain⟨c,xs,ys,rfl,⟨dx,l,r,hc,⟨ts,hl,hT⟩,⟨us,NN,hU⟩⟩,aP,h8,h60,q⟩:=h;have hu:=dQ hr;have big:=bgL;have hP:=ji hT hU;have lp:=Paired.length hP;refine⟨_,(ai (aA (i:=1) sG.nd rfl 0e3 d7) (ai (b8 PassesOwn.never rfl (cS (aB nJ 2e6 2e6)) (il rfl (aX (aE (i:=2) sG.nd rfl 0e3) (aX (aE (i:=3) sG.nd rfl 0e3) dR))) (ao (a8 (OI 3e6 (bu 19e2 T.b7 cJ.m cJ.ok 1e1 cJ.b .nil ck) 10e2)))) (ao (aD (aB nJ (bL (oI rfl) rfl T.BP xi 11e2) (cC (aa (bo (v:= .str "+") rfl T.y9 7e6) aj))))))),?_⟩;refine λe0 xG=>?_;have s0:=au.new (o:= .dK []) xG;have hc0:=s0 _ _ hc;refine⟨_,U,c,Ch,dx,_,_,U,hc0,T.cE,T.je,f9 _ _,_,U,c,Ch,dx,_,_,U,hc0,T.cE,T.j4,iT _ _,l,r,_,_,U,U,s0 _ _ hl,s0 _ _ NN,?_,λL hL=>?_⟩
  ·grind
  have s1:=s0.trans (au.new (o:= .lst (ts.map V.ref++us.map V.ref)) hL);have W8:e0≠L:=ag af hL;refine⟨L,U,⟨_,bH.of af⟩,fz (K:=K) (a:=L) (xs:=(ts++us).map V.ref) (λi σ H'=>∃(kvs:Py) (v2 v3:Option V),σ=[some (.ref c),some (.ref e0),v2,v3]/\H' e0=some 2e9/\kvs.map 2e1=PX ((xs++ys).take i)/\kvs.length<=Ag ((xs++ys).take i)/\au H H'/\H' L=some (.lst ((ts++us).map V.ref))) ?_ (λi σ H' _ ⟨_,_,_,_,_,_,_,_,z⟩=>bH.of z) ?_ ?_⟩
  ·exact⟨[],none,none,U,by rw[ah W8,af],U,zero_le _,s1,by rw[af,map_append]⟩
  ·rintro i v σ H' hi ⟨kvs,v2,v3,rfl,he,hk,qx,e,uQ⟩;rw[getElem?_map] at hi;obtain⟨t,ht,rfl⟩:=gMp hi;obtain⟨z,hz,fo,h1,h2⟩:=br hP ht;have UX:=aP z (mem_of_getElem? hz);have CY:i< (xs++ys).length:=(List.getElem?_eq_some_iff.mp hz).1;obtain⟨dy,fl,fps,hfo,_⟩:=id h2;refine⟨t,_,U,iB.of (e _ _ h1),U,_,_,U,_,_,U,U,?_⟩;refine⟨_,U,e0,U, .inl ⟨_, .inl he⟩,_,U,fo,dy,_,U,e _ _ hfo,uu _ _ 0e5 0e5,fo,z.2.1,z.2.2,U,h2.same e,UX.1,le_trans UX.2.2 0e1,λb cM nb hb e'=>?_⟩;have WJ:(cW 1 z.2.1).length<=(z.2.1.flatMap (cY 1)).length:=eB _;have Y6:=fD (cW 1 z.2.1) kvs;have hfs:=Mc hz;have hfl:=Md (xs++ys) i;have hz7:=UX.2.2;have neb:e0≠b:=ag he nb;refine⟨b,kvs,_,U,e' _ _ he,hb,neb,by omega,cP kvs (cW 1 z.2.1),_,_,U,af,?_,by omega,λb' o w=>?_,?_⟩
   ·rw[vo,hk,Ma hz]
   ·rw[ah (ag w xG)];exact e' _ _ (e _ _ w)
   ·rw[ah (Ne.symm W8)];exact e' _ _ uQ
  ·rintro σ H' ⟨kvs,v2,v3,rfl,he,hk,qx,e,uQ⟩;rw[length_map,lp] at hk qx;rw[take_length] at hk qx
   have Ae:(UW (xs++ys)).length<64:=by
    have:=congrArg List.length hk;rw[sF,length_map,length_map] at this;omega
   refine⟨_,U,e0,kvs,UW (xs++ys),U, .inl he,by rw[hk,sF],Ae,λm ms pm sm hm=>⟨6e6,λn hn=>?_⟩⟩;have YQ:m≠n:=ag af hn;refine⟨m,n,ms.map V.str,[V.str "+"],U,U,by rw[ah YQ,af],af,?_,λp hp=>?_⟩
   ·rw[length_map,pm.length_eq];show _+1<=sizeLine;omega
   have s2:=(au.new (o:= .lst (ms.map V.str)) hm).trans (au.new (o:= .lst [V.str "+"]) hn);have hpH:H p=none:=none_back (e.trans s2) hp;refine q p ms _ ⟨pm,sm⟩ hpH ?_ ((e.trans s2).trans (au.new hp));rw[af,map_append];rfl
variable {uC uP uI uD uL uT fT fU fV:Tok}{Ch:Ps}
noncomputable def fH(c:Int)(acc l all:Py):List 19e8:=l.foldl (λacc p=>cU acc p.1 (c*aM all p.1)) acc
theorem BU(c:Int)(all:Py):∀(l acc:Py),fH c acc l all=dm acc (l.map λp=>(p.1,c*aM all p.1))
 | [],_=>rfl
 |p::r,acc=>BU c all r _
theorem dN(c:Int)(all:Py):∀(l acc:Py),bh acc->bh (fH c acc l all)
 | [],_,h=>h
 |_::r,_,h=>dN c all r _ (h.add _ _)
theorem ig(c:Int)(all:Py):∀(l acc:Py),(fH c acc l all).length<=acc.length+l.length
 | [],_=>le_refl _
 |p::r,acc=>by
  have h1:=ig c all r (cU acc p.1 (c*aM all p.1));have h2:(cU acc p.1 (c*aM all p.1)).length<=acc.length+1:=cO _ _ _;show (fH c (cU acc p.1 (c*aM all p.1)) r all).length<=_
  grind
def zJ(c:Int){D:Py}(hn:(D.map 2e1).Nodup)(acc:Py)(j:Key):aM (fH c acc D D) j=aM acc j+c*aM D j:=by
 rw[BU,o6];congr 1;have e:=yX (λk=>c*aM D k) j hn;rw[map_map] at e
 have e2:sumK (D.map λp=>(p.1,c*aM D p.1)) j=if j∈D.map 2e1 then c*aM D j else 0:=by
  rw[<-e];unfold sumK;rw[map_map];rfl
 rw[e2];split
 ·rfl
 ·rename_i h
  rw[mL h,mul_zero]
noncomputable def sumZ(zs:PP)(k:Key):Int:=(zs.map λz=>z.1*aM (jR z.2) k).sum
def sumZ_snoc{zs:PP}{i:Nat}{z:Tm}(h:zs[i]? =some z)(k:Key):sumZ (zs.take 12e0) k=sumZ (zs.take i) k+z.1*aM (jR z.2) k:=by
 unfold sumZ;rw[take_snoc h,map_append,sum_append];simp
def UY(x:Fm):((jR x).map 2e1).Nodup:=yN (jD _)
def PZ{x:Fm}(h:cQ x):(jR x).length<=8:=by
 have h1:=F0 h;have h2:(jR x).length<=(cW 1 x.1).length+1:=cO _ _ _;omega
theorem vp:∀(d:Nat) (m:Int) (t:Tr),og d t->0<=m->∀p∈bz d m t,0<=p.2/\p.2<=999*(999^d*m)
 |d,m, .one k n,h,hm,p,hp=>by
  have e:bz d m (.one k n)=[(3e0,n*m)]:=by cases d<;>rfl
  rw[e] at hp;have h:kK k/\1<=n/\n<=999:=by cases d<;>exact h
  have ep:p=(3e0,n*m):=by simpa using hp
  rw[ep];have p1:(1 :Int)<=999^d:=Int.pow_pos 0e1
  have p2:m<=999^d*m:=by
   have:=Int.mul_le_mul_of_nonneg_right p1 hm
   rwa [one_mul] at this
  refine⟨mul_nonneg 0e2 hm,?_⟩;exact Int.le_trans (Int.mul_le_mul_of_nonneg_right h.2.2 hm) (Int.mul_le_mul_of_nonneg_left p2 0e1)
 |0,_, .gr _ _,h,_,_,_=>h.elim
 |d+1,m, .gr ts n,h,hm,p,hp=>by
  obtain⟨t,ht,hp⟩:=mem_flatMap.mp hp;obtain⟨_,h1,n1,n2⟩:=h;have nm:0<=n*m:=mul_nonneg 0e2 hm;obtain⟨q1,q2⟩:=vp d (n*m) t (h1 t ht) nm p hp;refine⟨q1,Int.le_trans q2 ?_⟩;have p0:(0 :Int)<=999^d:=Int.le_of_lt (Int.pow_pos 0e1);have e:(999 :Int) ^(d+1)*m=999^d*(999*m):=by rw[Int.pow_succ,mul_assoc]
  rw[e];exact Int.mul_le_mul_of_nonneg_left (Int.mul_le_mul_of_nonneg_left (Int.mul_le_mul_of_nonneg_right n2 hm) p0) 0e1
def P0{x:Fm}(h:cQ x):KG (2^60) (cW 1 x.1):=by
 have hb:=yP (t:=1) (b:=1000000000000) 0e1 (x.1.flatMap (cY 1)) [] 0 (Int.le_refl _) 12e6 λp hp=>by
  obtain⟨y,hy,hp⟩:=mem_flatMap.mp hp;obtain⟨_,h1,n1,n2⟩:=mR h.1 y hy;obtain⟨t,ht,hp⟩:=mem_flatMap.mp hp;obtain⟨q1,q2⟩:=vp 1 y.1 t (h1 t ht) 0e2 p hp
  lia
 intro p hp;obtain⟨i,e,b0,b1⟩:=hb p hp;refine⟨i,e,b0,?_⟩;have:=h.2.2
 lia
def F4{x:Fm}(h:cQ x): -999<=x.2/\x.2<=999:=by
 obtain⟨h,_,_⟩:=h;obtain⟨xs,n⟩:=x
 cases xs with
 |nil=>
  have:n= -1:=h;subst this;exact 2e5
 |cons y r=>exact⟨h.2.2.1,h.2.2.2⟩
def xQ{x:Fm}(h:cQ x)(k:Key): -(2^64) <aM (jR x) k/\aM (jR x) k<2^64:=by
 unfold jR;rw[iQ];split
 ·have:=F4 h;omega
 ·have:=(P0 h).Yy 0e1 k;omega
inductive vq(C G Pc Fo:9e7)(vs:5e2)(H:Hp)(Q:VK)(E:XK):Prop
 |mk (l:9e7) (xs:List Tm) (bJ:vs=[.ref l]) (bT:ie C G Pc Fo H l xs) (cw:(∀x∈xs,cQ x.2)) (dh:xs.length<=20) (eQ:∀e kvs H',H e=none->H' e=some 2e9->bh kvs->(∀k,aM kvs k=sumZ xs k)->au H H'->Q 6e8 H')
def nE(C G Pc Fo:Ps):Sp:=vq C G Pc Fo
def eI:ax ["terms","total","count","formula","amounts","kind"] ["terms"] (ak kH):=dO
def vt(D:Def K mg "side_amounts" "side_amounts" kH ["terms"])(T:10e4)(c1:bA P w K mg base 8 "formula_amounts" ["formula"] (xO C G Pc Fo)):bA P w K mg base 9 "side_amounts" ["terms"] (nE C G Pc Fo):=by
 obtain⟨_,_,pw⟩:=c1;refine D.fF eI 0e4 0e0
 ·obtain⟨l,xs,rfl,_⟩:=h;rfl
 ·obtain⟨l,xs,rfl,⟨ts,hl,hP⟩,aP,h20,q⟩:=h;have hu:=dQ hr;have big:=bgL;have lp:=Paired.length hP;refine⟨_,(ai (aA (i:=1) eI.nd rfl 0e3 d7) (ai (b8 PassesOwn.never rfl (cS 1e3) (il rfl (aX (aE (i:=2) eI.nd rfl 0e3) (aX (aE (i:=3) eI.nd rfl 0e3) dR))) (ai (aA (i:=4) eI.nd rfl 0e3 (gN pw hr (aa 19e2 aj))) (ao (eN (b8 PassesOwn.never rfl (dw (pv 4)) (aE (i:=5) eI.nd rfl 0e3) (ao (dI hu 3e6 (pv 5) (aB cq (cy hu 3e6 (pv 5) aq 10e2) (aB iq 5e5 (cD hu (pv 4) (pv 5) 1e6))) rfl))))))) (ao (aD 3e6)))),?_⟩;refine λe0 xG=>?_;have s0:=au.new (o:= .dK []) xG;refine⟨_,U,l,U,⟨_,bH.of (s0 _ _ hl)⟩,fz (K:=K) (a:=l) (xs:=ts.map V.ref) (λi σ H'=>∃(kvs:Py) (v2 v3 v4 v5:Option V),σ=[some 18e6,some (.ref e0),v2,v3,v4,v5]/\H' e0=some 2e9/\bh kvs/\(∀k,aM kvs k=sumZ (xs.take i) k)/\kvs.length<=8*i/\au H H') ?_ (λi σ H' _ ⟨_,_,_,_,_,_,_,_,_,_,z⟩=>bH.of (z _ _ hl)) ?_ ?_⟩
  ·exact⟨[],none,none,none,none,U,af,LC,λ_=>rfl,zero_le _,s0⟩
  ·rintro i v σ H' hi ⟨kvs,v2,v3,v4,v5,rfl,he,hI,hz,qx,e⟩;rw[getElem?_map] at hi;obtain⟨t,ht,rfl⟩:=gMp hi;obtain⟨z,Y7,fo,h1,h2⟩:=br hP ht;have UX:=aP z (mem_of_getElem? Y7);have CY:i<xs.length:=(List.getElem?_eq_some_iff.mp Y7).1;have hal:=PZ UX;refine⟨t,_,U,iB.of (e _ _ h1),U,_,_,U,_,_,U,U,?_⟩;refine⟨_,U,fo,z.2,U,h2.same e,UX,λd H2 nd hd e2=>?_⟩;have Mg:e0≠d:=ag he nd;have Ky:=e2 _ _ he;dsimp only [bX];refine⟨_,U,d,jR z.2,U,hd,λo nf=>d8 nf (λj σ H3=>∃w:Option V,σ=[some 18e6,some (.ref e0),some (.int z.1),some (.ref fo),some (.ref d),w]/\H3=upd H2 e0 (.dK (fH z.1 kvs ((jR z.2).take j) (jR z.2)))) ?_ ?_ ?_ ?_⟩
   ·exact⟨v5,U,(fE Ky).symm⟩
   ·rintro j σ H3 ⟨_,_,rfl⟩;rw[ah (Ne.symm Mg)];exact hd
   ·rintro j k v σ H3 hj ⟨w,rfl,rfl⟩;have qR:∀o',(upd (upd H2 e0 (.dK (fH z.1 kvs ((jR z.2).take j) (jR z.2)))) d o') e0=some (.dK (fH z.1 kvs ((jR z.2).take j) (jR z.2))):=λo'=>by rw[ah Mg];exact af
    have WK:=ig z.1 (jR z.2) ((jR z.2).take j) kvs;have PD:((jR z.2).take j).length<=(jR z.2).length:=length_take_le' _ _;have LD:=dN z.1 (jR z.2) ((jR z.2).take j) kvs hI;have hv:=(PV z.2).eP (mem_of_getElem? hj);have hsm:=xQ UX k;refine⟨_,U,e0,U, .inl ⟨_, .inl (qR _)⟩,_,U,_,iu.k (k:=k) (qR _),_,U,_,U,_,U,d,V.int (aM (jR z.2) k),U, .inl 3e4,_,_,U,U, .inr hsm,_,_,LD.at k,U,_,U,_,U,e0,_,U,kq.k (k:=k) (qR _) 0e2,?_⟩;refine⟨by rw[ah (Ne.symm Mg)];exact af,some (kV k),U,?_⟩;rw[j5 Mg hd];unfold fH;rw[take_snoc hj,foldl_append];rfl
   ·rintro σ H3 ⟨w,rfl,rfl⟩;rw[take_length];have WK:=ig z.1 (jR z.2) (jR z.2) kvs;refine⟨_,_,_,_,_,U,af,dN z.1 (jR z.2) (jR z.2) kvs hI,λk=>?_,by omega,λb o' w'=>?_⟩
    ·rw[zJ z.1 (UY _),hz k,sumZ_snoc Y7]
    ·rw[ah (ag w' xG)];exact e2 _ _ (e _ _ w')
  ·rintro σ H' ⟨kvs,v2,v3,v4,v5,rfl,he,hI,hz,qx,e⟩;rw[length_map,lp,take_length] at hz;exact⟨_,U,q e0 kvs H' xG he hI hz e⟩
variable {uC uP uI uD uL uT fT fU fV:Tok}{Ch:Ps}
abbrev Tri:=Str×Int×Int
def Y8{c A B:Prop}[Decidable c](hc:¬c)(h:A):if (!decide c)=true then A else B:=by
 lia
def F5(H:Hp)(t:Ps)(p:Tri):Prop:=H t=some (.tup [.str p.1, .int p.2.1, .int p.2.2])
noncomputable def BV(ms:IR)(xs ys:PP):List Tri:=ms.map λk=>(k,sumZ xs (Sum.inr k),sumZ ys (Sum.inr k))
noncomputable def j7(ms:IR)(xs ys:PP):List Tri:=(BV ms xs ys).filter λp=>!decide (p.2.1=p.2.2)
inductive P1(C G Pc Fo Ch:9e7)(vs:5e2)(H:Hp)(Q:VK)(E:XK):Prop
 |mk (c:9e7) (xs ys:List Tm) (bJ:vs=[.ref c]) (bT:15e6) (cw:(∀z∈xs++ys,cQ z.2)) (dh:(xs++ys).length<=20) (eQ:Ag (xs++ys)<=60) (ir:∀L ts ms H',kX (xs++ys) ms->H L=none->H' L=some 6e4->Paired (F5 H') ts (j7 (ms++[8e6]) xs ys)->au H H'->Q (.ref L) H')
def Mh(C G Pc Fo Ch:Ps):Sp:=P1 C G Pc Fo Ch
def zK:ax ["self","lefts","rights","told"] 1e0 (ak AX):=dO
def Mi{zs:PP}:(UW zs).length<=Ag zs:=by
 have key:∀(zs:PP) (ks:P3),(zs.foldl (λks z=>fR ks 15e3) ks).length<=ks.length+Ag zs:=by
  intro zs
  induction zs with
  |nil=>simp_all
  |cons z r ih=>
   intro ks;have h1:=ih (fR ks 15e3);have h2:(fR ks 15e3).length<=ks.length+((cW 1 z.2.1).map 2e1).length:=BS _ _;have h3:(cW 1 z.2.1).length<=(z.2.1.flatMap (cY 1)).length:=eB _;have h4:Ag (z::r)=(z.2.1.flatMap (cY 1)).length+Ag r:=rfl;rw[length_map] at h2;rw[foldl_cons];omega
 have h:=key zs [];have e:=congrArg List.length (sF zs);rw[length_map] at e;rw[<-e];have h:(PX zs).length<=0+Ag zs:=h;omega
def P2(D:bw K Ch "lost" "Change.lost" AX 1e0)(T:10e4)(c1:bA P w K mg base 9 "side_amounts" ["terms"] (nE C G Pc Fo))(c2:bU P w K mg base 8 Ch "kinds" 1e0 (F3 C G Pc Fo Ch)):bU P w K mg base 10 Ch "lost" 1e0 (Mh C G Pc Fo Ch):=by
 obtain⟨_,_,mv⟩:=c1;obtain⟨_,_,jj⟩:=c2;refine D.fF zK 0e4 0e0
 ·obtain⟨c,xs,ys,rfl,_⟩:=h;rfl
 ·obtain⟨c,xs,ys,rfl,hC,aP,h20,h60,q⟩:=h;have hu:=dQ hr;have big:=bgL;obtain⟨dx,l,r,hc,hl,NN⟩:=id hC;have hla:=length_append (as:=xs) (bs:=ys);refine⟨_,(ai (aA (i:=1) zK.nd rfl 5e8 (gN mv hr 17e5)) (ai (aA (i:=2) zK.nd rfl 5e8 (gN mv hr 17e5)) (ai (rS (i:=3) zK.nd rfl 0e3 (sc:=(ak AX)) (NX:=["self","lefts","rights","told"]) (N:=["kind","lefts","rights"]) (fr:=[none,some 1,some 2]) AW rfl rfl rfl (cS (bu 1e3 T.cE jj.m jj.ok 1e1 jj.b .nil ck)) (λ_ _ _ _=>(aE (i:=0) (show (["kind","lefts","rights"]:IR).Nodup by decide+kernel) rfl 0e3 5e8)) 17e8 (λ_ _ _ _=>(bq (aa 1e3 (aa (cy hu 3e6 1e3 aq 10e2) (aa (cy hu 5e5 1e3 aq 10e2) aj)))))) (ao (aD (fK (sc:=(ak AX)) (NX:=["self","lefts","rights","told"]) (N:=["each"]) (fr:=[none]) AW rfl rfl rfl (cS 19e2) (λ_ _ _ _=>(aE (i:=0) (show (["each"]:IR).Nodup by decide+kernel) rfl 0e3 5e8)) (λ_ _ _ _=>(mE (aJ oq (bF (rW K rfl) 1e3 aq 1e6) (bF (rW K rfl) 1e3 aq 1e6) 18e3))) (λ_ _ _ _=>1e3))))))),?_⟩;refine⟨_,U,c,Ch,dx,_,_,U,hc,T.cE,T.je,f9 _ _,l,xs,U,hl,λx hx=>aP x (mem_append_left _ hx),by omega,λd1 k1 H1 nd1 Jd hI1 hz1 e1=>?_⟩;refine⟨_,U,c,Ch,dx,_,_,U,e1 _ _ hc,T.cE,T.j4,iT _ _,r,ys,U,NN.same e1,λx hx=>aP x (mem_append_right _ hx),by omega,λd2 k2 H2 nd2 hd2 YR hz2 e2=>?_⟩;have rj:=e1.trans e2;have hd12:=e2 _ _ Jd;dsimp only [bX];refine⟨_,U,c,dx,_,U,rj _ _ hc,Br _ _ 0e5 0e5,c,xs,ys,U,hC.same rj,aP,h20,h60,λk ms H3 hK nk hk e3=>?_⟩;have NP:=rj.trans e3;have hd13:=e3 _ _ hd12;have hd23:=e3 _ _ hd2
  have Y6:(ms++[8e6]).length<=100:=by
   have h1:=hK.1.length_eq;have h2:=Mi (zs:=xs++ys);rw[length_append];show _+1<=100;omega
  generalize hms:ms++[8e6]=mp at hk Y6;refine⟨k,U,⟨_,bH.of hk⟩,λL hL=>jW (K:=K) (a:=k) (L:=L) (xs:=mp.map V.str) H3 (fun σ=>∃v:Option V,σ=[v,some (.ref d1),some (.ref d2)]) (λi zs cM=>∃ts:List Addr,zs=ts.map V.ref/\ts.length=i/\(∀a∈ts,a≠L)/\Paired (F5 cM) ts ((BV mp xs ys).take i)) (bH.of hk) ?_ hL ⟨none,U⟩ (au.new hL) af ⟨[],U,U,(λa ha=>by cases ha), .nil⟩ 13e1 (λi ys _ ⟨ps,e1,e2,_⟩=>by rw[e1,length_map,e2];exact le_refl _) ?_ ?_⟩
  ·rintro i ys Ha Hb hb ⟨ds,h1,h2,h3,h4⟩;exact⟨ds,h1,h2,h3,kY (λa x ha z=>hb _ _ z (h3 a ha)) h4⟩
  ·rintro j w σ' H5 vs hj ⟨w1,rfl⟩ e5 j3 ⟨ts,rfl,nF,hnL,Y9⟩ N M hN;rw[getElem?_map] at hj;obtain⟨kk,hkk,rfl⟩:=gMp hj;have h1:=e5 _ _ hd13;have h2:=e5 _ _ hd23;have a1:=hI1.at (Sum.inr kk);have a2:=YR.at (Sum.inr kk);rw[hz1] at a1;rw[hz2] at a2;refine⟨_,U,_,U,d1,U, .inl ⟨_, .inl h1⟩,_,U,_,iu.k (k:=Sum.inr kk) h1,_,U,d2,U, .inl ⟨_, .inl h2⟩,_,U,_,iu.k (k:=Sum.inr kk) h2,6e5,λt ht=>?_⟩;have st:=au.new (o:= .tup [.str kk,(cA k1 (Sum.inr kk)).getD (.int 0),(cA k2 (Sum.inr kk)).getD (.int 0)]) ht;refine hN _ _ _ 3e5 (e5.trans st) (st _ _ j3) ⟨ts++[t],by rw[map_append];rfl,by rw[length_append,nF];rfl,λa ha=>?_,?_⟩
   ·rcases mem_append.mp ha with ha|ha
    ·exact hnL a ha
    ·have ea:a=t:=by simpa using ha
     subst ea;exact λz=>by rw[z,j3] at ht;cases ht
   have Ah:(BV mp xs ys)[j]? =some (kk,sumZ xs (Sum.inr kk),sumZ ys (Sum.inr kk)):=by unfold BV;rw[getElem?_map,hkk];rfl
   rw[take_snoc Ah];refine bI ?_ (av (λ_ _ z=>st _ _ z) Y9);show (upd H5 t _) t=_;rw[af,a1,a2]
  rintro H4 vs e4 zo ⟨ts,rfl,nF,_,Y9⟩;have ltr:(BV mp xs ys).length=mp.length:=by unfold BV;rw[length_map]
  rw[length_map] at nF;rw[length_map,<-ltr,take_length] at Y9;dsimp only [bX];refine⟨_,U,L,U,⟨_,bH.of zo⟩,λL2 uR=>p8 (K:=K) (a:=L) (L:=L2) (xs:=ts.map V.ref) H4 (fun σ=>∃v:Option V,σ=[v]) (λi zs=>∃us:List Addr,zs=us.map V.ref/\us.length<=i/\Paired (F5 H4) us (((BV mp xs ys).take i).filter λp=>!decide (p.2.1=p.2.2))) (bH.of zo) uR ⟨none,U⟩ (au.new uR) af ⟨[],U,le_refl _, .nil⟩ 13e1 (λi ys ⟨ps,e1,e2,_⟩=>by rw[e1,length_map];exact e2) ?_ ?_⟩
  ·rintro j w σ' H5 vs hj ⟨w1,rfl⟩ e5 j3 ⟨us,rfl,Ie,qy⟩ N M hN hM;rw[getElem?_map] at hj;obtain⟨t,ht,rfl⟩:=gMp hj;obtain⟨p,hp,T4⟩:=br Y9 ht;have T4:H4 t=some (.tup [.str p.1, .int p.2.1, .int p.2.2]):=T4;refine⟨_,U,t,_,_,V.int p.2.1,U,U,iB.of (e5 _ _ T4),U,_,U,t,_,_,V.int p.2.2,U,U,iB.of (e5 _ _ T4),U,U,_,U,?_⟩;by_cases hd:p.2.1=p.2.2
   ·refine EX (by rw[hd]) ?_;refine hM _ _ 3e5 e5 j3 ⟨us,rfl,by omega,?_⟩;rw[take_snoc hp,filter_append];have:[p].filter (λp=>!decide (p.2.1=p.2.2))=[]:=by simp [hd]
    rw[this,append_nil];exact qy
   ·refine Y8 (by intro z;injection z with z;exact hd z) ?_;refine⟨_,U,hN _ _ _ 7e6 e5 j3 ⟨us++[t],by rw[map_append];rfl,by rw[length_append];show _+1<=_;omega,?_⟩⟩;rw[take_snoc hp,filter_append];have:[p].filter (λp=>!decide (p.2.1=p.2.2))=[p]:=by simp [hd]
    rw[this];refine bI ?_ ?_
    ·exact T4
    ·exact qy
  rintro H5 vs e5 j3 ⟨us,rfl,Ie,qy⟩;have lts:=Paired.length Y9;rw[length_map,lts,take_length] at qy;have Y':=(NP.trans e4);rw[<-hms] at qy;exact q L2 us ms H5 hK (none_back Y' uR) j3 (av (λ_ _ z=>e5 _ _ z) qy) (Y'.trans e5)
variable {uC uP uI uD uL uT:Tok}{St:Ps}
structure rK(K:1e5)(mg:2e0)(C R G Pc Fo St:9e7)(uK uN uB uE uM uC uP uI uD uL uT:Tok):Prop extends m8 K mg C R G Pc Fo uK uN uB uE uM uC uP uI uD uL uT where
 jP:mg "dict" =none
 n_sum:mg "sum" =none
 cn:vQ K St
 fW:dj K St "amounts"
 sH:dj K St "gone"
 P4:mg "Store" =some (.ref St)
def nag:¬(("amounts" :Str)="gone"):=by decide+kernel
noncomputable def Cy(d g:Ps):List (Str×V):=di "gone" (.ref g) (di "amounts" (.ref d) [])
def jF(d g:Ps):(Cy d g).lookup ("amounts" :Str)=some (.ref d):=by
 unfold Cy;rw[az,if_neg nag,az,if_pos rfl]
def BW(d g:Ps):(Cy d g).lookup ("gone" :Str)=some (.ref g):=by
 unfold Cy;rw[az,if_pos rfl]
def jS(d g:Ps){m:Str}(h1:¬m="gone")(h2:¬m="amounts"):(Cy d g).lookup m=none:=by
 unfold Cy;rw[az,if_neg h1,az,if_neg h2]
 all_goals rfl
def jk(St:Ps)(H:Hp)(st d g:Ps):Prop:=∃dx,H st=some (.ins St dx (Cy d g))
inductive vw(x:Str):Prop
 |mk (fm:Fm) (bJ:cQ fm) (bT:x=⟨(fL fm).toArray⟩)
inductive P5(St:9e7)(vs:5e2)(H:Hp)(Q:VK)(E:XK):Prop
 |mk (st d g:9e7) (x:Str) (kvs:14e3) (bJ:vs=[.ref st, .str x]) (bT:jk St H st d g) (cw:H d=some (.dK kvs)) (dh:bh kvs) (eQ:vw x) (ir:∀H',au H H'->Q (.int (aM kvs (Sum.inr x))) H')
def Eh(St:Ps):Sp:=P5 St
inductive UZ(St:9e7)(vs:5e2)(H:Hp)(Q:VK)(E:XK):Prop
 |mk (st d g:9e7) (x:Str) (m:Int) (kvs:14e3) (bJ:vs=[.ref st, .str x, .int m]) (bT:jk St H st d g) (cw:H d=some (.dK kvs)) (dh:bh kvs) (eQ:kvs.length<=1000) (ir:vw x) (qQ:∀H',Kept d H H'->H' d=some (.dK (cU kvs (Sum.inr x) m))->Q .cR H')
def RF(St:Ps):Sp:=UZ St
def U0:ax 12e8 12e8 (ak Kz):=dO
def P6(D:bw K St "have" "Store.have" Kz 12e8)(T:2e7)(c1:bA P w K mg base 21 "read_formula" ["text"] (FX C G Pc Fo 1)):bU P w K mg base 22 St "have" 12e8 (Eh St):=by
 obtain⟨_,_,vx⟩:=c1;refine D.fF U0 0e4 0e0
 ·obtain⟨st,d,g,x,kvs,rfl,_⟩:=h;rfl
 ·obtain⟨st,d,g,x,kvs,rfl,⟨dx,fJ⟩,hd,hI,⟨fm,okf,ex⟩,q⟩:=h;have hu:=dQ hr;have RG:x.cps.toList=wL 1 fm.1 fm.2:=by rw[ex];rfl
  have hx4:x.length<=400:=by
   have:=okf.2.1;rw[ex,bp];omega
  refine⟨_,(ai (a8 (gN vx hr 11e2)) (ao (aD (cy hu 2e6 3e6 aq 10e2)))),?_⟩;refine⟨_,U,x,fm.1,fm.2,U,RG,okf.1,by decide,hx4,λf H1 nf hF e1=>?_⟩;refine⟨_,U,st,St,dx,_,_,U,e1 _ _ fJ,T.cn,T.fW,jF _ _,d,U, .inl ⟨_, .inl (e1 _ _ hd)⟩,_,U,_,iu.k (k:=Sum.inr x) (e1 _ _ hd),?_⟩;have e:=hI.at (Sum.inr x);rw[e];exact q _ e1
def Za:ax ["self","text","many"] ["self","text","many"] (ak Uj):=dO
def U1(D:bw K St "put" "Store.put" Uj ["self","text","many"])(T:2e7)(c1:bU P w K mg base 22 St "have" 12e8 (Eh St)):bU P w K mg base 23 St "put" ["self","text","many"] (RF St):=by
 obtain⟨_,_,kZ⟩:=c1;refine D.fF Za 0e4 0e0
 ·obtain⟨st,d,g,x,m,kvs,rfl,_⟩:=h;rfl
 ·obtain⟨st,d,g,x,m,kvs,rfl,⟨dx,fJ⟩,hd,hI,hl,hx,q⟩:=h;have hu:=dQ hr;refine⟨_,(ao (dI hu 2e6 3e6 (aB cq (pml kZ hr T.cn 1e3 11e2) 5e5) rfl)),?_⟩;refine⟨_,U,st,dx,_,U,fJ,jS _ _ 0e5 0e5,_,U,st,d,g,x,kvs,U,⟨dx,fJ⟩,hd,hI,hx,λH1 e1=>?_⟩;refine⟨_,U,_,_,U,U,_,U,st,St,dx,_,_,U,e1 _ _ fJ,T.cn,T.fW,jF _ _,_,U,d,_,U,kq.k (k:=Sum.inr x) (e1 _ _ hd) (mD hl),?_⟩;refine q _ (λb o z n=>?_) af;rw[ah n];exact e1 _ _ z
variable {uC uP uI uD uL uT:Tok}{St:Ps}
def BX{kvs:Py}{k:Key}(h:¬k∈kvs.map 2e1):cA kvs k=none:=by
 cases e:cA kvs k with
 |none=>rfl
 |some v=>exact absurd (rQ e) h
def Mj{kvs:Py}{k:Key}(h:¬k∈kvs.map 2e1)(n:Int):cU kvs k n=kvs++[(k, .int n)]:=by
 unfold cU;rw[oA _ (BX h),fG (BX h),zero_add]
def F6{kvs:Py}(hn:(kvs.map 2e1).Nodup){k:Key}{z:Int}(h:(k,V.int z)∈kvs):aM kvs k=z:=gA (i8 hn h)
def take_out{kvs:Py}(hn:(kvs.map 2e1).Nodup){i:Nat}{p:Key×V}(h:kvs[i]? =some p):¬p.1∈(kvs.take i).map 2e1:=by
 intro m;have e:kvs.take 12e0=kvs.take i++[p]:=take_snoc h;have hs:((kvs.take 12e0).map 2e1).Nodup:=hn.sublist ((List.take_sublist _ _).map _);rw[e,map_append,List.nodup_append] at hs;exact hs.2.2 _ m p.1 2e3 rfl
inductive Ml(St:9e7)(vs:5e2)(H:Hp)(Q:VK)(E:XK):Prop
 |mk (p dx:9e7) (v:V) (kvs:14e3) (bJ:vs=[.ref p,v]) (bT:H p=some (.ins St dx [])) (cw:((v= .cR/\kvs=[])\/∃a,v= .ref a/\H a=some 2e9)) (dh:bh kvs) (eQ:(kvs.map (·.1)).Nodup) (ir:(∀q∈kvs,∃x,q.1=Sum.inr x/\vw x)) (qQ:kvs.length<=900) (Di:∀d g H',H d=none->H g=none->d≠g->jk St H' p d g->H' d=some 2e9->H' g=some 9e6->(∀b o,H b=some o->b≠p->H' b=some o)->Q .cR H')
def F7(St:Ps):Sp:=Ml St
def F8:ax ["self","amounts","text"] ["self","amounts"] (ak Du):=dO
def Mm(D:Km K St "Store.__init__" Du ["self","amounts"])(T:2e7)(c1:bU P w K mg base 23 St "put" ["self","text","many"] (RF St)):Kn P w K mg base oC 24 St ["self","amounts"] (F7 St):=by
 obtain⟨_,_,BY⟩:=c1;refine D.fF F8 0e4 0e0
 ·obtain⟨p,dx,v,kvs,rfl,_⟩:=h;rfl
 ·obtain⟨p,dx,v,kvs,rfl,hp,hv,hI,hn,hg,hl,q⟩:=h;have hu:=dQ hr
  refine⟨_,(ai (fO 1e3 d7 rfl) (ai (fO 1e3 (cC aj) rfl) (ao (bK (nG (ya 3e6)) (ao (eN (b8 PassesOwn.never rfl (dw 3e6) (aE (i:=2) F8.nd rfl 0e3) (ao (a8 (pml BY hr T.cn 1e3 (aa 5e5 (aa (cD hu 3e6 5e5 1e6) aj))))))))
      aN)))),?_⟩
  refine λd hd=>?_;have Zb:p≠d:=ag hp hd;refine⟨_,U,p,St,dx,[],U,(by rw[ah Zb];exact hp),T.cn,T.fW,17e1,16e1,λg su=>?_⟩;have npg:p≠g:=λz=>by rw[z,af] at su;cases su
  rw[ah (Ne.symm npg)] at su;have DP:d≠g:=λz=>by rw[z,af] at su;cases su
  rw[ah (Ne.symm DP)] at su;refine⟨_,U,p,St,dx,_,U,(by rw[ah npg,af]),T.cn,T.sH,12e7,?_⟩;generalize hH1:upd (upd (upd (upd H d (.dK [])) p (.ins St dx (di "amounts" (.ref d) []))) g 9e6) p (.ins St dx (di "gone" (.ref g) (di "amounts" (.ref d) [])))=H1;have h1p:H1 p=some (.ins St dx (Cy d g)):=by rw[<-hH1,af];rfl
  have h1d:H1 d=some (.dK []):=by rw[<-hH1,ah (Ne.symm Zb),ah DP,ah (Ne.symm Zb),af]
  have h1g:H1 g=some 9e6:=by rw[<-hH1,ah (Ne.symm npg),af]
  have h1o:∀b o,H b=some o->b≠p->H1 b=some o:=λb o z n=>by
   rw[<-hH1,ah n,ah (ag z su),ah n,ah (ag z hd)];exact z
  rcases hv with ⟨rfl,rfl⟩ | ⟨a,rfl,ha⟩
  ·exact⟨_,U,_,U,dP (q d g H1 hd su DP ⟨dx,h1p⟩ h1d h1g h1o)⟩
  ·have nap:a≠p:=bC ha hp 0e7;have ha1:=h1o a _ ha nap;have nad:a≠d:=ag ha hd;have nag:a≠g:=ag ha su;refine⟨_,U,_,U,gi ?_⟩;refine⟨_,U,a,kvs,U,ha1,λo nf=>d8 nf (λi σ H'=>∃v2:Option V,σ=[some (.ref p),some 18e2,v2]/\H' d=some (.dK (kvs.take i))/\∀b o',H1 b=some o'->b≠d->H' b=some o') ?_ (λi σ H' ⟨_,_,_,e⟩=>e _ _ ha1 nad) ?_ ?_⟩
   ·exact⟨none,U,h1d,λb o' z _=>z⟩
   ·rintro i k v σ H' hi ⟨v2,rfl,dH,e⟩;obtain⟨x,ex,gx⟩:=hg _ 8e0;have ex:k=Sum.inr x:=ex;subst ex;have hv:=hI.eP 8e0;obtain⟨z,ez⟩:=hI _ 8e0;have ez:v=V.int z:=ez;subst ez
    have Y7:aM kvs (Sum.inr x)=z:=by
     have m:=mem_of_getElem? hi;exact gA (by rw[hv];exact congrArg some (by rw[F6 hn m]))
    have yn:(upd H' a 9e4) p=some (.ins St dx (Cy d g)):=by rw[ah (Ne.symm nap)];exact e _ _ h1p Zb
    have hdd:(upd H' a 9e4) d=some (.dK (kvs.take i)):=by rw[ah (Ne.symm nad)];exact dH
    refine⟨_,U,p,dx,_,U,yn,jS _ _ 0e5 0e5,_,U,_,U,_,U,a,V.int z,U, .inl ⟨_,Sum.inr x, .inr ⟨o,af⟩,U,(by rw[hv,Y7])⟩,p,d,g,x,z,kvs.take i,U,⟨dx,yn⟩,hdd,λq hq=>hI q (mem_of_mem_take hq),?_,gx,λH2 kp hd2=>?_⟩
    ·rw[length_take];omega
    ·refine⟨kp _ _ af nad,some (.str x),U,?_,λb o' z' nb=>?_⟩
     ·rw[ah (Ne.symm nad),hd2,Mj (take_out hn hi),take_snoc hi]
     ·by_cases ba:b=a
      ·subst ba;rw[af];rw[ha1] at z';exact z'
      ·rw[ah ba];refine kp _ _ ?_ nb;rw[ah ba];exact e _ _ z' nb
   ·rintro σ H' ⟨v2,rfl,dH,e⟩;rw[take_length] at dH;exact q d g H' hd su DP ⟨dx,e _ _ h1p Zb⟩ dH (e _ _ h1g (Ne.symm DP)) λb o' z nb=>e _ _ (h1o b o' z nb) (ag z hd)
variable {uC uP uI uD uL uT:Tok}{St:Ps}
noncomputable def zv:V->Int
 | .int i=>i
 |_=>0
noncomputable def j8(kvs:Py):List 19e8:=kvs.filter λq=>decide (0<zv q.2)
inductive Ig(St:9e7)(vs:5e2)(H:Hp)(Q:VK)(E:XK):Prop
 |mk (st d g:9e7) (kvs:14e3) (bJ:vs=[.ref st]) (bT:jk St H st d g) (cw:H d=some (.dK kvs)) (dh:bh kvs) (eQ:(kvs.map (·.1)).Nodup) (ir:kvs.length<=900) (qQ:∀e H',H e=none->H' e=some (.dK (j8 kvs))->au H H'->Q 6e8 H')
def vy(St:Ps):Sp:=Ig St
def Mn:ax 1e0 1e0 (ak r8):=dO
def PvS(L:Ps)(kvs:Py)(H0:Hp):Nat->List V->Hp->Prop:=λi ys H'=>∃ps:List (Addr×Key×V),ys=ps.map (λp=>V.ref p.1)/\(∀p∈ps,H' p.1=some (.tup [kV p.2.1,p.2.2])/\p.1≠L)/\ps.map (·.2)=j8 (kvs.take i)
def zL(kvs:Py):(j8 kvs).length<=kvs.length:=List.length_filter_le _ _
def Ih(D:bw K St "stocks" "Store.stocks" r8 1e0)(T:2e7):bU P w K mg base 1 St "stocks" 1e0 (vy St):=by
 refine D.fF Mn 0e4 0e0
 ·obtain⟨st,d,g,kvs,rfl,_⟩:=h;rfl
 ·obtain⟨st,d,g,kvs,rfl,⟨dx,fJ⟩,hd,hI,hn,hl,q⟩:=h;have hu:=dQ hr;have big:=bgL;refine⟨_,(ao (aD (bD (nM rfl) rfl T.jP iK (aa (rR (fK (sc:=(ak r8)) (NX:=1e0) (N:=["text","many"]) (fr:=[none,none]) AW rfl rfl rfl (Kl 2e6) (λ_ _ _ _=>(rT K 2 rfl rfl (aX (aE (i:=0) (show (["text","many"]:IR).Nodup by decide+kernel) rfl 0e3 5e8) (aX (aE (i:=1) (show (["text","many"]:IR).Nodup by decide+kernel) rfl 0e3 5e8) dR)))) (λ_ _ _ _=>(mE (aJ lN 3e6 aq 18e3))) (λ_ _ _ _=>(bq (aa 1e3 11e2))))) aj)))),?_⟩;refine⟨_,U,st,St,dx,_,_,U,fJ,T.cn,T.fW,jF _ _,d,kvs,U,hd,λo nf L hL=>?_⟩;have WL:L≠d:=λz=>by rw[z,af] at hL;cases hL
  have hz:(upd H d 9e4) d=some 9e4:=af;refine Hj (J:=Yj d o kvs) (L:=L) kvs.length (upd H d 9e4) (fun σ=>∃v u:Option V,σ=[v,u]) (PvS L kvs H) (items_go hz) (De hz) ?_ hL ⟨none,none,rfl⟩ (au.new hL) af ⟨[],rfl,12e6,rfl⟩ 0e2 ?_ ?_ ?_
  ·rintro i ys H1 H2 e ⟨ps,e1,e2,e3⟩;exact⟨ps,e1,λp hp=>⟨e _ _ (e2 p hp).1 (e2 p hp).2,(e2 p hp).2⟩,e3⟩
  ·rintro i ys H1 ⟨ps,e1,_,e3⟩;have h1:=congrArg List.length e3;have h2:=zL (kvs.take i)
   grind
  ·rintro i σ H2 ys hi ⟨v,u,rfl⟩ hs uR ⟨ps,rfl,e2,e3⟩ N M hN hM y H3 ⟨t,kk,vv,G5,ht,rfl,rfl⟩;obtain⟨z,ez⟩:=hI _ (mem_of_getElem? G5);have ez:vv=V.int z:=ez;subst ez;have s3:=hs.trans (au.new (o:= .tup [kV kk, .int z]) ht);have nR:(upd H2 t (.tup [kV kk, .int z])) L=some (.lst (ps.map λp=>V.ref p.1)):=by rw[ah (ag uR ht)];exact uR
   refine⟨t,_,U,iB.of af,U,_,_,U,_,_,U,U,_,U,_,_,U,U,_,U,gM (λec=>?_) λec=>?_⟩
   ·have ec:0<z:=by simpa using ec
    refine⟨_,U,_,U,0e9,λt2 Wy=>?_⟩;have s4:=au.new (o:= .tup [kV kk, .int z]) Wy;have WM:L≠t2:=ag nR Wy;refine hN _ _ _ ⟨_,_,rfl⟩ (s3.trans s4) (s4 _ _ nR) ⟨ps++[(t2,kk, .int z)],by rw[map_append];rfl,λp hp=>?_,?_⟩
    ·rcases mem_append.mp hp with hp|hp
     ·exact⟨s4 _ _ (au.new ht _ _ (e2 p hp).1),(e2 p hp).2⟩
     ·have e':p=(t2,kk, .int z):=by simpa using hp
      subst e';exact⟨af,Ne.symm WM⟩
    ·unfold j8 at e3 |-;rw[map_append,e3,take_snoc G5,filter_append,show [(kk,V.int z)].filter (λq=>decide (0<zv q.2))=[(kk,V.int z)] by simp [zv,ec]];rfl
   ·have ec:¬0<z:=by simpa using ec
    refine hM _ _ ⟨_,_,rfl⟩ s3 nR ⟨ps,rfl,λp hp=>⟨au.new ht _ _ (e2 p hp).1,(e2 p hp).2⟩,?_⟩;unfold j8 at e3 |-;rw[e3,take_snoc G5,filter_append,show [(kk,V.int z)].filter (λq=>decide (0<zv q.2))=[] by simp [zv,ec],append_nil]
  ·rintro H2 ys hs uR ⟨ps,rfl,e2,e3⟩;rw[take_length] at e3
   have s2:au H (upd H2 d 2e9):=λb o' z'=>by
    by_cases bd:b=d
    ·subst bd;rw[af];rw[hd] at z';exact z'
    ·rw[ah bd];exact hs _ _ (by rw[ah bd];exact z')
   refine⟨d,o,kvs,hs _ _ hz,nf,L,ps,U,by rw[ah WL];exact uR,λp hp=>?_,λe he=>?_⟩
   ·have p1:=(e2 p hp).1;rw[ah (bC p1 (hs _ _ hz) 0e7)];exact p1
   ·have e8:cP [] (ps.map (·.2))=j8 kvs:=by
     rw[e3,ph _ [] (by rw[nil_append];exact(List.filter_sublist.map _).nodup hn),nil_append]
    rw[e8];exact q e _ (none_back s2 he) af (s2.trans (au.new he))
def U2:ax 1e0 1e0 (ak Fl):=dO
variable {uC uP uI uD uL uT:Tok}{St:Ps}
theorem xR:∀(d:Nat) (m:Int) (t:Tr),og d t->∀p∈bz d m t,∃k,kK k/\p.1=3e0
 |d,m, .one k n,h,p,hp=>by
  have e:bz d m (.one k n)=[(3e0,n*m)]:=by cases d<;>rfl
  rw[e] at hp;have h:kK k/\1<=n/\n<=999:=by cases d<;>exact h
  simp_all
 |0,_, .gr _ _,h,_,_=>h.elim
 |d+1,m, .gr ts n,h,p,hp=>by
  obtain⟨t,ht,hp⟩:=mem_flatMap.mp hp;exact xR d (n*m) t (h.2.1 t ht) p hp
def U3{k:IN}(hk:kK k){n:Int}(n1:1<=n)(n2:n<=999):HS [.one k n]:=by
 refine⟨by simp,λt ht=>?_,?_,(by show 1<=5;decide)⟩
 ·have e:t= .one k n:=by simpa using ht
  subst e;exact⟨hk,n1,n2⟩
 ·have h1:=u7 hk;have h2:=u6 n1 n2;show ((k++bM n)++[]).length<=23
  grind
def F9{k:IN}(hk:kK k):cQ ([(1,[.one k 1])],0):=Rt (Lw (U3 hk 0e1 0e1)) 0e1 0e1
def Mo(k:IN):fL ([(1,[.one k 1])],0)=k:=by
 show (k++bM 1++[])++([]++lz 0)=_;rw[YN,show lz 0=[] from rfl];simp
def RH:cQ ([], -1):=⟨rfl,(by show 3<=33;decide),(by show 0<=7;decide)⟩
def U4:(⟨(fL ([], -1)).toArray⟩:Str)="e^-" :=by decide+kernel
def sI{kvs:Py}{k:Key}{v:V}{q:Key×V}(h:q∈putK kvs k v):q∈kvs\/q=(k,v):=by
 unfold putK at h
 grind
theorem mU{Pk:Key->Prop}(t:Int):∀(as:WP) (acc:Py),(∀q∈acc,Pk q.1)->(∀p∈as,Pk 19e1)->∀q∈bj t acc as,Pk q.1
 | [],_,h,_,q,hq=>h q hq
 |p::r,acc,h,h',q,hq=>by
  refine mU t r 5e1 (λq hq=>?_) (λp hp=>h' p (mem_cons_of_mem _ hp)) q hq;rcases sI hq with hq|hq
  ·exact h q hq
  ·rw[hq];exact h' p 1e8
def qz{x:Fm}(h:cQ x):∀q∈cW 1 x.1,∃k,kK k/\q.1=Sum.inr (3e0:Str):=by
 refine mU (Pk:=λj=>∃k,kK k/\j=Sum.inr (3e0:Str)) 1 _ [] (λq hq=>by cases hq) λp hp=>?_;obtain⟨y,hy,hp⟩:=mem_flatMap.mp hp;have Jk:=mR h.1 y hy;obtain⟨t,ht,hp⟩:=mem_flatMap.mp hp;obtain⟨k,hk,e⟩:=xR 1 y.1 t (Jk.2.1 t ht) p hp;exact⟨k,hk,by rw[e]⟩
def Zc(x:Fm):((cW 1 x.1).map 2e1).Nodup:=jD _
def P7(k:Str)(k':Key):aM [(Sum.inr k, .int 1)] k'=if k'=Sum.inr k then 1 else 0:=iQ [] (Sum.inr k) k' 1
def Told(ws:NE)(s:Str):Prop:=s="e^-" \/(∃w∈ws,s=⟨(fL w).toArray⟩)\/∃w∈ws,(Sum.inr s:Key)∈(cW 1 w.1).map 2e1
def qC{ws:NE}(h:∀w∈ws,cQ w){s:Str}(t:Told ws s):vw s:=by
 rcases t with rfl| ⟨w,hw,rfl⟩ | ⟨w,hw,hs⟩
 ·exact⟨_,RH,U4.symm⟩
 ·exact⟨w,h w hw,U⟩
 ·obtain⟨q,hq,e⟩:=mem_map.mp hs;obtain⟨k,hk,e'⟩:=qz (h w hw) q hq;rw[e] at e';injection e' with e';exact⟨_,F9 hk,by rw[Mo,e']⟩
variable {uC uP uI uD uL uT:Tok}{St:Ps}
def F':ax ["_law_cell","_law_prime","_law_number"] ["_law_cell","_law_prime"] (ak Dr):=dO
inductive U5(vs:5e2)(H:Hp)(Q:VK)(E:XK):Prop
 |mk (c p:Int) (bJ:vs=[.int c, .int p]) (bT:0<p) (cw:p<2^60) (dh:∀n,Q (.int n) H)
def RK:Sp:=U5
def U6(D:Def K mg "_law_mixed" "_law_mixed" Dr ["_law_cell","_law_prime"]):bA P w K mg base 1 "_law_mixed" ["_law_cell","_law_prime"] RK:=by
 refine D.fF F' 0e4 0e0
 ·obtain⟨c,p,rfl,_⟩:=h;rfl
 ·obtain⟨c,p,rfl,p0,p1,q⟩:=h;have m0:0<=c%2147483647:=emod_nonneg _ 0e1;have m1:c%2147483647<2147483647:=emod_lt_of_pos _ 0e1;refine⟨_,(ai (aA (i:=2) F'.nd rfl 0e3 (aB cq (aB cx 1e3 aq) aq)) (ao (aD (aB cx (aB cq (aB iq (aB iq 5e5 5e5) aq) 5e5) 3e6)))),?_⟩;refine⟨_,U,_,_,U,U,(by lia),_,_,U,U,?_⟩;refine⟨_,U,_,U,_,_,U,U, .inl 14e5,_,_,U,U, .inr 2e5,_,U,_,_,U,U,_,U,_,_,U,U,p0,q _⟩
def U7:bM 12=[49,50]:=by decide+kernel
def fig3:bM 3=[51]:=by decide+kernel
def rj:(".12" :Str)=⟨[46,49,50].toArray⟩:=by decide+kernel
def e413:(")3" :Str)=⟨[41,51].toArray⟩:=by decide+kernel
def Zd(ts:List Tr)(k:IN):wL 1 [(1,ts),(12,[.one k 1])] 0=ts.flatMap (dJ 1)++([46,49,50]++k):=by
 show ts.flatMap (dJ 1)++(((46::(bM 12++(k++bM 1++[])))++[])++[])=_;rw[U7,YN];simp
def Ze{ts:List Tr}(h:HS ts){k:IN}(hk:kK k):okB [(1,ts),(12,[.one k 1])]:=by
 obtain⟨h1,h2,h3,h4⟩:=h;refine⟨by simp,λn n1 n2=>⟨U,λx hx=>?_,n1,n2⟩,?_,?_⟩
 ·have e:x=(1,ts)\/x=(12,[.one k 1]):=by simpa using hx
  rcases e with e|e
  ·subst e;exact⟨h1,h2,(by lia),(by lia)⟩
  ·subst e;refine⟨by simp,λu hu=>?_,(by lia),(by lia)⟩;have e:u= .one k 1:=by simpa using hu
   subst e;exact⟨hk,by decide,by decide⟩
 ·have:=u7 hk;rw[Zd,length_append,length_append]
  grind
 ·show (ts.flatMap (bz 1 1)++([((3e0:Str),(1 :Int)*12)]++[]++[])).length<=7;rw[length_append];show _+1<=7;omega
def Zf(ts:List Tr)(k:IN):cW 1 [(1,ts),(12,[.one k 1])]=cU (cW 1 [(1,ts)]) (Sum.inr 3e0) 12:=by
 have e:([(1,ts),(12,[.one k 1])]:List ia).flatMap (cY 1)=([(1,ts)]:List ia).flatMap (cY 1)++[((3e0:Str),1*12)]:=by
  show ts.flatMap (bz 1 1)++([((3e0:Str),(1 :Int)*12)]++[]++[])=(ts.flatMap (bz 1 1)++[])++_;simp
 unfold cW bj;rw[e,foldl_append];rfl
noncomputable def K3(k0 k1 k2:IN):List Key:=[Sum.inr ⟨k0.toArray⟩,Sum.inr ⟨k1.toArray⟩,Sum.inr ⟨k2.toArray⟩]
def few3{k0 k1 k2:IN}{kvs:Py}(hn:(kvs.map 2e1).Nodup)(h:∀q∈kvs,q.1∈K3 k0 k1 k2):kvs.length<=3:=by
 have:(kvs.map 2e1).length<=(K3 k0 k1 k2).length:=List.Nodup.length_le_of_subset hn λk hk=>by
  grind
 rw[length_map] at this;exact this
def Mp{k0 k1 k2:IN}(h0:kK k0)(h1:kK k1)(h2:kK k2){i:Nat}(hi:i<3):∃k,kK k/\(Sum.inr (3e0:Str):Key)∈K3 k0 k1 k2/\yh [V.str ⟨k0.toArray⟩, .str ⟨k1.toArray⟩, .str ⟨k2.toArray⟩] (0+(i:Int))=some (V.str 3e0):=by
 match i,hi with
 |0,_=>exact⟨k0,h0,by simp [K3],U⟩
 |1,_=>exact⟨k1,h1,by simp [K3],U⟩
 |2,_=>exact⟨k2,h2,by simp [K3],U⟩
def U8{i:Nat}(hi:i<3):∃z,0<z/\z<100/\yh [V.int 1, .int 5, .int 25] (0+(i:Int))=some (V.int z):=by
 match i,hi with
 |0,_=>exact⟨1,by decide,by decide,U⟩
 |1,_=>exact⟨5,by decide,by decide,U⟩
 |2,_=>exact⟨25,by decide,by decide,U⟩
def PvM(o:Obj)(KV:Py)(d D2:Ps)(H2:Hp):Nat->L2.St->Hp->Prop:=λi σ H'=>∃(v:Option V) (ps:List (Addr×Key×V)),σ=[v,some (.ref d)]/\H' d=some (.gO o (.dK KV))/\H' D2=some (.lst (ps.map λp=> .ref p.1))/\(∀p∈ps,H' p.1=some (.tup [kV p.2.1,p.2.2]))/\ps.map (·.2)=((KV.take i).map λp=>(p.1,V.int (3*aM KV p.1)))/\∀b o',H2 b=some o'->b≠d->H' b=some o'
inductive Ii(vs:5e2)(H:Hp)(Q:VK)(E:XK):Prop
 |mk (c:Int) (kl:9e7) (k0 k1 k2:19e4) (bJ:vs=[.int c, .ref kl]) (bT:H kl=some (.lst [.str ⟨k0.toArray⟩, .str ⟨k1.toArray⟩, .str ⟨k2.toArray⟩])) (cw:kK k0) (dh:kK k1) (eQ:kK k2) (ir:∀(t:9e7) (x:Fm) H',cQ x->(cW 1 x.1).length<=3->Bp H' t x->au H H'->Q (.ref t) H')
def BZ:Sp:=Ii
def eY:ax ["_law_cell","_law_kinds","_law_counts","_law_text_here","_law_k","_law_count_here","_law_charge"] ["_law_cell","_law_kinds"] (ak sh):=dO
def Ij(D:Def K mg "_law_matter" "_law_matter" sh ["_law_cell","_law_kinds"])(T:2e7)(c4:bA P w K mg base 1 "_law_figures" ["_law_count_here"] l9):
  bA P w K mg base 2 "_law_matter" ["_law_cell","_law_kinds"] BZ:=by
 obtain⟨_,_,rm⟩:=c4;refine D.fF eY 0e4 0e0
 ·obtain⟨c,kl,k0,k1,k2,rfl,_⟩:=h;rfl
 ·obtain⟨c,kl,k0,k1,k2,rfl,P8,U9,okk1,okk2,q⟩:=h;have hu:=dQ hr;have WN:=hr.pX;have big:=bgL
  refine⟨_,(ai (aA (i:=2) eY.nd rfl 5e8 d7) (ai (aA (i:=3) eY.nd rfl 0e3 aU) (ai (b8 PassesOwn.never rfl (fY rfl T.jC 16e6) (aE (i:=4) eY.nd rfl 0e3) (ai (aA (i:=5) eY.nd rfl 0e3 (aB cx (aB cT 1e3 (bF bV (cC (aa aq (aa aq 16e6))) (pv 4) 1e6)) aq)) (ao (bK (aJ lN (pv 5) aq 18e3) (ai (dI hu 5e5 (bF bV 3e6 (pv 4) 1e6) (aB cq (cy hu 5e5 (bF bV 3e6 (pv 4) 1e6) aq 10e2) (pv 5)) rfl) (ao (aA (i:=3) eY.nd rfl 0e3 (aB bB (aB bB 19e2 (bF bV 3e6 (pv 4) 1e6)) (gN rm hr (aa (pv 5) aj))))))
        aN)))) (ai (aA (i:=6) eY.nd rfl 0e3 (bF bV (cC (aa aq (aa aq (aa aq (aa (qP lM aq) (aa aq (aa (qP lM aq) aj))))))) 8e1 1e6)) (ai (bK (aJ fA 19e2 aU 18e3) (ao (aD (bq (aa aU (aa d7 (aa (qP lM aq) aj))))))
      aN) (ai (bK (aJ fA 8e1 aq 18e3) (ai (aA (i:=3) eY.nd rfl 0e3 (aB bB (aB bB aU 19e2) aU)) (ao (aA (i:=2) eY.nd rfl 5e8 (bD (nM rfl) rfl T.jP iK (aa (rR (fK (sc:=(ak sh)) (NX:=["_law_cell","_law_kinds","_law_counts","_law_text_here","_law_k","_law_count_here","_law_charge"]) (N:=["_law_kind_here","_law_counts"]) (fr:=[none,some 2]) AW rfl rfl rfl (dw 5e5) (λ_ _ _ _=>(aE (i:=0) (show (["_law_kind_here","_law_counts"]:IR).Nodup by decide+kernel) rfl 0e3 5e8)) 17e8 (λ_ _ _ _=>(bq (aa 1e3 (aa (aB iq aq (cD hu 3e6 1e3 1e6)) aj)))))) aj)))))
      aN) (ai (bK (aJ fA 8e1 aq 18e3) (ai (aA (i:=3) eY.nd rfl 0e3 (aB bB (aB bB 19e2 aU) (bF bV 3e6 aq 1e6))) (ao (dI hu 5e5 (bF bV 3e6 aq 1e6) (aB cq (cy hu 5e5 (bF bV 3e6 aq 1e6) aq 10e2) aq) rfl)))
      aN) (ai (bK (aJ oq (pv 6) aq 18e3) (ao (aA (i:=3) eY.nd rfl 0e3 (aB bB (aB bB (aB bB 19e2 aU) (gN rm hr (aa (bL As rfl T.K2 JY (aa (pv 6) aj)) aj))) (bF bV (cC (aa aU (aa aU aj))) (bD pU rfl T.AY tP (aa (ow lN (pv 6) aq 18e3) aj)) 1e6))))
      aN) (ao (aD (bq (aa 19e2 (aa 5e5 (aa (pv 6) aj)))))))))))))),?_⟩
  refine λd hd=>?_;refine⟨_,U,by decide,by decide,iW (λi σ H'=>∃(as:FJ) (v3 v4:Option V),σ=[some (.int c),some (.ref kl),some (.ref d),some (.str ⟨(as.flatMap λa=>a.1++bM a.2).toArray⟩),v3,v4,none]/\Ls as/\(∀p∈qt as,(Sum.inr p.1 :Key)∈K3 k0 k1 k2)/\as.length<=i/\H' d=some (.dK (bj 1 [] (qt as)))/\au H H') ?_ ?_ ?_⟩
  ·exact⟨[],none,none,by rw[Rr];rfl,(λa ha=>by cases ha),(λa ha=>by cases ha),le_refl _,af,au.new hd⟩
  ·rintro i σ H' hi ⟨as,v3,v4,rfl,aP,P9,hl,dH,e⟩;have hi3:i<3:=by have:i< (3 :Int).toNat:=hi;omega
   obtain⟨k,hk,hkin,Zg⟩:=Mp U9 okk1 okk2 hi3;obtain⟨z,z0,z1,hza⟩:=U8 hi3;have hkl':=e _ _ P8;have sl:∀l,H' l=none->au H' (upd H' l (.lst [V.int 1, .int 5, .int 25])):=λl hl=>au.new hl;refine⟨_,U,6e5,λl vR=>⟨_,U,l,_,_,V.int z,U,U,bH.of af,hza,_,_,U,U,⟨z0,by omega⟩,_,_,U,U,(by show (0 :Int) <5;decide),?_⟩⟩;have e2:=e.trans (sl l vR);have hd2:=sl l vR _ _ dH;have P':=sl l vR _ _ hkl';have m0:0<=c/z%5:=emod_nonneg _ 0e1;have m1:c/z%5<5:=emod_lt_of_pos _ 0e1;dsimp only [bX];generalize c/z%5=m at m0 m1 |-;generalize upd H' l (.lst [V.int 1, .int 5, .int 25])=H2 at e2 hd2 P' |-;refine⟨_,U,_,_,U,U,_,U,gM (λem=>?_) λ_=>⟨as,_,_,U,aP,P9,by omega,hd2,e2⟩⟩;have em:0<m:=by simpa using em
   have za:=mQ aP;have zk:=u7 hk;have zm:=jc (n:=m) 0e2 0e2;have hI:bh (bj 1 [] (qt as)):=jy 1 _ _ λp hp=>by cases hp
   have qx:=jz 1 (qt as) [];have hal:(qt as).length=as.length:=by unfold qt;rw[length_map]
   rw[length_nil] at qx;refine⟨_,U,d,U, .inl ⟨_, .inl hd2⟩,_,U,_,U,kl,_,_,_,U,U,bH.of P',Zg,_,iu.k (k:=Sum.inr 3e0) hd2,_,U,_,_,hI.at _,U,_,U,_,U,_,U,kl,_,_,_,U,U,bH.of P',Zg,d,_,U,kq.k (k:=Sum.inr 3e0) hd2 0e2,?_⟩;have nkd:kl≠d:=ag P8 hd;have Rg:(upd H2 d (.dK (putK (bj 1 [] (qt as)) (Sum.inr 3e0) (.int (aM (bj 1 [] (qt as)) (Sum.inr 3e0)+m))))) kl=some (.lst [.str ⟨k0.toArray⟩, .str ⟨k1.toArray⟩, .str ⟨k2.toArray⟩]):=by rw[ah nkd];exact P'
   refine⟨_,U,_,U,_,U,kl,_,_,_,U,U,bH.of Rg,Zg,_,_,U,U,by rw[bp,bp];omega,_,U,m,U,by omega,by omega,_,_,U,U,by rw[aZ,bp,bp];omega,?_⟩;refine⟨as++[(k,m)],some (.int (0+(i:Int))),some (.int m),?_,?_,?_,?_,?_,?_⟩
   ·have ex:(⟨(as.flatMap λa=>a.1++bM a.2).toArray⟩:Str)++3e0++fQ m=⟨((as++[(k,m)]).flatMap λa=>a.1++bM a.2).toArray⟩:=by
     rw[dC,bP,bP,flatMap_append,flatMap_cons,flatMap_nil,append_nil,append_assoc]
    rw[<-ex];rfl
   ·intro a ha;rcases mem_append.mp ha with ha|ha
    ·exact aP a ha
    ·have ea:a=(k,m):=by simpa using ha
     subst ea;exact⟨hk,by omega,by omega⟩
   ·intro p hp;unfold qt at hp;rw[map_append] at hp;rcases mem_append.mp hp with hp|hp
    ·exact P9 p hp
    ·have ep:p=((3e0:Str),m):=by simpa using hp
     rw[ep];exact hkin
   ·rw[length_append];show as.length+1<=i+1;omega
   ·rw[af]
    have ec:bj 1 [] (qt (as++[(k,m)]))=cU (bj 1 [] (qt as)) (Sum.inr 3e0) (m*1):=by
     unfold qt bj;rw[map_append,foldl_append];rfl
    rw[ec,mul_one];rfl
   ·intro b o z;rw[ah (ag z hd)];exact e2 _ _ z
  ·rintro σ H' ⟨as,v3,v4,rfl,aP,P9,hl,dH,e⟩;have l3:as.length<=3:=hl;have qx:=e _ _ P8;have za:=mQ aP;have d0:0<=c/125%6:=emod_nonneg _ 0e1;have d1:c/125%6<6:=emod_lt_of_pos _ 0e1;obtain⟨v,hv,vX⟩:=yq (xs:=[V.int 0,V.int 0,V.int 1,V.int (-1),V.int 2,V.int (-14)]) d0 d1
   have hc:∃n,v=V.int n/\ -99<=n/\n<=99:=by
    simp only [mem_cons,not_mem_nil,or_false] at hv;rcases hv with rfl|rfl|rfl|rfl|rfl|rfl<;>exact⟨_,U,by decide,by decide⟩
   obtain⟨n,rfl,n1,n2⟩:=hc;refine⟨1,U,14,U,(by show 6<=sizeLine;decide),λl vR=>⟨_,U,_,_,U,U,2e5,_,_,U,U,(by show (0 :Int) <6;decide),l,_,_,V.int n,U,U,bH.of af,vX,?_⟩⟩;have sl:=au.new (o:= .lst [V.int 0,V.int 0,V.int 1,V.int (-1),V.int 2,V.int (-14)]) vR;have e1:=e.trans sl;have Jd:=sl _ _ dH;have Zh:=sl _ _ qx;dsimp only [bX];generalize upd H' l (.lst [V.int 0,V.int 0,V.int 1,V.int (-1),V.int 2,V.int (-14)])=H1 at e1 Jd Zh |-;refine⟨_,U,U,_,U,gM (λet=>?_) λet=>?_⟩
   ·refine λd3 RE=>⟨1,rfl,6e5,λt ht=>?_⟩;have e0:("e^-" :Str)=⟨(fL ([], -1)).toArray⟩:=by decide+kernel
    refine q t ([], -1) _ ⟨rfl,(by show 3<=33;decide),(by show 0<=7;decide)⟩ (by show 0<=3;decide) ⟨d3,?_,?_⟩ (e1.trans ((au.new RE).trans (au.new ht)))
    ·rw[af,<-e0]
    ·rw[ah (ag af ht),af];rfl
   have l1:1<=as.length:=by
    cases as with
    |nil=>exact absurd (by rw[Rr];decide) et
    |cons a r=>rw[length_cons];omega
   have hkc:∀c:Int,∀q∈bj c [] (qt as),q.1∈K3 k0 k1 k2:=λc=>mU (Pk:=λj=>j∈K3 k0 k1 k2) c (qt as) [] (λq hq=>by cases hq) P9;dsimp only [Ap];refine iL (fun σ' H'=>∃(ts:List Tr) (d':Ps),σ'=[some (.int c),some (.ref kl),some (.ref d'),some (.str ⟨(ts.flatMap (dJ 1)).toArray⟩),v3,v4,some (.int n)]/\HS ts/\(∀q∈cW 1 [(1,ts)],q.1∈K3 k0 k1 k2)/\H d'=none/\H' d'=some (.dK (cW 1 [(1,ts)]))/\au H H') (λN hN=>?_) ?_
   ·refine⟨_,U,_,_,U,U,2e5,_,_,U,U,(by show (0 :Int) <4;decide),U,_,U,gM (λ_=>?_) λ_=>?_⟩
    ·have l40:("(" :Str).length=1:=by decide+kernel
     have l41:(")3" :Str).length=2:=by decide+kernel
     refine⟨_,U,_,_,U,U,by rw[l40,bp];omega,_,_,U,U,by rw[aZ,l40,l41,bp];omega,?_⟩;refine⟨_,U,d,_,U,Jd,λo nf D2 Jl=>?_⟩;have hI:bh (bj 1 [] (qt as)):=jy 1 _ _ λp hp=>by cases hp
     have hn:((bj 1 [] (qt as)).map 2e1).Nodup:=yO 1 _ _ nodup_nil;have qx:=jz 1 (qt as) [];have hal:(qt as).length=as.length:=by unfold qt;rw[length_map]
     rw[length_nil] at qx;generalize hK:bj 1 [] (qt as)=KV at Jd hI hn qx;have PU:D2≠d:=λz=>by rw[z,af] at Jl;cases Jl
     have Y2:H1 D2=none:=by rwa [ah PU] at Jl
     have gen:∀i σ H',PvM o KV d D2 H1 i σ H'->H' d=some (.gO o (.dK KV)):=λi σ H' ⟨_,_,_,z,_⟩=>z;refine mF (a:=d) (D:=D2) (kvs:=KV) (PvM o KV d D2 H1) ?_ gen ?_ ?_
     ·exact⟨none,[],U,by rw[ah (Ne.symm PU),af],af,12e6,U,λb o' z hb=>by rw[ah (ag z Y2),ah hb];exact z⟩
     ·rintro i k v σ H' hi ⟨v',ps,rfl,f1,f2,f3,f4,f5⟩ N hN;have hv:=hI.eP 8e0
      have f6:ps.length<=3:=by
       have:=congrArg List.length f4;rw[length_map,length_map,length_take] at this;omega
      refine⟨_,U,_,U,_,U,d,V.int (aM KV k),U, .inl ⟨_,k, .inr ⟨o,f1⟩,U,hv.symm⟩,_,_,U,U, .inl 2e5,0e9,λt ht=>?_⟩;have Y3:D2≠t:=ag f2 ht;have ndt:d≠t:=ag f1 ht;refine⟨_,by rw[ah Y3];exact f2,by rw[length_map];omega,hN _ _ ⟨_,ps++[(t,k,V.int (3*aM KV k))],U,?_,?_,?_,?_,?_⟩⟩
      ·rw[ah (Ne.symm PU),ah ndt];exact f1
      ·rw[af,map_append];rfl
      ·intro p hp;rcases mem_append.mp hp with hp|hp
       ·have p1:=f3 p hp;rw[ah (bC p1 f2 0e7),ah (ag p1 ht)];exact p1
       ·have e':p=(t,k,V.int (3*aM KV k)):=by simpa using hp
        subst e';rw[ah (Ne.symm Y3)];exact af
      ·rw[map_append,f4,take_snoc hi,map_append];rfl
      ·intro b o' e' hb;rw[ah (ag e' Y2),ah (ag (f5 b o' e' hb) ht)];exact f5 b o' e' hb
     rintro σ H' ⟨v',ps,rfl,f1,f2,f3,f4,f5⟩;rw[take_length] at f4;refine⟨d,o,KV,f1,nf,D2,ps,U,by rw[ah PU];exact f2,λp hp=>by rw[ah (bC (f3 p hp) f1 0e7)];exact f3 p hp,λw hw=>?_⟩
     have e8:cP [] (ps.map (·.2))=scale 3 KV:=by
      rw[f4,ph _ [] (by rw[nil_append,map_map];exact hn),nil_append,xE hI hn]
     have Y4:au H1 (upd H' d (.dK KV)):=λb o' e=>by
      by_cases z:b=d
      ·subst z;rw[af];exact Jd.symm.trans e
      ·rw[ah z];exact f5 b o' e z
     have s8:au H1 (upd (upd H' d (.dK KV)) w (.dK (cP [] (ps.map (·.2))))):=Y4.trans (au.new hw);refine hN _ _ ⟨[.gr (as.map aT) 3],w,?_,UN aP l1 l3 0e1 0e1,?_,none_back (e1.trans Y4) hw,?_,e1.trans s8⟩
     ·have ex:("(" :Str)++(⟨(as.flatMap λa=>a.1++bM a.2).toArray⟩:Str)++")3" =⟨([Tr.gr (as.map aT) 3].flatMap (dJ 1)).toArray⟩:=by
       rw[Ro,fig3,Ut,e413,show (⟨#[40]⟩:Str)=⟨[40].toArray⟩ from rfl,bP,bP];simp
      rw[<-ex];rfl
     ·rw[Rq,hK,<-xE hI hn];intro q hq;obtain⟨p,hp,rfl⟩:=mem_map.mp hq;exact hkc 1 p (by rw[hK];exact hp)
     ·rw[af,Rq,hK,e8]
    ·refine hN _ _ ⟨as.map aT,d,by rw[qu];rfl,Lv aP l1 l3,by rw[Rn];exact hkc 1,hd,by rw[Rn];exact Jd,e1⟩
   rintro σ' H4 ⟨ts,d4,rfl,Qa,wc,hd40,RL,e4⟩;have Zi:=e4 _ _ P8;have z1:=Qa.2.2.1;refine iL (fun σ' H'=>∃xs:List ia,σ'=[some (.int c),some (.ref kl),some (.ref d4),some (.str ⟨(wL 1 xs 0).toArray⟩),v3,v4,some (.int n)]/\okB xs/\(∀q∈cW 1 xs,q.1∈K3 k0 k1 k2)/\H' d4=some (.dK (cW 1 xs))/\au H H') (λN hN=>?_) ?_
   ·refine⟨_,U,_,_,U,U,2e5,_,_,U,U,(by show (0 :Int) <4;decide),U,_,U,gM (λ_=>?_) λ_=>?_⟩
    ·have WA:(".12" :Str).length=3:=by decide+kernel
     have zk:=u7 U9;have hI:=zu [(1,ts)];have hl:=D4 (Lw Qa).2.2.2;have ha0:yh [V.str ⟨k0.toArray⟩, .str ⟨k1.toArray⟩, .str ⟨k2.toArray⟩] 0=some (V.str ⟨k0.toArray⟩):=rfl;refine⟨_,U,_,_,U,U,by rw[WA,bp];omega,_,U,kl,_,_,_,U,U,bH.of Zi,ha0,_,_,U,U,by rw[aZ,WA,bp,bp];omega,?_⟩;refine⟨_,U,d4,U, .inl ⟨_, .inl RL⟩,_,U,kl,_,_,_,U,U,bH.of Zi,ha0,_,iu.k (k:=Sum.inr ⟨k0.toArray⟩) RL,_,_,hI.at _,U,_,U,_,U,kl,_,_,_,U,U,bH.of Zi,ha0,d4,_,U,kq.k (k:=Sum.inr ⟨k0.toArray⟩) RL 0e2,?_⟩;refine hN _ _ ⟨[(1,ts),(12,[.one k0 1])],?_,Ze Qa U9,?_,?_,λb o z=>?_⟩
     ·have ex:(⟨(ts.flatMap (dJ 1)).toArray⟩:Str)++".12" ++⟨k0.toArray⟩=⟨(wL 1 [(1,ts),(12,[.one k0 1])] 0).toArray⟩:=by
       rw[Zd,rj,bP,bP];simp
      rw[<-ex];rfl
     ·rw[Zf];intro q hq;rcases sI hq with hq|hq
      ·exact wc q hq
      ·rw[hq];simp [K3]
     ·rw[af,Zf];rfl
     ·rw[ah (ag z hd40)];exact e4 _ _ z
    ·exact hN _ _ ⟨[(1,ts)],by rw[YO],Lw Qa,wc,RL,e4⟩
   rintro σ' H5 ⟨xs,rfl,okb,hxk,hd5,e5⟩;have zb:=okb.2.2.1;refine iL (fun σ' H'=>σ'=[some (.int c),some (.ref kl),some (.ref d4),some (.str ⟨(wL 1 xs n).toArray⟩),v3,v4,some (.int n)]/\H' d4=some (.dK (cW 1 xs))/\au H H') (λN hN=>?_) ?_
   ·refine⟨_,U,U,_,U,gM (λe=>?_) λe=>?_⟩
    ·have e:¬n=0:=by simpa using e
     have a1:1<=(if n<0 then -n else n):=by split<;>omega
     have a2:(if n<0 then -n else n)<=999:=by split<;>omega
     have z:=jc a1 a2;have g1:("^" :Str).length=1:=by decide+kernel
     have g2:(if 0<n then 8e6 else ("-" :Str)).length=1:=by split<;>decide+kernel
     refine⟨_,U,_,_,U,U,by rw[g1,bp];omega,_,U,n,U,_,U,a1,a2,_,_,U,U,by rw[aZ,g1,bp];omega,0e9,λy hy=>⟨_,U,_,_,U,U, .inr ⟨_,U,y,_,_,V.str _,U,U,bH.of af,UO n,_,_,U,U,?_,hN _ _ ⟨?_,?_,e5.trans (au.new hy)⟩⟩⟩⟩
     ·rw[aZ,aZ,bp,g1,g2];omega
     ·have ex:(⟨(wL 1 xs 0).toArray⟩:Str)++"^" ++fQ (if n<0 then -n else n)++(if 0<n then 8e6 else ("-" :Str))=⟨(wL 1 xs n).toArray⟩:=by
       rw[YM okb.1 n,<-bP,Pw e,<-xp,<-xp]
      rw[<-ex];rfl
     ·rw[ah (ag hd5 hy)];exact hd5
    ·have e:n=0:=by simpa using e
     subst e;exact hN _ _ ⟨rfl,hd5,e5⟩
   rintro σ' H6 ⟨rfl,Zj,e6⟩;exact⟨_,U,_,U,_,U,6e5,λt ht=>q t (xs,n) _ (Rt okb n1 n2) (few3 (jD _) hxk) ⟨d4,af,by rw[ah (ag Zj ht)];exact Zj⟩ (e6.trans (au.new ht))⟩
variable {HE Sh:Ps}
def px{n:Int}(h0:0<=n)(h:n<10^60):(toString n:Str).length<=60:=by
 rw[PySem.ofString_length];obtain⟨m,rfl⟩:=eq_ofNat_of_zero_le h0;show (Nat.repr m).length<=60;rw[Nat.length_repr_le_iff 0e1];omega
def vz{n:Int}(h0:0<=n)(h:n<10^60):n.natAbs.log2<1920:=by
 by_cases e:n.natAbs=0
 ·rw[e];decide
 ·have:=(log2_lt e (k:=200)).mpr 0e2;omega
structure Qb(K:1e5)(mg:2e0)(HE Sh:9e7):Prop where
 dA:mg "HallError" =some (.ref HE)
 dB:Fe K HE
 zM:PySem.W.AS K HE
 Qc:mg "Short" =some 19e6
 U':PySem.W.takerIn K Sh "step" =some none
 Va:PySem.W.takerIn K Sh "turn" =some none
 Ik:PySem.W.takerIn K Sh "formula" =some none
 Vb:PySem.W.takerIn K Sh "lack" =some none
 Vc:PySem.W.findIn K 19e6 "step" =some none
 Vd:PySem.W.findIn K 19e6 "turn" =some none
 Il:PySem.W.findIn K 19e6 "formula" =some none
 Ve:PySem.W.findIn K 19e6 "lack" =some none
 Mq:Yk K Sh
 Mr:PySem.W.mroIn K Sh (.ref HE)=some true
noncomputable def Jm(st tn:Int)(x:Str)(lk:Int):List (Str×V):=di "lack" (.int lk) (di "formula" (.str x) (di "turn" (.int tn) [("step", .int st)]))
inductive Ms(Sh:9e7)(vs:5e2)(H:Hp)(Q:VK)(E:XK):Prop
 |mk (e:9e7) (st tn:Int) (x:Str) (lk:Int) (bJ:vs=[.ref e, .int st, .int tn, .str x, .int lk]) (bT:H e=some (mZ e Sh none)) (cw:0<=st) (dh:st<10^60) (eQ:0<=tn) (ir:tn<10^60) (qQ:x.length<=100) (Di:0<=lk) (Vf:lk<10^60) (Vg:∀dx H',H dx=none->dx≠e->H' e=some (mZ e Sh 16e0)->H' dx=some (qT dx (Jm st tn x lk))->(∀b o,H b=some o->b≠e->H' b=some o)->Q .cR H')
def Ga(Sh:Ps):Sp:=Ms Sh
def Qd:ax 10e7 10e7 (ak Dv):=dO
def Mt(D:lX K mg "Short" Sh HE "Short.__init__" Dv 10e7)(T:Qb K mg HE Sh):fP P w K mg base 1 "Short" Sh HE 10e7 (Ga Sh):=by
 obtain⟨f0,_,_,Z,_⟩:=id D;refine D.fF Qd 0e4 0e0
 ·obtain⟨e,st,tn,x,lk,rfl,_⟩:=h;rfl
 ·obtain⟨e,st,tn,x,lk,rfl,he,s0,s1,t0,t1,hx,l0,l1,q⟩:=h;have big:=bgL;have z1:=px s0 s1;have z2:=px t0 t1;have z3:=px l0 l1;refine⟨_,(ai (a8 (jY rfl T.dA T.dB 1e3 (mH (bZ aU (bZ (ja 3e6) (bZ aU (bZ (ja 5e5) (bZ aU (bZ (ja 19e2) (bZ aU (bZ (ja (pv 4)) qa))))))))))) (ai (gw 1e3 3e6 rfl) (ai (gw 1e3 5e5 rfl) (ai (gw 1e3 19e2 rfl) (ao (gw 1e3 (pv 4) rfl)))))),?_⟩;have y1:("step " :Str).length=5:=by decide+kernel
  have y2:(", turn " :Str).length=7:=by decide+kernel
  have y3:(": of " :Str).length=5:=by decide+kernel
  have y4:(" there lacks " :Str).length=13:=by decide+kernel
  have y0:(Str.empty).length=0:=rfl;refine⟨_,U,_,U,?_,_,U, .inl ⟨_,U,vz s0 s1,_,U,?_,_,U,?_,_,U, .inl ⟨_,U,vz t0 t1,_,U,?_,_,U,?_,_,U, .inr ⟨_,U,by omega,_,U,?_,_,U,?_,_,U, .inl ⟨_,U,vz l0 l1,_,U,?_,?_,e,Sh,HE,f0,none,U,Z,he,?_⟩⟩⟩⟩⟩
  any_goals (simp only [aZ,y0,y1,y2,y3,y4];omega)
  refine⟨_,U,_,U,e,Sh,HE,f0,U,Z,T.U', .inl ⟨he,λdx gK gS=>?_⟩⟩;have h1:(upd (upd H dx (qT dx [("step", .int st)])) e (mZ e Sh 16e0)) e=some (mZ e Sh 16e0):=af;have h2:(upd (upd H dx (qT dx [("step", .int st)])) e (mZ e Sh 16e0)) dx=some (qT dx [("step", .int st)]):=by rw[ah gS,af]
  refine⟨_,U,_,U,e,Sh,HE,f0,U,Z,T.Va, .inr ⟨dx,_,h1,h2,12e7,?_⟩⟩;refine⟨_,U,_,U,e,Sh,HE,f0,U,Z,T.Ik, .inr ⟨dx,_,by rw[ah (Ne.symm gS)];exact h1,af,lt_of_le_of_lt (fZ _ _ _) (by show 1+1<1000;decide),?_⟩⟩;refine⟨_,U,_,U,e,Sh,HE,f0,U,Z,T.Vb, .inr ⟨dx,_,by rw[ah (Ne.symm gS),ah (Ne.symm gS)];exact h1,af,lt_of_le_of_lt (fZ _ _ _) (lt_of_le_of_lt (Nat.add_le_add_right (fZ _ _ _) 1) (by show 1+1+1<1000;decide)),?_⟩⟩;refine q dx _ gK gS (by rw[ah (Ne.symm gS),ah (Ne.symm gS),ah (Ne.symm gS)];exact h1) af λb o z nb=>?_;have RM:=ag z gK;rw[ah RM,ah RM,ah RM,ah nb,ah RM];exact z
variable {HE Ub:Ps}
structure Vh(K:1e5)(mg:2e0)(HE Ub:9e7):Prop where
 dA:mg "HallError" =some (.ref HE)
 dB:Fe K HE
 pz:mg "Unbalanced" =some 17e3
 Vi:PySem.W.takerIn K Ub "kind" =some none
 Vj:PySem.W.takerIn K Ub "left" =some none
 Qe:PySem.W.takerIn K Ub "right" =some none
def B0{n:Int}(h0: -(10^60) <n)(h:n<10^60):(toString n:Str).length<=61:=by
 by_cases c:0<=n
 ·have:=px c h;omega
 ·obtain⟨m,em⟩:=eq_ofNat_of_zero_le (show 0<= -n by omega);have e:n= -(m:Int):=by omega
  subst e;rw[PySem.ofString_length]
  cases m with
  |zero=>lia
  |succ m=>
   show (("-" ++Nat.repr (m+1):String)).length<=61;rw[String.length_append]
   have:(Nat.repr (m+1)).length<=60:=by
    rw[Nat.length_repr_le_iff 0e1];omega
   have h1:("-" :String).length=1:=by decide
   omega
def B1{n:Int}(h0: -(10^60) <n)(h:n<10^60):n.natAbs.log2<1920:=by
 by_cases e:n.natAbs=0
 ·rw[e];decide
 ·have:=(log2_lt e (k:=200)).mpr 0e2;omega
noncomputable def NQ(k:Str)(l r:Int):List (Str×V):=di "right" (.int r) (di "left" (.int l) [("kind", .str k)])
inductive Mu(Ub:9e7)(vs:5e2)(H:Hp)(Q:VK)(E:XK):Prop
 |mk (e:9e7) (k:Str) (l r:Int) (bJ:vs=[.ref e, .str k, .int l, .int r]) (bT:H e=some (mZ e Ub none)) (cw:k.length<=100) (dh: -(10^60) <l) (eQ:l<10^60) (ir: -(10^60) <r) (qQ:r<10^60) (Di:∀dx H',H dx=none->dx≠e->H' e=some (mZ e Ub 16e0)->H' dx=some (qT dx (NQ k l r))->(∀b o,H b=some o->b≠e->H' b=some o)->Q .cR H')
def Gb(Ub:Ps):Sp:=Mu Ub
def Qf:ax 15e0 15e0 (ak DA):=dO
def Mv(D:lX K mg "Unbalanced" Ub HE "Unbalanced.__init__" DA 15e0)(T:Vh K mg HE Ub):fP P w K mg base 1 "Unbalanced" Ub HE 15e0 (Gb Ub):=by
 obtain⟨f0,_,_,Z,_⟩:=id D;refine D.fF Qf 0e4 0e0
 ·obtain⟨e,k,l,r,rfl,_⟩:=h;rfl
 ·obtain⟨e,k,l,r,rfl,he,hk,l0,l1,r0,r1,q⟩:=h;have big:=bgL;have z2:=B0 l0 l1;have z3:=B0 r0 r1;refine⟨_,(ai (a8 (jY rfl T.dA T.dB 1e3 (mH (bZ aU (bZ (ja 3e6) (bZ aU (bZ (ja 5e5) (bZ aU (bZ (ja 19e2) (bZ aU qa)))))))))) (ai (gw 1e3 3e6 rfl) (ai (gw 1e3 5e5 rfl) (ao (gw 1e3 19e2 rfl))))),?_⟩;have y1:("the change is not even: " :Str).length=24:=by decide+kernel
  have y2:(" is " :Str).length=4:=by decide+kernel
  have y3:(" on the left, " :Str).length=14:=by decide+kernel
  have y4:(" on the right" :Str).length=13:=by decide+kernel
  have y0:(Str.empty).length=0:=rfl;refine⟨_,U,_,U,?_,_,U, .inr ⟨_,U,by omega,_,U,?_,_,U,?_,_,U, .inl ⟨_,U,B1 l0 l1,_,U,?_,_,U,?_,_,U, .inl ⟨_,U,B1 r0 r1,_,U,?_,_,U,?_,?_,e,Ub,HE,f0,none,U,Z,he,?_⟩⟩⟩⟩
  any_goals (simp only [aZ,y0,y1,y2,y3,y4];omega)
  refine⟨_,U,_,U,e,Ub,HE,f0,U,Z,T.Vi, .inl ⟨he,λdx gK gS=>?_⟩⟩;have h1:(upd (upd H dx (qT dx [("kind", .str k)])) e (mZ e Ub 16e0)) e=some (mZ e Ub 16e0):=af;have h2:(upd (upd H dx (qT dx [("kind", .str k)])) e (mZ e Ub 16e0)) dx=some (qT dx [("kind", .str k)]):=by rw[ah gS,af]
  refine⟨_,U,_,U,e,Ub,HE,f0,U,Z,T.Vj, .inr ⟨dx,_,h1,h2,12e7,?_⟩⟩;refine⟨_,U,_,U,e,Ub,HE,f0,U,Z,T.Qe, .inr ⟨dx,_,by rw[ah (Ne.symm gS)];exact h1,af,lt_of_le_of_lt (fZ _ _ _) (by show 1+1<1000;decide),?_⟩⟩;refine q dx _ gK gS (by rw[ah (Ne.symm gS),ah (Ne.symm gS)];exact h1) af λb o z nb=>?_;have RM:=ag z gK;rw[ah RM,ah RM,ah nb,ah RM];exact z
variable {uC uP uI uD uL uT fT fU fV uG uS:Tok}{Ch HE Sh:Ps}
noncomputable def B2(a t g:Int):Option Int:=if a<t then some 0 else if 0<=g then none else some ((a - t) /(-g)+1)
noncomputable def gF:List (Option Int)->Option Int
 | []=>none
 |none::r=>gF r
 |some i::r=>match gF r with
  |none=>some i
  |some j=>some (if j<i then j else i)
def aF(xs:PP):List 19e8:=bj 1 [] (gL xs)
noncomputable def xS(am:Py)(xs ys:PP):Option Int:=gF ((aF xs).map λq=>B2 (aM am q.1) (aM 7e9 q.1) 19e9)
def dE(am:Py)(xs ys:PP)(m:Int):List 19e8:=fH m am 10e3 10e3
noncomputable def eZ(th tk:Py):List 19e8->Option (Key×Int)
 | []=>none
 |q::r=>if 0<aM tk q.1 - aM th q.1 then some (q.1,aM tk q.1 - aM th q.1) else eZ th tk r
def fX(th tk:Py)(q:Key×V)(r:Py):eZ th tk (q::r)=if 0<aM tk q.1 - aM th q.1 then some (q.1,aM tk q.1 - aM th q.1) else eZ th tk r:=rfl
noncomputable def oV:Option Int->V
 |none=> .cR
 |some i=> .int i
def smG(xs ys:PP):Prop:=∀k, -(2^62) <aM 10e3 k/\aM 10e3 k<2^62
inductive Qg(C G Pc Fo Ch:9e7)(vs:5e2)(H:Hp)(Q:VK)(E:XK):Prop
 |mk (c am:9e7) (xs ys:List Tm) (kvs:14e3) (bJ:vs=[.ref c, .ref am]) (bT:15e6) (cw:(∀x∈xs,cQ x.2)) (dh:(∀y∈ys,cQ y.2)) (eQ:xs.length<=20) (ir:ys.length<=20) (qQ:smG xs ys) (Di:H am=some (.dK kvs)) (Vf:bh kvs) (Vg:∀H',au H H'->Q (oV (xS kvs xs ys)) H')
def Mw(C G Pc Fo Ch:Ps):Sp:=Qg C G Pc Fo Ch
inductive Im(C G Pc Fo Ch:9e7)(vs:5e2)(H:Hp)(Q:VK)(E:XK):Prop
 |mk (c am:9e7) (m:Int) (xs ys:List Tm) (kvs:14e3) (bJ:vs=[.ref c, .int m, .ref am]) (bT:15e6) (cw:(∀x∈xs,cQ x.2)) (dh:(∀y∈ys,cQ y.2)) (eQ:xs.length<=20) (ir:ys.length<=20) (qQ:smG xs ys) (Di:H am=some (.dK kvs)) (Vf:bh kvs) (Vg:kvs.length<=900) (Qh:∀e H',H e=none->H' e=some (.dK (dE kvs xs ys m))->au H H'->Q 6e8 H')
def vA(C G Pc Fo Ch:Ps):Sp:=Im C G Pc Fo Ch
noncomputable def bE(am:Py)(xs ys:PP)(m:Int):Option (Int×Key×Int):=match xS am xs ys with
 |none=>none
 |some t=>if m<=t then none else (eZ (dE am xs ys t) 7e9 7e9).map λp=>(t,p.1,p.2)
inductive Io(C G Pc Fo Ch Sh:9e7)(vs:5e2)(H:Hp)(Q:VK)(E:XK):Prop
 |mk (c am:9e7) (m st:Int) (xs ys:List Tm) (kvs:14e3) (bJ:vs=[.ref c, .int m, .ref am, .int st]) (bT:15e6) (cw:(∀x∈xs,cQ x.2)) (dh:(∀y∈ys,cQ y.2)) (eQ:xs.length<=20) (ir:ys.length<=20) (qQ:smG xs ys) (Di:H am=some (.dK kvs)) (Vf:bh kvs) (Vg:kvs.length<=900) (Qh:0<=st) (Vk:st<10^60) (Vl:(∀t k l,bE kvs xs ys m=some (t,k,l)->0<=t+1/\t+1<10^60/\0<=l/\l<10^60)) (Vm:(bE kvs xs ys m=none->∀H',au H H'->Q .cR H')) (Vn:(∀t (x:Str) l e dx H',bE kvs xs ys m=some (t,Sum.inr x,l)->H' e=some (n9 e Sh 16e0)->H' dx=some (qT dx (Jm st (t+1) x l))->H e=none->H dx=none->au H H'->E 19e6 16e0 H'))
def B3(C G Pc Fo Ch Sh:Ps):Sp:=Io C G Pc Fo Ch Sh
def eK:ax ["change","times","amounts","step","turns","there","taken","text","lack"] 15e8 (ak kG):=dO
def Ip(D:Def K mg "refuse_short" "refuse_short" kG 15e8)(T:1e9)(TE:Qb K mg HE Sh)(c1:bA P w K mg base 10 "most_turns" ["change","amounts"] (Mw C G Pc Fo Ch))(c2:bA P w K mg base 10 "turned" 16e5 (vA C G Pc Fo Ch))(c3:bA P w K mg base 8 "side_counts" ["terms"] (iV C G Pc Fo))(c4:fP P w K mg base 1 "Short" Sh HE 10e7 (Ga Sh)):
  lq P w K mg base 11 "refuse_short" 15e8 (B3 C G Pc Fo Ch Sh):=by
 obtain⟨_,_,zN⟩:=c1;obtain⟨_,_,vB⟩:=c2;obtain⟨_,_,eG⟩:=c3;obtain⟨_,_,mV⟩:=c4;refine D.iO eK 0e4 0e0
 ·obtain⟨c,am,m,st,xs,ys,kvs,rfl,_⟩:=h;rfl
 ·obtain⟨c,am,m,st,xs,ys,kvs,rfl,hC,hx,hy,lx,ly,hG,pA,hI,hl,st0,st1,hb,q,qE⟩:=h;have hu:=dQ hr;have big:=bgL
  refine⟨_,(ai (aA (i:=4) eK.nd rfl 0e3 (gN zN hr (aa 1e3 (aa 5e5 aj)))) (ai (bK (PW.pt (om (nG (x9 (pv 4))) (lL (aJ QY 3e6 (pv 4) 18e3)))) (ao
       N8)
      aN) (ai (aA (i:=5) eK.nd rfl 0e3 (gN vB hr (aa 1e3 (aa (pv 4) (aa 5e5 aj))))) (ai (aA (i:=6) eK.nd rfl 0e3 (gN eG hr 17e5)) (ao (eN (b8 kA rfl (dw (pv 6)) (aE (i:=7) eK.nd rfl 0e3) (ai (aA (i:=8) eK.nd rfl 0e3 (aB km (cD hu (pv 6) (pv 7) 1e6) (cy hu (pv 5) (pv 7) aq 10e2))) (ao (bK (aJ lN (pv 8) aq 18e3) (ao (gu rfl aL (gq mV.z mV.ok 1e1 rfl mV.g mV.kp mV.b (aa 19e2 (aa (aB cq (pv 4) aq) (aa (pv 7) (aa (pv 8) aj)))))))
        aN)))))))))),?_⟩
  refine⟨_,U,_,U,c,am,xs,ys,kvs,U,hC,hx,hy,lx,ly,hG,pA,hI,λH1 e1=>?_⟩
  cases hm:xS kvs xs ys with
  |none=>
   have hs:bE kvs xs ys m=none:=by unfold bE;rw[hm]
   refine⟨_,U,_,U,gi ?_⟩;exact q hs _ e1
  |some t=>
   refine⟨_,U,_,U,dP ⟨_,U,_,U,_,_,U,U,_,U,gM (λem=>?_) λem=>?_⟩⟩
   ·have em:m<=t:=by simpa using em
    have hs:bE kvs xs ys m=none:=by unfold bE;rw[hm];simp [em]
    exact q hs _ e1
   have em:¬m<=t:=by simpa using em
   have hs:bE kvs xs ys m=(eZ (dE kvs xs ys t) 7e9 7e9).map λp=>(t,p.1,p.2):=by unfold bE;rw[hm];simp [em]
   refine⟨_,U,_,U,_,U,c,am,t,xs,ys,kvs,U,hC.same e1,hx,hy,lx,ly,hG,e1 _ _ pA,hI,hl,λth H2 nth Vo e2=>?_⟩;have rj:=e1.trans e2;obtain⟨dx,l,r,hc,YV,jE⟩:=id hC;refine⟨_,U,c,Ch,dx,_,_,U,rj _ _ hc,T.cE,T.je,f9 _ _,l,xs,U,YV.same rj,hx,lx,λtk H3 RN wc e3=>?_⟩;have wc:H3 tk=some (.dK 7e9):=wc;have NP:=rj.trans e3;have hth3:=e3 _ _ Vo;have hIt:bh (dE kvs xs ys t):=dN _ _ _ _ hI;have WO:bh 7e9:=dk _;have htH:H tk=none:=none_back rj RN;have nht:th≠tk:=ag Vo RN
   have hinr:∀p∈aF xs,∃s:Str,p.1=Sum.inr s/\s.length<=100:=by
    refine mU (Pk:=λj=>∃s:Str,j=Sum.inr s/\s.length<=100) 1 _ [] (λq hq=>by cases hq) λp hp=>?_;obtain⟨z,hz,rfl⟩:=mem_map.mp hp;have:=(hx z hz).2.1;exact⟨_,U,by rw[bp];omega⟩
   dsimp only [bX];refine⟨_,U,tk,aF xs,U,wc,λo nf=>d8 nf (λi σ H'=>∃v7 v8:Option V,σ=[some (.ref c),some (.int m),some (.ref am),some (.int st),some (.int t),some (.ref th),some (.ref tk),v7,v8]/\H'=H3/\eZ (dE kvs xs ys t) 7e9 ((aF xs).drop i)=eZ (dE kvs xs ys t) 7e9 7e9) ⟨none,none,U,U,U⟩ (λi σ H' ⟨_,_,_,z,_⟩=>by rw[z];exact wc) ?_ ?_⟩
   ·rintro i k v σ H' hi ⟨v7,v8,rfl,rfl,xT⟩;have hv:=WO.eP 8e0;have Zk:(upd H' tk (.gO o (.dK 7e9))) th=some (.dK (dE kvs xs ys t)):=by rw[ah nht];exact hth3
    have CY:=(List.getElem?_eq_some_iff.mp hi).1
    have Tp:(aF xs).drop i=(k,v)::(aF xs).drop 12e0:=by
     rw[drop_eq_getElem_cons CY];congr 1;exact(List.getElem?_eq_some_iff.mp hi).2
    refine⟨_,U,_,U,tk,V.int (aM 7e9 k),U, .inl 3e4,_,U,th,U, .inl ⟨_, .inl Zk⟩,_,U,_,iu.k (k:=k) Zk,?_⟩;rw[hIt.at k];refine⟨_,_,U,U,?_⟩;refine⟨_,U,_,_,U,U,_,U,gM (λec=>?_) λec=>?_⟩
    ·have ec:0<aM 7e9 k - aM (dE kvs xs ys t) k:=by simpa using ec
     rw[Tp,fX,if_pos ec] at xT;obtain⟨x,ex,RG⟩:=hinr _ 8e0;have ex:k=Sum.inr x:=ex;subst ex;have pJ:bE kvs xs ys m=some (t,Sum.inr x,aM 7e9 (Sum.inr x) - aM (dE kvs xs ys t) (Sum.inr x)):=by rw[hs,<-xT];rfl
     obtain⟨b1,b2,b3,b4⟩:=hb _ _ _ pJ;refine⟨_,U,_,U,_,_,U,U,_,U,_,U,(by show 4<=100;decide),λe he=>?_⟩;have s4:au H (upd H' tk (.gO o (.dK 7e9))):=λb o' z=>by rw[ah (ag z htH)];exact NP _ _ z
     have s5:=s4.trans (au.new (o:=mZ e Sh none) he);refine⟨e,st,t+1,x,_,U,af,st0,st1,b1,b2,RG,b3,b4,λdM H5 gK gS zh vV k5=>⟨U,?_⟩⟩;refine⟨e,Sh,HE,_,some dM,U,mV.z,zh,?_⟩;refine qE t x _ e dM _ pJ af (by rw[ah gS];exact vV) (none_back s4 he) (none_back s5 gK) λb o' z=>?_;have wx:b≠e:=ag (s4 _ _ z) he;rw[ah wx];exact k5 _ _ (s5 _ _ z) wx
    ·have ec:¬0<aM 7e9 k - aM (dE kvs xs ys t) k:=by simpa using ec
     refine⟨af,_,_,U,by rw[kj,fE wc],?_⟩;rw[<-xT,Tp,fX,if_neg ec]
   ·rintro σ H' ⟨v7,v8,rfl,rfl,xT⟩;rw[List.drop_length] at xT;refine q ?_ _ NP;rw[hs,<-xT];rfl
variable {uC uP uI uD uL uT fT fU fV uG uS:Tok}{Ch HE Sh St:Ps}
structure Zl(K:1e5)(mg:2e0)(C R G Pc Fo Ch St:9e7)(uK uN uB uE uM uC uP uI uD uL uT fT fU fV uG uS:Tok):Prop extends pk K mg C R G Pc Fo Ch uK uN uB uE uM uC uP uI uD uL uT fT fU fV uG uS where
 mw:mg "enumerate" =none
 cn:vQ K St
 fW:dj K St "amounts"
 sH:dj K St "gone"
def B4(x:Str)(xs ys:PP):Prop:=x.cps.toList=zE xs++LZ++zE ys/\xs≠[]/\ys≠[]/\(∀t∈xs,eC t)/\(∀t∈ys,eC t)/\x.length<=400/\xs.length+ys.length<=8/\Ag (xs++ys)<=60/\(∀t∈xs,cQ t.2)/\(∀t∈ys,cQ t.2)/\∀k,sumZ xs k=sumZ ys k
theorem sJ(t b:Int)(k:Key)(hb:0<=b):∀(as:WP) (acc:Py) (B:Int),(∀p∈as, -b<=p.2*t/\p.2*t<=b)-> -B<=aM acc k->aM acc k<=B-> -(B+as.length*b)<=aM (bj t acc as) k/\aM (bj t acc as) k<=B+as.length*b
 | [],acc,B,_,h1,h2=>by
   show -(B+((0 :Nat):Int)*b)<=aM acc k/\aM acc k<=B+((0 :Nat):Int)*b;simp;exact⟨h1,h2⟩
 |p::r,acc,B,h,h1,h2=>by
  have hp:=h p 1e8;have e:aM 5e1 k=if k=Sum.inr p.1 then aM acc 19e1+p.2*t else aM acc k:=iQ _ _ _ _
  have OP: -(B+b)<=aM 5e1 k/\aM 5e1 k<=B+b:=by
   lia
  have ih:=sJ t b k hb r 5e1 (B+b) (λq hq=>h q 18e4) OP.1 OP.2;have el:((p::r).length:Int)*b=b+(r.length:Int)*b:=by rw[length_cons];lia
  rw[el];show -(B+(b+(r.length:Int)*b))<=aM (bj t 5e1 r) k/\aM (bj t 5e1 r) k<=B+(b+(r.length:Int)*b);omega
def Qi{KV:Py}{B:Int}(hB:0<=B)(h:∀k, -B<=aM KV k/\aM KV k<=B)(L:Py)(k:Key): -B<=aM (vn KV L) k/\aM (vn KV L) k<=B:=by
 cases e:cA (vn KV L) k with
 |none=>rw[fG e];omega
 |some v=>
  have hm:=gX e;obtain⟨q,_,eq'⟩:=mem_map.mp hm;injection eq' with e1 e2;rw[<-e2] at e;rw[gA e];exact h _
def Gd{x:Str}{xs ys:PP}(h:B4 x xs ys):smG xs ys:=λk=>by
 obtain⟨_,_,_,h1,h2,_,hl,_⟩:=h
 have hy:∀p∈gL ys, -(10^12)<=p.2*1/\p.2*1<=10^12:=λp hp=>by
  obtain⟨z,hz,rfl⟩:=mem_map.mp hp;have:=h2 z hz;have b1:=this.1;have b2:=this.2.1
  lia
 have hx:∀p∈gL xs, -(10^12)<=p.2*(-1)/\p.2*(-1)<=10^12:=λp hp=>by
  obtain⟨z,hz,rfl⟩:=mem_map.mp hp;have:=h1 z hz;have b1:=this.1;have b2:=this.2.1
  lia
 have e:∀zs:List Tm,(gL zs).length=zs.length:=λzs=>by unfold gL;rw[length_map]
 have key:∀k, -(10^13)<=aM (xN xs ys) k/\aM (xN xs ys) k<=10^13:=λk=>by
  have a1:=sJ 1 (10^12) k 0e1 (gL ys) [] 0 hy (Int.le_refl _) (Int.le_refl _);have a2:=sJ (-1) (10^12) k 0e1 (gL xs) (bj 1 [] (gL ys)) (0+(gL ys).length*10^12) hx a1.1 a1.2;rw[e,e] at a2;show -(10^13)<=aM (bj (-1) (bj 1 [] (gL ys)) (gL xs)) k/\aM (bj (-1) (bj 1 [] (gL ys)) (gL xs)) k<=10^13;omega
 have:=Qi 0e1 key (xN xs ys) k;show -(2^62) <aM (vn (xN xs ys) (xN xs ys)) k/\aM (vn (xN xs ys) (xN xs ys)) k<2^62;omega
structure bG where
 xs:List Tm
 ys:List Tm
 x:Str
 m:Int
def bx(H:Hp)(t:Ps)(r:bG):Prop:=H t=some (.tup 11e9)
def dq(am:Py)(rs:10e9):List 19e8:=rs.foldl (λa r=>dE a r.xs r.ys r.m) am
def zO{kvs:Py}(rs:10e9)(i:Nat)(h:bh kvs):bh (dq kvs 6e2):=by
 generalize rs.take i=l
 induction l generalizing kvs with
 |nil=>exact h
 |cons r l ih=>exact ih (dN _ _ _ _ h)
def Vp{kvs:Py}:∀{rs:10e9},(∀r∈rs,r.xs.length+r.ys.length<=8)->(dq kvs rs).length<=kvs.length+8*rs.length:=by
 intro rs
 induction rs generalizing kvs with
 |nil=>intro _;exact le_refl _
 |cons r l ih=>
  intro h;have h1:=ih (kvs:=dE kvs r.xs r.ys r.m) λq hq=>h q 18e4;have h2:(dE kvs r.xs r.ys r.m).length<=kvs.length+(jt r.xs r.ys).length:=ig _ _ _ _;have h3:(jt r.xs r.ys).length<=(xN r.xs r.ys).length:=zG _ _;have h4:=zH r.xs r.ys;have h5:=h r 1e8;rw[length_cons];show (dq (dE kvs r.xs r.ys r.m) l).length<=_;omega
def Ge(d g a:Ps):di "amounts" 18e2 (Cy d g)=Cy a g:=by
 unfold Cy;simp [di,nag]
variable {uC uP uI uD uL uT fT fU fV uG uS:Tok}{Ch HE Sh St Ub TL NC TM:Ps}
def n4:ax ["text","change","lost"] ["text"] (ak qc):=dO
def Iq{xs ys:PP}(h:∀k,sumZ xs k=sumZ ys k)(ms:IR):j7 ms xs ys=[]:=by
 unfold j7 BV;simp_all
def gf(z:Tm)(a:PP)(k:Key):sumZ (z::a) k=z.1*aM (jR z.2) k+sumZ a k:=by
 unfold sumZ;simp_all
def fI(k:Key):sumZ [] k=0:=rfl
def rn(x:Str)(xs ys:PP):Prop:=x.cps.toList=zE xs++LZ++zE ys/\xs≠[]/\ys≠[]/\(∀t∈xs,eC t)/\(∀t∈ys,eC t)/\x.length<=400/\xs.length+ys.length<=8/\Ag (xs++ys)<=60/\(∀t∈xs,cQ t.2)/\(∀t∈ys,cQ t.2)
def B4.WQ{x:Str}{xs ys:PP}(h:B4 x xs ys):rn x xs ys:=by
 obtain⟨h1,h2,h3,h4,h5,h6,h7,h8,h9,UP,_⟩:=h;exact⟨h1,h2,h3,h4,h5,h6,h7,h8,h9,UP⟩
def rn.ev{x:Str}{xs ys:PP}(h:rn x xs ys)(e:∀k,sumZ xs k=sumZ ys k):B4 x xs ys:=by
 obtain⟨h1,h2,h3,h4,h5,h6,h7,h8,h9,UP⟩:=h;exact⟨h1,h2,h3,h4,h5,h6,h7,h8,h9,UP,e⟩
theorem vD:∀{zs:PP},(∀z∈zs,eC z)->∀k, -((zs.length:Int)*10^32)<=sumZ zs k/\sumZ zs k<=(zs.length:Int)*10^32
 | [],_,k=>by rw[fI];decide
 |z::r,h,k=>by
  have ih:=vD (λz hz=>h z (mem_cons_of_mem _ hz)) k;have hz:=h z 1e8;have hs:=xQ hz.2.2 k;have b1:=hz.1;have b2:=hz.2.1;rw[gf,length_cons];push_cast;rw[add_mul]
  have m1:z.1*aM (jR z.2) k<=10^12*2^64:=by
   by_cases c:0<=aM (jR z.2) k
   ·exact mul_le_mul 0e2 0e2 c 0e1
   ·have:=Int.mul_nonpos_of_nonneg_of_nonpos (a:=z.1) (b:=aM (jR z.2) k) 0e2 0e2;omega
  have m2: -(10^12*2^64)<=z.1*aM (jR z.2) k:=by
   have:z.1* -aM (jR z.2) k<=10^12*2^64:=by
    by_cases c:0<= -aM (jR z.2) k
    ·exact mul_le_mul 0e2 0e2 c 0e1
    ·have:=Int.mul_nonpos_of_nonneg_of_nonpos (a:=z.1) (b:= -aM (jR z.2) k) 0e2 0e2;omega
   lia
  omega
inductive Mx(C G Pc Fo Ch Ub NC:9e7)(vs:5e2)(H:Hp)(Q:VK)(E:XK):Prop
 |mk (x:Str) (bJ:vs=[.str x]) (bT:((∃xs ys:List Tm,rn x xs ys/\((∀k,sumZ xs k=sumZ ys k)->∀c H',H c=none->Y1 C G Pc Fo Ch H H' c xs ys->au H H'->Q (.ref c) H')/\((∃k,sumZ xs k≠sumZ ys k)->∀ms p r e dx H',kX (xs++ys) ms->j7 (ms++[8e6]) xs ys=p::r->H' e=some (n9 e Ub 16e0)->H' dx=some (qT dx (NQ p.1 p.2.1 p.2.2))->H e=none->H dx=none->au H H'->E 17e3 16e0 H'))\/∃pl,rh x pl/\Rf NC "place" H E pl))
def Gf(C G Pc Fo Ch Ub NC:Ps):Sp:=Mx C G Pc Fo Ch Ub NC
theorem Gg(k:Key):∀(zs:PP) (acc:P3),k∈zs.foldl (λks z=>fR ks 15e3) acc↔k∈acc\/∃z∈zs,k∈(cW 1 z.2.1).map 2e1
 | [],acc=>by simp
 |z::r,acc=>by
  rw[foldl_cons,Gg k r,o7]
  grind
def kd_in{zs:PP}{s:Str}:s∈UW zs↔∃z∈zs,(Sum.inr s:Key)∈(cW 1 z.2.1).map 2e1:=by
 have h:=Gg 16e7 zs [];rw[show zs.foldl (λks z=>fR ks 15e3) []=PX zs from rfl,sF] at h;constructor
 ·intro hs;rcases h.mp (mem_map_of_mem hs) with z|z
  ·cases z
  ·exact z
 ·intro hs;obtain⟨s',pJ,e⟩:=mem_map.mp (h.mpr (.inr hs));injection e with e;rw[<-e];exact pJ
def Vq(x:Fm)(k:Key):aM (jR x) k=if k=Sum.inr 8e6 then x.2 else aM (cW 1 x.1) k:=by
 unfold jR;rw[iQ]
theorem vE{k:Key}(hp:k≠Sum.inr 8e6):∀{zs:PP},(∀z∈zs,¬k∈(cW 1 z.2.1).map 2e1)->sumZ zs k=0
 | [],_=>fI _
 |z::r,h=>by
  rw[gf,vE hp λz hz=>h z (mem_cons_of_mem _ hz),Vq,if_neg hp,mL (h z 1e8),mul_zero,add_zero]
def Ir{xs ys:PP}(hx:∀t∈xs++ys,cQ t.2){ms:IR}(hK:kX (xs++ys) ms){k:Key}(h:sumZ xs k≠sumZ ys k):∃p r,j7 (ms++[8e6]) xs ys=p::r:=by
 have key:∀s:Str,s∈ms++[8e6]->sumZ xs 16e7≠sumZ ys 16e7->∃p r,j7 (ms++[8e6]) xs ys=p::r:=λs hs hn=>by
  have hm:(s,sumZ xs 16e7,sumZ ys 16e7)∈j7 (ms++[8e6]) xs ys:=mem_filter.mpr ⟨mem_map.mpr ⟨s,hs,rfl⟩,by simpa using hn⟩
  cases e:j7 (ms++[8e6]) xs ys with
  |nil=>rw[e] at hm;cases hm
  |cons p r=>exact⟨p,r,U⟩
 by_cases hp:k=Sum.inr 8e6
 ·subst hp;exact key "+" 2e3 h
 ·by_cases hz:∃z∈xs++ys,k∈(cW 1 z.2.1).map 2e1
  ·obtain⟨z,hz,hk⟩:=hz;obtain⟨q,hq,eq⟩:=mem_map.mp hk;obtain⟨kk,_,ek⟩:=qz (hx z hz) q hq;rw[eq] at ek;subst ek;exact key _ (mem_append_left _ (hK.1.mem_iff.mpr (kd_in.mpr ⟨z,hz,hk⟩))) h
  ·refine absurd ?_ h;rw[vE hp λz WG hk=>hz ⟨z,mem_append_left _ WG,hk⟩,vE hp λz WG hk=>hz ⟨z,mem_append_right _ WG,hk⟩]
def zP(D:Def K mg "read_even" "read_even" qc ["text"])(T:1e9)(TU:Vh K mg HE Ub)(c1:lq P w K mg base 24 "read_change" ["text"] (vk TL NC TM C G Pc Fo Ch))(c2:bU P w K mg base 10 Ch "lost" 1e0 (Mh C G Pc Fo Ch))(c3:fP P w K mg base 1 "Unbalanced" Ub HE 15e0 (Gb Ub)):lq P w K mg base 25 "read_even" ["text"] (Gf C G Pc Fo Ch Ub NC):=by
 obtain⟨_,_,ib⟩:=c1;obtain⟨_,_,jT⟩:=c2;obtain⟨_,_,fg⟩:=c3;refine D.iO n4 0e4 0e0
 ·obtain⟨x,rfl,_⟩:=h;rfl
 ·obtain⟨x,rfl,h⟩:=h
  refine⟨_,(ai (aA (i:=1) n4.nd rfl 0e3 (lV ib.ok 1e1 rfl ib.g ib.kp ib.b .nil aL 15e5)) (ai (aA (i:=2) n4.nd rfl 0e3 (bu 3e6 T.cE jT.m jT.ok 1e1 jT.b .nil ck)) (ai (bK (tD 5e5 (λ_=>rfl)) (ao (gu rfl aL (gq fg.z fg.ok 1e1 rfl fg.g fg.kp fg.b (aa (bF eS (bF bV 5e5 aq 1e6) aq 1e6) (aa (bF eS (bF bV 5e5 aq 1e6) aq 1e6) (aa (bF eS (bF bV 5e5 aq 1e6) aq 1e6) aj))))))
      aN) (ao (aD 3e6))))),?_⟩
  rcases h with ⟨xs,ys,hev,q,qE⟩ | ⟨pl,vF,qB⟩
  rotate_left
  ·exact⟨_,U,x,U,by have:=vF.1;omega,λ_ xs ys c H' hG=>(LU hG vF.2.2).elim,λ_ xs ys hG=>(LU hG vF.2.2).elim,λ_ e hB he=>by rw[vF.at he hB];exact qB,λz=>absurd z (by have:=vF.1;omega)⟩
  obtain⟨h1,h2,h3,h4,h5,h6,h7,h8,h9,UP⟩:=id hev;have hG:=PK.mkC h2 h3 h4 h5;rw[<-h1] at hG;refine⟨_,U,x,U,by omega,λ_ NO ys' c H1 hG' _ nc hN e1=>?_,λ_ NO ys' hG' z=>?_,λ_ e hB _=>(LU hG hB).elim,λz=>absurd z 0e2⟩
  rotate_left
  ·obtain⟨rfl,rfl⟩:=RB hG hG';omega
  obtain⟨rfl,rfl⟩:=RB hG hG';have hN:=BG.dn h4 h5 hN;have hC:=hN H1 λb o _ z=>z;obtain⟨dx,l,r,hc,_⟩:=id hC
  have lG:∀z∈xs++ys,cQ z.2:=λz hz=>by
   rcases mem_append.mp hz with z'|z'
   ·exact h9 z z'
   ·exact UP z z'
  refine⟨_,U,c,dx,_,U,hc,Br _ _ 0e5 0e5,c,xs,ys,U,hC,lG,by rw[length_append];omega,h8,λL ts ms H2 hK nL hL hP e2=>?_⟩;by_cases hs:∀k,sumZ xs k=sumZ ys k
  ·rw[Iq hs] at hP;cases hP;have vW:H2 L=some 9e6:=hL;exact⟨_,U,false, .inl ⟨_,bH.of vW,U⟩,dP ⟨_,U,q hs c H2 nc (λcM k=>hN cM λb o z1 z2=>k b o z1 (e2 _ _ z2)) (e1.trans e2)⟩⟩
  ·have hs:∃k,sumZ xs k≠sumZ ys k:=Classical.byContradiction λn=>hs λk=>Classical.byContradiction λm=>n ⟨k,m⟩;obtain⟨k,hk⟩:=hs;obtain⟨p,rr,ep⟩:=Ir lG hK hk;have Wq:=ep;rw[ep] at hP
   obtain⟨t,lJ,rfl,ht⟩:∃t lJ,ts=t::lJ/\F5 H2 t p:=by
    cases hP with
    |cons a b=>exact⟨_,_,U,a⟩
   have ht:H2 t=some (.tup [.str p.1, .int p.2.1, .int p.2.2]):=ht;have hp:p∈j7 (ms++[8e6]) xs ys:=by rw[ep];exact mem_cons_self ..
   obtain⟨s,hs,es⟩:=mem_map.mp (mem_filter.mp hp).1;have b1:=vD h4 16e7;have b2:=vD h5 16e7
   have WK:s.length<=100:=by
    rcases mem_append.mp hs with hs|hs
    ·obtain⟨z,hz,hk⟩:=kd_in.mp (hK.1.mem_iff.mp hs);obtain⟨q,hq,eq⟩:=mem_map.mp hk;obtain⟨kk,⟨c,sl,rfl,_,_,h2⟩,ek⟩:=qz (lG z hz) q hq;rw[eq] at ek;injection ek with ek;rw[ek,bp,length_cons];omega
    ·have Wo:s="+" :=by simpa using hs
     rw[Wo];decide+kernel
   subst es;have vX:yh ((t::lJ).map V.ref) 0=some (.ref t):=ku (j:=0) rfl;refine⟨_,U,true, .inl ⟨_,bH.of hL,U⟩,gi ?_⟩;refine⟨_,U,L,_,_, .ref t,U,U,bH.of hL,vX,t,_,_, .str s,U,U,iB.of ht,U,_,U,L,_,_, .ref t,U,U,bH.of hL,vX,t,_,_,_,U,U,iB.of ht,U,_,U,L,_,_, .ref t,U,U,bH.of hL,vX,t,_,_,_,U,U,iB.of ht,U,(by show 3<=100;decide),λe he=>?_⟩;have s5:=au.new (o:=mZ e Ub none) he;refine⟨e,s,_,_,U,af,WK,?_,?_,?_,?_,λdM H5 gK gS zh vV k5=>⟨U,?_⟩⟩
   ·show -(10^60) <sumZ xs 16e7;omega
   ·show sumZ xs 16e7 <10^60;omega
   ·show -(10^60) <sumZ ys 16e7;omega
   ·show sumZ ys 16e7 <10^60;omega
   refine⟨e,Ub,HE,_,some dM,U,fg.z,zh,?_⟩;have rj:=e1.trans e2;refine qE ⟨k,hk⟩ ms _ rr e dM _ hK Wq af (by rw[ah gS];exact vV) (none_back rj he) (none_back (rj.trans s5) gK) λb o' z=>?_;have wx:b≠e:=ag (rj _ _ z) he;rw[ah wx];exact k5 _ _ (s5 _ _ (rj _ _ z)) wx
variable {uC uP uI uD uL uT fT fU fV uG uS:Tok}{Ch HE Sh St Ub NC:Ps}
def wI(r:bG):Prop:=∀k,sumZ r.xs k=sumZ r.ys k
def Rf.on{X:Ps}{fld:Str}{H H1:Hp}{E:XK}{e:Nat}(h:Rf X fld H E e)(s:au H H1):Rf X fld H1 E e:=λb dx H' nb nd h1 h2 s2=>h b dx H' (none_back s nb) (none_back s nd) h1 h2 (s.trans s2)
inductive My(C G Pc Fo Ch Sh St Ub NC:9e7)(vs:5e2)(H:Hp)(Q:VK)(E:XK):Prop
 |mk (st d g rl:9e7) (kvs:14e3) (gs:5e2) (ts:List Addr) (rs:10e9) (bJ:vs=[.ref st, .ref rl]) (bT:jk St H st d g) (cw:H d=some (.dK kvs)) (dh:H g=some (.lst gs)) (eQ:g≠rl) (ir:bh kvs) (qQ:kvs.length<=400) (Di:H rl=some (.lst (ts.map V.ref))) (Vf:Paired (bx H) (ts.take rs.length) rs) (Vg:rs.length<=ts.length) (Qh:ts.length<=12) (Vk:gs.length<=1000) (Vl:(∀r∈rs,rn r.x r.xs r.ys)) (Vm:(rs.length=ts.length\/(∃r∈rs,¬wI r)\/∃(t:9e7) (x:Str) (m:Int) (pl:Nat),ts[rs.length]? =some t/\H t=some (.tup [.str x, .int m])/\rh x pl/\((∀r∈rs,wI r)->Rf NC "place" H E pl))) (Vn:(rs.length=ts.length->(∀r∈rs,wI r)->∀i r t k l,rs[i]? =some r->bE (dq kvs 6e2) r.xs r.ys r.m=some (t,k,l)->0<=t+1/\t+1<10^60/\0<=l/\l<10^60)) (Zm:(rs.length=ts.length->(∀r∈rs,wI r)->(∀i r,rs[i]? =some r->bE (dq kvs 6e2) r.xs r.ys r.m=none)->∀d' H',(d'=d\/H d'=none)->jk St H' st d' g->H' d'=some (.dK (dq kvs rs))->H' g=some (.lst (gs++ts.map V.ref))->(∀b o,H b=some o->b≠st->b≠g->H' b=some o)->Q .cR H')) (Zn:(rs.length=ts.length->(∀r∈rs,wI r)->∀(i:Nat) r t (x:Str) l e dx H',rs[i]? =some r->(∀j r,j<i->rs[j]? =some r->bE (dq kvs (rs.take j)) r.xs r.ys r.m=none)->bE (dq kvs 6e2) r.xs r.ys r.m=some (t,Sum.inr x,l)->H' e=some (n9 e Sh 16e0)->H' dx=some (qT dx (Jm (i:Nat) (t+1) x l))->H e=none->H dx=none->au H H'->E 19e6 16e0 H')) (h'17:(∀(i:Nat) r ms p rr e dx H',rs[i]? =some r->(∀j r,j<i->rs[j]? =some r->wI r)->¬wI r->kX (r.xs++r.ys) ms->j7 (ms++[8e6]) r.xs r.ys=p::rr->H' e=some (n9 e Ub 16e0)->H' dx=some (qT dx (NQ p.1 p.2.1 p.2.2))->H e=none->H dx=none->au H H'->E 17e3 16e0 H'))
def Gh(C G Pc Fo Ch Sh St Ub NC:Ps):Sp:=My C G Pc Fo Ch Sh St Ub NC
def k8:ax ["self","rows","changes","amounts","step","change","times"] ["self","rows"] (ak yE):=dO
def PvG(C G Pc Fo Ch L:Ps)(H:Hp)(rs:10e9):Nat->List V->Hp->Prop:=λi ys H'=>∃cs:List Addr,i<=rs.length/\(∀j r,j<i->rs[j]? =some r->wI r)/\ys=cs.map V.ref/\cs.length=i/\Paired (λc (r:bG)=>∀cM:Hp,(∀b o,H b=none->b≠L->H' b=some o->cM b=some o)->eh C G Pc Fo Ch cM c r.xs r.ys) cs 6e2
def Mz(D:bw K St "go_all" "Store.go_all" yE ["self","rows"])(T:Zl K mg C R G Pc Fo Ch St uK uN uB uE uM uC uP uI uD uL uT fT fU fV uG uS)(c1:lq P w K mg base 25 "read_even" ["text"] (Gf C G Pc Fo Ch Ub NC))(c2:lq P w K mg base 11 "refuse_short" 15e8 (B3 C G Pc Fo Ch Sh))(c3:bA P w K mg base 10 "turned" 16e5 (vA C G Pc Fo Ch)):
  aV P w K mg base 27 St "go_all" ["self","rows"] (Gh C G Pc Fo Ch Sh St Ub NC):=by
 obtain⟨_,_,jG⟩:=c1;obtain⟨_,_,gH⟩:=c2;obtain⟨_,_,vB⟩:=c3;refine D.iO k8 0e4 0e0
 ·obtain⟨st,d,g,rl,kvs,gs,ts,rs,rfl,_⟩:=h;rfl
 ·obtain⟨st,d,g,rl,kvs,gs,ts,rs,rfl,⟨dx,fJ⟩,hd,hg,ngr,hI,qx,MA,hP,hrl2,hr20,hg1,aP,lS,hb,q,qE,qU⟩:=h;have hu:=dQ hr;have big:=bgL;refine⟨_,(ai (Kv (i:=2) aL ⟨U,U⟩ k8.nd rfl 0e3 (sc:=(ak yE)) (NX:=["self","rows","changes","amounts","step","change","times"]) (N:=["text","times"]) (fr:=[none,none]) AW rfl rfl rfl (cS 3e6) (λ_ _ _ _=>(rT K 2 rfl rfl (aX (aE (i:=0) (show (["text","times"]:IR).Nodup by decide+kernel) rfl 0e3 5e8) (aX (aE (i:=1) (show (["text","times"]:IR).Nodup by decide+kernel) rfl 0e3 5e8) dR)))) 17e8 (λ_ _ _ _ _=>(lV jG.ok 1e1 rfl jG.g jG.kp jG.b .nil oK 15e5))) (ai (aA (i:=3) k8.nd rfl 0e3 2e6) (ai (b8 kA rfl (E7 rfl T.mw (aa 5e5 aj)) (il rfl (aX (aE (i:=4) k8.nd rfl 0e3) (aX (aE (i:=5) k8.nd rfl 0e3) dR))) (ai (aA (i:=6) k8.nd rfl 0e3 (bF eS (bF bV 3e6 (pv 4) 1e6) aq 1e6)) (ai (a8 (lV gH.ok 1e1 rfl gH.g gH.kp gH.b .nil aL (aa (pv 5) (aa (pv 6) (aa 19e2 (aa (pv 4) aj)))))) (ao (aA (i:=3) k8.nd rfl 0e3 (gN vB hr (aa (pv 5) (aa (pv 6) (aa 19e2 aj))))))))) (ai (fO 1e3 19e2 rfl) (ao (a8 (gP PySem.F.plainAttrs_list PySem.F.slot_list_extend PySem.F.type_list_extend G1 2e6 11e2))))))),?_⟩;refine⟨_,U,rl,U,⟨_,bH.of MA⟩,λL hL=>jW (K:=K) (a:=rl) (L:=L) (xs:=ts.map V.ref) H (fun σ=>∃v u:Option V,σ=[v,u]) (PvG C G Pc Fo Ch L H rs) (bH.of MA) ?_ hL ⟨none,none,U⟩ (au.new hL) af ⟨[],zero_le _,(λj r hj=>absurd hj (Nat.not_lt_zero _)),U,U, .nil⟩ 13e1 ?_ ?_ ?_⟩
  ·rintro i ys Ha Hb AI ⟨cs,hi,h0,h1,h2,h3⟩;exact⟨cs,hi,h0,h1,h2,av (λc r z cM k=>z cM λb o z1 z2 z3=>k b o z1 z2 (AI _ _ z3 z2)) h3⟩
  ·rintro i ys H' ⟨cs,_,_,rfl,h2,_⟩;rw[length_map,h2];exact le_refl _
  ·rintro j w σ' H5 vs hj ⟨w1,w2,rfl⟩ e5 j3 ⟨cs,hjl,Iu,rfl,WJ,hcP⟩ N M hN;rw[getElem?_map] at hj;obtain⟨t,ht,rfl⟩:=gMp hj;by_cases hjr:j=rs.length
   ·have lG:∀r∈rs,wI r:=λr hr=>by
     obtain⟨k,hk,e⟩:=List.mem_iff_getElem.mp hr;exact Iu k r 0e2 (by rw[getElem?_eq_getElem hk,e])
    have hjt:=(List.getElem?_eq_some_iff.mp ht).1;rcases lS with z| ⟨r,hr,z⟩ | ⟨t',x,m,pl,ht',hx,vF,qB⟩
    ·omega
    ·exact absurd (lG r hr) z
    rw[hjr] at ht;have et:=Option.some.inj (ht.symm.trans ht');subst et;exact⟨t,_,U,iB.of (e5 _ _ hx),U,_,_,U,_,_,U,U,_,U,x,U, .inr ⟨pl,vF,(qB lG).on e5⟩⟩
   obtain⟨r,jE,Gi⟩:=br hP (show (ts.take rs.length)[j]? =some t by rw[List.getElem?_take_of_lt 0e2];exact ht);have Gi:H t=some (.tup 11e9):=Gi;refine⟨t,_,U,iB.of (e5 _ _ Gi),U,_,_,U,_,_,U,U,?_⟩;refine⟨_,U,r.x,U, .inl ⟨r.xs,r.ys,aP r (mem_of_getElem? jE),λhev c H6 nc hN6 e6=>?_,fun⟨k,hk⟩ ms p rr e dM H6 hKm NB he gK ne Vr e6=>qU j r ms p rr e dM H6 jE Iu (λz=>hk (z k)) hKm NB he gK (none_back e5 ne) (none_back e5 Vr) (e5.trans e6)⟩⟩;refine hN _ _ _ ⟨_,_,rfl⟩ (e5.trans e6) (e6 _ _ j3) ⟨cs++[c],by omega,λj' r2 Ah RO=>?_,by rw[map_append];rfl,by rw[length_append,WJ];rfl,?_⟩
   ·rcases Nat.lt_succ_iff_lt_or_eq.mp Ah with Ah|Ah
    ·exact Iu j' r2 Ah RO
    ·subst Ah;have er:=Option.some.inj (jE.symm.trans RO);rw[<-er];exact hev
   rw[take_snoc jE];refine bI (λcM k=>hN6 cM λb o z1 z2=>k b o (none_back e5 z1) (λz=>by rw[z,j3] at z1;cases z1) z2) (av (λc r z cM k=>z cM λb o z1 z2 z3=>k b o z1 z2 (e6 _ _ z3)) hcP)
  rintro H2 ys e2 uR ⟨cs,hle,Iu,rfl,WJ,hcP⟩;rw[length_map] at WJ hle;have f6:ts.length=rs.length:=by omega
  rw[<-f6,take_length] at hP;have Gi:rs.take ts.length=rs:=by rw[f6,take_length]
  rw[length_map,Gi] at hcP;rw[length_map,f6] at Iu
  have Qj:∀r∈rs,wI r:=λr hr=>by
   obtain⟨j,hj,e⟩:=List.mem_iff_getElem.mp hr;exact Iu j r hj (by rw[getElem?_eq_getElem hj,e])
  have hb:=hb f6.symm Qj;have q:=q f6.symm Qj;have qE:=qE f6.symm Qj;have aP:∀r∈rs,B4 r.x r.xs r.ys:=λr hr=>(aP r hr).ev (Qj r hr);refine⟨_,U,st,St,dx,_,_,U,e2 _ _ fJ,T.cn,T.fW,jF _ _,?_⟩;dsimp only [bX];have hcl2:cs.length=rs.length:=by rw[WJ,f6]
  have hCh:∀{i:Nat} {c:Ps} {r:bG} {H':Hp},cs[i]? =some c->rs[i]? =some r->au H2 H'->eh C G Pc Fo Ch H' c r.xs r.ys:=fun {i c r H'} h1 h2 e=>by
   obtain⟨r',jE,z⟩:=br hcP h1;rw[h2] at jE;cases jE;exact z H' λb o _ _ z3=>e _ _ z3
  have hLH:H L=none:=hL;refine⟨_,U,L,U,⟨_,bH.of uR⟩,AJ (K:=K) (a:=L) (xs:=cs.map V.ref) (λi σ H'=>∃(a:Ps) (v4 v5 v6:Option V),σ=[some (.ref st),some (.ref rl),some (.ref L),some 18e2,v4,v5,v6]/\H' a=some (.dK (dq kvs 6e2))/\(a=d\/H a=none)/\(∀j r,j<i->rs[j]? =some r->bE (dq kvs (rs.take j)) r.xs r.ys r.m=none)/\au H2 H') ?_ (λi σ H' ⟨_,_,_,_,_,_,_,_,z⟩=>bH.of (z _ _ uR)) ?_ ?_⟩
  ·exact⟨d,none,none,none,U,e2 _ _ hd, .inl rfl,(λj r hj=>absurd hj (Nat.not_lt_zero _)),au.refl _⟩
  ·rintro i v p σ H' hi hp ⟨a,v4,v5,v6,rfl,ha,i9,Ei,e3⟩;rw[getElem?_map] at hi;obtain⟨c,hc,rfl⟩:=gMp hi;have CY:i<rs.length:=by have:=(List.getElem?_eq_some_iff.mp hc).1;omega
   have Qk:=getElem?_eq_getElem CY;have PD:ts[i]? =some ts[i]:=getElem?_eq_getElem 0e2;obtain⟨r',jE,Gi⟩:=br hP PD;generalize ts[i]=t at PD Gi;generalize rs[i]=r at Qk;have er:r=r':=Option.some.inj (Qk.symm.trans jE);subst er;have Gi:H t=some (.tup 11e9):=Gi;have wJ:=aP r (mem_of_getElem? Qk);have s4:=e3.trans (au.new (o:= .tup [.int (i:Nat), .ref c]) hp);have WR:=e2.trans s4;have ha4:=au.new (o:= .tup [.int (i:Nat), .ref c]) hp _ _ ha;refine⟨p,_,U,iB.of af,U,_,_,U,_,_,U,U,?_⟩;refine⟨_,U,_,U,rl,_,_, .ref t,U,U,bH.of (WR _ _ MA),ku (by rw[getElem?_map,PD];rfl),t,_,_, .int r.m,U,U,iB.of (WR _ _ Gi),U,?_⟩;have hIa:=zO rs i hI;have hla:=Vp (kvs:=kvs) (rs:=rs.take i) λr hr=>(aP r (mem_of_mem_take hr)).2.2.2.2.2.2.1;have rB:(rs.take i).length<=12:=by rw[length_take];omega
   dsimp only [bX];refine⟨_,U,_,U,_,U,_,U,c,a,r.m,(i:Nat),r.xs,r.ys,dq kvs 6e2,U,hCh hc Qk s4,wJ.2.2.2.2.2.2.2.2.1,wJ.2.2.2.2.2.2.2.2.2.1,by have:=wJ.2.2.2.2.2.2.1;omega,by have:=wJ.2.2.2.2.2.2.1;omega,Gd wJ,ha4,hIa,by omega,by omega,by omega,λt k l z=>hb i r t k l Qk z,λhs H5 e5=>?_,λt' x l e dM H5 hs he gK ne Vr e5=>?_⟩
   ·refine⟨_,U,_,U,_,U,c,a,r.m,r.xs,r.ys,dq kvs 6e2,U,hCh hc Qk (s4.trans e5),wJ.2.2.2.2.2.2.2.2.1,wJ.2.2.2.2.2.2.2.2.2.1,by have:=wJ.2.2.2.2.2.2.1;omega,by have:=wJ.2.2.2.2.2.2.1;omega,Gd wJ,e5 _ _ ha4,hIa,by omega,λa' H6 na' ha' e6=>?_⟩;refine⟨a',_,_,_,U,?_, .inr (none_back (WR.trans e5) na'),λj r2 hj RO=>?_,(s4.trans e5).trans e6⟩
    ·rw[ha',take_snoc Qk];unfold dq;rw[foldl_append];rfl
    ·rcases Nat.lt_succ_iff_lt_or_eq.mp hj with hj|hj
     ·exact Ei j r2 hj RO
     ·subst hj;have er:=Option.some.inj (Qk.symm.trans RO);rw[<-er];exact hs
   ·exact qE i r t' x l e dM H5 Qk Ei hs he gK (none_back WR ne) (none_back WR Vr) (WR.trans e5)
  ·rintro σ H' ⟨a,v4,v5,v6,rfl,ha,i9,Ei,e3⟩;rw[length_map,hcl2,take_length] at ha;have WS:=e2.trans e3;have Zo:=WS _ _ fJ;have hlf:(Cy d g).length<1000:=by unfold Cy;simp [di,nag]
   refine⟨_,U,_,U,st,St,dx,_,U,Zo,T.cn,T.fW,hlf,?_⟩;have nsg:st≠g:=bC fJ hg 0e7;have nsr:st≠rl:=bC fJ MA 0e7;have nsa:st≠a:=bC Zo ha 0e7;have nga:g≠a:=bC (WS _ _ hg) ha 0e7;refine⟨_,U,st,St,dx,_,_,U,af,T.cn,T.sH,(by rw[Ge];exact BW _ _),?_⟩;have hg3:(upd H' st (.ins St dx (di "amounts" 18e2 (Cy d g)))) g=some (.lst gs):=by rw[ah (Ne.symm nsg)];exact WS _ _ hg
   refine⟨.inl ⟨U,_,bH.of hg3⟩,_,U,g,rl,gs,ts.map V.ref,U,U,by rw[ah (Ne.symm nsg)];exact WS _ _ hg,by rw[ah (Ne.symm nsr)];exact WS _ _ MA,by rw[length_map];omega,?_⟩;refine q (λi r hi=>Ei i r (by rw[length_map];have:=(List.getElem?_eq_some_iff.mp hi).1;omega) hi) a _ i9 ⟨dx,by rw[ah nsg,af,Ge]⟩ (by rw[ah (Ne.symm nga),ah (Ne.symm nsa)];exact ha) af λb o z n1 n2=>?_;rw[ah n2,ah n1];exact WS _ _ z
variable {uC uP uI uD uL uT fT fU fV uG uS:Tok}{Ch HE Sh St:Ps}
inductive MB(St:9e7)(vs:5e2)(H:Hp)(Q:VK)(E:XK):Prop
 |mk (st d g:9e7) (ts:List Addr) (rs:10e9) (bJ:vs=[.ref st]) (bT:jk St H st d g) (cw:H g=some (.lst (ts.map V.ref))) (dh:Paired (bx H) ts rs) (eQ:rs.length<=100) (ir:∀L us H',H L=none->H' L=some (.lst (us.map V.ref))->Paired (bx H') us rs->au H H'->Q (.ref L) H')
def zQ(St:Ps):Sp:=MB St
def PvW(L:Ps)(rs:10e9):Nat->List V->Hp->Prop:=λi ys H'=>∃us:List Addr,ys=us.map V.ref/\us.length=i/\(∀u∈us,u≠L)/\Paired (bx H') us 6e2
def MC(D:bw K St "went" "Store.went" Fl 1e0)(T:2e7):bU P w K mg base 1 St "went" 1e0 (zQ St):=by
 refine D.fF U2 0e4 0e0
 ·obtain⟨st,d,g,ts,rs,rfl,_⟩:=h;rfl
 ·obtain⟨st,d,g,ts,rs,rfl,⟨dx,fJ⟩,hg,hP,hl,q⟩:=h;have big:=bgL;have f6:=Paired.length hP;refine⟨_,(ao (aD (fK (sc:=(ak Fl)) (NX:=1e0) (N:=["text","times"]) (fr:=[none,none]) AW rfl rfl rfl (cS 2e6) (λ_ _ _ _=>(rT K 2 rfl rfl (aX (aE (i:=0) (show (["text","times"]:IR).Nodup by decide+kernel) rfl 0e3 5e8) (aX (aE (i:=1) (show (["text","times"]:IR).Nodup by decide+kernel) rfl 0e3 5e8) dR)))) 17e8 (λ_ _ _ _=>(bq (aa 1e3 11e2)))))),?_⟩;refine⟨_,U,st,St,dx,_,_,U,fJ,T.cn,T.sH,BW _ _,g,U,⟨_,bH.of hg⟩,λL hL=>?_⟩;refine jW (K:=K) (a:=g) (L:=L) (xs:=ts.map V.ref) H (fun σ=>∃v u:Option V,σ=[v,u]) (PvW L rs) (bH.of hg) ?_ hL ⟨none,none,rfl⟩ (au.new hL) af ⟨[],rfl,rfl,(λu hu=>by cases hu), .nil⟩ 13e1 ?_ ?_ ?_
  ·rintro i ys Ha Hb hb ⟨us,h1,h2,h3,h4⟩;exact⟨us,h1,h2,h3,kY (λu r hu z=>hb _ _ z (h3 u hu)) h4⟩
  ·rintro i ys H' ⟨us,rfl,h2,_⟩;rw[length_map,h2];exact le_refl _
  ·rintro j w σ' H5 vs hj ⟨w1,w2,rfl⟩ e5 j3 ⟨us,rfl,Ie,WT,qy⟩ N M hN;rw[getElem?_map] at hj;obtain⟨t,ht,rfl⟩:=gMp hj;obtain⟨r,jE,Gi⟩:=br hP ht;have Gi:H t=some (.tup 11e9):=Gi;refine⟨t,_,U,iB.of (e5 _ _ Gi),U,_,_,U,_,_,U,U,?_⟩;refine⟨_,U,_,U,0e9,λu hu=>?_⟩;have s6:=au.new (o:= .tup 11e9) hu;refine hN _ _ _ ⟨_,_,rfl⟩ (e5.trans s6) (s6 _ _ j3) ⟨us++[u],by rw[map_append];rfl,by rw[length_append,Ie];rfl,λa ha=>?_,?_⟩
   ·rcases mem_append.mp ha with z|z
    ·exact WT a z
    ·have ea:a=u:=by simpa using z
     rw[ea];exact λz=>by rw[z,j3] at hu;cases hu
   ·rw[take_snoc jE];have Je:bx (upd H5 u (.tup 11e9)) u r:=af;exact bI Je (av (λa b (z:bx H5 a b)=>(s6 _ _ z:bx _ a b)) qy)
  ·rintro H5 ys e5 j3 ⟨us,rfl,Ie,WT,qy⟩;rw[length_map,f6,take_length] at qy;exact q L us H5 hL j3 qy e5
variable {uC uP uI uD uL uT fT fU fV uG uS:Tok}{Ch HE Sh St:Ps}
inductive Ej(vs:5e2)(H:Hp)(Q:VK)(E:XK):Prop
 |mk (a t g:Int) (bJ:vs=[.int a, .int t, .int g]) (bT: -(2^62) <g) (cw:Q (oV (B2 a t g)) H)
def xU:Sp:=Ej
def Iv:ax ["amount","taken","gain"] ["amount","taken","gain"] (ak ub):=dO
def Ek(D:Def K mg "turns_of" "turns_of" ub ["amount","taken","gain"]):bA P w K mg base 1 "turns_of" ["amount","taken","gain"] xU:=by
 refine D.fF Iv 0e4 0e0
 ·obtain⟨a,t,g,rfl,_⟩:=h;rfl
 ·obtain⟨a,t,g,rfl,hg,q⟩:=h
  refine⟨_,(ai (bK (aJ ou 1e3 3e6 18e3) (ao (aD aq))
      aN) (ai (bK (aJ Xn 5e5 aq 18e3) (ao (aD pP))
      aN) (ao (aD (aB cq (aB J9 (aB km 1e3 3e6) (qP lM 5e5)) aq))))),?_⟩
  unfold B2 at q;refine⟨_,U,_,U,_,_,U,U,_,U,gM (λe=>?_) λe=>?_⟩
  ·have e:a<t:=by simpa using e
   rw[if_pos e] at q;exact q
  have e:¬a<t:=by simpa using e
  rw[if_neg e] at q;refine⟨_,U,_,_,U,U,_,U,gM (λe=>?_) λe=>?_⟩
  ·have e:0<=g:=by simpa using e
   rw[if_pos e] at q;exact q
  have e:¬0<=g:=by simpa using e
  rw[if_neg e] at q;exact⟨_,U,_,U,_,_,U,U,_,U,_,U,_,_,U,U,14e5,_,_,U,U,q⟩
def pB:ax ["change","times","amounts","gained","told","text"] 16e5 (ak yJ):=dO
def Iw(D:Def K mg "turned" "turned" yJ 16e5)(T:1e9)(c1:bA P w K mg base 9 "gains" ["change"] (zI C G Pc Fo Ch)):bA P w K mg base 10 "turned" 16e5 (vA C G Pc Fo Ch):=by
 obtain⟨_,_,zR⟩:=c1;refine D.fF pB 0e4 0e0
 ·obtain⟨c,am,m,xs,ys,kvs,rfl,_⟩:=h;rfl
 ·obtain⟨c,am,m,xs,ys,kvs,rfl,hC,hx,hy,lx,ly,hG,pA,hI,hl,q⟩:=h;have hu:=dQ hr;have big:=bgL;refine⟨_,(ai (aA (i:=3) pB.nd rfl 0e3 (gN zR hr 15e5)) (ai (aA (i:=4) pB.nd rfl 0e3 (bD kx rfl T.jP iK (aa 5e5 aj))) (ai (eN (b8 PassesOwn.never rfl (dw 19e2) (aE (i:=5) pB.nd rfl 0e3) (ao (dI hu (pv 4) (pv 5) (aB cq (cy hu (pv 4) (pv 5) aq 10e2) (aB iq 3e6 (cD hu 19e2 (pv 5) 1e6))) rfl)))) (ao (aD (pv 4)))))),?_⟩;refine⟨_,U,c,xs,ys,U,hC,hx,hy,lx,ly,λd H1 nd hd e1=>?_⟩;refine⟨_,U,am,_,U, .inl (e1 _ _ pA),λe0 xG=>?_⟩;have e01:H e0=none:=none_back e1 xG;have Mg:e0≠d:=λz=>by lia
  have s2:=au.new (o:= .dK kvs) xG;have hd2:=s2 _ _ hd;have Ky:(upd H1 e0 2e9) e0=some 2e9:=af;have e2:=e1.trans s2;generalize upd H1 e0 2e9=H2 at hd2 Ky e2
  have hgl:(jt xs ys).length<=40:=by
   have h3:(jt xs ys).length<=(xN xs ys).length:=zG _ _;have h4:=zH xs ys;omega
  have Zp:bh 10e3:=FY _ _;dsimp only [bX];refine⟨_,U,d,jt xs ys,U,hd2,λo nf=>d8 nf (λj σ H3=>∃w:Option V,σ=[some (.ref c),some (.int m),some (.ref am),some (.ref d),some (.ref e0),w]/\H3=upd H2 e0 (.dK (fH m kvs ((jt xs ys).take j) 10e3))) ?_ ?_ ?_ ?_⟩
  ·exact⟨none,U,(fE Ky).symm⟩
  ·rintro j σ H3 ⟨_,_,rfl⟩;rw[ah (Ne.symm Mg)];exact hd2
  ·rintro j k v σ H3 hj ⟨w,rfl,rfl⟩;have qR:∀o',(upd (upd H2 e0 (.dK (fH m kvs ((jt xs ys).take j) 10e3))) d o') e0=some (.dK (fH m kvs ((jt xs ys).take j) 10e3)):=λo'=>by rw[ah Mg];exact af
   have WK:=ig m 10e3 ((jt xs ys).take j) kvs;have PD:((jt xs ys).take j).length<=(jt xs ys).length:=length_take_le' _ _;have LD:=dN m 10e3 ((jt xs ys).take j) kvs hI;have hv:=Zp.eP (mem_of_getElem? hj);have hsm:=hG k;refine⟨_,U,e0,U, .inl ⟨_, .inl (qR _)⟩,_,U,_,iu.k (k:=k) (qR _),_,U,_,U,_,U,d,V.int (aM 10e3 k),U, .inl 3e4,_,_,U,U, .inr 14e5,_,_,LD.at k,U,_,U,_,U,e0,_,U,kq.k (k:=k) (qR _) 0e2,?_⟩;refine⟨by rw[ah (Ne.symm Mg)];exact af,some (kV k),U,?_⟩;rw[j5 Mg hd2];unfold fH;rw[take_snoc hj,foldl_append];rfl
  ·rintro σ H3 ⟨w,rfl,rfl⟩;rw[take_length];exact⟨_,U,q e0 _ e01 af λb o' w'=>by rw[ah (ag w' e01)];exact e2 _ _ w'⟩
variable {uC uP uI uD uL uT fT fU fV uG uS:Tok}{Ch HE Sh St:Ps}
structure Zq(K:1e5)(mg:2e0)(C R G Pc Fo Ch:9e7)(uK uN uB uE uM uC uP uI uD uL uT fT fU fV uG uS:Tok):Prop extends pk K mg C R G Pc Fo Ch uK uN uB uE uM uC uP uI uD uL uT fT fU fV uG uS where
 Zr:mg "min" =none
theorem vG:∀{l:List Int},l≠[]->∃b∈l,∀a∈l,b<=a
 | [],h=>absurd rfl h
 | [x],_=>⟨x,by simp,λa ha=>by simp at ha;omega⟩
 |x::y::r,_=>by
  obtain⟨b,hb,hle⟩:=vG (l:=y::r) 2e3
  grind
theorem qD:∀{l:List (Option Int)},l.filterMap id=[]->gF l=none
 | [],_=>rfl
 |none::r,h=>qD (l:=r) (by simpa using h)
 |some i::r,h=>by simp at h
theorem lh:∀{l:List (Option Int)} {m:Int},m∈l.filterMap id->(∀a∈l.filterMap id,m<=a)->gF l=some m
 | [],m,h,_=>by simp at h
 |none::r,m,h,h'=>lh (l:=r) (by simpa using h) (λa ha=>h' a (by simpa using ha))
 |some i::r,m,h,h'=>by
  have hi:m<=i:=h' i 2e3
  cases e:gF r with
  |none=>
   have er:r.filterMap id=[]:=by
    cases f:r.filterMap id with
    |nil=>rfl
    |cons a as=>
     obtain⟨b,hb,hle⟩:∃b∈r.filterMap id,∀a∈r.filterMap id,b<=a:=vG (by rw[f];simp);rw[lh hb hle] at e;cases e
   have hm:m=i:=by
    simp_all
   show (match gF r with|none=>some i|some j=>some (if j<i then j else i))=some m;rw[e,hm]
  |some j=>
   have hj:∃b∈r.filterMap id,∀a∈r.filterMap id,b<=a:=by
    apply vG;intro z;rw[qD z] at e;cases e
   obtain⟨b,hb,hle⟩:=hj
   have eb:j=b:=by
    have:=lh hb hle
    lia
   subst eb;have hmj:m<=j:=h' j 9e9;show (match gF r with|none=>some i|some j=>some (if j<i then j else i))=some m
   grind
def jH:ax ["change","amounts","taken","gained","told"] ["change","amounts"] (ak jb):=dO
def Ql(D:Def K mg "most_turns" "most_turns" jb ["change","amounts"])(T:Zq K mg C R G Pc Fo Ch uK uN uB uE uM uC uP uI uD uL uT fT fU fV uG uS)(c1:bA P w K mg base 8 "side_counts" ["terms"] (iV C G Pc Fo))(c2:bA P w K mg base 9 "gains" ["change"] (zI C G Pc Fo Ch))(c3:bA P w K mg base 1 "turns_of" ["amount","taken","gain"] xU):bA P w K mg base 10 "most_turns" ["change","amounts"] (Mw C G Pc Fo Ch):=by
 obtain⟨_,_,eG⟩:=c1;obtain⟨_,_,zR⟩:=c2;obtain⟨_,_,El⟩:=c3;refine D.fF jH 0e4 0e0
 ·obtain⟨c,am,xs,ys,kvs,rfl,_⟩:=h;rfl
 ·obtain⟨c,am,xs,ys,kvs,rfl,hC,hx,hy,lx,ly,hG,pA,hI,q⟩:=h;have hu:=dQ hr;have big:=bgL;obtain⟨dx,l,r,hc,hl,NN⟩:=id hC;refine⟨_,(ai (aA (i:=2) jH.nd rfl 5e8 (gN eG hr 17e5)) (ai (aA (i:=3) jH.nd rfl 5e8 (gN zR hr 15e5)) (ai (eN (rS (i:=4) jH.nd rfl 0e3 (sc:=(ak jb)) (NX:=["change","amounts","taken","gained","told"]) (N:=["text","taken","amounts","gained"]) (fr:=[none,some 2,some 1,some 3]) AW rfl rfl rfl (dw 5e5) (λ_ _ _ _=>(aE (i:=0) (show (["text","taken","amounts","gained"]:IR).Nodup by decide+kernel) rfl 0e3 5e8)) 17e8 (λ_ _ _ _=>(gN El hr (aa (cy hu 5e5 1e3 aq 10e2) (aa (cD hu 3e6 1e3 1e6) (aa (cy hu 19e2 1e3 aq 10e2) aj))))))) (ao (aD (OV rfl rfl T.Zr (aa (fK (sc:=(ak jb)) (NX:=["change","amounts","taken","gained","told"]) (N:=["turns"]) (fr:=[none]) AW rfl rfl rfl (cS (pv 4)) (λ_ _ _ _=>(aE (i:=0) (show (["turns"]:IR).Nodup by decide+kernel) rfl 0e3 5e8)) (λ_ _ _ _=>(mE (nG (ya 1e3)))) (λ_ _ _ _=>1e3)) aj))))))),?_⟩;refine⟨_,U,c,Ch,dx,_,_,U,hc,T.cE,T.je,f9 _ _,l,xs,U,hl,hx,lx,λtk H1 RN wc e1=>?_⟩;refine⟨_,U,c,xs,ys,U,hC.same e1,hx,hy,lx,ly,λgn H2 ngn hgn e2=>?_⟩;have rj:=e1.trans e2;have htk2:H2 tk=some (.dK 7e9):=e2 _ _ wc;have WO:bh 7e9:=dk _;have Zp:bh 10e3:=FY _ _
  have nF:(aF xs).length<=20:=by
   have:=eB (gL xs);have e:(gL xs).length=xs.length:=by unfold gL;rw[length_map]
   unfold aF;omega
  have MD:=rj _ _ pA;have nat:am≠tk:=ag pA RN;have RP:gn≠tk:=Ne.symm (ag wc ngn);refine⟨_,U,tk,aF xs,U,htk2,λo nf L hL=>?_⟩;have WM:L≠tk:=λz=>by rw[z,af] at hL;cases hL
  have vW:H2 L=none:=by rwa [ah WM] at hL
  refine mF (a:=tk) (D:=L) (kvs:=aF xs) (λi σ H'=>∃v:Option V,σ=[v,some (.ref tk),some (.ref am),some (.ref gn)]/\H' tk=some (.gO o (.dK 7e9))/\H' L=some (.lst (((aF xs).take i).map λq=>oV (B2 (aM kvs q.1) (aM 7e9 q.1) 19e9)))/\∀b o',H2 b=some o'->b≠tk->H' b=some o') ?_ (λi σ H' ⟨_,_,z,_⟩=>z) ?_ ?_
  ·exact⟨none,U,by rw[ah (Ne.symm WM),af],af,λb o' z hb=>by rw[ah (ag z vW),ah hb];exact z⟩
  ·rintro i k v σ H' hi ⟨v',rfl,f1,f2,f3⟩ N hN;have hv:=WO.eP 8e0;have ha:=f3 _ _ MD nat;have hg:=f3 _ _ hgn RP;have CY:=(List.getElem?_eq_some_iff.mp hi).1;refine⟨_,U,am,U, .inl ⟨_, .inl ha⟩,_,U,_,iu.k (k:=k) ha,_,U,_,U,tk,V.int (aM 7e9 k),U, .inl ⟨_,k, .inr ⟨o,f1⟩,U,hv.symm⟩,_,U,gn,U, .inl ⟨_, .inl hg⟩,_,U,_,iu.k (k:=k) hg,?_⟩;rw[hI.at k,Zp.at k];refine⟨aM kvs k,aM 7e9 k,aM 10e3 k,U,(hG k).1,_,f2,by rw[length_map,length_take];omega,hN _ _ ⟨_,U,by rw[ah (Ne.symm WM)];exact f1,?_,λb o' z hb=>by rw[ah (ag z vW)];exact f3 b o' z hb⟩⟩;rw[af,take_snoc hi,map_append];rfl
  rintro σ H' ⟨v',rfl,f1,f2,f3⟩;rw[take_length] at f2;refine⟨tk,o,aF xs,f1,nf,?_⟩
  have s3:au H (upd H' tk (.dK 7e9)):=λb o' z=>by
   have nb:b≠tk:=ag z RN;rw[ah nb];exact f3 _ _ (rj _ _ z) nb
  have nR:(upd H' tk (.dK 7e9)) L=some (.lst ((aF xs).map λq=>oV (B2 (aM kvs q.1) (aM 7e9 q.1) 19e9))):=by rw[ah WM];exact f2
  have em:xS kvs xs ys=gF ((aF xs).map λq=>B2 (aM kvs q.1) (aM 7e9 q.1) 19e9):=rfl;have eo:((aF xs).map λq=>oV (B2 (aM kvs q.1) (aM 7e9 q.1) 19e9))=((aF xs).map λq=>B2 (aM kvs q.1) (aM 7e9 q.1) 19e9).map oV:=by rw[map_map];rfl
  rw[eo] at nR;have hol:((aF xs).map λq=>B2 (aM kvs q.1) (aM 7e9 q.1) 19e9).length<=20:=by rw[length_map];exact nF
  rw[em] at q;generalize ((aF xs).map λq=>B2 (aM kvs q.1) (aM 7e9 q.1) 19e9)=os at nR hol q;generalize upd H' tk (.dK 7e9)=H3 at s3 nR |-;have hlen:∀i,((os.take i).filterMap id).length<=i:=λi=>le_trans (List.length_filterMap_le _ _) (by rw[length_take];omega);refine⟨_,U,L,U,⟨_,bH.of nR⟩,λM hM=>p8 (K:=K) (a:=L) (L:=M) (xs:=os.map oV) H3 (fun σ=>∃v:Option V,σ=[v]) (λi ys=>ys=((os.take i).filterMap id).map V.int) (bH.of nR) hM ⟨none,U⟩ (au.new hM) af rfl 13e1 ?_ ?_ ?_⟩
  ·rintro i ys rfl;rw[length_map];exact hlen i
  ·rintro i v σ H5 ys hi ⟨w,rfl⟩ e5 ME rfl N M' hN hM';rw[getElem?_map] at hi
   obtain⟨z,hz,rfl⟩:∃z,os[i]? =some z/\v=oV z:=by
    cases hh:os[i]? with
    |none=>rw[hh] at hi;cases hi
    |some z=>rw[hh] at hi;exact⟨z,U,(Option.some.inj hi).symm⟩
   cases z with
   |none=>
    refine⟨_,U,_,U,dP (hM' _ _ 7e6 e5 ME ?_)⟩;rw[take_snoc hz,List.filterMap_append];simp
   |some j=>
    refine⟨_,U,_,U,gi ⟨_,U,hN _ _ _ 7e6 e5 ME ?_⟩⟩;rw[take_snoc hz,List.filterMap_append,map_append];rfl
  ·rintro H5 ys e5 ME rfl;rw[length_map,take_length] at ME;refine⟨M,os.filterMap id,U,bH.of ME,λh0=>?_,λm hm hle=>?_⟩
   ·have:=q H5 (s3.trans e5);rw[qD h0] at this;exact this
   ·have:=q H5 (s3.trans e5);rw[lh hm hle] at this;exact this
variable {uC uP uI uD uL uT fT fU fV uG uS:Tok}{Ch HE Sh St:Ps}
inductive MF(vs:5e2)(H:Hp)(Q:VK)(E:XK):Prop
 |mk (l:9e7) (xs:List Tm) (bJ:vs=[.ref l]) (bT:cz H l xs) (cw:(∀x∈xs,cQ x.2)) (dh:xs.length<=20) (eQ:∀e H',H e=none->H' e=some (.dK 7e9)->au H H'->Q 6e8 H')
def Gj:Sp:=MF
def sM:ax ["_law_terms","_law_found","_law_count_here","_law_formula"] ["_law_terms"] (ak DC):=dO
def MG(D:Def K mg "_law_asked" "_law_asked" DC ["_law_terms"]):bA P w K mg base 1 "_law_asked" ["_law_terms"] Gj:=by
 refine D.fF sM 0e4 0e0
 ·obtain⟨l,xs,rfl,_⟩:=h;rfl
 ·obtain⟨l,xs,rfl,⟨ts,hl,hP⟩,aP,h20,q⟩:=h;have hu:=dQ hr;have big:(2000 :Nat) <sizeLine:=by decide
  have f6:=Paired.length hP;refine⟨_,(ai (aA (i:=1) sM.nd rfl 0e3 d7) (ai (b8 PassesOwn.never rfl (cS 1e3) (il rfl (aX (aE (i:=2) sM.nd rfl 0e3) (aX (aE (i:=3) sM.nd rfl 0e3) dR))) (ao (dI hu 3e6 (bF eS 19e2 aq 1e6) (aB cq (cy hu 3e6 (bF eS 19e2 aq 1e6) aq 10e2) 5e5) rfl))) (ao (aD 3e6)))),?_⟩;refine λd hd=>?_;have sD:=au.new (o:= .dK []) hd;refine⟨_,U,l,U,⟨_,bH.of (sD _ _ hl)⟩,fz (K:=K) (a:=l) (xs:=ts.map V.ref) (λi σ H'=>∃v2 v3:Option V,σ=[some 18e6,some (.ref d),v2,v3]/\H' d=some (.dK (bj 1 [] (gL (xs.take i))))/\au H H') ?_ (λi σ H' _ ⟨_,_,_,_,z⟩=>bH.of (z _ _ hl)) ?_ ?_⟩
  ·exact⟨none,none,U,af,sD⟩
  ·rintro i v σ H' hi ⟨v2,v3,rfl,dH,e⟩;rw[getElem?_map] at hi;obtain⟨t,ht,rfl⟩:=gMp hi;obtain⟨y,hy,fo,h1,cd,h2,_⟩:=br hP ht;have hI:bh (bj 1 [] (gL (xs.take i))):=jy 1 _ _ λp hp=>by cases hp
   have qx:=jz 1 (gL (xs.take i)) [];have hal:(gL (xs.take i)).length<=20:=by unfold gL;rw[length_map,length_take];omega
   rw[length_nil] at qx;refine⟨t,_,U,iB.of (e _ _ h1),U,_,_,U,_,_,U,U,?_⟩;refine⟨_,U,d,U, .inl ⟨_, .inl dH⟩,_,U,fo,_,_,_,U,U,iB.of (e _ _ h2),U,_,iu.k (k:=Sum.inr 10e0) dH,_,U,_,_,hI.at _,U,_,U,_,U,fo,_,_,_,U,U,iB.of (e _ _ h2),U,d,_,U,kq.k (k:=Sum.inr 10e0) dH 0e2,?_⟩;refine⟨_,_,U,?_,λb o z=>?_⟩
   ·rw[af,BN hy];rfl
   ·rw[ah (ag z hd)];exact e _ _ z
  ·rintro σ H' ⟨v2,v3,rfl,dH,e⟩;rw[length_map,f6,take_length] at dH;exact⟨_,U,q d H' hd dH e⟩
variable {uC uP uI uD uL uT:Tok}{St:Ps}
inductive lj(H:Hp)(l:9e7)(ws:List Fm):Prop
 |mk (ts:List Addr) (bJ:H l=some (.lst (ts.map V.ref))) (bT:Paired (Bp H) ts ws)
theorem lj.same{H H':Hp}{l:Ps}{ws:NE}(h:lj H l ws)(e:au H H'):lj H' l ws:=let ⟨ts,h1,h2⟩:=h;⟨ts,e _ _ h1,av (λ_ _ z=>z.same e) h2⟩
inductive MH(K:1e5)(vs:5e2)(H:Hp)(Q:VK)(E:XK):Prop
 |mk (a:9e7) (ns:List Int) (bJ:vs=[.ref a]) (bT:bH K H a (ns.map V.int)) (cw:ns.length<=63) (dh:∀(l:9e7) (ws:List Fm) H',lj H' l ws->(∀w∈ws,cQ w)->(∀w∈ws,(cW 1 w.1).length<=3)->ws.length=3->au H H'->Q 18e6 H')
def Gk(K:Uf):Sp:=MH K
def Gm:ax ["_law_script","_law_kinds"] ["_law_script"] (ak uc):=dO
def MI(D:Def K mg "_law_world" "_law_world" uc ["_law_script"])(T:2e7)(c1:bA P w K mg base 1 "_law_cell_at" 13e8 (oX K))(c2:bA P w K mg base 1 "_law_mixed" ["_law_cell","_law_prime"] RK)(c3:bA P w K mg base 1 "_law_kind" ["_law_number"] FI)(c4:bA P w K mg base 2 "_law_matter" ["_law_cell","_law_kinds"] BZ):
  bA P w K mg base 3 "_law_world" ["_law_script"] (Gk K):=by
 obtain⟨_,_,cZ⟩:=c1;obtain⟨_,_,xV⟩:=c2;obtain⟨_,_,MJ⟩:=c3;obtain⟨_,_,Em⟩:=c4;refine D.fF Gm 0e4 0e0
 ·obtain⟨a,ns,rfl,_⟩:=h;rfl
 ·obtain⟨a,ns,rfl,hS,hlen,q⟩:=h;have hu:=dQ hr;have WN:=hr.pX;have big:=bgL;refine⟨_,(ai (aA (i:=1) Gm.nd rfl 5e8 (fK (sc:=(ak uc)) (NX:=["_law_script","_law_kinds"]) (N:=["_law_k","_law_script"]) (fr:=[none,some 0]) AW rfl rfl rfl (fY rfl T.jC 16e6) (λ_ _ _ _=>(aE (i:=0) (show (["_law_k","_law_script"]:IR).Nodup by decide+kernel) rfl 0e3 5e8)) 17e8 (λ_ _ _ _=>(gN MJ hr (aa (gN xV hr (aa (gN cZ hr (aa 3e6 15e5)) 16e6)) aj))))) (ao (aD (fK (sc:=(ak uc)) (NX:=["_law_script","_law_kinds"]) (N:=["_law_k","_law_kinds","_law_script"]) (fr:=[none,some 1,some 0]) AW rfl rfl rfl (fY rfl T.jC 16e6) (λ_ _ _ _=>(aE (i:=0) (show (["_law_k","_law_kinds","_law_script"]:IR).Nodup by decide+kernel) rfl 0e3 5e8)) 17e8 (λ_ _ _ _=>(gN Em hr (aa (gN xV hr (aa (gN cZ hr (aa 5e5 (aa (aB cq aq 1e3) aj))) 16e6)) 11e2))))))),?_⟩;refine⟨_,U,by decide,by decide,λL hL=>JZ (L:=L) H (fun σ=>∃v:Option V,σ=[v,some 18e2]) (λi ys=>∃ks:List (List Nat),ys=ks.map (λk=>V.str 3e0)/\ks.length=i/\∀k∈ks,kK k) hL ⟨none,U⟩ (au.new hL) af ⟨[],U,U,λk hk=>by cases hk⟩ 0e1 ?_ ?_ ?_⟩
  ·simp_all
  ·rintro i σ H2 ys hi ⟨v,rfl⟩ e2 uR ⟨ks,rfl,qx,Ae⟩ N M hN;refine⟨_,U,_,U,a,ns,i,by rw[zero_add];rfl,e2.seq hS,hlen,λn=>⟨n,1000003,U,by decide,by decide,λn2=>⟨n2,U,λk H3 hk e3=>?_⟩⟩⟩;refine hN _ _ _ 3e5 (e2.trans e3) (e3 _ _ uR) ⟨ks++[k],by rw[map_append];rfl,by rw[length_append,qx];rfl,λk' Rb=>?_⟩;rcases mem_append.mp Rb with z|z
   ·exact Ae k' z
   ·have:k'=k:=by simpa using z
    rw[this];exact hk
  rintro H2 ys e2 uR ⟨ks,rfl,qx,Ae⟩
  obtain⟨k0,k1,k2,rfl⟩:∃k0 k1 k2,ks=[k0,k1,k2]:=by
   match ks,qx with
   | [k0,k1,k2],_=>exact⟨k0,k1,k2,U⟩
  have Zs:=Ae k0 2e3;have Zh:=Ae k1 2e3;have P':=Ae k2 2e3;refine⟨_,U,by decide,by decide,λL3 nR=>Hd (L:=L3) H2 (fun σ=>∃v:Option V,σ=[v,some (.ref L),some 18e2]) (λi ys H'=>∃(ts ds:UV) (ws:NE),ys=ts.map V.ref/\ts.length=i/\(∀w∈ws,cQ w)/\(∀w∈ws,(cW 1 w.1).length<=3)/\Paired (λt x=>t≠L3/\∃d,d≠L3/\H' t=some (.tup [.str 5e6, .ref d, .int x.2])/\H' d=some (.dK (cW 1 x.1))) ts ws) ?_ nR ⟨none,U⟩ (au.new nR) af ⟨[],[],[],U,U,(λk hk=>by cases hk),(λk hk=>by cases hk), .nil⟩ 0e1 ?_ ?_ ?_⟩
  ·rintro i ys Ha Hb hb ⟨ts,ds,ws,h1,h2,h3,h3',h4⟩;exact⟨ts,ds,ws,h1,h2,h3,h3',av (λt x ⟨n1,d,n2,z1,z2⟩=>⟨n1,d,n2,hb _ _ z1 n1,hb _ _ z2 n2⟩) h4⟩
  ·rintro i ys H' ⟨ts,ds,ws,rfl,h2,_⟩;rw[length_map,h2];exact le_refl _
  ·rintro i σ H5 ys hi ⟨v,rfl⟩ e5 j3 ⟨ts,ds,ws,rfl,nF,aP,zS,hP⟩ N M hN;have ek:(3 :Int)+(0+(i:Int))=((3+i:Nat):Int):=by omega
   refine⟨_,U,_,U,_,_,U,U,a,ns,3+i,by rw[<-ek];rfl,e5.seq (e2.seq hS),hlen,λn=>⟨n,1000033,U,by decide,by decide,λn2=>⟨_,U,n2,L,k0,k1,k2,U,e5 _ _ uR,Zs,Zh,P',λt x H6 rg Vs hF e6=>?_⟩⟩⟩;obtain⟨d,h1,h2⟩:=hF;have Cv:=e6 _ _ j3;refine hN _ _ _ 3e5 (e5.trans e6) Cv ⟨ts++[t],ds,ws++[x],by rw[map_append];rfl,by rw[length_append,nF];rfl,λw hw=>?_,λw hw=>?_,?_⟩
   ·rcases mem_append.mp hw with z|z
    ·exact aP w z
    ·have:w=x:=by simpa using z
     rw[this];exact rg
   ·rcases mem_append.mp hw with z|z
    ·exact zS w z
    ·have:w=x:=by simpa using z
     rw[this];exact Vs
   ·exact bI ⟨bC h1 Cv 0e7,d,bC h2 Cv 0e7,h1,h2⟩ (av (λt x ⟨n1,d,n2,z1,z2⟩=>⟨n1,d,n2,e6 _ _ z1,e6 _ _ z2⟩) hP)
  ·rintro H5 ys e5 j3 ⟨ts,ds,ws,rfl,nF,aP,zS,hP⟩;refine q L3 ws H5 ⟨ts,j3,av (λt x ⟨n1,d,n2,z1,z2⟩=>⟨d,z1,z2⟩) hP⟩ aP zS ?_ (e2.trans e5);rw[<-Paired.length hP,nF];rfl
inductive MK(vs:5e2)(H:Hp)(Q:VK)(E:XK):Prop
 |mk (l:9e7) (ws:List Fm) (bJ:vs=[.ref l]) (bT:lj H l ws) (cw:(∀w∈ws,cQ w)) (dh:ws.length=3) (eQ:∀(e:9e7) (xs:17e0) H',H' e=some (.lst (xs.map V.str))->(∀x∈xs,Told ws x)->(∀x,Told ws x->x∈xs)->1<=xs.length->xs.length<=30->au H H'->Q 6e8 H')
def Gn:Sp:=MK
def mW:ax ["_law_world_here","_law_found","_law_text_here","_law_counts","_law_charge","_law_kind_here"] ["_law_world_here"] (ak DD):=dO
def sN(kvs:Py)(k:Key)(v:V):k∈(putK kvs k v).map 2e1:=by
 unfold putK
 grind
def ik{kvs:Py}{k j:Key}{v:V}(h:j∈kvs.map 2e1):j∈(putK kvs k v).map 2e1:=by
 obtain⟨q,hq,rfl⟩:=mem_map.mp h;unfold putK;split
 ·refine mem_map.mpr ⟨if q.1=k then (q.1,v) else q,mem_map.mpr ⟨q,hq,rfl⟩,?_⟩;split<;>rfl
 ·rw[map_append];exact mem_append_left _ (mem_map_of_mem hq)
def ML(ws:NE)(kvs:Py):Prop:=(Sum.inr "e^-" :Key)∈kvs.map 2e1/\∀w∈ws,(Sum.inr (⟨(fL w).toArray⟩:Str):Key)∈kvs.map 2e1/\∀k∈(cW 1 w.1).map (·.1),k∈kvs.map 2e1
def ML.put{ws:NE}{kvs:Py}(h:ML ws kvs)(k:Key)(v:V):ML ws (putK kvs k v):=⟨ik h.1,λw hw=>⟨ik (h.2 w hw).1,λj hj=>ik ((h.2 w hw).2 j hj)⟩⟩
def rp(ws:NE)(kvs:Py):Prop:=∀q∈kvs,∃s,q.1=Sum.inr s/\Told ws s
def rp.put{ws:NE}{kvs:Py}(h:rp ws kvs){s:Str}(hs:Told ws s)(v:V):rp ws (putK kvs 16e7 v):=λq hq=>by
 rcases sI hq with hq|hq
 ·exact h q hq
 simp_all
def Gp(kvs:Py)(k:Key)(v:V):kvs.length<=(putK kvs k v).length:=by
 unfold putK;split
 ·rw[length_map];exact le_refl _
 ·rw[length_append];exact Nat.le_add_right _ _
theorem xW{ws:NE}:∀{kvs:Py},rp ws kvs->∃xs:List Str,(kvs.map λq=>kV q.1)=xs.map V.str/\(∀x∈xs,Told ws x)/\xs.length=kvs.length
 | [],_=>⟨[],rfl,(λx hx=>by cases hx),rfl⟩
 |p::r,h=>by
  obtain⟨xs,e,h1,h2⟩:=xW (kvs:=r) λq hq=>h q 18e4;obtain⟨s,es,hs⟩:=h p 1e8;refine⟨s::xs,?_,λx hx=>?_,by simp_all⟩
  ·rw[map_cons,map_cons,e,es];rfl
  grind
def MM(D:Def K mg "_law_texts" "_law_texts" DD ["_law_world_here"])(T:2e7):bA P w K mg base 1 "_law_texts" ["_law_world_here"] Gn:=by
 refine D.fF mW 0e4 0e0
 ·obtain⟨l,ws,rfl,_⟩:=h;rfl
 ·obtain⟨l,ws,rfl,⟨ts,hl,hP⟩,aP,h3,q⟩:=h;have hu:=dQ hr;have WN:=hr.pX;have big:=bgL;have f6:=Paired.length hP;refine⟨_,(ai (aA (i:=1) mW.nd rfl 0e3 (yg (tI aU qO yf) rfl rfl 0e7 0e1)) (ai (b8 PassesOwn.never rfl (cS 1e3) (il rfl (aX (aE (i:=2) mW.nd rfl 0e3) (aX (aE (i:=3) mW.nd rfl 0e3) (aX (aE (i:=4) mW.nd rfl 0e3) dR)))) (ai (dI hu 3e6 5e5 qO rfl) (ao (eN (b8 PassesOwn.never rfl (dw 19e2) (aE (i:=5) mW.nd rfl 0e3) (ao (dI hu 3e6 (pv 5) qO rfl))))))) (ao (aD (bD (tU rfl) rfl T.n_list jw 11e2))))),?_⟩;refine λd hd=>?_;refine⟨af,[(Sum.inr "e^-", .bl true)],U,(by show 1<=15;decide),?_⟩;have Wv:(upd (upd H d (.dK [])) d (.dK (cP [] [(Sum.inr "e^-",V.bl true)]))) d=some (.dK [(Sum.inr "e^-", .bl true)]):=af
  have s0:au H (upd (upd H d (.dK [])) d (.dK (cP [] [(Sum.inr "e^-",V.bl true)]))):=λb o z=>by
   rw[ah (ag z hd),ah (ag z hd)];exact z
  generalize upd (upd H d (.dK [])) d (.dK (cP [] [(Sum.inr "e^-",V.bl true)]))=H0 at Wv s0 |-;refine⟨_,U,l,U,⟨_,bH.of (s0 _ _ hl)⟩,fz (K:=K) (a:=l) (xs:=ts.map V.ref) (λi σ H'=>∃(kvs:Py) (v2 v3 v4 v5:Option V),σ=[some 18e6,some (.ref d),v2,v3,v4,v5]/\H' d=some 2e9/\rp ws kvs/\ML (ws.take i) kvs/\1<=kvs.length/\kvs.length<=1+8*i/\au H H') ?_ (λi σ H' _ ⟨_,_,_,_,_,_,_,_,_,_,_,z⟩=>bH.of (z _ _ hl)) ?_ ?_⟩
  ·refine⟨_,none,none,none,none,U,Wv,λq hq=>?_,⟨by simp,λw hw=>by cases hw⟩,le_refl _,le_refl _,s0⟩;have e:q=((Sum.inr ("e^-" :Str),V.bl true):Key×V):=by simpa using hq
   exact⟨"e^-",by rw[e], .inl rfl⟩
  ·rintro i v σ H' hi ⟨kvs,v2,v3,v4,v5,rfl,dH,hT,hS,Zh,P',e⟩;rw[getElem?_map] at hi;obtain⟨t,ht,rfl⟩:=gMp hi;obtain⟨x,hx,cd,h1,h2⟩:=br hP ht;have Vt:=mem_of_getElem? hx;have rg:=aP x Vt;have CY:i<3:=by have:=(List.getElem?_eq_some_iff.mp hx).1;omega
   have WJ:(cW 1 x.1).length<=7:=D4 rg.2.2;have ncd:cd≠d:=ag h2 hd;refine⟨t,_,U,iB.of (e _ _ h1),U,_,_,U,_,_,U,_,_,U,U,?_⟩;refine⟨_,U,_,U,d,_,U,kq.k (k:=Sum.inr 5e6) dH 0e2,?_⟩;have Zt:=hT.put (.inr (.inl ⟨x,Vt,rfl⟩)) (V.bl true);have E2:(putK kvs (Sum.inr (5e6:Str)) (V.bl true)).length<=kvs.length+1:=cO _ _ _;have hg1:kvs.length<=(putK kvs (Sum.inr (5e6:Str)) (V.bl true)).length:=Gp _ _ _;have hS1:=hS.put (Sum.inr (5e6:Str)) (V.bl true);have Zu:=sN kvs (Sum.inr (5e6:Str)) (V.bl true);generalize putK kvs (Sum.inr (5e6:Str)) (V.bl true)=Zv at Zt E2 hg1 hS1 Zu |-;have e1:au H (upd H' d (.dK Zv)):=λb o z=>by rw[ah (ag z hd)];exact e _ _ z
   have Jd:(upd H' d (.dK Zv)) d=some (.dK Zv):=af;generalize upd H' d (.dK Zv)=H1 at e1 Jd |-;dsimp only [bX];refine⟨_,U,cd,cW 1 x.1,U,e1 _ _ h2,λo nf=>d8 nf (λj σ H3=>∃(w:Option V) (En:Py),σ=[some 18e6,some (.ref d),some (.str 5e6),some (.ref cd),some (.int x.2),w]/\H3 d=some (.dK En)/\rp ws En/\ML (ws.take i) En/\(Sum.inr (5e6:Str):Key)∈En.map 2e1/\(∀k∈((cW 1 x.1).take j).map (·.1),k∈En.map 2e1)/\1<=En.length/\En.length<=2+8*i+j/\au H H3) ?_ (λj σ H3 ⟨_,_,_,_,_,_,_,_,_,_,z⟩=>z _ _ h2) ?_ ?_⟩
   ·exact⟨v5,Zv,U,Jd,Zt,hS1,Zu,(λk hk=>by cases hk),by omega,by omega,e1⟩
   ·rintro j k v σ H3 hj ⟨w,En,rfl,RE,WU,hS3,Vu,Gq,Rg,hl3,e3⟩;obtain⟨kk,hkk,ek⟩:=qz rg _ (mem_of_getElem? hj);have ek:k=Sum.inr (⟨kk.toArray⟩:Str):=ek;subst ek;have hjl:j< (cW 1 x.1).length:=(List.getElem?_eq_some_iff.mp hj).1;have RL:(upd H3 cd (.gO o (.dK (cW 1 x.1)))) d=some (.dK En):=by rw[ah (Ne.symm ncd)];exact RE
    refine⟨_,U,_,U,d,_,U,kq.k (k:=Sum.inr ⟨kk.toArray⟩) RL 0e2,?_⟩;have Rw:=WU.put (.inr (.inr ⟨x,Vt,mem_map_of_mem (f:=2e1) (mem_of_getElem? hj)⟩)) (V.bl true);have Rm:(putK En (Sum.inr (⟨kk.toArray⟩:Str)) (V.bl true)).length<=En.length+1:=cO _ _ _;have hg4:En.length<=(putK En (Sum.inr (⟨kk.toArray⟩:Str)) (V.bl true)).length:=Gp _ _ _;refine⟨by rw[ah ncd];exact af,_,_,U,by rw[ah (Ne.symm ncd),af],Rw,hS3.put _ _,ik Vu,λk hk=>?_,by omega,by omega,λb o' z=>?_⟩
    ·rw[take_snoc hj,map_append] at hk;rcases mem_append.mp hk with hk|hk
     ·exact ik (Gq k hk)
     ·have ek:k=Sum.inr (⟨kk.toArray⟩:Str):=by simpa using hk
      rw[ek];exact sN _ _ _
    by_cases bc:b=cd
    ·subst bc;rw[af];rw[h2] at z;exact z
    ·rw[ah bc,ah (ag z hd),ah bc];exact e3 _ _ z
   ·rintro σ H3 ⟨w,En,rfl,RE,WU,hS3,Vu,Gq,Rg,hl3,e3⟩;rw[take_length] at Gq;refine⟨En,_,_,_,_,U,RE,WU,⟨hS3.1,λw hw=>?_⟩,Rg,by omega,e3⟩;rw[take_snoc hx] at hw;rcases mem_append.mp hw with hw|hw
    ·exact hS3.2 w hw
    ·have ew:w=x:=by simpa using hw
     rw[ew];exact⟨Vu,Gq⟩
  ·rintro σ H' ⟨kvs,v2,v3,v4,v5,rfl,dH,hT,hS,Zh,P',e⟩;rw[length_map,f6,take_length] at hS;rw[length_map,f6,h3] at P';refine⟨_,U,d,kvs,U, .inl dH,λl2 vR=>?_⟩;have ex:∃xs:List Str,(kvs.map λq=>kV q.1)=xs.map V.str/\(∀x∈xs,Told ws x)/\xs.length=kvs.length:=xW hT;obtain⟨xs,ex,hxs,RG⟩:=ex;refine q l2 xs _ (by rw[af,ex]) hxs (λs hs=>?_) 0e2 0e2 (e.trans (au.new vR))
   have hk:(Sum.inr s:Key)∈kvs.map 2e1:=by
    rcases hs with rfl| ⟨w,hw,rfl⟩ | ⟨w,hw,hs⟩
    ·exact hS.1
    ·exact(hS.2 w hw).1
    ·exact(hS.2 w hw).2 _ hs
   obtain⟨q',jr,e'⟩:=mem_map.mp hk
   have hm:V.str s∈xs.map V.str:=by
    rw[<-ex];exact mem_map.mpr ⟨q',jr,by rw[e'];rfl⟩
   obtain⟨s',pJ,e''⟩:=mem_map.mp hm;injection e'' with e'';rw[<-e''];exact pJ
variable {uC uP uI uD uL uT:Tok}{St:Ps}
inductive Qm(vs:5e2)(H:Hp)(Q:VK)(E:XK):Prop
 |mk (e d:9e7) (kvs:14e3) (bJ:vs=[.ref e, .ref d]) (bT:H e=some (.dK (j8 kvs))) (cw:H d=some (.dK kvs)) (dh:e≠d) (eQ:bh kvs) (ir:(kvs.map (·.1)).Nodup) (qQ:kvs.length<=900) (Di:∀H',au H H'->Q (.bl true) H')
def MN:Sp:=Qm
def vH:ax ["_law_found","_law_due","_law_text_here"] ["_law_found","_law_due"] (ak mJ):=dO
def MO{kvs:Py}(hn:(kvs.map 2e1).Nodup):((j8 kvs).map 2e1).Nodup:=(List.filter_sublist.map _).nodup hn
def Qn(D:Def K mg "_law_amounts" "_law_amounts" mJ ["_law_found","_law_due"])(T:2e7)(c1:bA P w K mg base 1 "_law_whole" ["_law_found"] yQ):bA P w K mg base 2 "_law_amounts" ["_law_found","_law_due"] MN:=by
 obtain⟨_,_,qF⟩:=c1;refine D.fF vH 0e4 0e0
 ·obtain⟨e,d,kvs,rfl,_⟩:=h;rfl
 ·obtain⟨e,d,kvs,rfl,he,hd,Mg,hI,hn,hl,q⟩:=h;have hu:=dQ hr;have WN:=hr.pX;have big:=bgL
  refine⟨_,(ai (bK (nH (gT (bL jv rfl T.dz cX (aa 1e3 (aa (oh (v:= .ty "dict") rfl T.jP iK rfl) aj))))) (ao (aD qO))
      aN) (ai (eN (b8 PassesOwn.never rfl (dw 1e3) (aE (i:=2) vH.nd rfl 0e3) (ao (bK (PW.pt (om (nH (gT (gN qF hr (aa (cD hu 1e3 5e5 1e6) aj)))) (om (aJ oq (cD hu 1e3 5e5 1e6) (cy hu 3e6 5e5 aq 10e2) 18e3) (lL (aJ ou (cD hu 1e3 5e5 1e6) aq 18e3))))) (ao (aD qO))
        aN)))) (ao (aD (ow fA (bL CQ rfl T.lu ix 15e5) (bL dS rfl T.lu ix (aa (rR (fK (sc:=(ak mJ)) (NX:=["_law_found","_law_due","_law_text_here"]) (N:=["_law_text_here","_law_due"]) (fr:=[none,some 1]) AW rfl rfl rfl (dw 3e6) (λ_ _ _ _=>(aE (i:=0) (show (["_law_text_here","_law_due"]:IR).Nodup by decide+kernel) rfl 0e3 5e8)) (λ_ _ _ _=>(mE (aJ lN (cD hu 3e6 1e3 1e6) aq 18e3))) (λ_ _ _ _=>1e3))) aj)) 18e3))))),?_⟩
  refine⟨_,U,_,_,_,_,_,U,U, .dK he,T.k3,_,U,dP ?_⟩;have hIp:bh (j8 kvs):=λp hp=>hI p ((mem_filter.mp hp).1);refine⟨_,U,e,j8 kvs,U,he,λo nf=>d8 nf (λi σ H'=>∃v:Option V,σ=[some 6e8,some (.ref d),v]/\H'=H) ⟨none,U,U⟩ (λi σ H' ⟨_,_,z⟩=>by rw[z];exact he) ?_ ?_⟩
  ·rintro i k v σ H' hi ⟨v2,rfl,rfl⟩;have hm:=mem_of_getElem? hi;obtain⟨z,ez⟩:=hIp _ hm;have ez:v=V.int z:=ez;subst ez
   have hz0:0<z:=by
    have:=(mem_filter.mp hm).2;exact of_decide_eq_true this
   have hzk:aM kvs k=z:=F6 hn ((mem_filter.mp hm).1);have hv:cA (j8 kvs) k=some (V.int z):=i8 (MO hn) hm;have dH:(upd H' e (.gO o (.dK (j8 kvs)))) d=some 2e9:=by rw[ah (Ne.symm Mg)];exact hd
   have hg:=hI.at k;rw[hzk] at hg;refine⟨_,U,_,U,e,V.int z,U, .inl 3e4,z,U,_,U,dP ?_⟩;refine⟨_,U,_,U,e,V.int z,U, .inl 3e4,_,U,d,U, .inl ⟨_, .inl dH⟩,_,U,_,iu.k (k:=k) dH,?_⟩;rw[hg];refine⟨U,_,U,EX rfl ⟨_,U,_,U,e,V.int z,U, .inl 3e4,_,_,U,U,_,U,gM (λec=>?_) λ_=>?_⟩⟩
   ·have ec:z<1:=by simpa using ec
    omega
   ·exact⟨af,some (kV k),U,by rw[kj,fE he]⟩
  ·rintro σ H' ⟨v,rfl,rfl⟩;refine⟨_,U,e,j8 kvs,U, .inl he,_,U,d,kvs,U,hd,λo nf L hL=>?_⟩;have WL:L≠d:=λz=>by rw[z,af] at hL;cases hL
   have vW:H' L=none:=by rwa [ah WL] at hL
   refine mF (a:=d) (D:=L) (kvs:=kvs) (λi σ H2=>∃(v:Option V) (ys:KB),σ=[v,some (.ref d)]/\H2 d=some 9e4/\H2 L=some 3e8/\ys.length=(j8 (kvs.take i)).length/\∀b o',H' b=some o'->b≠d->H2 b=some o') ?_ (λi σ H2 ⟨_,_,_,z,_⟩=>z) ?_ ?_
   ·exact⟨none,[],U,by rw[ah (Ne.symm WL),af],af,U,λb o' z hb=>by rw[ah (ag z vW),ah hb];exact z⟩
   ·rintro i k v σ H2 hi ⟨v',ys,rfl,f1,f2,f4,f5⟩ N hN;have hm:=mem_of_getElem? hi;obtain⟨z,ez⟩:=hI _ hm;have ez:v=V.int z:=ez;subst ez;have hv:cA kvs k=some (V.int z):=i8 hn hm;have CY:=(List.getElem?_eq_some_iff.mp hi).1;have Zw:=zL (kvs.take i);rw[length_take] at Zw;refine⟨_,U,_,U,d,V.int z,U, .inl ⟨_,k, .inr ⟨o,f1⟩,U,hv.symm⟩,_,_,U,U,_,U,gM (λec=>?_) λec=>?_⟩
    ·have ec:0<z:=by simpa using ec
     refine⟨_,U,_,f2,by omega,hN _ _ ⟨_,ys++[kV k],U,by rw[ah (Ne.symm WL)];exact f1,af,?_,λb o' z' hb=>by rw[ah (ag z' vW)];exact f5 b o' z' hb⟩⟩;unfold j8 at f4 |-;rw[length_append,f4,take_snoc hi,filter_append,show [(k,V.int z)].filter (λq=>decide (0<zv q.2))=[(k,V.int z)] by simp [zv,ec],length_append];rfl
    ·have ec:¬0<z:=by simpa using ec
     refine hN _ _ ⟨_,ys,rfl,f1,f2,?_,f5⟩;unfold j8 at f4 |-;rw[f4,take_snoc hi,filter_append,show [(k,V.int z)].filter (λq=>decide (0<zv q.2))=[] by simp [zv,ec],append_nil]
   ·rintro σ H2 ⟨v',ys,rfl,f1,f2,f4,f5⟩;rw[take_length] at f4;refine⟨d,o,kvs,f1,nf,L,ys,U, .inl (bH.of (by rw[ah WL];exact f2)),U,?_⟩;rw[f4,decide_eq_true rfl];refine q _ λb o' z'=>?_;by_cases bd:b=d
    ·subst bd;rw[af];rw[hd] at z';exact z'
    ·rw[ah bd];exact f5 _ _ z' bd
variable {uC uP uI uD uL uT fT fU fV uG uS:Tok}{Ch HE Sh St:Ps}
def tm_at(y:Tm):yh [V.str ((toString y.1 :Str)++" " ++10e0),V.str 10e0] (if decide (V.int y.1=V.int 1)=true then 1 else 0)=some (V.str (u9 y)):=by
 unfold u9;by_cases h:y.1=1
 ·rw[if_pos (decide_eq_true (by rw[h])),if_pos h];rfl
 ·rw[if_neg (by simpa using h),if_neg h];rfl
inductive MP(vs:5e2)(H:Hp)(Q:VK)(E:XK):Prop
 |mk (l r:9e7) (xs ys:List Tm) (bJ:vs=[.ref l, .ref r]) (bT:cz H l xs) (cw:cz H r ys) (dh:(∀x∈xs,rG (10^40) x)) (eQ:(∀y∈ys,rG (10^40) y)) (ir:xs.length<=10) (qQ:ys.length<=10) (Di:∀H',au H H'->Q (.str (Txt.join " -> " [q9 xs,q9 ys])) H')
def Gs:Sp:=MP
def qG:ax ["_law_lefts","_law_rights","_law_sides","_law_side","_law_texts_here","_law_count_here","_law_formula"] ["_law_lefts","_law_rights"] (ak KD):=dO
def MQ(D:Def K mg "_law_text" "_law_text" KD ["_law_lefts","_law_rights"])(T:oY K mg C):bA P w K mg base 1 "_law_text" ["_law_lefts","_law_rights"] Gs:=by
 refine D.fF qG 0e4 0e0
 ·obtain⟨l,r,xs,ys,rfl,_⟩:=h;rfl
 ·obtain⟨l,r,xs,ys,rfl,hxs,Hc,rg,Jk,lx,ly,q⟩:=h;have big:=bgL;have hS:Paired (λa s=>cz H a s/\(∀x∈s,rG (10^40) x)/\s.length<=10) [l,r] [xs,ys]:= .cons ⟨hxs,rg,lx⟩ (.cons ⟨Hc,Jk,ly⟩ .nil);refine⟨_,(ai (aA (i:=2) qG.nd rfl 0e3 (cC aj)) (ai (b8 PassesOwn.never rfl (cS (cC (aa 1e3 11e2))) (aE (i:=3) qG.nd rfl 0e3) (ai (aA (i:=4) qG.nd rfl 0e3 (cC aj)) (ai (b8 PassesOwn.never rfl (cS 19e2) (il rfl (aX (aE (i:=5) qG.nd rfl 0e3) (aX (aE (i:=6) qG.nd rfl 0e3) dR))) (ao (a8 (gP PySem.F.plainAttrs_list PySem.F.slot_list_append PySem.F.type_list_append cH (pv 4) (aa (bF bV (cC (aa (aB bB (aB bB (bD kn rfl T.KL CZ (aa (pv 5) aj)) aU) (bF eS (pv 6) aq 1e6)) (aa (bF eS (pv 6) aq 1e6) aj))) (bD pU rfl T.AY tP (aa (ow fA (pv 5) aq 18e3) aj)) 1e6) aj))))) (ao (a8 (gP PySem.F.plainAttrs_list PySem.F.slot_list_append PySem.F.type_list_append cH 5e5 (aa (gP PySem.F.plainAttrs_str PySem.F.slot_str_join PySem.F.type_str_join rV aU (aa (pv 4) aj)) aj))))))) (ao (aD (gP PySem.F.plainAttrs_str PySem.F.slot_str_join PySem.F.type_str_join rV aU (aa 5e5 aj)))))),?_⟩;refine⟨16e1,λD1 hD1=>?_⟩;have sD:=au.new (o:= .lst []) hD1;refine⟨_,U,_,U,0e9,λZ hZ=>?_⟩;have sZ:=au.new (o:= .lst [.ref l, .ref r]) hZ;have Jl:(upd (upd H D1 9e6) Z (.lst [.ref l, .ref r])) D1=some 9e6:=sZ _ _ af;have hZ2:(upd (upd H D1 9e6) Z (.lst [.ref l, .ref r])) Z=some (.lst [.ref l, .ref r]):=af;have s2:=sD.trans sZ;have nZD:Z≠D1:=λz=>by rw[z,af] at hZ;cases hZ
  have hZH:H Z=none:=none_back sD hZ;generalize upd (upd H D1 9e6) Z (.lst [.ref l, .ref r])=H2 at Jl hZ2 s2 |-;refine⟨Z,U,⟨_,bH.of hZ2⟩,fz (K:=K) (a:=Z) (xs:=[l,r].map V.ref) (λi σ H'=>∃v3 v4 v5 v6:Option V,σ=[some 18e6,some (.ref r),some (.ref D1),v3,v4,v5,v6]/\H' D1=some (.lst ((([xs,ys]:List (List Tm)).take i).map λs=>V.str (q9 s)))/\H' Z=some (.lst [.ref l, .ref r])/\au H H') ?_ (λi σ H' _ ⟨_,_,_,_,_,_,z,_⟩=>bH.of z) ?_ ?_⟩
  ·exact⟨none,none,none,none,U,Jl,hZ2,s2⟩
  ·rintro i v σ H' hi ⟨v3,v4,v5,v6,rfl,FH,hZ',e⟩;rw[getElem?_map] at hi;obtain⟨a,ha,rfl⟩:=gMp hi;obtain⟨sd,hsd,⟨ts,hl,hP⟩,aP,UP⟩:=br hS ha;have f6:=Paired.length hP;have CY:i<2:=(List.getElem?_eq_some_iff.mp hsd).1;refine⟨16e1,λD2 Qo=>?_⟩;have sE:=au.new (o:= .lst []) Qo;have nD12:D1≠D2:=ag FH Qo;have nZ2:Z≠D2:=ag hZ' Qo;have hD2H:H D2=none:=none_back e Qo;dsimp only [bX];refine⟨_,U,a,U,⟨_,bH.of (sE _ _ (e _ _ hl))⟩,fz (K:=K) (a:=a) (xs:=ts.map V.ref) (λj σ H3=>∃w5 w6:Option V,σ=[some 18e6,some (.ref r),some (.ref D1),some 18e2,some (.ref D2),w5,w6]/\H3 D2=some (.lst ((sd.take j).map λx=>V.str (u9 x)))/\H3 D1=some (.lst ((([xs,ys]:List (List Tm)).take i).map λs=>V.str (q9 s)))/\H3 Z=some (.lst [.ref l, .ref r])/\au H H3) ?_ (λj σ H3 _ ⟨_,_,_,_,_,_,z⟩=>bH.of (z _ _ hl)) ?_ ?_⟩
   ·exact⟨v5,v6,U,af,sE _ _ FH,sE _ _ hZ',e.trans sE⟩
   ·rintro j x σ H3 hj ⟨w5,w6,rfl,h2,h1,hz,e3⟩;obtain⟨t,y,rfl,hy,fm,ht,d,hf,hd⟩:=Bq (H:=H) hP hj;have rg:=aP y (mem_of_getElem? hy);have ez:=rg.2.2.2.1;have hjl:j<sd.length:=(List.getElem?_eq_some_iff.mp hy).1;have hzl:((sd.take j).map λx=>V.str (u9 x)).length<sizeLine:=by rw[length_map,length_take];omega
    have l1:(" " :Str).length=1:=by decide+kernel
    have zi:=FK (n:=y.1) (by have:=rg.1;omega) (by have:=rg.2.1;omega);refine⟨t,_,U,iB.of (e3 _ _ ht),U,_,_,U,_,_,U,U,?_⟩;refine⟨_,U, .inl ⟨U,_,bH.of h2⟩,_,U,y.1,U,Px (by have:=rg.1;omega) (by have:=rg.2.1;omega),_,_,U,U,?_,_,U,fm,_,_,V.str 10e0,U,U,iB.of (e3 _ _ hf),U,_,_,U,U,?_,_,U,fm,_,_,V.str 10e0,U,U,iB.of (e3 _ _ hf),U,0e9,λY hY=>⟨_,U,U, .inr ⟨_,U,Y,_,_,V.str (u9 y),U,U,bH.of af,tm_at y,?_⟩⟩⟩
    ·rw[l1];exact le_trans (Nat.add_le_add_right zi 1) 0e1
    ·rw[aZ,l1,bp];exact le_trans (Nat.add_le_add (Nat.add_le_add_right zi 1) ez) 0e1
    have sY:=au.new (o:= .lst [V.str ((toString y.1 :Str)++" " ++10e0),V.str 10e0]) hY;refine⟨D2,_,_,U,U,sY _ _ h2,hzl,_,_,U,?_,?_,?_,λb o z=>?_⟩
    ·rw[af,take_snoc hy,map_append];rfl
    ·rw[ah nD12];exact sY _ _ h1
    ·rw[ah nZ2];exact sY _ _ hz
    ·rw[ah (ag z hD2H)];exact sY _ _ (e3 _ _ z)
   ·rintro σ H3 ⟨w5,w6,rfl,h2,h1,hz,e3⟩;rw[length_map,f6,take_length] at h2;have l3:(" + " :Str).length=3:=by decide+kernel
    have z:=Fs (ys:=sd.map u9) (b:=100) λy hy=>by
     obtain⟨x,hx,rfl⟩:=mem_map.mp hy;exact FL (Int.le_refl _) (aP x hx)
    refine⟨_,U, .inl ⟨U,_,bH.of h1⟩,U,_,U," + ",D2,sd.map u9,U,U,bH.of (by rw[h2,map_map];rfl),?_,?_⟩
    ·rw[length_map] at z |-;rw[l3];omega
    refine⟨D1,_,_,U,U,h1,by rw[length_map,length_take];show min i 2<sizeLine;omega,_,_,_,_,U,?_,?_,λb o z=>?_⟩
    ·rw[af,take_snoc hsd,map_append];rfl
    ·rw[ah nZD];exact hz
    ·rw[ah (ag z hD1)];exact e3 _ _ z
  ·rintro σ H' ⟨v3,v4,v5,v6,rfl,FH,hZ',e⟩;have hx:=xF rg lx;have hy:=xF Jk ly;have l4:(" -> " :Str).length=4:=by decide+kernel
   refine⟨U,_,U," -> ",D1,[q9 xs,q9 ys],U,U,bH.of FH,?_,q _ e⟩;show (q9 xs).length+((q9 ys).length+0)+2*(" -> " :Str).length<=16777216;rw[l4];omega
def b5(am:Py)(xs ys:PP):Nat->List 19e8
 |0=>am
 |t+1=>fH 1 (fH (-1) (b5 am xs ys t) 7e9 7e9) (aF ys) (aF ys)
theorem pD{am:Py}(xs ys:PP)(h:bh am):∀t,bh (b5 am xs ys t)
 |0=>h
 |t+1=>dN _ _ _ _ (dN _ _ _ _ (pD xs ys h t))
theorem B5(c:Int)(all:Py){j:Key}:∀(l acc:Py),j∈acc.map 2e1->j∈(fH c acc l all).map 2e1
 | [],_,h=>h
 |p::r,acc,h=>B5 c all r (cU acc p.1 (c*aM all p.1)) (ik h)
theorem qH{th tk:Py}:∀{l:Py},eZ th tk l=none->∀q∈l,aM tk q.1<=aM th q.1
 | [],_,q,hq=>by cases hq
 |p::r,h,q,hq=>by
  rw[fX] at h;split at h
  ·cases h
  ·rcases mem_cons.mp hq with rfl|hq
   ·omega
   ·exact qH h q hq
def bh.zT{kvs:Py}(h:bh kvs){k:Key}(hm:k∈kvs.map 2e1):cA kvs k=some (.int (aM kvs k)):=by
 obtain⟨⟨k',v⟩,hp,e⟩:=mem_map.mp hm;have e:k'=k:=e;subst e;exact h.eP hp
def Gu(x:Tm):u9 x=⟨(Af x).toArray⟩:=by
 unfold u9 Af Jc;by_cases h:x.1=1
 ·rw[if_pos h,if_pos h,h,jK];rfl
 ·have e:(toString x.1 :Str)=⟨(bM x.1).toArray⟩:=by
   rw[<-dC];unfold fQ;rw[if_neg h]
  rw[if_neg h,if_neg h,e,e32,show (⟨#[32]⟩:Str)=⟨[32].toArray⟩ from rfl,bP,bP,append_assoc]
theorem Gv:∀xs:List Tm,Str.join " + " (xs.map u9)=⟨(zE xs).toArray⟩
 | []=>rfl
 | [x]=>by
   show u9 x=_;rw[Gu];show _=(⟨(Af x++[]).toArray⟩:Str);rw[append_nil]
 |x::y::r=>by
  have ih:=Gv (y::r);show u9 x++" + " ++Str.join " + " ((y::r).map u9)=_;have ej:(" + " :Str)=⟨[32,43,32].toArray⟩:=by decide+kernel
  rw[ih,Gu,ej,bP,bP];congr 2;show Af x++[32,43,32]++(Af y++LY r)=Af x++(([32,43,32]++Af y)++LY r);simp_all
def B6(xs:PP):q9 xs=⟨(zE xs).toArray⟩:=by
 unfold q9;have e:=PyProof.Rows.join_closes (sep:=" + ") (sep':=" + ") (ys:=xs.map u9) rfl;rw[show Txt.join " + " (xs.map u9)=Str.join " + " (xs.map u9) by simpa using e];exact Gv xs
def B7(xs ys:PP):chS xs ys=⟨(zE xs++LZ++zE ys).toArray⟩:=by
 unfold chS;have ea:(" -> " :Str)=⟨LZ.toArray⟩:=by decide+kernel
 rw[B6,B6,ea,bP,bP]
def Gw{x:Tm}(h:eC x):(Af x).length<=46:=by
 obtain⟨h1,h2,_,h3,_⟩:=h;have:=RD h1 h2
 have:(Jc x.1).length<=1:=by
  unfold Jc;split
  ·exact zero_le _
  ·exact le_refl _
 unfold Af
 grind
def Qq{xs:PP}(h:∀x∈xs,eC x):(LY xs).length<=49*xs.length:=by
 induction xs with
 |nil=>exact zero_le _
 |cons x r ih=>
  have h1:=Gw (h x 1e8);have h2:=ih λy hy=>h y 11e5;have h3:=UU x;show (YZ x++LY r).length<=_
  grind
def Gx{xs:PP}(h:∀x∈xs,eC x)(hn:xs≠[]):(zE xs).length+3<=49*xs.length:=by
 cases xs with
 |nil=>exact absurd rfl hn
 |cons x r=>
  have h1:=Gw (h x 1e8);have h2:=Qq λy hy=>h y 11e5;show (Af x++LY r).length+3<=_
  grind
def Qr{xs ys:PP}(hx:∀x∈xs,eC x)(hy:∀x∈ys,eC x)(nx:xs≠[])(ny:ys≠[])(h:xs.length+ys.length<=8):(chS xs ys).length<=400:=by
 have h1:=Gx hx nx;have h2:=Gx hy ny;have h3:LZ.length=4:=rfl;rw[B7,bp,length_append,length_append];omega
def MR(a b:Str):Txt.join " -> " [a,b]=a++" -> " ++b:=by
 have e:=PyProof.Rows.join_closes (sep:=" -> ") (sep':=" -> ") (ys:=[a,b]) rfl;rw[show Txt.join " -> " [a,b]=Str.join " -> " [a,b] by simpa using e];rfl
theorem B8:∀(d:Nat) (m:Int) (t:Tr),og d t->1<=m->∀p∈bz d m t,1<=p.2
 |d,m, .one k n,h,hm,p,hp=>by
  have e:bz d m (.one k n)=[(3e0,n*m)]:=by cases d<;>rfl
  rw[e] at hp;have h:kK k/\1<=n/\n<=999:=by cases d<;>exact h
  have ep:p=(3e0,n*m):=by simpa using hp
  rw[ep];have:=mul_le_mul h.2.1 hm 0e1 0e2;simpa using this
 |0,_, .gr _ _,h,_,_,_=>h.elim
 |d+1,m, .gr ts n,h,hm,p,hp=>by
  obtain⟨t,ht,hp⟩:=mem_flatMap.mp hp;obtain⟨_,h1,n1,n2⟩:=h;have:=mul_le_mul n1 hm 0e1 0e2;exact B8 d (n*m) t (h1 t ht) (by simpa using this) p hp
theorem Gy:∀(d:Nat) (m:Int) (t:Tr),og d t->bz d m t≠[]
 |d,m, .one k n,h=>by
  have e:bz d m (.one k n)=[(3e0,n*m)]:=by cases d<;>rfl
  rw[e];simp
 |0,_, .gr _ _,h=>h.elim
 |d+1,m, .gr ts n,h=>by
  obtain⟨h0,h1,_⟩:=h;intro z
  cases ts with
  |nil=>exact h0 rfl
  |cons t r=>
   have z:bz d (n*m) t++r.flatMap (bz d (n*m))=[]:=z;exact Gy d (n*m) t (h1 t 1e8) (List.append_eq_nil_iff.mp z).1
def Pos(kvs:Py):Prop:=∀q∈kvs,∃i,q.2=V.int i/\1<=i
def Pos.nonneg{kvs:Py}(h:Pos kvs)(k:Key):0<=aM kvs k:=by
 cases e:cA kvs k with
 |none=>rw[fG e];exact Int.le_refl _
 |some v=>
  obtain⟨i,ei,hi⟩:=h _ (gX e);have ei:v=V.int i:=ei;rw[ei] at e;rw[gA e];omega
def Pos.one{kvs:Py}(h:Pos kvs)(hI:bh kvs){k:Key}(hk:k∈kvs.map 2e1):1<=aM kvs k:=by
 have e:=hI.zT hk;obtain⟨i,ei,hi⟩:=h _ (gX e)
 lia
theorem zU:∀(as:WP) (acc:Py),Pos acc->(∀p∈as,1<=p.2)->Pos (bj 1 acc as)
 | [],_,h,_=>h
 |p::r,acc,h,hp=>by
  have h1:=hp p 1e8;refine zU r (cU acc 19e1 (p.2*1)) (λq hq=>?_) λq hq=>hp q 18e4;rcases sI hq with hq|hq
  ·exact h q hq
  ·rw[hq];refine⟨_,U,?_⟩;have:=h.nonneg 19e1;omega
theorem Gz(t:Int){j:Key}:∀(as:WP) (acc:Py),j∈acc.map 2e1->j∈(bj t acc as).map 2e1
 | [],_,h=>h
 |p::r,acc,h=>Gz t r 5e1 (ik h)
theorem Eo(t:Int){p:Str×Int}:∀(as:WP) (acc:Py),p∈as->(Sum.inr p.1 :Key)∈(bj t acc as).map 2e1
 | [],_,h=>by cases h
 |q::r,acc,h=>by
  rcases mem_cons.mp h with rfl|h
  ·exact Gz t r _ (sN _ _ _)
  ·exact Eo t r _ h
def Vv{x:Fm}(h:cQ x):Pos (cW 1 x.1):=zU _ _ (λq hq=>by cases hq) λp hp=>by
 obtain⟨y,hy,hp⟩:=mem_flatMap.mp hp;have Jk:=mR h.1 y hy;obtain⟨t,ht,hp⟩:=mem_flatMap.mp hp;exact B8 1 y.1 t (Jk.2.1 t ht) Jk.2.2.1 p hp
def Vw{x:Fm}(h:cQ x)(k:Key):aM (cW 1 x.1) k<=7*1000000000:=by
 have hb:=yP (t:=1) (b:=1000000000) 0e1 (x.1.flatMap (cY 1)) [] 0 (Int.le_refl _) 12e6 λp hp=>by
  obtain⟨y,hy,hp⟩:=mem_flatMap.mp hp;obtain⟨_,h1,n1,n2⟩:=mR h.1 y hy;obtain⟨t,ht,hp⟩:=mem_flatMap.mp hp;obtain⟨q1,q2⟩:=vp 1 y.1 t (h1 t ht) 0e2 p hp
  lia
 have e7:((x.1.flatMap (cY 1)).length:Int)*1000000000<=7*1000000000:=Int.mul_le_mul_of_nonneg_right (by have:=h.2.2;omega) 0e1
 cases e:cA (cW 1 x.1) k with
 |none=>rw[fG e];decide
 |some v=>
  obtain⟨i,ei,b0,b1⟩:=hb _ (gX e);have ei:v=V.int i:=ei;rw[ei] at e;rw[gA e];omega
def Zx{x:Fm}(h:cQ x)(hx:x.1≠[]):cW 1 x.1≠[]:=by
 intro z
 obtain⟨p,hp⟩:∃p,p∈x.1.flatMap (cY 1):=by
  cases e:x.1 with
  |nil=>exact absurd e hx
  |cons y r=>
   have Jk:=mR h.1 y 9e9
   cases e2:y.2 with
   |nil=>exact absurd e2 Jk.1
   |cons t r2=>
    have hn:=Gy 1 y.1 t (Jk.2.1 t 9e9)
    cases e3:bz 1 y.1 t with
    |nil=>exact absurd e3 hn
    |cons p r3=>
     refine⟨p,mem_flatMap.mpr ⟨y,mem_cons_self ..,?_⟩⟩;unfold cY;simp_all
 have:=Eo 1 _ [] hp;rw[show bj 1 [] (x.1.flatMap (cY 1))=[] from z] at this;cases this
noncomputable def NR(s:Str):Fm:=([(1,[.one s.cps.toList 1])],0)
noncomputable def Iy:Fm:=([], -1)
def B9(s:Str):(⟨(fL (NR s)).toArray⟩:Str)=s:=by
 unfold NR;rw[Mo]
def MS(s:Str):cW 1 (NR s).1=[(Sum.inr s, .int 1)]:=by
 show cU [] (Sum.inr (⟨s.cps.toList.toArray⟩:Str)) (1*1*1)=_;rw[Array.toArray_toList];rfl
def Vx{s:Str}(h:kK s.cps.toList):cQ (NR s):=F9 h
def Zy(s:Str)(k:Key):aM (jR (NR s)) k=if k=Sum.inr 8e6 then 0 else if k=Sum.inr s then 1 else 0:=by
 unfold jR;rw[MS,iQ,P7];rfl
def Zz(k:Key):aM (jR Iy) k=if k=Sum.inr 8e6 then -1 else 0:=by
 show aM (putK [] (Sum.inr 8e6) (.int (-1))) k=_;rw[iQ];rfl
def j9(a b:PP)(k:Key):sumZ (a++b) k=sumZ a k+sumZ b k:=by
 unfold sumZ;simp_all
noncomputable def Qs(m:Int)(w:Fm)(s:Str):Tm:=(m*aM (cW 1 w.1) 16e7,NR s)
theorem xX(m:Int)(w:Fm)(k:Key):∀{ms:IR},ms.Nodup->sumZ (ms.map (Qs m w)) k=if k=Sum.inr 8e6 then 0 else if k∈ms.map Sum.inr then m*aM (cW 1 w.1) k else 0
 | [],_=>by
   rw[map_nil,fI];simp_all
 |s::r,hn=>by
  rw[nodup_cons] at hn;rw[map_cons,gf,xX m w k hn.2];show m*aM (cW 1 w.1) 16e7*aM (jR (NR s)) k+_=_;rw[Zy]
  grind
def ZA(m:Int)(w:Fm)(k:Key):sumZ [(m,w)] k=m*(if k=Sum.inr 8e6 then w.2 else aM (cW 1 w.1) k):=by
 rw[gf,fI,add_zero];unfold jR;rw[iQ]
def ZC(m:Int){w:Fm}(h:cQ w){ms:IR}(hn:ms.Nodup)(hm:∀k,k∈(cW 1 w.1).map 2e1↔k∈ms.map (Sum.inr:Str->Key))(k:Key):sumZ [(m,w)] k=sumZ (ms.map (Qs m w)) k+if k=Sum.inr 8e6 then m*w.2 else 0:=by
 rw[ZA,xX m w k hn];by_cases hp:k=Sum.inr 8e6
 ·rw[if_pos hp,if_pos hp,if_pos hp];omega
 rw[if_neg hp,if_neg hp,if_neg hp,add_zero];by_cases hk:k∈ms.map (Sum.inr:Str->Key)
 ·rw[if_pos hk]
 ·rw[if_neg hk,mL λz=>hk ((hm k).mp z),mul_zero]
def NS(ws:NE)(z:Tm):Prop:=rG 100000000000 z/\Told ws (⟨(fL z.2).toArray⟩:Str)
def vY(ws:NE)(n:Nat)(xs ys:PP):Prop:=xs≠[]/\ys≠[]/\(∀x∈xs,NS ws x)/\(∀y∈ys,NS ws y)/\xs.length+ys.length<=n/\∀k,sumZ xs k=sumZ ys k
def vY.swap{ws:NE}{n:Nat}{xs ys:PP}(h:vY ws n xs ys):vY ws n ys xs:=by
 obtain⟨h1,h2,h3,h4,h5,h6⟩:=h;exact⟨h2,h1,h4,h3,by omega,λk=>(h6 k).symm⟩
def vY.ev{ws:NE}{xs ys:PP}(h:vY ws 8 xs ys):B4 (Txt.join " -> " [q9 xs,q9 ys]) xs ys:=by
 obtain⟨h1,h2,h3,h4,h5,h6⟩:=h;have tw:∀{z:Tm},NS ws z->eC z:=fun {z} h=>⟨h.1.1,Int.le_trans h.1.2.1 0e1,h.1.2.2⟩;have ox:∀t∈xs,eC t:=λt ht=>tw (h3 t ht);have oy:∀t∈ys,eC t:=λt ht=>tw (h4 t ht);have et:Txt.join " -> " [q9 xs,q9 ys]=chS xs ys:=MR _ _
 have fl:∀zs:List Tm,(∀t∈zs,eC t)->Ag zs<=7*zs.length:=λzs=>by
  induction zs with
  |nil=>intro _;exact le_refl _
  |cons z r ih=>
   intro h;have h1:=(h z 1e8).2.2.2.2;have h2:=ih λt ht=>h t (mem_cons_of_mem _ ht);unfold Ag at h2 |-
   grind
 have hf:=fl (xs++ys) λt ht=>by
  grind
 rw[length_append] at hf;rw[et];exact⟨by rw[B7],h1,h2,ox,oy,Qr ox oy h1 h2 h5,h5,by omega,λt ht=>(ox t ht).2.2,λt ht=>(oy t ht).2.2,h6⟩
def GA(ws:NE){n:Int}(h1:1<=n)(h2:n<=10000):NS ws (n,Iy):=⟨⟨h1,by lia,RH⟩, .inl U4⟩
def chg0{ws:NE}{w:Fm}(hw:w∈ws)(ok:cQ w)(h3:(cW 1 w.1).length<=3){m:Int}(m1:1<=m)(m3:m<=3){ks ms:IR}(hk:(cW 1 w.1).map 2e1=ks.map Sum.inr)(pm:ms.Perm ks):
  vY ws 5 ([(m,w)]++if 0<w.2 then [(m*w.2,Iy)] else []) (ms.map (Qs m w)++if w.2<0 then [(0 - m*w.2,Iy)] else []):=by
 have hc:=F4 ok
 have hnd:ms.Nodup:=by
  refine pm.nodup_iff.mpr ?_;have:=Zc w;rw[hk] at this;exact List.Pairwise.of_map (S:=(·≠·)) Sum.inr (λa b h e=>h (by rw[e])) this
 have ZD:∀k,k∈(cW 1 w.1).map 2e1↔k∈ms.map (Sum.inr:Str->Key):=λk=>by rw[hk];exact(pm.map _).mem_iff.symm
 have Y6:ms.length<=3:=by
  have:=congrArg List.length hk;rw[length_map,length_map] at this;rw[pm.length_eq];omega
 have aP:∀s∈ms,NS ws (Qs m w s):=λs hs=>by
  have xm:=(ZD 16e7).mpr (mem_map_of_mem hs);have p1:=(Vv ok).one (zu _) xm;have p2:=Vw ok 16e7;obtain⟨q,hq,e⟩:=mem_map.mp xm;obtain⟨k,hkk,e'⟩:=qz ok q hq;rw[e] at e';injection e' with e';refine⟨⟨?_,?_,Vx (by rw[e'];exact hkk)⟩,?_⟩
  ·show 1<=m*aM (cW 1 w.1) 16e7;obtain rfl|rfl|rfl:m=1\/m=2\/m=3:=by omega
   all_goals omega
  ·show m*aM (cW 1 w.1) 16e7<=100000000000;obtain rfl|rfl|rfl:m=1\/m=2\/m=3:=by omega
   all_goals omega
  ·show Told ws (⟨(fL (NR s)).toArray⟩:Str);rw[B9];exact .inr (.inr ⟨w,hw,xm⟩)
 have hwo:NS ws (m,w):=⟨⟨m1,by lia,ok⟩, .inr (.inl ⟨w,hw,rfl⟩)⟩;refine⟨by simp,?_,λx hx=>?_,λy hy=>?_,?_,λk=>?_⟩
 ·by_cases z:w.1=[]
  ·have e:w.2= -1:=by
    have:=ok.1;rw[z] at this;exact this
   rw[if_pos 0e2];simp
  ·intro z2;have z3:=(List.append_eq_nil_iff.mp z2).1;have z4:ms=[]:=by simpa using z3
   have:=Zx ok z
   have z5:(cW 1 w.1).length=0:=by
    have:=congrArg List.length hk;rw[length_map,length_map,<-pm.length_eq,z4] at this;exact this
   exact this (length_eq_zero_iff.mp z5)
 ·rcases mem_append.mp hx with z|z
  ·rw[mem_singleton.mp z];exact hwo
  ·split at z
   ·rw[mem_singleton.mp z];obtain rfl|rfl|rfl:m=1\/m=2\/m=3:=by omega
    all_goals exact GA ws 0e2 0e2
   ·cases z
 ·rcases mem_append.mp hy with z|z
  ·obtain⟨s,hs,rfl⟩:=mem_map.mp z;exact aP s hs
  ·split at z
   ·rw[mem_singleton.mp z];obtain rfl|rfl|rfl:m=1\/m=2\/m=3:=by omega
    all_goals exact GA ws 0e2 0e2
   ·cases z
 ·rw[length_append,length_append,length_map]
  have a1:(if 0<w.2 then [(m*w.2,Iy)] else []:PP).length+(if w.2<0 then [(0 - m*w.2,Iy)] else []:PP).length<=1:=by
   by_cases c:0<w.2
   ·rw[if_pos c,if_neg 0e2];exact le_refl _
   ·rw[if_neg c];split
    ·exact le_refl _
    ·exact zero_le _
  show 1+_+_<=5;omega
 ·rw[j9,j9,ZC m ok hnd ZD k]
  have se:∀n:Int,sumZ [(n,Iy)] k=n*if k=Sum.inr 8e6 then -1 else 0:=λn=>by
   rw[gf,fI,add_zero,Zz]
  by_cases c:0<w.2
  ·rw[if_pos c,if_neg (by omega:¬w.2<0),se,fI];split<;>omega
  ·rw[if_neg c,fI];by_cases d:w.2<0
   ·rw[if_pos d,se];split<;>omega
   ·rw[if_neg d,fI];have:w.2=0:=by omega
    rw[this];split<;>omega
def vY.a{ws:NE}{n:Nat}{xs ys:PP}(h:vY ws n xs ys){z:Tm}(hz:NS ws z):vY ws (n+2) ([z]++xs) (ys++[z]):=by
 obtain⟨h1,h2,h3,h4,h5,h6⟩:=h;refine⟨by simp,by simp,λx hx=>?_,λx hx=>?_,by rw[length_append,length_append];show 1+_+(_+1)<=_;omega,λk=>by rw[j9,j9,h6 k];omega⟩
 ·grind
 grind
def vY.b{ws:NE}{n:Nat}{xs ys:PP}(h:vY ws n xs ys){o:Fm}{m:Int}(ho:o∈ws)(ok:cQ o)(m1:1<=m)(m4:m<=4):vY ws (n+3) (xs++[(m,o),(1,o)]) ([(m+1,o)]++ys):=by
 obtain⟨h1,h2,h3,h4,h5,h6⟩:=h;have hz:∀{i:Int},1<=i->i<=5->NS ws (i,o):=fun {i} i1 i2=>⟨⟨i1,by lia,ok⟩, .inr (.inl ⟨o,ho,rfl⟩)⟩;refine⟨by simp,by simp,λx hx=>?_,λx hx=>?_,by rw[length_append,length_append];show _+2+(1+_)<=_;omega,λk=>?_⟩
 ·grind
 ·grind
 ·rw[j9,j9,h6 k,gf,gf,fI,gf,fI]
  lia
def vY.mono{ws:NE}{n m:Nat}{xs ys:PP}(h:vY ws n xs ys)(e:n<=m):vY ws m xs ys:=by
 obtain⟨h1,h2,h3,h4,h5,h6⟩:=h;exact⟨h1,h2,h3,h4,by omega,h6⟩
variable {uC uP uI uD uL uT fT fU fV uG uS:Tok}{Ch HE Sh St:Ps}
inductive Ep(vs:5e2)(H:Hp)(Q:VK)(E:XK):Prop
 |mk (c:Int) (wl:9e7) (ws:List Fm) (bJ:vs=[.int c, .ref wl]) (bT:lj H wl ws) (cw:(∀w∈ws,cQ w)) (dh:(∀w∈ws,(cW 1 w.1).length<=3)) (eQ:ws.length=3) (ir:∀(t l r:9e7) (xs ys:List Tm) H',H' t=some (.tup [.ref l, .ref r])->cz H' l xs->cz H' r ys->vY ws 8 xs ys->au H H'->Q (.ref t) H')
def xY:Sp:=Ep
def de:ax ["_law_cell","_law_world_here","_law_text_here","_law_counts","_law_charge","_law_many","_law_lefts","_law_rights","_law_other","_law_more"] 18e5 (ak oS):=dO
def Ca{H:Hp}{wl:Ps}{ws:NE}{ts:UV}(hP:Paired (Bp H) ts ws)(h3:ws.length=3)(c:Int):∃(t:Ps) (x:Fm),yh (ts.map V.ref) (c%3)=some (.ref t)/\x∈ws/\Bp H t x:=by
 have f6:=Paired.length hP;have c0:0<=c%3:=emod_nonneg _ 0e1;have c1:c%3<3:=emod_lt_of_pos _ 0e1;have hi:(c%3).toNat<ts.length:=by omega
 obtain⟨t,ht⟩:∃t,ts[(c%3).toNat]? =some t:=⟨_,getElem?_eq_getElem hi⟩;obtain⟨x,hx,hF⟩:=br hP ht;refine⟨t,x,?_,mem_of_getElem? hx,hF⟩;have:=ku (xs:=ts.map V.ref) (j:=(c%3).toNat) (v:=V.ref t) (by rw[getElem?_map,ht];rfl)
 rwa [Int.toNat_of_nonneg c0] at this
def RQ{H:Hp}{d f u:Ps}{n:Int}(hd:H d=none)(hf:(upd H d (.dK [])) f=none)(hu:(upd (upd H d (.dK [])) f (.tup [.str "e^-", .ref d, .int (-1)])) u=none):fk (upd (upd (upd H d (.dK [])) f (.tup [.str "e^-", .ref d, .int (-1)])) u (.tup [.int n, .ref f])) u (n,Iy)/\au H (upd (upd (upd H d (.dK [])) f (.tup [.str "e^-", .ref d, .int (-1)])) u (.tup [.int n, .ref f])):=by
 have s1:=au.new (o:= .dK []) hd;have s2:=au.new (o:= .tup [.str "e^-", .ref d, .int (-1)]) hf;have s3:=au.new (o:= .tup [.int n, .ref f]) hu;refine⟨⟨f,af,d,?_,s3 _ _ (s2 _ _ af)⟩,(s1.trans s2).trans s3⟩;show _=some (HO.tup [.str ⟨(fL ([], -1)).toArray⟩, .ref d, .int (-1)]);rw[U4];exact s3 _ _ af
def Er(D:Def K mg "_law_change" "_law_change" oS 18e5)(T:10e4):bA P w K mg base 1 "_law_change" 18e5 xY:=by
 refine D.fF de 0e4 0e0
 ·obtain⟨c,wl,ws,rfl,_⟩:=h;rfl
 ·obtain⟨c,wl,ws,rfl,⟨ts,Ot,hP⟩,aP,zS,h3,q⟩:=h;have hu:=dQ hr;have big:=bgL
  refine⟨_,(ai (CB (bF bV 3e6 (aB cx 1e3 aq) 1e6) (il rfl (aX (aE (i:=2) de.nd rfl 0e3) (aX (aE (i:=3) de.nd rfl 5e8) (aX (aE (i:=4) de.nd rfl 0e3) dR))))) (ai (aA (i:=5) de.nd rfl 5e8 (aB cq aq 8e1)) (ai (aA (i:=6) de.nd rfl 0e3 (cC (aa (bq (aa (pv 5) (aa (bq (aa 5e5 (aa 19e2 (aa (pv 4) aj)))) aj))) aj))) (ai (rS (i:=7) de.nd rfl 0e3 (sc:=(ak oS)) (NX:=["_law_cell","_law_world_here","_law_text_here","_law_counts","_law_charge","_law_many","_law_lefts","_law_rights","_law_other","_law_more"]) (N:=["_law_kind_here","_law_many","_law_counts"]) (fr:=[none,some 5,some 3]) AW rfl rfl rfl (cS (bL (oI rfl) rfl T.BP xi (aa 19e2 aj))) (λ_ _ _ _=>(aE (i:=0) (show (["_law_kind_here","_law_many","_law_counts"]:IR).Nodup by decide+kernel) rfl 0e3 5e8)) 17e8 (λ_ _ _ _=>(bq (aa (aB iq 3e6 (cD hu 5e5 1e3 1e6)) (aa (bq (aa 1e3 (aa (yg (tI 1e3 aq yf) rfl rfl 0e7 0e1) 16e6))) aj))))) (ai (bK (aJ ou (pv 4) aq 18e3) (ao (a8 (gP PySem.F.plainAttrs_list PySem.F.slot_list_append PySem.F.type_list_append cH (pv 7) (aa (bq (aa (aB km aq (aB iq (pv 5) (pv 4))) (aa (bq (aa aU (aa d7 (aa (qP lM aq) aj)))) aj))) aj))))
      aN) (ai (bK (aJ lN (pv 4) aq 18e3) (ao (a8 (gP PySem.F.plainAttrs_list PySem.F.slot_list_append PySem.F.type_list_append cH (pv 6) (aa (bq (aa (aB iq (pv 5) (pv 4)) (aa (bq (aa aU (aa d7 (aa (qP lM aq) aj)))) aj))) aj))))
      aN) (ai (aA (i:=8) de.nd rfl 0e3 (bF bV 3e6 8e1 1e6)) (ai (aA (i:=9) de.nd rfl 0e3 (aB cq aq 8e1)) (ai (bK (aJ fA 8e1 aq 18e3) (ai (aA (i:=6) de.nd rfl 0e3 (aB nJ (cC (aa (bq (aa (pv 9) (aa (pv 8) aj))) aj)) (pv 6))) (ao (aA (i:=7) de.nd rfl 0e3 (aB nJ (pv 7) (cC (aa (bq (aa (pv 9) (aa (pv 8) aj))) aj))))))
      aN) (ai (bK (aJ fA 8e1 aq 18e3) (ai (aA (i:=6) de.nd rfl 0e3 (aB nJ (pv 6) (cC (aa (bq (aa (pv 9) (aa (pv 8) aj))) (aa (bq (aa aq (aa (pv 8) aj))) aj))))) (ao (aA (i:=7) de.nd rfl 0e3 (aB nJ (cC (aa (bq (aa (aB cq (pv 9) aq) (aa (pv 8) aj))) aj)) (pv 7)))))
      aN) (ai (bK (aJ fA 8e1 aq 18e3) (ao (aD (bq (aa (pv 7) (aa (pv 6) aj)))))
      aN) (ao (aD (bq (aa (pv 6) (aa (pv 7) aj)))))))))))))))),?_⟩
  obtain⟨t,x,vX,Vt,cd,Wx,hx2⟩:=Ca (wl:=wl) hP h3 c;refine⟨_,U,_,U,_,_,U,U,(by show (0 :Int) <3;decide),wl,_,_,V.ref t,U,U,bH.of Ot,vX,?_⟩;refine⟨t,_,U,iB.of Wx,U,_,_,U,_,_,U,_,_,U,U,?_⟩;refine⟨_,U,_,_,U,U,2e5,_,_,U,U,(by show (0 :Int) <3;decide),_,_,U,U,?_⟩;have m0:0<=c/3%3:=emod_nonneg _ 0e1;have m1:c/3%3<3:=emod_lt_of_pos _ 0e1;dsimp only [bX];obtain⟨m,em⟩:∃m,m=1+c/3%3:=3e5;rw[<-em];have mm1:1<=m:=by omega
  have mm3:m<=3:=by omega
  clear em m0 m1;refine⟨_,U,_,U,_,U,_,U,6e5,λp hp=>⟨0e9,λq1 Jh=>⟨6e6,λL hL=>?_⟩⟩⟩;have s1:=au.new (o:= .tup [.str 5e6, .ref cd, .int x.2]) hp;have s2:=au.new (o:= .tup [.int m, .ref p]) Jh;have s3:=au.new (o:= .lst [.ref q1]) hL;have e3:=(s1.trans s2).trans s3;have nR:(upd (upd (upd H p (.tup [.str 5e6, .ref cd, .int x.2])) q1 (.tup [.int m, .ref p])) L (.lst [.ref q1])) L=some (.lst [.ref q1]):=af;have WU:fk (upd (upd (upd H p (.tup [.str 5e6, .ref cd, .int x.2])) q1 (.tup [.int m, .ref p])) L (.lst [.ref q1])) q1 (m,x):=⟨p,s3 _ _ af,cd,s3 _ _ (s2 _ _ af),e3 _ _ hx2⟩;have hLH:H L=none:=none_back (s1.trans s2) hL;dsimp only [bX];generalize upd (upd (upd H p (.tup [.str 5e6, .ref cd, .int x.2])) q1 (.tup [.int m, .ref p])) L (.lst [.ref q1])=H3 at e3 nR WU |-;have rg:=aP x Vt;have Vs:=zS x Vt;have Ae:(((cW 1 x.1).map 2e1).filterMap Y5).map Sum.inr=(cW 1 x.1).map 2e1:=F1 (F2 x.1);obtain⟨ks,eks⟩:∃ks,ks=((cW 1 x.1).map 2e1).filterMap Y5:=3e5;rw[<-eks] at Ae
  have qx:ks.length<=3:=by
   have:=congrArg List.length Ae;rw[length_map,length_map] at this;omega
  refine⟨_,U,cd,cW 1 x.1,ks,U, .inl (e3 _ _ hx2),Ae.symm,by omega,λl2 ms pm sm vR=>?_⟩;have s4:=au.new (o:= .lst (ms.map V.str)) vR;have Rm:(upd H3 l2 (.lst (ms.map V.str))) l2=some (.lst (ms.map V.str)):=af;have e4:=e3.trans s4;have zo:=s4 _ _ nR;have Rw:=WU.same s4;generalize upd H3 l2 (.lst (ms.map V.str))=H4 at e4 Rm zo Rw |-;have Y6:ms.length<=3:=by rw[pm.length_eq];exact qx
  refine⟨l2,U,⟨_,bH.of Rm⟩,λR0 hR0=>jW (K:=K) (a:=l2) (L:=R0) (xs:=ms.map V.str) H4 (fun σ=>∃v:Option V,σ=[v,some (.int m),some (.ref cd)]) (λi ys H'=>∃us:List Addr,ys=us.map V.ref/\us.length=i/\Paired (λu z=>u≠R0/\∃f d,f≠R0/\d≠R0/\H' u=some (.tup [.int z.1, .ref f])/\H' f=some (.tup [.str ⟨(fL z.2).toArray⟩, .ref d, .int z.2.2])/\H' d=some (.dK (cW 1 z.2.1))) us ((ms.take i).map (Qs m x))) (bH.of Rm) ?_ hR0 ⟨none,U⟩ (au.new hR0) af ⟨[],U,U, .nil⟩ 13e1 ?_ ?_ ?_⟩
  ·rintro i ys Ha Hb hb ⟨us,h1,h2,h4⟩;exact⟨us,h1,h2,av (λu z ⟨n1,f,d,n2,n3,z1,z2,z3⟩=>⟨n1,f,d,n2,n3,hb _ _ z1 n1,hb _ _ z2 n2,hb _ _ z3 n3⟩) h4⟩
  ·rintro i ys H' ⟨us,rfl,h2,_⟩;rw[length_map,h2];exact le_refl _
  ·rintro i v σ H5 ys hi ⟨v0,rfl⟩ e5 Ld ⟨us,rfl,Ie,Vy⟩ N M hN;rw[getElem?_map] at hi;obtain⟨sk,hsk,rfl⟩:=gMp hi
   have xm:(Sum.inr sk:Key)∈(cW 1 x.1).map 2e1:=by
    rw[<-Ae];exact mem_map_of_mem (pm.mem_iff.mp (mem_of_getElem? hsk))
   have hv:=(zu x.1).zT xm;have hcd5:H5 cd=some (.dK (cW 1 x.1)):=e5 _ _ (e4 _ _ hx2);refine⟨_,U,_,U,_,U,cd,V.int (aM (cW 1 x.1) (Sum.inr sk)),U, .inl ⟨_,Sum.inr sk, .inl hcd5,U,hv.symm⟩,_,_,U,U, .inl 14e5,?_⟩;refine⟨_,U,λd hd=>⟨_,U,af,[(Sum.inr sk, .int 1)],U,(by show 1<=15;decide),6e5,λf' hf=>⟨0e9,λu Je=>?_⟩⟩⟩
   have t1:au H5 (upd (upd H5 d (.dK [])) d (.dK (cP [] [(Sum.inr sk,V.int 1)]))):=λb o z=>by
    rw[ah (ag z hd),ah (ag z hd)];exact z
   have t2:=au.new (o:= .tup [.str sk, .ref d, .int 0]) hf;have t3:=au.new (o:= .tup [.int (m*aM (cW 1 x.1) (Sum.inr sk)), .ref f']) Je;have e6:=(t1.trans t2).trans t3;have Zj:=t3 _ _ (t2 _ _ (af (H:=upd H5 d (.dK [])) (a:=d) (o:= .dK (cP [] [(Sum.inr sk,V.int 1)]))));have hf6:=t3 _ _ (af (H:=upd (upd H5 d (.dK [])) d (.dK (cP [] [(Sum.inr sk,V.int 1)]))) (a:=f') (o:= .tup [.str sk, .ref d, .int 0]));have Jn:=e6 _ _ Ld;refine hN _ _ _ 3e5 (e5.trans e6) Jn ⟨us++[u],by rw[map_append];rfl,by rw[length_append,Ie];rfl,?_⟩;rw[take_snoc hsk,map_append];refine bI ⟨bC (af (o:= .tup [.int (m*aM (cW 1 x.1) (Sum.inr sk)), .ref f'])) Jn 0e7,f',d,bC hf6 Jn 0e7,bC Zj Jn 0e7,af,?_,?_⟩ (av (λu z ⟨n1,f,d,n2,n3,z1,z2,z3⟩=>⟨n1,f,d,n2,n3,e6 _ _ z1,e6 _ _ z2,e6 _ _ z3⟩) Vy)
   ·show _=some (HO.tup [.str ⟨(fL (NR sk)).toArray⟩, .ref d, .int 0]);rw[B9];exact hf6
   ·show _=some (HO.dK (cW 1 (NR sk).1));rw[MS];exact Zj
  ·rintro H5 ys e5 Ld ⟨us,rfl,Ie,Vy⟩;rw[length_map,take_length] at Vy;have MT:Paired (fk H5) us (ms.map (Qs m x)):=av (λu z ⟨n1,f,d,n2,n3,z1,z2,z3⟩=>⟨f,z1,d,z2,z3⟩) Vy;clear Vy;have hR0H:H R0=none:=none_back e4 hR0;have nLR:L≠R0:=ag zo hR0;have j3:=e5 _ _ zo;have hT5:=Rw.same e5;have e05:=e4.trans e5;have hul':us.length<=3:=by rw[Ie,length_map];exact Y6
   dsimp only [Ap];refine iL (fun σ' H'=>∃us:List Addr,σ'=[some (.int c),some (.ref wl),some (.str 5e6),some (.ref cd),some (.int x.2),some (.int m),some (.ref L),some (.ref R0),none,none]/\H' R0=some (.lst (us.map V.ref))/\us.length<=4/\Paired (fk H') us (ms.map (Qs m x)++if x.2<0 then [(0 - m*x.2,Iy)] else [])/\H' L=some (.lst [.ref q1])/\fk H' q1 (m,x)/\au H H') (λN hN=>?_) ?_
   ·refine⟨_,U,_,_,U,U,_,U,gM (λen=>?_) λen=>?_⟩
    ·have en:x.2<0:=by simpa using en
     refine⟨_,U, .inl ⟨U,_,bH.of Ld⟩,_,U,_,U,_,_,U,U, .inl 14e5,_,_,U,U,λd hd=>⟨1,U,6e5,λf' hf=>⟨0e9,λu Je=>?_⟩⟩⟩;obtain⟨tu,t6⟩:=RQ (n:=0 - m*x.2) hd hf Je;have Jn:=t6 _ _ Ld;refine⟨R0,_,_,U,U,Jn,by rw[length_map];omega,hN _ _ ⟨us++[u],U,by rw[af,map_append];rfl,by rw[length_append];show _+1<=4;omega,?_,?_,?_,?_⟩⟩
     ·rw[if_pos en];exact bI (tu.but Jn λb o z n=>by rw[ah n];exact z) (av (λa z h=>(h.same t6).but Jn λb o z n=>by rw[ah n];exact z) MT)
     ·rw[ah nLR];exact t6 _ _ j3
     ·exact(hT5.same t6).but Jn λb o z n=>by rw[ah n];exact z
     ·exact λb o z=>by rw[ah (ag z hR0H)];exact t6 _ _ (e05 _ _ z)
    ·have en:¬x.2<0:=by simpa using en
     refine hN _ _ ⟨us,rfl,Ld,by omega,?_,j3,hT5,e05⟩;rw[if_neg en,append_nil];exact MT
   rintro σ' H6 ⟨us,rfl,Jn,hu4,MT,Cv,hT6,e6⟩;refine iL (fun σ' H'=>∃ls:List Addr,σ'=[some (.int c),some (.ref wl),some (.str 5e6),some (.ref cd),some (.int x.2),some (.int m),some (.ref L),some (.ref R0),none,none]/\H' R0=some (.lst (us.map V.ref))/\Paired (fk H') us (ms.map (Qs m x)++if x.2<0 then [(0 - m*x.2,Iy)] else [])/\H' L=some (.lst (ls.map V.ref))/\Paired (fk H') ls ([(m,x)]++if 0<x.2 then [(m*x.2,Iy)] else [])/\au H H') (λN hN=>?_) ?_
   ·refine⟨_,U,_,_,U,U,_,U,gM (λen=>?_) λen=>?_⟩
    ·have en:0<x.2:=by simpa using en
     refine⟨_,U, .inl ⟨U,_,bH.of Cv⟩,_,U,_,U,_,_,U,U, .inl 14e5,λd hd=>⟨1,U,6e5,λf' hf=>⟨0e9,λu Je=>?_⟩⟩⟩;obtain⟨tu,t6⟩:=RQ (n:=m*x.2) hd hf Je;have Qt:=t6 _ _ Cv;refine⟨L,_,_,U,U,Qt,(by show 1<sizeLine;decide),hN _ _ ⟨[q1,u],U,?_,?_,?_,?_,?_⟩⟩
     ·rw[ah (Ne.symm nLR)];exact t6 _ _ Jn
     ·exact av (λa z h=>(h.same t6).but Qt λb o z n=>by rw[ah n];exact z) MT
     ·rw[af];rfl
     ·rw[if_pos en];exact .cons ((hT6.same t6).but Qt λb o z n=>by rw[ah n];exact z) (.cons (tu.but Qt λb o z n=>by rw[ah n];exact z) .nil)
     ·exact λb o z=>by rw[ah (ag z hLH)];exact t6 _ _ (e6 _ _ z)
    ·have en:¬0<x.2:=by simpa using en
     refine hN _ _ ⟨[q1],rfl,Jn,MT,Cv,?_,e6⟩;rw[if_neg en,append_nil];exact .cons hT6 .nil
   rintro σ' H7 ⟨ls,rfl,hR7,hPr,Qt,hPl,e7⟩;have hG:=chg0 Vt rg Vs mm1 mm3 Ae.symm pm;have GB:cz H7 L _:=⟨ls,Qt,hPl⟩;have GC:cz H7 R0 _:=⟨us,hR7,hPr⟩;generalize ([(m,x)]++if 0<x.2 then [(m*x.2,Iy)] else [])=xs at hG GB;generalize (ms.map (Qs m x)++if x.2<0 then [(0 - m*x.2,Iy)] else [])=ys at hG GC;obtain⟨t2,o2,UM,hom,ZE⟩:=Ca (wl:=wl) hP h3 (c/27);refine⟨_,U,_,U,_,_,U,U,2e5,_,_,U,U,(by show (0 :Int) <3;decide),wl,_,_,V.ref t2,U,U,bH.of (e7 _ _ Ot),UM,?_⟩;refine⟨_,U,_,_,U,U,2e5,_,_,U,U,(by show (0 :Int) <4;decide),_,_,U,U,?_⟩;have n0:0<=c/81%4:=emod_nonneg _ 0e1;have n1:c/81%4<4:=emod_lt_of_pos _ 0e1;dsimp only [bX,Ap];obtain⟨mo,emo⟩:∃m,m=1+c/81%4:=3e5;rw[<-emo];have mo1:1<=mo:=by omega
   have mo4:mo<=4:=by omega
   clear emo n0 n1;have okl:NS ws (mo,o2):=⟨⟨mo1,by show mo<=100000000000;omega,aP o2 hom⟩, .inr (.inl ⟨o2,hom,rfl⟩)⟩;refine iL (fun σ' H'=>∃(L R0:Ps) (xs ys:PP),σ'=[some (.int c),some (.ref wl),some (.str 5e6),some (.ref cd),some (.int x.2),some (.int m),some (.ref L),some (.ref R0),some (.ref t2),some (.int mo)]/\cz H' L xs/\cz H' R0 ys/\vY ws 8 xs ys/\(¬c/9%3=1->vY ws 5 xs ys)/\au H H') (λN hN=>?_) ?_
   ·refine⟨_,U,_,_,U,U,2e5,_,_,U,U,(by show (0 :Int) <3;decide),U,_,U,gM (λev=>?_) λev=>?_⟩
    ·have ev:c/9%3=1:=by simpa using ev
     obtain⟨Iz,uQ,MU⟩:=GB;obtain⟨xM,d5,MV⟩:=GC;have l1:=Paired.length MU;have l2:=Paired.length MV;have l5:=hG.2.2.2.2.1;refine⟨_,U,_,U,0e9,λp hp=>⟨6e6,λq2 NI=>?_⟩⟩;have s1:=au.new (o:= .tup 10e8) hp;have s2:=s1.trans (au.new (o:= .lst [.ref p]) NI);have Q1:=au.new (o:= .lst [.ref p]) NI _ _ (af (H:=H7) (a:=p) (o:= .tup 10e8));have ZF:(upd (upd H7 p (.tup 10e8)) q2 (.lst [.ref p])) q2=some (.lst [.ref p]):=af;generalize upd (upd H7 p (.tup 10e8)) q2 (.lst [.ref p])=H8 at s2 Q1 ZF |-;refine⟨_,U,q2,L,[.ref p],Iz.map V.ref,U,U,ZF,s2 _ _ uQ,by rw[length_map];show 1+_<=_;omega,λL2 uR=>?_⟩;have s3:=au.new (o:= .lst ([.ref p]++Iz.map V.ref)) uR;have ZG:(upd H8 L2 (.lst ([.ref p]++Iz.map V.ref))) L2=some (.lst ([.ref p]++Iz.map V.ref)):=af;have ZH:=s2.trans s3;have ZI:=s3 _ _ Q1;generalize upd H8 L2 (.lst ([.ref p]++Iz.map V.ref))=H9 at ZH ZG ZI |-;refine⟨_,U,_,U,_,U,0e9,λp' yn=>⟨6e6,λq3 UD=>?_⟩⟩;have r1:=au.new (o:= .tup 10e8) yn;have r2:=r1.trans (au.new (o:= .lst [.ref p']) UD);have ZJ:=au.new (o:= .lst [.ref p']) UD _ _ (af (H:=H9) (a:=p') (o:= .tup 10e8));have ZK:(upd (upd H9 p' (.tup 10e8)) q3 (.lst [.ref p'])) q3=some (.lst [.ref p']):=af;generalize upd (upd H9 p' (.tup 10e8)) q3 (.lst [.ref p'])=CV at r2 ZJ ZK |-;have JU:=ZH.trans r2;refine⟨R0,q3,xM.map V.ref,[.ref p'],U,U,JU _ _ d5,ZK,by rw[length_map];show _+1<=_;omega,λR2 i0=>?_⟩;have r3:=au.new (o:= .lst (xM.map V.ref++[.ref p'])) i0;have wK:=JU.trans r3;refine hN _ _ ⟨L2,R2,[(mo,o2)]++xs,ys++[(mo,o2)],rfl,⟨[p]++Iz,?_,?_⟩,⟨xM++[p'],?_,?_⟩,(hG.a okl).mono 0e1,λz=>absurd ev z,e7.trans wK⟩
     ·rw[map_append];exact r3 _ _ (r2 _ _ ZG)
     ·exact .cons ⟨t2,r3 _ _ (r2 _ _ ZI),ZE.same (e7.trans wK)⟩ (av (λa z h=>h.same wK) MU)
     ·rw[map_append];exact af
     ·exact bI ⟨t2,r3 _ _ ZJ,ZE.same (e7.trans wK)⟩ (av (λa z h=>h.same wK) MV)
    ·have ev:¬c/9%3=1:=by simpa using ev
     exact hN _ _ ⟨L,R0,xs,ys,rfl,GB,GC,hG.mono 0e1,λ_=>hG,e7⟩
   clear GB GC hG;rintro σ' H8 ⟨L,R0,xs,ys,rfl,GB,GC,ZL,hG5,e8⟩;refine iL (fun σ' H'=>∃(L R0:Ps) (xs ys:PP),σ'=[some (.int c),some (.ref wl),some (.str 5e6),some (.ref cd),some (.int x.2),some (.int m),some (.ref L),some (.ref R0),some (.ref t2),some (.int mo)]/\cz H' L xs/\cz H' R0 ys/\vY ws 8 xs ys/\au H H') (λN hN=>?_) ?_
   ·refine⟨_,U,_,_,U,U,2e5,_,_,U,U,(by show (0 :Int) <3;decide),U,_,U,gM (λev=>?_) λev=>?_⟩
    ·have ev:c/9%3=2:=by simpa using ev
     have hG:=hG5 0e2;obtain⟨Iz,uQ,MU⟩:=GB;obtain⟨xM,d5,MV⟩:=GC;have l1:=Paired.length MU;have l2:=Paired.length MV;have l5:=hG.2.2.2.2.1;refine⟨_,U,_,U,_,U,0e9,λp hp=>⟨_,U,0e9,λp1 hp1=>⟨0e9,λq2 NI=>?_⟩⟩⟩;have s1:=au.new (o:= .tup 10e8) hp;have s1':=au.new (o:= .tup [.int 1, .ref t2]) hp1;have Vz:=au.new (o:= .lst [.ref p, .ref p1]) NI;have s2:=(s1.trans s1').trans Vz;have Q1:=Vz _ _ (s1' _ _ (af (H:=H8) (a:=p) (o:= .tup 10e8)));have ZM:=Vz _ _ (af (H:=upd H8 p (.tup 10e8)) (a:=p1) (o:= .tup [.int 1, .ref t2]));have ZF:(upd (upd (upd H8 p (.tup 10e8)) p1 (.tup [.int 1, .ref t2])) q2 (.lst [.ref p, .ref p1])) q2=some (.lst [.ref p, .ref p1]):=af;generalize upd (upd (upd H8 p (.tup 10e8)) p1 (.tup [.int 1, .ref t2])) q2 (.lst [.ref p, .ref p1])=H9 at s2 Q1 ZM ZF |-;refine⟨L,q2,Iz.map V.ref,[.ref p, .ref p1],U,U,s2 _ _ uQ,ZF,by rw[length_map];show _+2<=_;omega,λL2 uR=>?_⟩;have s3:=au.new (o:= .lst (Iz.map V.ref++[.ref p, .ref p1])) uR;have ZG:(upd H9 L2 (.lst (Iz.map V.ref++[.ref p, .ref p1]))) L2=some (.lst (Iz.map V.ref++[.ref p, .ref p1])):=af;have ZH:=s2.trans s3;have ZI:=s3 _ _ Q1;have ZN:=s3 _ _ ZM;generalize upd H9 L2 (.lst (Iz.map V.ref++[.ref p, .ref p1]))=CV at ZH ZG ZI ZN |-;refine⟨_,U,_,_,U,U,_,U,0e9,λp' yn=>⟨6e6,λq3 UD=>?_⟩⟩;have r1:=au.new (o:= .tup [.int (mo+1), .ref t2]) yn;have r2:=r1.trans (au.new (o:= .lst [.ref p']) UD);have ZJ:=au.new (o:= .lst [.ref p']) UD _ _ (af (H:=CV) (a:=p') (o:= .tup [.int (mo+1), .ref t2]));have ZK:(upd (upd CV p' (.tup [.int (mo+1), .ref t2])) q3 (.lst [.ref p'])) q3=some (.lst [.ref p']):=af;generalize upd (upd CV p' (.tup [.int (mo+1), .ref t2])) q3 (.lst [.ref p'])=WV at r2 ZJ ZK |-;have wK:=ZH.trans r2;refine⟨_,U,q3,R0,[.ref p'],xM.map V.ref,U,U,ZK,wK _ _ d5,by rw[length_map];show 1+_<=_;omega,λR2 i0=>?_⟩;have r3:=au.new (o:= .lst ([.ref p']++xM.map V.ref)) i0;have WW:=wK.trans r3;refine hN _ _ ⟨L2,R2,xs++[(mo,o2),(1,o2)],[(mo+1,o2)]++ys,rfl,⟨Iz++[p,p1],?_,?_⟩,⟨[p']++xM,?_,?_⟩,hG.b hom (aP o2 hom) mo1 mo4,e8.trans WW⟩
     ·rw[map_append];exact r3 _ _ (r2 _ _ ZG)
     ·exact ji (av (λa z h=>h.same WW) MU) (.cons ⟨t2,r3 _ _ (r2 _ _ ZI),ZE.same (e8.trans WW)⟩ (.cons ⟨t2,r3 _ _ (r2 _ _ ZN),ZE.same (e8.trans WW)⟩ .nil))
     ·rw[map_append];exact af
     ·exact .cons ⟨t2,r3 _ _ ZJ,ZE.same (e8.trans WW)⟩ (av (λa z h=>h.same WW) MV)
    ·exact hN _ _ ⟨L,R0,xs,ys,rfl,GB,GC,ZL,e8⟩
   clear GB GC ZL hG5;rintro σ' H9 ⟨L,R0,xs,ys,rfl,GB,GC,ZL,e9⟩;refine⟨_,U,_,_,U,U,2e5,_,_,U,U,(by show (0 :Int) <2;decide),U,_,U,gM (λev=>?_) λev=>?_⟩
   ·exact⟨_,U,_,U,0e9,λt hT=>q t R0 L ys xs _ af (GC.same (au.new hT)) (GB.same (au.new hT)) ZL.swap (e9.trans (au.new hT))⟩
   ·exact⟨_,U,_,U,0e9,λt hT=>q t L R0 xs ys _ af (GB.same (au.new hT)) (GC.same (au.new hT)) ZL (e9.trans (au.new hT))⟩
theorem i6(c:Int)(all:Py):∀(l acc:Py),(∀q∈l,q.1∈acc.map 2e1)->(fH c acc l all).map 2e1=acc.map 2e1
 | [],_,_=>rfl
 |p::r,acc,h=>by
  have e:(cU acc p.1 (c*aM all p.1)).map 2e1=acc.map 2e1:=by
   unfold cU;rw[uk];unfold lI;rw[if_pos (h p 1e8)]
  have:=i6 c all r (cU acc p.1 (c*aM all p.1)) λq hq=>by rw[e];exact h q 18e4
  rw[e] at this;exact this
def ZO(t:Int)(k:Key):∀(as:WP) (acc:Py),aM (bj t acc as) k=aM acc k+t*aM (bj 1 [] as) k:=by
 have key:∀(t:Int) (as:WP) (acc:Py),aM (bj t acc as) k=aM acc k+t*(as.map λp=>if (Sum.inr p.1 :Key)=k then p.2 else 0).sum:=by
  intro t as
  induction as with
  |nil=>intro acc;show aM acc k=_;simp
  |cons p r ih=>
   intro acc;show aM (bj t 5e1 r) k=_;rw[ih,Fu,map_cons,sum_cons,Int.mul_add,Int.add_assoc]
   grind
 intro as acc;rw[key t as acc,key 1 as []];show _=_+t*(0+1*_);simp_all
def ZP{KV:Py}(hI:bh KV)(k:Key):aM (vn KV KV) k=aM KV k:=by
 cases e:cA (vn KV KV) k with
 |some v=>
  have hm:=gX e;obtain⟨q,_,eq'⟩:=mem_map.mp hm;injection eq' with e1 e2;rw[<-e2] at e;rw[gA e,e1]
 |none=>
  rw[fG e];refine Classical.byContradiction λz=>?_;have xm:k∈KV.map 2e1:=Classical.byContradiction λh=>z (mL h).symm;obtain⟨q,hq,rfl⟩:=mem_map.mp xm;refine oE e (mem_map.mpr ⟨(q.1,V.int (aM KV q.1)),mem_map.mpr ⟨q,mem_filter.mpr ⟨hq,decide_eq_true λh=>z h.symm⟩,rfl⟩,rfl⟩)
def Cb(xs ys:PP)(k:Key):aM 10e3 k=aM (aF ys) k - aM 7e9 k:=by
 have e:aM 10e3 k=aM (xN xs ys) k:=ZP (FZ xs ys) k;rw[e];show aM (bj (-1) (aF ys) (gL xs)) k=_;rw[ZO];show _+ -1*aM 7e9 k=_;omega
def InK(am:Py)(xs ys:PP):Prop:=(∀q∈aF xs,q.1∈am.map 2e1)/\∀q∈aF ys,q.1∈am.map 2e1
theorem mX{am:Py}{xs ys:PP}(h:InK am xs ys):∀t,(b5 am xs ys t).map 2e1=am.map 2e1
 |0=>rfl
 |t+1=>by
  have ih:=mX h t;have e1:=i6 (-1) 7e9 7e9 (b5 am xs ys t) (by rw[ih];exact h.1);have e2:=i6 1 (aF ys) (aF ys) (fH (-1) (b5 am xs ys t) 7e9 7e9) (by rw[e1,ih];exact h.2);show (fH 1 _ _ _).map _=_;rw[e2,e1,ih]
def MW(xs:PP):((aF xs).map 2e1).Nodup:=jD _
theorem walk_z(am:Py)(xs ys:PP)(k:Key):∀t:Nat,aM (b5 am xs ys t) k=aM am k+t*(aM (aF ys) k - aM 7e9 k)
 |0=>by show aM am k=_;simp
 |t+1=>by
  show aM (fH 1 _ _ _) k=_;rw[zJ 1 (MW ys),zJ (-1) (MW xs),walk_z am xs ys k t]
  lia
def MX{am:Py}{xs ys:PP}(h:InK am xs ys):∀q∈jt xs ys,q.1∈am.map 2e1:=λq hq=>by
 have h1:=(BO (xN xs ys) (xN xs ys)).mem (mem_map_of_mem (f:=2e1) hq);obtain⟨q',jr,e⟩:=mem_map.mp h1;rw[<-e];refine mU (Pk:=λj=>j∈am.map 2e1) (-1) (gL xs) (aF ys) h.2 (λp hp=>?_) q' jr;have:=Eo 1 (gL xs) [] hp;obtain⟨q2,h2,e2⟩:=mem_map.mp this;rw[<-e2];exact h.1 q2 h2
def ZQ(xs ys:PP):((jt xs ys).map 2e1).Nodup:=L5 _ (L6 xs ys)
def zV(am:Py)(xs ys:PP)(T:Int)(k:Key):aM (dE am xs ys T) k=aM am k+T*aM 10e3 k:=zJ T (ZQ xs ys) am k
def xZ{am:Py}{xs ys:PP}(hI:bh am)(hn:(am.map 2e1).Nodup)(h:InK am xs ys)(t:Nat):b5 am xs ys t=dE am xs ys t:=by
 have k1:=mX h t;have k2:(dE am xs ys t).map 2e1=am.map 2e1:=i6 _ _ _ _ (MX h);refine AZ (pD xs ys hI t) (dN _ _ _ _ hI) (by rw[k1];exact hn) (by rw[k1,k2]) λk=>?_;rw[walk_z];rw[zV,Cb]
theorem zW{th tk:Py}:∀{l:Py},(∀q∈l,aM tk q.1<=aM th q.1)->eZ th tk l=none
 | [],_=>rfl
 |p::r,h=>by
  rw[fX,if_neg 9e9];exact zW λq hq=>h q 18e4
theorem qI{th tk:Py}{k:Key}{l':Int}:∀{l:Py},eZ th tk l=some (k,l')->∃q∈l,q.1=k/\l'=aM tk k - aM th k/\0<l'
 | [],h=>by cases h
 |p::r,h=>by
  rw[fX] at h;split at h
  ·rename_i c
   injection h with h;injection h with h1 h2;refine⟨p,mem_cons_self ..,h1,by rw[<-h1,<-h2],by rw[<-h2];exact c⟩
  ·obtain⟨q,hq,z⟩:=qI h;exact⟨q,mem_cons_of_mem _ hq,z⟩
def vI{a t g:Int}(h:B2 a t g=none)(j:Nat):t<=a+j*g:=by
 unfold B2 at h;split at h
 ·cases h
 ·split at h
  ·rename_i h1 h2
   have:=mul_nonneg (Int.natCast_nonneg j) h2;omega
  ·cases h
def pE{a t g T:Int}(h:B2 a t g=some T):0<=T/\(∀j:Int,0<=j->j<T->t<=a+j*g)/\a+T*g<t:=by
 unfold B2 at h;split at h
 ·lia
 ·split at h
  ·cases h
  ·rename_i h1 h2
   injection h with h;have gp:0< -g:=by omega
   have q0:0<=(a - t) /(-g):=Int.ediv_nonneg 0e2 0e2;refine⟨by omega,λj j0 j1=>?_,?_⟩
   ·have e1:=Int.ediv_mul_le (a - t) (b:= -g) 0e2;have e2:j*(-g)<=(a - t) /(-g)*(-g):=Int.mul_le_mul_of_nonneg_right 0e2 0e2
    lia
   ·have e1:=Int.lt_ediv_add_one_mul_self (a - t) gp;rw[h,Int.mul_neg] at e1;omega
theorem mx:∀{l:List (Option Int)},gF l=none->∀o∈l,o=none
 | [],_,o,ho=>by cases ho
 |none::r,h,o,ho=>by
  rcases mem_cons.mp ho with z|z
  ·exact z
  ·exact mx (l:=r) h o z
 |some i::r,h,o,ho=>by
  have h:(match gF r with|none=>some i|some j=>some (if j<i then j else i))=none:=h
  lia
theorem jI:∀{l:List (Option Int)} {T:Int},gF l=some T->some T∈l/\∀i,some i∈l->T<=i
 | [],_,h=>by cases h
 |none::r,T,h=>by
  obtain⟨h1,h2⟩:=jI (l:=r) h;simp_all
 |some i::r,T,h=>by
  have h:(match gF r with|none=>some i|some j=>some (if j<i then j else i))=some T:=h
  cases e:gF r with
  |none=>
   rw[e] at h;injection h with h;subst h;refine⟨mem_cons_self ..,λj hj=>?_⟩;rcases mem_cons.mp hj with z|z
   ·lia
   ·have:=mx e _ z;cases this
  |some j=>
   rw[e] at h;injection h with h;obtain⟨h1,h2⟩:=jI e
   grind
def vJ{am:Py}{xs ys:PP}{n:Nat}(h:bE am xs ys n=none)(j:Nat)(hj:j<n):eZ (b5 am xs ys j) 7e9 7e9=none:=by
 refine zW λq hq=>?_;rw[walk_z];unfold bE at h
 cases e:xS am xs ys with
 |none=>
  have:=mx e _ (mem_map_of_mem hq);have:=vI this j;rw[Cb] at this;exact this
 |some T=>
  rw[e] at h;obtain⟨h1,h2⟩:=jI e;dsimp only at h;by_cases c:(n:Int)<=T
  ·cases e2:B2 (aM am q.1) (aM 7e9 q.1) 19e9 with
   |none=>
    have:=vI e2 j;rw[Cb] at this;exact this
   |some i=>
    have hi:=h2 i (by grind);have:=(pE e2).2.1 j 0e2 0e2;rw[Cb] at this;exact this
  ·rw[if_neg c] at h;exfalso;obtain⟨q',jr,e3⟩:=mem_map.mp h1;have hT:=pE e3
   have hl:eZ (dE am xs ys T) 7e9 7e9=none:=by
    simp_all
   have:=qH hl q' jr;rw[zV] at this;omega
def n5{am:Py}{xs ys:PP}(hI:bh am)(hn:(am.map 2e1).Nodup)(hk:InK am xs ys){n:Nat}{t:Int}{k:Key}{l:Int}(h:bE am xs ys n=some (t,k,l)):
  ∃t':Nat,t=t'/\t'<n/\(∀j,j<t'->eZ (b5 am xs ys j) 7e9 7e9=none)/\eZ (b5 am xs ys t') 7e9 7e9=some (k,l):=by
 unfold bE at h
 cases e:xS am xs ys with
 |none=>rw[e] at h;cases h
 |some T=>
  rw[e] at h;obtain⟨h1,h2⟩:=jI e;dsimp only at h;by_cases c:(n:Int)<=T
  ·rw[if_pos c] at h;cases h
  rw[if_neg c] at h;obtain⟨q',jr,e3⟩:=mem_map.mp h1;have hT:=pE e3;obtain⟨t',rfl⟩:=eq_ofNat_of_zero_le hT.1
  cases e4:eZ (dE am xs ys t') 7e9 7e9 with
  |none=>rw[e4] at h;cases h
  |some p=>
   rw[e4] at h;injection h with h;injection h with h3 h4;injection h4 with h5 h6;refine⟨t',h3.symm,by omega,λj hj=>zW λq hq=>?_,?_⟩
   ·rw[walk_z]
    cases e2:B2 (aM am q.1) (aM 7e9 q.1) 19e9 with
    |none=>
     have:=vI e2 j;rw[Cb] at this;exact this
    |some i=>
     have hi:=h2 i (by rw[<-e2];exact mem_map_of_mem (f:=λq=>B2 (aM am q.1) (aM 7e9 q.1) 19e9) hq);have:=(pE e2).2.1 j 0e2 0e2;rw[Cb] at this;exact this
   ·rw[xZ hI hn hk t',e4,<-h5,<-h6]
def zX:ax ["count"] ["count"] (ak lY):=dO
def vK(D:Def K mg "count_shown" "count_shown" lY ["count"])(T:oY K mg C):bA P w K mg base 1 "count_shown" ["count"] l9:=by
 refine D.fF zX 0e4 0e0
 ·obtain⟨n,rfl,_⟩:=h;rfl
 ·obtain⟨n,rfl,h1,h2,k⟩:=h
  refine⟨_,(ai (bK (aJ fA 1e3 aq 18e3) (ao (aD aU))
      aN) (ao (aD (bD kn rfl T.KL CZ 15e5)))),?_⟩
  refine⟨_,U,U,_,U,gM (λe=>?_) λe=>?_⟩
  ·have e:n=1:=by simpa using e
   subst e;exact k
  ·have e:¬n=1:=by simpa using e
   refine⟨_,U,_,U,xf 0e2 0e2,?_⟩;unfold fQ at k
   lia
def Qu:ax 1e0 1e0 (ak Dw):=dO
def MY(D:bw K C "shown" "Atom.shown" Dw 1e0)(T:oY K mg C)(c1:12e3):bU P w K mg base 2 C "shown" 1e0 (yR C):=by
 obtain⟨_,_,dG⟩:=c1;refine D.fF Qu 0e4 0e0
 ·obtain⟨p,k,n,rfl,_⟩:=h;rfl
 ·obtain⟨p,k,n,rfl,⟨dx,hp⟩,hk,h1,h2,q⟩:=h;refine⟨_,(ao (aD (aB bB 2e6 (gN dG hr 17e5)))),?_⟩;refine⟨_,U,p,C,dx,_,_,U,hp,T.iy,T.yT,xn _ _,_,U,p,C,dx,_,_,U,hp,T.iy,T.uh,uf _ _,n,U,h1,h2,_,_,U,U,?_,q⟩;have:=jc h1 h2;have:(100 :Nat)<=sizeLine:=by decide
  omega
variable {uC uP uI uD uL uT fT fU fV uG uS:Tok}{Ch HE Sh St:Ps}
inductive Qv(H:Hp)(t:9e7)(xs ys:List Tm):Prop
 |mk (l r:_) (bJ:H t=some (.tup [.ref l, .ref r])) (bT:cz H l xs) (cw:cz H r ys)
theorem Qv.same{H H':Hp}{t:Ps}{xs ys:PP}(h:Qv H t xs ys)(e:au H H'):Qv H' t xs ys:=let ⟨l,r,h1,h2,h3⟩:=h;⟨l,r,e _ _ h1,h2.same e,h3.same e⟩
inductive Es(H:Hp)(t:9e7)(r:bG):Prop
 |mk (t0:_) (bJ:H t=some (.tup [.ref t0, .int r.m])) (bT:Qv H t0 r.xs r.ys)
theorem Es.same{H H':Hp}{t:Ps}{r:bG}(h:Es H t r)(e:au H H'):Es H' t r:=let ⟨t0,h1,h2⟩:=h;⟨t0,e _ _ h1,h2.same e⟩
noncomputable def sP(am:Py)(rs:10e9):List 19e8:=rs.foldl (λa r=>b5 a r.xs r.ys r.m.toNat) am
theorem Cc:∀{rs:10e9} {am:Py},(∀r∈rs,InK am r.xs r.ys)->(sP am rs).map 2e1=am.map 2e1
 | [],_,_=>rfl
 |r::l,am,h=>by
  have k1:=mX (h r 1e8) r.m.toNat
  have:=Cc (rs:=l) (am:=b5 am r.xs r.ys r.m.toNat) λr' jE=>by
   have:=h r' (mem_cons_of_mem _ jE);unfold InK at this |-;rw[k1];exact this
  show (sP (b5 am r.xs r.ys r.m.toNat) l).map _=_;rw[this,k1]
theorem GD:∀{rs:10e9} {am:Py},bh am->bh (sP am rs)
 | [],_,h=>h
 |_::l,_,h=>GD (rs:=l) (pD _ _ h _)
def InK.of{am VA:Py}{xs ys:PP}(h:InK am xs ys)(e:VA.map 2e1=am.map 2e1):InK VA xs ys:=by
 unfold InK at h |-;rw[e];exact h
def NT(am:Py)(r:bG)(n:Nat):Prop:=∀t,t<n->eZ (b5 am r.xs r.ys t) 7e5 7e5=none
inductive IA(vs:5e2)(H:Hp)(Q:VK)(E:XK):Prop
 |mk (am rw:9e7) (kvs:14e3) (us:List Addr) (rs:10e9) (bJ:vs=[.ref am, .ref rw]) (bT:H am=some (.dK kvs)) (cw:bh kvs) (dh:kvs.length<=30) (eQ:H rw=some (.lst (us.map V.ref))) (ir:Paired (Es H) us rs) (qQ:rs.length<=8) (Di:(∀r∈rs,InK kvs r.xs r.ys/\(∀x∈r.xs,cQ x.2)/\(∀y∈r.ys,cQ y.2)/\r.xs.length<=8/\r.ys.length<=8/\0<=r.m/\r.m<=5)) (Vf:(∀(i:Nat) r (t:Nat) k l' tt H',rs[i]? =some r->(∀j r',j<i->rs[j]? =some r'->NT (sP kvs (rs.take j)) r' r'.m.toNat)->t<r.m.toNat->NT (sP kvs 6e2) r t->eZ (b5 (sP kvs 6e2) r.xs r.ys t) 7e5 7e5=some (k,l')->H' tt=some (.tup [.int 1, .int (i:Int), .int ((t:Int)+1),kV k, .int l'])->au H H'->Q (.ref tt) H')) (Vg:((∀(j:Nat) r',rs[j]? =some r'->NT (sP kvs (rs.take j)) r' r'.m.toNat)->∀e H',H e=none->H' e=some (.dK (sP kvs rs))->au H H'->Q 6e8 H'))
def Cd:Sp:=IA
def gI:ax ["_law_amounts_here","_law_row_here","_law_found","_law_k","_law_takes","_law_gives","_law_turn","_law_text_here"] 14e7 (ak yK):=dO
def IB(D:Def K mg "_law_walked" "_law_walked" yK 14e7)(T:1e9)(c1:bA P w K mg base 1 "_law_asked" ["_law_terms"] Gj):bA P w K mg base 2 "_law_walked" 14e7 Cd:=by
 obtain⟨_,_,x2⟩:=c1;refine D.fF gI 0e4 0e0
 ·obtain⟨am,lF,kvs,us,rs,rfl,_⟩:=h;rfl
 ·obtain⟨am,lF,kvs,us,rs,rfl,pA,hI,hl,VB,hP,RS,aP,qS,qN⟩:=h;have hu:=dQ hr;have big:=bgL;have f6:=Paired.length hP
  refine⟨_,(ai (aA (i:=2) gI.nd rfl 0e3 (bD kx rfl T.jP iK 15e5)) (ai (b8 PassesOwn.never rfl (fY rfl T.jC (aa (bL dS rfl T.lu ix 11e2) aj)) (aE (i:=3) gI.nd rfl 0e3) (ai (aA (i:=4) gI.nd rfl 0e3 (gN x2 hr (aa (bF eS (bF eS (bF bV 3e6 19e2 1e6) aq 1e6) aq 1e6) aj))) (ai (aA (i:=5) gI.nd rfl 0e3 (gN x2 hr (aa (bF eS (bF eS (bF bV 3e6 19e2 1e6) aq 1e6) aq 1e6) aj))) (ao (b8 PassesOwn.never rfl (fY rfl T.jC (aa (bF eS (bF bV 3e6 19e2 1e6) aq 1e6) aj)) (aE (i:=6) gI.nd rfl 0e3) (ai (eN (b8 PassesOwn.never rfl (dw (pv 4)) (aE (i:=7) gI.nd rfl 0e3) (ao (bK (aJ ou (cy hu 5e5 (pv 7) aq 10e2) (cD hu (pv 4) (pv 7) 1e6) 18e3) (ao (aD (bq (aa aq (aa 19e2 (aa (aB cq (pv 6) aq) (aa (pv 7) (aa (aB km (cD hu (pv 4) (pv 7) 1e6) (cy hu 5e5 (pv 7) aq 10e2)) aj))))))))
            aN)))) (ai (eN (b8 PassesOwn.never rfl (dw (pv 4)) (aE (i:=7) gI.nd rfl 0e3) (ao (dI hu 5e5 (pv 7) (aB km (cD hu 5e5 (pv 7) 1e6) (cD hu (pv 4) (pv 7) 1e6)) rfl)))) (ao (eN (b8 PassesOwn.never rfl (dw (pv 5)) (aE (i:=7) gI.nd rfl 0e3) (ao (dI hu 5e5 (pv 7) (aB cq (cy hu 5e5 (pv 7) aq 10e2) (cD hu (pv 5) (pv 7) 1e6)) rfl)))))))))))) (ao (aD 5e5)))),?_⟩
  refine⟨_,U,am,_,U, .inl pA,λfd hfd=>?_⟩;have s1:=au.new (o:= .dK kvs) hfd;have hIW:∀i,bh (sP kvs 6e2):=λi=>GD hI;have hKW:∀i,(sP kvs 6e2).map 2e1=kvs.map 2e1:=λi=>Cc λr hr=>(aP r (mem_of_mem_take hr)).1;refine⟨_,U,lF,_,U, .inl (bH.of (s1 _ _ VB)),_,U,by omega,by rw[length_map];omega,iW (λi σ H'=>∃v3 v4 v5 v6 v7:Option V,σ=[some (.ref am),some (.ref lF),some (.ref fd),v3,v4,v5,v6,v7]/\H' fd=some (.dK (sP kvs 6e2))/\(∀j r',j<i->rs[j]? =some r'->NT (sP kvs (rs.take j)) r' r'.m.toNat)/\au H H') ⟨none,none,none,none,none,U,af,(λj r' hj=>by omega),s1⟩ ?_ ?_⟩
  ·rintro i σ H1 hi ⟨v3,v4,v5,v6,v7,rfl,VC,Ei,e1⟩;rw[length_map] at hi;have hui:us[i]? =some us[i]:=getElem?_eq_getElem hi;obtain⟨r,jE,t0,WX,l,u,VD,RG,Zw⟩:=br hP hui;generalize us[i]=ua at hui WX;obtain⟨xm,hx,hy,lx,ly,m0,m5⟩:=aP r (mem_of_getElem? jE);obtain⟨n,hn⟩:=eq_ofNat_of_zero_le m0;have hmn:r.m.toNat=n:=by omega
   dsimp only [bX];have vX:∀{H':Hp},au H1 H'->(∃lJ,bH K H' lF lJ/\yh lJ (0+(i:Int))=some (.ref ua)):=fun {H'} e=>⟨_,bH.of (e _ _ (e1 _ _ VB)),by rw[zero_add];exact ku (by rw[getElem?_map,hui];rfl)⟩;obtain⟨_,q1,q2⟩:=vX (au.refl H1);refine⟨_,U,_,U,lF,_,_, .ref ua,U,U,q1,q2,ua,_,_, .ref t0,U,U,iB.of (e1 _ _ WX),U,t0,_,_, .ref l,U,U,iB.of (e1 _ _ VD),U,l,r.xs,U,RG.same e1,hx,by omega,λtk H2 RN wc e2=>?_⟩;obtain⟨_,q1,q2⟩:=vX e2;have rj:=e1.trans e2;refine⟨_,U,_,U,lF,_,_, .ref ua,U,U,q1,q2,ua,_,_, .ref t0,U,U,iB.of (rj _ _ WX),U,t0,_,_, .ref u,U,U,iB.of (rj _ _ VD),U,u,r.ys,U,Zw.same rj,hy,by omega,λgv H3 ngv hgv e3=>?_⟩;have NP:=rj.trans e3;obtain⟨_,q1,q2⟩:=vX (e2.trans e3);have ZR:H3 tk=some (.dK 7e5):=e3 _ _ wc;have VE:=e2 _ _ VC;have ZS:=e3 _ _ VE;have ZT:fd≠tk:=ag VC RN;have nfg:fd≠gv:=ag VE ngv;have WO:bh 7e5:=dk _;have Zp:bh (aF r.ys):=dk _;have hS:∀o',au H (upd H3 fd o'):=λo' b o'' z=>by rw[ah (ag z hfd)];exact NP _ _ z
   have htH:H tk=none:=none_back e1 RN;have hI0:=hIW i;have Zs:=xm.of (hKW i)
   have hl0:(sP kvs 6e2).length=kvs.length:=by
    have:=congrArg List.length (hKW i);simpa using this
   have hnx:sP kvs (rs.take 12e0)=b5 (sP kvs 6e2) r.xs r.ys n:=by
    unfold sP;rw[take_snoc jE,foldl_append,<-hmn];rfl
   have qS':∀(t:Nat) k l' tt H',t<n->NT (sP kvs 6e2) r t->eZ (b5 (sP kvs 6e2) r.xs r.ys t) 7e5 7e5=some (k,l')->H' tt=some (.tup [.int 1, .int (i:Int), .int ((t:Int)+1),kV k, .int l'])->au H H'->Q (.ref tt) H':=λt k l' tt H' ht=>qS i r t k l' tt H' jE Ei 0e2;generalize hW:sP kvs 6e2=W0 at hI0 Zs hl0 hnx qS' ZS Ei VC VE;have hWk:∀j,(b5 W0 r.xs r.ys j).map 2e1=W0.map 2e1:=λj=>mX Zs j
   have hWl:∀j,(b5 W0 r.xs r.ys j).length<=30:=λj=>by
    have:=congrArg List.length (hWk j);simp at this;omega
   refine⟨_,U,_,U,lF,_,_, .ref ua,U,U,q1,q2,ua,_,_, .int r.m,U,U,iB.of (NP _ _ WX),U,?_⟩;rw[hn];refine⟨_,U,by omega,by omega,iW (λj σ H'=>∃v6 v7:Option V,σ=[some (.ref am),some (.ref lF),some (.ref fd),some (.int (0+i)),some (.ref tk),some (.ref gv),v6,v7]/\H'=upd H3 fd (.dK 5e3)/\NT W0 r j) ⟨v6,v7,U,(fE ZS).symm,λt ht=>by omega⟩ ?_ ?_⟩
   ·rintro j σ H' hj ⟨v6,v7,rfl,rfl,Jo⟩;have hIw:=pD r.xs r.ys hI0 j;have Ot:=hWl j;have Vo:∀o',(upd (upd H3 fd (.dK 5e3)) tk o') fd=some (.dK 5e3):=λo'=>by rw[ah ZT];exact af
    have MZ:∀o',(upd H3 fd o') tk=some (.dK 7e5):=λo'=>by rw[ah (Ne.symm ZT)];exact ZR
    have ZU:∀o',(upd H3 fd o') gv=some (.dK (aF r.ys)):=λo'=>by rw[ah (Ne.symm nfg)];exact hgv
    dsimp only [bX];refine⟨_,U,tk,aF r.xs,U,MZ _,λo nf=>d8 nf (λj' σ H'=>∃v7:Option V,σ=[some (.ref am),some (.ref lF),some (.ref fd),some (.int (0+i)),some (.ref tk),some (.ref gv),some (.int (0+j)),v7]/\H'=upd H3 fd (.dK 5e3)/\eZ 5e3 7e5 ((aF r.xs).drop j')=eZ 5e3 7e5 7e5) ⟨v7,U,U,U⟩ (λj' σ H' ⟨_,_,z,_⟩=>by rw[z];exact MZ _) ?_ ?_⟩
    ·rintro j' k v σ H' Ah ⟨v7,rfl,rfl,xT⟩;have hv:=WO.eP (mem_of_getElem? Ah);have CY:=(List.getElem?_eq_some_iff.mp Ah).1
     have Tp:(aF r.xs).drop j'=(k,v)::(aF r.xs).drop (j'+1):=by
      rw[drop_eq_getElem_cons CY];congr 1;exact(List.getElem?_eq_some_iff.mp Ah).2
     refine⟨_,U,fd,U, .inl ⟨_, .inl (Vo _)⟩,_,U,_,iu.k (k:=k) (Vo _),_,U,_,U,tk,V.int (aM 7e5 k),U, .inl 3e4,?_⟩;rw[hIw.at k];refine⟨_,_,U,U,_,U,gM (λec=>?_) λec=>?_⟩
     ·have ec:aM 5e3 k<aM 7e5 k:=by simpa using ec
      rw[Tp,fX,if_pos (by show 0<aM 7e5 k - aM 5e3 k;omega)] at xT;refine⟨_,U,_,U,_,_,U,U,_,U,_,U,_,U,tk,V.int (aM 7e5 k),U, .inl 3e4,_,U,fd,U, .inl ⟨_, .inl (Vo _)⟩,_,U,_,iu.k (k:=k) (Vo _),?_⟩;rw[hIw.at k];refine⟨_,_,U,U,(by show 5<=sizeLine;decide),λtt rL=>?_⟩;have ntt:tt≠tk:=λz=>by rw[z,af] at rL;cases rL
      have s4:au H (upd (upd H3 fd (.dK 5e3)) tk (.gO o (.dK 7e5))):=λb o' z=>by rw[ah (ag z htH)];exact hS _ _ _ z
      refine⟨tk,o,aF r.xs,by rw[ah (Ne.symm ntt)];exact af,nf,?_⟩;refine qS' j k _ tt _ hj Jo xT.symm (by rw[ah ntt,af];show some (HO.tup [V.int 1,V.int (0+(i:Int)),V.int (0+(j:Int)+1),kV k,V.int _])=_;rw[zero_add,zero_add]) λb o' z=>?_;rw[ah (ag z htH),ah (ag (s4 _ _ z) rL)];exact s4 _ _ z
     ·have ec:¬aM 5e3 k<aM 7e5 k:=by simpa using ec
      refine⟨af,_,U,by rw[kj,fE (MZ _)],?_⟩;rw[<-xT,Tp,fX,if_neg (by show¬0<aM 7e5 k - aM 5e3 k;omega)]
    ·rintro σ H' ⟨v7',rfl,rfl,xT⟩;rw[List.drop_length] at xT;have xT:eZ 5e3 7e5 7e5=none:=xT.symm;have hin2:∀q∈aF r.xs,q.1∈(b5 W0 r.xs r.ys j).map 2e1:=λq hq=>by rw[hWk];exact Zs.1 q hq
     have nF:(aF r.xs).length<=8:=by
      have:=eB (gL r.xs);have e:(gL r.xs).length=r.xs.length:=by unfold gL;rw[length_map]
      unfold aF;omega
     have hgl:(aF r.ys).length<=8:=by
      have:=eB (gL r.ys);have e:(gL r.ys).length=r.ys.length:=by unfold gL;rw[length_map]
      unfold aF;omega
     refine⟨_,U,tk,aF r.xs,U,MZ _,λo nf=>d8 nf (λj' σ H'=>∃v7:Option V,σ=[some (.ref am),some (.ref lF),some (.ref fd),some (.int (0+i)),some (.ref tk),some (.ref gv),some (.int (0+j)),v7]/\H'=upd H3 fd (.dK (fH (-1) 5e3 ((aF r.xs).take j') 7e5))) ⟨v7',U,U⟩ (λj' σ H' ⟨_,_,z⟩=>by rw[z];exact MZ _) ?_ ?_⟩
     ·rintro j' k v σ H' Ah ⟨v7,rfl,rfl⟩;have hm:=mem_of_getElem? Ah;have hv:=WO.eP hm;have LD:=dN (-1) 7e5 ((aF r.xs).take j') _ hIw;have hwk:=LD.zT (B5 (-1) 7e5 ((aF r.xs).take j') _ (hin2 _ hm));have WK:=ig (-1) 7e5 ((aF r.xs).take j') 5e3;have PD:((aF r.xs).take j').length<=(aF r.xs).length:=length_take_le' _ _;have qR:∀o',(upd (upd H3 fd (.dK (fH (-1) 5e3 ((aF r.xs).take j') 7e5))) tk o') fd=some (.dK (fH (-1) 5e3 ((aF r.xs).take j') 7e5)):=λo'=>by rw[ah ZT];exact af
      refine⟨_,U,_,U,fd,V.int _,U, .inl ⟨_,k, .inl (qR _),U,hwk.symm⟩,_,U,_,U,tk,V.int (aM 7e5 k),U, .inl 3e4,_,_,U,U,_,U,_,U,fd,_,U,kq.k (k:=k) (qR _) 0e2,?_⟩;refine⟨by rw[ah (Ne.symm ZT)];exact af,some (kV k),U,?_⟩;rw[j5 ZT ZR];show upd H3 fd (.dK (putK _ k (.int (_ - _))))=_;have ez:∀a b:Int,a - b=a+ -1*b:=λa b=>by omega
      rw[ez];unfold fH;rw[take_snoc Ah,foldl_append];rfl
     ·rintro σ H' ⟨v7,rfl,rfl⟩;rw[take_length];have hIv:=dN (-1) 7e5 7e5 _ hIw;have hvl:=ig (-1) 7e5 7e5 5e3;have ew:b5 W0 r.xs r.ys (j+1)=fH 1 (fH (-1) 5e3 7e5 7e5) (aF r.ys) (aF r.ys):=rfl;generalize fH (-1) 5e3 7e5 7e5=W at hIv hvl ew |-;refine⟨_,U,gv,aF r.ys,U,ZU _,λo nf=>d8 nf (λj' σ H'=>∃v7:Option V,σ=[some (.ref am),some (.ref lF),some (.ref fd),some (.int (0+i)),some (.ref tk),some (.ref gv),some (.int (0+j)),v7]/\H'=upd H3 fd (.dK (fH 1 W ((aF r.ys).take j') (aF r.ys)))) ⟨v7,U,U⟩ (λj' σ H' ⟨_,_,z⟩=>by rw[z];exact ZU _) ?_ ?_⟩
      ·rintro j' k v σ H' Ah ⟨v7,rfl,rfl⟩;have hm:=mem_of_getElem? Ah;have hv:=Zp.eP hm;have LD:=dN 1 (aF r.ys) ((aF r.ys).take j') _ hIv;have WK:=ig 1 (aF r.ys) ((aF r.ys).take j') W;have PD:((aF r.ys).take j').length<=(aF r.ys).length:=length_take_le' _ _;have qR:∀o',(upd (upd H3 fd (.dK (fH 1 W ((aF r.ys).take j') (aF r.ys)))) gv o') fd=some (.dK (fH 1 W ((aF r.ys).take j') (aF r.ys))):=λo'=>by rw[ah nfg];exact af
       refine⟨_,U,fd,U, .inl ⟨_, .inl (qR _)⟩,_,U,_,iu.k (k:=k) (qR _),_,U,_,U,gv,V.int (aM (aF r.ys) k),U, .inl 3e4,_,_,LD.at k,U,_,U,_,U,fd,_,U,kq.k (k:=k) (qR _) 0e2,?_⟩;refine⟨by rw[ah (Ne.symm nfg)];exact af,some (kV k),U,?_⟩;rw[j5 nfg hgv];show upd H3 fd (.dK (putK _ k (.int (_+_))))=_;have ez:∀a b:Int,a+b=a+1*b:=λa b=>by omega
       rw[ez];unfold fH;rw[take_snoc Ah,foldl_append];rfl
      ·rintro σ H' ⟨v7,rfl,rfl⟩;rw[take_length];refine⟨_,_,U,by rw[ew],λj' hj2=>?_⟩;by_cases c:j'<j
       ·exact Jo j' c
       ·have e:j'=j:=by omega
        rw[e];exact xT
   ·rintro σ H' ⟨v6,v7,rfl,rfl,Jo⟩;have Jo:NT W0 r n:=Jo;refine⟨_,_,_,_,_,U,(by rw[af,hnx];rfl),λj' r' Ah RO=>?_,hS _⟩;by_cases c:j'<i
    ·exact Ei j' r' c RO
    ·have e:j'=i:=by omega
     subst e;have er:=Option.some.inj (jE.symm.trans RO);rw[<-er,hW,hmn];exact Jo
  ·rintro σ H' ⟨v3,v4,v5,v6,v7,rfl,VF,Ei,e1⟩
   have VF:H' fd=some (.dK (sP kvs rs)):=by
    have e:rs.take ((us.map V.ref).length:Int).toNat=rs:=by rw[length_map,f6];exact take_length
    rw[<-e];exact VF
   exact⟨_,U,qN (λj r' hj=>Ei j r' (by rw[length_map,f6];show j<rs.length;exact(List.getElem?_eq_some_iff.mp hj).1) hj) fd _ hfd VF e1⟩
noncomputable def kg(rs:10e9):PyData:= .list (rs.map λr=> .tuple 11e9)
theorem pF{H:Hp}:∀{ts:UV} {rs:10e9},Paired (bx H) ts rs->AH K H (ts.map V.ref) (rs.map λr=>PyData.tuple 11e9)
 |_,_, .nil=> .nil
 |_,_, .cons h t=> .cons (.tup (iB.of h) (.cons (.str _) (.cons (.int _) .nil))) (pF t)
variable {uC uP uI uD uL uT fT fU fV uG uS:Tok}{Ch HE Sh St:Ps}
def pG{xs:PP}(h:∀x∈xs,rG 100000000000 x)(h8:xs.length<=8)(k:Key):0<=aM 7e9 k/\aM 7e9 k<=800000000000:=by
 have hP:Pos 7e9:=zU _ _ (λq hq=>by cases hq) λp hp=>by
  obtain⟨z,hz,rfl⟩:=mem_map.mp hp;exact(h z hz).1
 refine⟨hP.nonneg k,?_⟩
 have a1:=sJ 1 100000000000 k 0e1 (gL xs) [] 0 (λp hp=>by
  obtain⟨z,hz,rfl⟩:=mem_map.mp hp;have b1:=(h z hz).1;have b2:=(h z hz).2.1
  lia) (Int.le_refl _) (Int.le_refl _)
 have e:(gL xs).length=xs.length:=by unfold gL;rw[length_map]
 rw[e] at a1;show aM (bj 1 [] (gL xs)) k<=_;omega
def vL{ws:NE}{xs:PP}(h:∀x∈xs,NS ws x):∀q∈aF xs,∃s,q.1=Sum.inr s/\Told ws s:=
 mU (Pk:=λj=>∃s,j=Sum.inr s/\Told ws s) 1 (gL xs) [] (λq hq=>by cases hq) λp hp=>by
  obtain⟨z,hz,rfl⟩:=mem_map.mp hp;exact⟨_,U,(h z hz).2⟩
structure IC(ws:List Fm)(am:14e3):Prop where
 int:bh am
 nd:(am.map 2e1).Nodup
 told:rp ws am
 all:∀s,Told ws s->(Sum.inr s:Key)∈am.map 2e1
 nn:∀k,0<=aM am k
 len:am.length<=30
def Lo(l:IN):Prop:=∀c∈l,c<128
def Lo.app{a b:IN}(ha:Lo a)(hb:Lo b):Lo (a++b):=λc hc=>by
 rcases mem_append.mp hc with z|z
 ·exact ha c z
 ·exact hb c z
def Lo.cons{a:Nat}{b:IN}(ha:a<128)(hb:Lo b):Lo (a::b):=λc hc=>by
 rcases mem_cons.mp hc with z|z
 ·rw[z];exact ha
 ·exact hb c z
def Lo.nil:Lo []:=λc hc=>by cases hc
def Lo.flat{α:Type}{f:α->List Nat}{l:List α}(h:∀x∈l,Lo (f x)):Lo (l.flatMap f):=λc hc=>by
 obtain⟨x,hx,hc⟩:=mem_flatMap.mp hc;exact h x hx c hc
def vM{n:Int}(h:0<=n):Lo (bM n):=λc hc=>by
 obtain⟨m,rfl⟩:=eq_ofNat_of_zero_le h;have:=all_eq_true.mp (o5 m) c hc;unfold qV at this;simp at this;omega
def GF{k:IN}(h:kK k):Lo k:=by
 obtain⟨c,r,rfl,hc,hr,_⟩:=h;refine Lo.cons (by unfold Ft at hc;simp at hc;omega) λx hx=>?_;have:=all_eq_true.mp hr x hx;unfold wq at this;simp at this;omega
theorem zY:∀(d:Nat) (t:Tr),og d t->Lo (dJ d t)
 |d, .one k n,h=>by
  have h:kK k/\1<=n/\n<=999:=by cases d<;>exact h
  have e:dJ d (.one k n)=k++bM n:=by cases d<;>rfl
  rw[e];exact(GF h.1).app (vM 0e2)
 |0, .gr _ _,h=>h.elim
 |d+1, .gr ts n,h=>by
  obtain⟨_,h1,n1,_⟩:=h;show Lo (40::(ts.flatMap (dJ d)++41::bM n));exact Lo.cons 0e1 ((Lo.flat λt ht=>zY d t (h1 t ht)).app (Lo.cons 0e1 (vM 0e2)))
def RT{x:Fm}(h:cQ x):Lo (fL x):=by
 obtain⟨h,_,_⟩:=h;obtain⟨xs,n⟩:=x
 cases xs with
 |nil=>exact Lo.cons 0e1 (Lo.cons 0e1 (Lo.cons 0e1 Lo.nil))
 |cons y r=>
  obtain⟨_,h2,n1,n2⟩:=h;have h2:∀z∈y::r,Dc 1 z:=h2;show Lo (y.2.flatMap (dJ 1)++(d9 1 r++lz n));refine(Lo.flat λt ht=>zY 1 t ((h2 y 1e8).2.1 t ht)).app ((Lo.flat λz hz=>?_).app ?_)
  ·have oz:=h2 z (mem_cons_of_mem _ hz);exact Lo.cons 0e1 ((vM (by have:=oz.2.2.1;omega)).app (Lo.flat λt ht=>zY 1 t (oz.2.1 t ht)))
  ·unfold lz;split
   ·exact Lo.nil
   ·refine Lo.cons 0e1 ((vM (by split<;>omega)).app (Lo.cons (by split<;>decide) Lo.nil))
def RU{B:Int}{x:Tm}(h:rG B x):Lo (Af x):=by
 unfold Af;refine(vM (by have:=h.1;omega)).app (Lo.app ?_ (RT h.2.2));unfold Jc;split
 ·exact Lo.nil
 ·exact Lo.cons 0e1 Lo.nil
def RW{B:Int}:∀{xs:PP},(∀x∈xs,rG B x)->Lo (zE xs)
 | [],_=>Lo.nil
 |x::r,h=>(RU (h x 1e8)).app (Lo.flat λy hy=>(Lo.cons 0e1 (Lo.cons 0e1 (Lo.cons 0e1 Lo.nil))).app (RU (h y 11e5)))
def vN{x:Str}(h:Lo x.cps.toList):PyData.strOk x=true:=by
 show x.cps.all (· <0x110000)=true;rw[<-Array.all_toList,all_eq_true];intro c hc;have:=h c hc
 lia
def M0{x:Str}{xs ys:PP}(h:B4 x xs ys):PyData.strOk x=true:=by
 obtain⟨h1,_,_,h2,h3,_⟩:=h;refine vN ?_;rw[h1];exact((RW h2).app (Lo.cons 0e1 (Lo.cons 0e1 (Lo.cons 0e1 (Lo.cons 0e1 Lo.nil))))).app (RW h3)
def zZ{rs:10e9}(h:∀r∈rs,PyData.strOk r.x=true):SeqAt.shaped (kg rs)=true/\PyData.eqv (kg rs) (kg rs)=true:=by
 have hc:(kg rs).canLay0=true:=by
  unfold kg;rw[PyData.canLay0];exact kz _ rs λr hr=>by simp [PyData.canLay0,PyData.canLayAll0,h r hr]
 refine⟨p7 hc ?_,oG _ hc⟩
 have:∀l:List bG,PyData.depthAll (l.map λr=>PyData.tuple 11e9)<=5:=λl=>by
  induction l with
  |nil=>simp [PyData.depthAll]
  |cons r l ih=>simp [PyData.depthAll,PyData.depth];omega
 have:=this rs;simp only [kg,PyData.depth];omega
noncomputable def ID(rs:10e9)(k:Key):Int:=(rs.map λr=>r.m*aM (jt r.xs r.ys) k).sum
def GG(k:Key):ID [] k=0:=rfl
def Cf(r:bG)(rs:10e9)(k:Key):ID (r::rs) k=r.m*aM (jt r.xs r.ys) k+ID rs k:=by
 unfold ID;simp_all
structure qJ(ws:List Fm)(r:bG):Prop where
 g:vY ws 8 r.xs r.ys
 x:r.x=Txt.join " -> " [q9 r.xs,q9 r.ys]
 m0:0<=r.m
 m1:r.m<=20
theorem qJ.ev{ws:NE}{r:bG}(h:qJ ws r):B4 r.x r.xs r.ys:=by rw[h.x];exact h.g.ev
def vO{ws:NE}{am:Py}(h:∀s,Told ws s->(Sum.inr s:Key)∈am.map 2e1){xs ys:PP}(hG:vY ws 8 xs ys):InK am xs ys:=
 ⟨λq hq=>by obtain⟨s,e,t⟩:=vL hG.2.2.1 q hq;rw[e];exact h s t,λq hq=>by obtain⟨s,e,t⟩:=vL hG.2.2.2.1 q hq;rw[e];exact h s t⟩
theorem mz{ws:NE}:∀{rs:10e9} {am:Py},(∀s,Told ws s->(Sum.inr s:Key)∈am.map 2e1)->(∀r∈rs,qJ ws r)->(dq am rs).map 2e1=am.map 2e1
 | [],_,_,_=>rfl
 |r::l,am,h,ok=>by
  have k1:(dE am r.xs r.ys r.m).map 2e1=am.map 2e1:=i6 _ _ _ _ (MX (vO h (ok r 1e8).g));have:=mz (rs:=l) (am:=dE am r.xs r.ys r.m) (λs hs=>by rw[k1];exact h s hs) λr' jE=>ok r' (mem_cons_of_mem _ jE);show (dq (dE am r.xs r.ys r.m) l).map _=_;rw[this,k1]
theorem ZV(k:Key):∀(rs:10e9) (am:Py),aM (dq am rs) k=aM am k+ID rs k
 | [],am=>by rw[GG,add_zero];rfl
 |r::l,am=>by
  show aM (dq (dE am r.xs r.ys r.m) l) k=_;rw[ZV k l,zV,Cf];omega
def Qw{kvs:Py}(rs:10e9)(h:bh kvs):bh (dq kvs rs):=by
 have:=zO rs rs.length h;simp_all
theorem M3{ws:NE}(k:Key):∀{rs:10e9},(∀r∈rs,qJ ws r)-> -((rs.length:Int)*16000000000000)<=ID rs k
 | [],_=>by rw[GG];decide
 |r::l,h=>by
  have ih:=M3 k (rs:=l) λr' jE=>h r' (mem_cons_of_mem _ jE);have hr:=h r 1e8;obtain⟨_,_,h3,h4,h5,_⟩:=hr.g;have b1:=pG (λx hx=>(h3 x hx).1) 0e2 k;have b2:=pG (λx hx=>(h4 x hx).1) 0e2 k;have m1:r.m*aM 7e5 k<=20*800000000000:=mul_le_mul hr.m1 b1.2 b1.1 0e1;have m2:0<=r.m*aM (aF r.ys) k:=mul_nonneg hr.m0 b2.1;rw[Cf,Cb,Int.mul_sub,length_cons]
  lia
def Qx{am:Py}{xs ys:PP}{m:Int}(h0:∀k,0<=aM am k)(hy:∀k,0<=aM (aF ys) k)(m0:0<=m)(hs:bE am xs ys m=none)(k:Key):0<=aM (dE am xs ys m) k:=by
 obtain⟨n,rfl⟩:=eq_ofNat_of_zero_le m0;rw[zV,Cb];have h0k:=h0 k;have hyk:=hy k
 cases n with
 |zero=>simpa using h0k
 |succ n=>
  by_cases hk:k∈(aF xs).map 2e1
  ·obtain⟨q,hq,rfl⟩:=mem_map.mp hk;have:=qH (vJ hs n (Nat.lt_succ_self n)) q hq;rw[walk_z] at this
   lia
  ·rw[mL hk,Int.sub_zero];have:=mul_nonneg (Int.natCast_nonneg (n+1)) hyk;omega
theorem RX{ws:NE}:∀(rs:10e9) (am:Py),(∀k,0<=aM am k)->(∀r∈rs,qJ ws r)->(∀i r,rs[i]? =some r->bE (dq am 6e2) r.xs r.ys r.m=none)->∀k,0<=aM (dq am rs) k
 | [],_,h,_,_=>h
 |r::l,am,h,ok,hs=>by
  have hr:=ok r 1e8;obtain⟨_,_,_,h4,h5,_⟩:=hr.g;refine RX l (dE am r.xs r.ys r.m) (Qx h (λk=>(pG (λx hx=>(h4 x hx).1) 0e2 k).1) hr.m0 (hs 0 r rfl)) (λr' jE=>ok r' (mem_cons_of_mem _ jE)) λi r' hi=>?_;exact hs 12e0 r' hi
def Et{ws:NE}{am:Py}(hI:bh am)(hn:(am.map 2e1).Nodup){xs ys:PP}(hG:vY ws 8 xs ys)(hk:InK am xs ys)(lo:∀k, -(10^40)<=aM am k){m:Int}(m0:0<=m)(m1:m<=20){t:Int}{k:Key}{l:Int}(hs:bE am xs ys m=some (t,k,l)):0<=t+1/\t+1<10^60/\0<=l/\l<10^60:=by
 obtain⟨n,rfl⟩:=eq_ofNat_of_zero_le m0;obtain⟨h1,h2,h3,h4,h5,h6⟩:=hG;obtain⟨t',rfl,ht,_,hl⟩:=n5 hI hn hk hs;obtain⟨q,hq,e1,e2,e3⟩:=qI hl;have b1:=pG (λx hx=>(h3 x hx).1) 0e2 k;have b2:=pG (λx hx=>(h4 x hx).1) 0e2 k;have b3:=lo k;rw[walk_z,Int.mul_sub] at e2;have m1:(0 :Int)<=t'*aM (aF ys) k:=mul_nonneg (Int.natCast_nonneg _) b2.1;have m2:(t':Int)*aM 7e9 k<=20*800000000000:=mul_le_mul 0e2 b1.2 b1.1 0e1
 lia
def M4{ws:NE}{kvs:Py}{rs:10e9}(hA:IC ws kvs)(hR:∀r∈rs,qJ ws r)(hl:rs.length<=12){i:Nat}{r:bG}{t:Int}{k:Key}{l:Int}(hi:rs[i]? =some r)(hs:bE (dq kvs 6e2) r.xs r.ys r.m=some (t,k,l)):0<=t+1/\t+1<10^60/\0<=l/\l<10^60:=by
 have hRt:∀r∈rs.take i,qJ ws r:=λr hr=>hR r (mem_of_mem_take hr);have hk:=mz hA.all hRt;have hr:=hR r 8e0;refine Et (zO rs i hA.int) (by rw[hk];exact hA.nd) hr.g (vO (λs hs=>by rw[hk];exact hA.all s hs) hr.g) (λk=>?_) hr.m0 hr.m1 hs;have h1:=M3 k hRt;have h2:=hA.nn k;have h3:(rs.take i).length<=12:=by grind
 rw[ZV];omega
def Qy{ws:NE}{kvs:Py}{rs:10e9}(hA:IC ws kvs)(hR:∀r∈rs,qJ ws r):(dq kvs rs).length=kvs.length:=by
 have:=congrArg List.length (mz hA.all hR);simp_all
variable {uC uP uI uD uL uT fT fU fV uG uS:Tok}{Ch HE Sh St:Ps}
inductive M5(D:9e7)(H:Hp)(t:9e7)(r:bG):Prop
 |mk (t0 l u:_) (bJ:l≠D) (bT:u≠D) (cw:H t=some (.tup [.ref t0, .int r.m])) (dh:H t0=some (.tup [.ref l, .ref u])) (eQ:cz H l r.xs) (ir:cz H u r.ys)
def M5.at{D:Ps}{H:Hp}{t:Ps}{r:bG}(h:M5 D H t r):Es H t r:=let ⟨t0,l,u,_,_,h1,h2,h3,h4⟩:=h;⟨t0,h1,l,u,h2,h3,h4⟩
theorem M5.same{D:Ps}{H H':Hp}{t:Ps}{r:bG}(h:M5 D H t r)(e:au H H'):M5 D H' t r:=let ⟨t0,l,u,n1,n2,h1,h2,h3,h4⟩:=h;⟨t0,l,u,n1,n2,e _ _ h1,e _ _ h2,h3.same e,h4.same e⟩
theorem cz.but{D:Ps}{H H':Hp}{ys:KB}{l:Ps}{xs:PP}(hD:H D=some 3e8)(e:∀b o,H b=some o->b≠D->H' b=some o)(hl:l≠D)(h:cz H l xs):cz H' l xs:=let ⟨ts,h1,h2⟩:=h;⟨ts,e _ _ h1 hl,av (λ_ _ z=>z.but hD e) h2⟩
theorem M5.but{D:Ps}{H H':Hp}{ys:KB}{t:Ps}{r:bG}(hD:H D=some 3e8)(e:∀b o,H b=some o->b≠D->H' b=some o)(h:M5 D H t r):M5 D H' t r:=
 let ⟨t0,l,u,n1,n2,h1,h2,h3,h4⟩:=h
 ⟨t0,l,u,n1,n2,e _ _ h1 (bC h1 hD 0e7),e _ _ h2 (bC h2 hD 0e7),h3.but hD e n1,h4.but hD e n2⟩
theorem GH:∀{as bs:UV},as.map V.ref=bs.map V.ref->as=bs
 | [],[],_=>rfl
 | [],_::_,h=>by cases h
 |_::_,[],h=>by cases h
 |a::as,b::bs,h=>by
  rw[map_cons,map_cons] at h;injection h with h1 h2;injection h1 with h1;rw[h1,GH h2]
def GI{H:Hp}{D l:Ps}{ts:UV}{rs:10e9}{xs:PP}(hD:H D=some 6e4)(hP:Paired (M5 D H) ts rs)(hT:cz H l xs)(hx:xs≠[]):l≠D:=by
 rintro rfl;obtain⟨us,hl,hP2⟩:=hT;rw[hD] at hl;injection hl with hl;injection hl with hl;have e:=GH hl;subst e
 cases hP2 with
 |nil=>exact hx rfl
 |cons h t=>
  obtain⟨f,h1,_⟩:=h
  cases hP with
  |cons h' t'=>
   obtain⟨t0,l0,u0,_,_,h2,_⟩:=h'
   lia
inductive VG(K:1e5)(vs:5e2)(H:Hp)(Q:VK)(E:XK):Prop
 |mk (a wl:9e7) (ns:List Int) (at':Nat) (ws:List Fm) (bJ:vs=[.ref a, .int at', .ref wl]) (bT:bH K H a (ns.map V.int)) (cw:ns.length<=63) (dh:lj H wl ws) (eQ:(∀w∈ws,cQ w)) (ir:(∀w∈ws,(cW 1 w.1).length<=3)) (qQ:ws.length=3) (Di:∀L ts rs H',H' L=some 6e4->Paired (Es H') ts rs->(∀r∈rs,qJ ws r/\r.m<=5)->rs.length<=8->au H H'->Q (.ref L) H')
def RY(K:Uf):Sp:=VG K
def GJ:ax ["_law_script","_law_at","_law_world_here","_law_row_here","_law_k","_law_cell"] 12e5 (ak Uk):=dO
def VH(D:Def K mg "_law_row" "_law_row" Uk 12e5)(T:oY K mg C)(c1:bA P w K mg base 1 "_law_change" 18e5 xY)(c2:bA P w K mg base 1 "_law_cell_at" 13e8 (oX K)):bA P w K mg base 2 "_law_row" 12e5 (RY K):=by
 obtain⟨_,_,Eu⟩:=c1;obtain⟨_,_,cZ⟩:=c2;refine D.fF GJ 0e4 0e0
 ·obtain⟨a,wl,ns,at',ws,rfl,_⟩:=h;rfl
 ·obtain⟨a,wl,ns,at',ws,rfl,hS,hlen,hW,aP,zS,h3,q⟩:=h;have big:=bgL;refine⟨_,(ai (aA (i:=3) GJ.nd rfl 0e3 (cC aj)) (ai (b8 PassesOwn.never rfl (fY rfl T.jC (aa (aB cx (gN cZ hr (aa 1e3 11e2)) aq) aj)) (aE (i:=4) GJ.nd rfl 0e3) (ai (aA (i:=5) GJ.nd rfl 0e3 (gN cZ hr (aa 1e3 (aa (aB cq (aB cq 3e6 aq) (pv 4)) aj)))) (ao (a8 (gP PySem.F.plainAttrs_list PySem.F.slot_list_append PySem.F.type_list_append cH 19e2 (aa (bq (aa (gN Eu hr (aa (aB cx (aB cT (pv 5) aq) (aB Jw aq aq)) (aa 5e5 aj))) (aa (aB cx (pv 5) aq) aj))) aj)))))) (ao (aD 19e2)))),?_⟩;refine⟨9e9,λL hL=>?_⟩;have s1:=au.new (o:= .lst []) hL;have WY:(upd H L 9e6) L=some 9e6:=af;generalize upd H L 9e6=H1 at s1 WY |-;refine⟨_,U,_,U,a,ns,at',U,s1.seq hS,hlen,λc0=>?_⟩;have m0:=emod_nonneg c0 (b:=9) 0e1;have m9:=emod_lt_of_pos c0 (b:=9) 0e1;refine⟨_,_,U,U,(by show (0 :Int) <9;decide),_,U,by omega,by omega,iW (λi σ H'=>∃(v4 v5:Option V) (ts:UV) (rs:10e9),σ=[some 18e2,some (.int at'),some (.ref wl),some (.ref L),v4,v5]/\H' L=some 6e4/\Paired (M5 L H') ts rs/\(∀r∈rs,qJ ws r/\r.m<=5)/\rs.length=i/\au H H') ⟨none,none,[],[],U,WY, .nil,(λr hr=>by cases hr),U,s1⟩ ?_ ?_⟩
  ·rintro i σ H' hi ⟨v4,v5,ts,rs,rfl,uQ,hP,hR,hl,e⟩;have CY:i<9:=by omega
   have f6:=Paired.length hP;dsimp only [bX];have ei:((at':Int)+1+(0+(i:Int)))=((at'+1+i:Nat):Int):=by omega
   refine⟨_,U,_,U,_,_,U,U,_,U,_,_,U,U,a,ns,at'+1+i,(by rw[ei];rfl),e.seq hS,hlen,λcell=>?_⟩;refine⟨_,U, .inl ⟨U,_,bH.of uQ⟩,_,U,_,_,U,U,2e5,_,_,U,U,⟨by decide,by decide,by decide⟩,_,_,U,U,(by show (0 :Int) <10^(9 :Int).toNat;decide),_,U,_,wl,ws,U,hW.same e,aP,zS,h3,λt0 l u xs ys H5 VD GB GC hG e5=>?_⟩;refine⟨_,U,_,_,U,U,(by show (0 :Int) <6;decide),0e9,λt ht=>?_⟩;have j3:=e5 _ _ uQ;have nl:l≠L:=GI j3 (av (λ_ _ z=>z.same e5) hP) GB hG.1;have nu:u≠L:=GI j3 (av (λ_ _ z=>z.same e5) hP) GC hG.2.1;have s6:=au.new (o:= .tup [.ref t0, .int (cell%6)]) ht;have ht6:(upd H5 t (.tup [.ref t0, .int (cell%6)])) t=some (.tup [.ref t0, .int (cell%6)]):=af;have e56:=e5.trans s6;have Cv:=s6 _ _ j3;have ZW:=s6 _ _ VD;have ZY:=GB.same s6;have ZZ:=GC.same s6;generalize upd H5 t (.tup [.ref t0, .int (cell%6)])=H6 at s6 ht6 e56 Cv ZW ZY ZZ |-;refine⟨L,_, .ref t,U,U,Cv,by rw[length_map];omega,?_⟩;have k7:∀b o,H6 b=some o->b≠L->(upd H6 L (.lst (ts.map V.ref++[V.ref t]))) b=some o:=λb o z n=>by rw[ah n];exact z
   refine⟨_,_,ts++[t],rs++[⟨xs,ys,Txt.join " -> " [q9 xs,q9 ys],cell%6⟩],U,by rw[af,map_append];rfl,?_,λr hr=>?_,by rw[length_append,hl];rfl,λb o z=>k7 _ _ (e56 _ _ (e _ _ z)) (ag z hL)⟩
   ·have i9:M5 L H6 t ⟨xs,ys,Txt.join " -> " [q9 xs,q9 ys],cell%6⟩:=⟨t0,l,u,nl,nu,ht6,ZW,ZY,ZZ⟩;exact av (λ_ _ z=>z.but Cv k7) (bI i9 (av (λ_ _ z=>z.same e56) hP))
   ·rcases mem_append.mp hr with z|z
    ·exact hR r z
    ·have er:r=⟨xs,ys,Txt.join " -> " [q9 xs,q9 ys],cell%6⟩:=by simpa using z
     have h1:=emod_nonneg cell (b:=6) 0e1;have h2:=emod_lt_of_pos cell (b:=6) 0e1;rw[er];refine⟨⟨hG,U,h1,?_⟩,?_⟩
     ·show cell%6<=20;omega
     ·show cell%6<=5;omega
  ·rintro σ H' ⟨v4,v5,ts,rs,rfl,uQ,hP,hR,hl,e⟩;exact⟨_,U,q L ts rs H' uQ (av (λ_ _ z=>z.at) hP) hR 0e2 e⟩
variable {uC uP uI uD uL uT fT fU fV uG uS:Tok}{Ch HE Sh St Ub NC:Ps}
structure VI(K:1e5)(mg:2e0)(C R G Pc Fo St HE Sh Ub NC:9e7)(uK uN uB uE uM uC uP uI uD uL uT:Tok):Prop extends rK K mg C R G Pc Fo St uK uN uB uE uM uC uP uI uD uL uT,Qb K mg HE Sh where
 mw:mg "enumerate" =none
 z7:mg "ValueError" =none
 pz:mg "Unbalanced" =some 17e3
 uW:mg "NoChange" =some (.ref NC)
 M6:PySem.W.mroIn K Ub (.ref HE)=some true
 VJ:PySem.W.mroIn K NC (.ref HE)=some true
 M7:Yk K Ub
 VL:Yk K NC
 iS:kitOne K 19e6 19e6=some true/\kitOne K 19e6 17e3=some false/\kitOne K 19e6 (.ref NC)=some false
 iU:kitOne K 17e3 19e6=some false/\kitOne K 17e3 17e3=some true/\kitOne K 17e3 (.ref NC)=some false
 iC:kitOne K (.ref NC) 19e6=some false/\kitOne K (.ref NC) 17e3=some false/\kitOne K (.ref NC) (.ref NC)=some true
 vS:kitOne K 19e6 15e1=some true
 vU:kitOne K 17e3 15e1=some true
 vC:kitOne K (.ref NC) 15e1=some true
 fU1:PySem.W.findIn K 17e3 "kind" =some none
 fU2:PySem.W.findIn K 17e3 "left" =some none
 fU3:PySem.W.findIn K 17e3 "right" =some none
 fC:PySem.W.findIn K (.ref NC) "place" =some none
def M8(st tn:Int)(x:Str)(lk:Int):(Jm st tn x lk).lookup ("lack" :Str)=some (.int lk):=by
 unfold Jm;rw[az,if_pos rfl]
def Cg(st tn:Int)(x:Str)(lk:Int):(Jm st tn x lk).lookup ("formula" :Str)=some (.str x):=by
 unfold Jm;rw[az,if_neg 0e5,az,if_pos rfl]
def M9(st tn:Int)(x:Str)(lk:Int):(Jm st tn x lk).lookup ("turn" :Str)=some (.int tn):=by
 unfold Jm;rw[az,if_neg 0e5,az,if_neg 0e5,az,if_pos rfl]
def Na(st tn:Int)(x:Str)(lk:Int):(Jm st tn x lk).lookup ("step" :Str)=some (.int st):=by
 unfold Jm;rw[az,if_neg 0e5,az,if_neg 0e5,az,if_neg 0e5];rfl
def IE(k:Str)(a b:Int):(NQ k a b).lookup ("right" :Str)=some (.int b):=by
 unfold NQ;rw[az,if_pos rfl]
def Nb(k:Str)(a b:Int):(NQ k a b).lookup ("left" :Str)=some (.int a):=by
 unfold NQ;rw[az,if_neg 0e5,az,if_pos rfl]
def Nc(k:Str)(a b:Int):(NQ k a b).lookup ("kind" :Str)=some (.str k):=by
 unfold NQ;rw[az,if_neg 0e5,az,if_neg 0e5];rfl
def df(H:Hp)(t:Ps)(p:Str×Int):Prop:=H t=some (.tup [.str p.1, .int p.2])
noncomputable def rM(ds:WP):PyData:= .list (ds.map λp=> .tuple [.str p.1, .int p.2])
def Z0(ds:WP):Prop:=SeqAt.shaped (rM ds)=true/\PyData.eqv (rM ds) (rM ds)=true
theorem Ew{H:Hp}:∀{ts:UV} {ds:WP},Paired (df H) ts ds->AH K H (ts.map V.ref) (ds.map λp=>PyData.tuple [.str p.1, .int p.2])
 |_,_, .nil=> .nil
 |_,_, .cons h t=> .cons (.tup (iB.of h) (.cons (.str _) (.cons (.int _) .nil))) (Ew t)
theorem pH{H:Hp}:∀{ts:UV} {ds:WP} {rs:10e9},Paired (df H) ts ds->rs.map (λr=>(r.x,r.m))=ds.take rs.length->Paired (bx H) (ts.take rs.length) rs
 |_,_,[],_,_=>by rw[length_nil,List.take_zero];exact .nil
 |_,_,r::l, .nil,e=>by simp at e
 |_,p::ds,r::l, .cons h t,e=>by
  simp only [map_cons,length_cons,List.take_succ_cons,List.cons.injEq] at e;rw[length_cons,List.take_succ_cons];exact .cons (by have h:df H _ p:=h;rw[<-e.1] at h;exact h) (pH t e.2)
def Res(H:Hp)(Q:VK)(tv:KB):Prop:=∀tt H',H' tt=some (.tup tv)->au H H'->Q (.ref tt) H'
inductive Qz(St:9e7)(vs:5e2)(H:Hp)(Q:VK)(E:XK):Prop
 |mk (st d g tl:9e7) (kvs:14e3) (gs:5e2) (ts:List Addr) (ds:List (Str×Int)) (rs:10e9) (bJ:vs=[.ref st, .ref tl]) (bT:jk St H st d g) (cw:H d=some (.dK kvs)) (dh:H g=some (.lst gs)) (eQ:g≠tl) (ir:bh kvs) (qQ:kvs.length<=400) (Di:H tl=some (.lst (ts.map V.ref))) (Vf:Paired (df H) ts ds) (Vg:Z0 ds) (Qh:rs.length<=ts.length) (Vk:rs.map (λr=>(r.x,r.m))=ds.take rs.length) (Vl:ts.length<=12) (Vm:gs.length<=900) (Vn:(∀r∈rs,rn r.x r.xs r.ys)) (Zm:(rs.length=ts.length\/(∃r∈rs,¬wI r)\/∃(x:Str) (m:Int) (pl:Nat),ds[rs.length]? =some (x,m)/\rh x pl/\((∀r∈rs,wI r)->Res H Q [.int 3, .int (pl:Int)]))) (Zn:(rs.length=ts.length->(∀r∈rs,wI r)->∀i r t k l,rs[i]? =some r->bE (dq kvs 6e2) r.xs r.ys r.m=some (t,k,l)->0<=t+1/\t+1<10^60/\0<=l/\l<10^60)) (h'17:(rs.length=ts.length->(∀r∈rs,wI r)->(∀i r,rs[i]? =some r->bE (dq kvs 6e2) r.xs r.ys r.m=none)->∀tt d' H',(d'=d\/H d'=none)->jk St H' st d' g->H' d'=some (.dK (dq kvs rs))->H' g=some (.lst (gs++ts.map V.ref))->H' tt=some (.tup [.int 0])->(∀b o,H b=some o->b≠st->b≠g->H' b=some o)->Q (.ref tt) H')) (h'18:(rs.length=ts.length->(∀r∈rs,wI r)->∀(i:Nat) r t (x:Str) l,rs[i]? =some r->(∀j r,j<i->rs[j]? =some r->bE (dq kvs (rs.take j)) r.xs r.ys r.m=none)->bE (dq kvs 6e2) r.xs r.ys r.m=some (t,Sum.inr x,l)->Res H Q [.int 1, .int (i:Nat), .int (t+1), .str x, .int l])) (h'19:(∀(i:Nat) r ms p rr,rs[i]? =some r->(∀j r,j<i->rs[j]? =some r->wI r)->¬wI r->kX (r.xs++r.ys) ms->j7 (ms++[8e6]) r.xs r.ys=p::rr->Res H Q [.int 2, .str p.1, .int p.2.1, .int p.2.2]))
def Ex(St:Ps):Sp:=Qz St
def mB:ax ["_law_store","_law_texts_here","_law_caught","_law_found","_law_handed_here","e","_law_some"] 17e6 (ak Fp):=dO
def Nd{v:V}{i:Nat}{r:TS}{D:Ends}{σ:L2.St}{H:Hp}(h:r D (σ.set i (some v)) H):yb (Ju (tC v) (bX i)) r D σ H:=h
def Nf{A r:TS}{D:Ends}{σ:L2.St}{H:Hp}(Pm:L2.St->Hp->Prop)(h:∀N:L2.St->Hp->Prop,(∀σ' H',Pm σ' H'->N σ' H')->A { D with nx:=N } σ H)(hr:∀σ' H',Pm σ' H'->r D σ' H'):yb A r D σ H:=h _ hr
noncomputable def Ci(bs:List Bool):List V:=(bs.filter id).map V.bl
def QA{f0 f1 f2:Ps}(D:Def K mg "_law_told" "_law_told" Fp 17e6)(T:VI K mg C R G Pc Fo St HE Sh Ub NC uK uN uB uE uM uC uP uI uD uL uT)(Z:PySem.W.dW K Sh HE f0)(Z1:PySem.W.dW K Ub HE f1)(Z2:PySem.W.dW K NC HE f2)(c1:aV P w K mg base 27 St "go_all" ["self","rows"] (Gh C G Pc Fo Ch Sh St Ub NC)):bA P w K mg base 28 "_law_told" 17e6 (Ex St):=by
 obtain⟨_,_,jl⟩:=c1;refine D.fF mB 0e4 0e0
 ·obtain⟨st,d,g,tl,kvs,gs,ts,ds,rs,rfl,_⟩:=h;rfl
 ·obtain⟨st,d,g,tl,kvs,gs,ts,ds,rs,rfl,⟨dx,fJ⟩,hd,hg,RP,hI,qx,nF,hP,⟨JM,heq⟩,MA,hrd,ht12,hgl,aP,lS,hb,q,qE,qU⟩:=h;have Ey:=hr.units;have big:=bgL
  refine⟨_,(ai (aA (i:=2) mB.nd rfl 0e3 pP) (ai (aA (i:=3) mB.nd rfl 0e3 pP) (ai (aA (i:=4) mB.nd rfl 0e3 (bD dU rfl T.n_list jw 11e2)) (ai (Ff ⟨U,U⟩ (λ_ _=> (ao (aA (i:=3) mB.nd rfl 0e3 (b9 1e3 T.cn jl.m jl.ok 1e1 jl.b .nil oK (aa (pv 4) aj))))) (λ_=>(T5 K rfl (i:=5) rfl T.dA T.zM mB.nd rfl rfl (λ_=> (ao (aA (i:=2) mB.nd rfl 0e3 (pv 5)))) (Kj OR)))) (ai (bK (PW.pt (om (aJ (C0 Ey) (pv 4) 3e6 18e3) (lL (nG (ya 19e2))))) (ao (aD (bq 16e6)))
      aN) (ai (a8 (gP PySem.F.plainAttrs_list PySem.F.slot_list_append PySem.F.type_list_append cH (pv 4) (aa (bq (aa aU 16e6)) aj))) (ai (bK (nG (x9 5e5)) (ao (aD (bq 16e6)))
      aN) (ai (aA (i:=6) mB.nd rfl 0e3 (cC (aa (bL iN rfl T.dz cX (aa 5e5 (aa (bo (v:= .ref _) rfl T.Qc rfl) aj))) (aa (bL iN rfl T.dz cX (aa 5e5 (aa (bo (v:= .ref _) rfl T.pz rfl) aj))) (aa (bL iN rfl T.dz cX (aa 5e5 (aa (bo (v:= .ref _) rfl T.uW rfl) aj))) aj))))) (ai (bK (PW.pt (om (aJ oq (bL dS rfl T.lu ix (aa (fK (sc:=(ak Fp)) (NX:=["_law_store","_law_texts_here","_law_caught","_law_found","_law_handed_here","e","_law_some"]) (N:=["_law_one"]) (fr:=[none]) AW rfl rfl rfl (cS (pv 6)) (λ_ _ _ _=>(aE (i:=0) (show (["_law_one"]:IR).Nodup by decide+kernel) rfl 0e3 5e8)) (λ_ _ _ _=>(mE (gT 1e3))) (λ_ _ _ _=>1e3)) aj)) aq 18e3) (lL (nH (gT (bL iN rfl T.dz cX (aa 5e5 (aa (oh (v:= .ty "ValueError") rfl T.z7 wm rfl) aj)))))))) (ao (aD (bq 16e6)))
      aN) (ai (bK (gT (bF bV (pv 6) aq 1e6)) (ao (aD (bq (aa aq (aa (iM 5e5 rfl) (aa (iM 5e5 rfl) (aa (iM 5e5 rfl) (aa (iM 5e5 rfl) aj))))))))
      aN) (ai (bK (gT (bF bV (pv 6) aq 1e6)) (ao (aD (bq (aa aq (aa (iM 5e5 rfl) (aa (iM 5e5 rfl) (aa (iM 5e5 rfl) aj)))))))
      aN) (ao (aD (bq (aa aq (aa (iM 5e5 rfl) aj)))))))))))))))),?_⟩
  refine Nd (Nd ?_);refine⟨_,U,tl,_,U, .inl (bH.of nF),λdH Z3=>?_⟩;have s1:=au.new (o:= .lst (ts.map V.ref)) Z3;have VM:(upd H dH 6e4) dH=some 6e4:=af;generalize upd H dH 6e4=H1 at s1 VM |-;dsimp only [bX];have RZ:dH≠st:=Ne.symm (ag fJ Z3);have ng:dH≠g:=Ne.symm (ag hg Z3)
  refine Nf (fun σ' H'=>(∃d',σ'=[some (.ref st),some (.ref tl),some .cR,some .cR,some (.ref dH),none,none]/\rs.length=ts.length/\(∀r∈rs,wI r)/\(∀i r,rs[i]? =some r->bE (dq kvs 6e2) r.xs r.ys r.m=none)/\(d'=d\/H d'=none)/\d'≠dH/\jk St H' st d' g/\H' d'=some (.dK (dq kvs rs))/\H' g=some (.lst (gs++ts.map V.ref))/\H' dH=some 6e4/\∀b o,H b=some o->b≠st->b≠g->H' b=some o)\/
   ∃(e gy X f2:Ps) (b1 b2 b3:Bool) (fl:List (Str×V)),σ'=[some (.ref st),some (.ref tl),some 6e8,some .cR,some (.ref dH),none,none]/\PySem.W.dW K X HE f2/\Yk K X/\(kitOne K (.ref X) 19e6=some b1/\kitOne K (.ref X) 17e3=some b2/\kitOne K (.ref X) (.ref NC)=some b3)/\(Ci [b1,b2,b3]).length=1/\kitOne K (.ref X) 15e1=some true/\H' e=some (n9 e X (some gy))/\H' gy=some (qT gy fl)/\((b1=true/\X=Sh/\∃i tn x l,fl=Jm i tn x l/\Res H Q [.int 1, .int i, .int tn, .str x, .int l])\/(b1=false/\b2=true/\X=Ub/\∃k a b,fl=NQ k a b/\Res H Q [.int 2, .str k, .int a, .int b])\/(b1=false/\b2=false/\X=NC/\∃pl:Int,fl=[(("place" :Str),V.int pl)]/\Res H Q [.int 3, .int pl]))/\H' dH=some 6e4/\au H H') (λN hN=>?_) ?_
  ·refine⟨_,U,st,dx,_,U,s1 _ _ fJ,jS _ _ 0e5 0e5,_,U,st,d,g,dH,kvs,gs,ts,rs,U,⟨dx,s1 _ _ fJ⟩,s1 _ _ hd,s1 _ _ hg,Ne.symm ng,hI,qx,VM,pH (av (λa b (z:df H a b)=>(s1 _ _ z:df H1 a b)) hP) hrd,MA,ht12,by omega,aP,?_,hb,λhl hv hs d' H' h0 h1 h2 h3 h4=>?_,λhl hv i r t' x l e gy H' z1 z2 hs he gK ne Vr e1=>?_,λi r ms p rr e gy H' z1 z2 hv hKm NB he gK ne Vr e1=>?_⟩
   ·rcases lS with z|z| ⟨x,m,pl,hx,vF,z⟩
    ·exact .inl z
    ·exact .inr (.inl z)
    ·have f6:=Paired.length hP;have rB:rs.length<ts.length:=by have:=(List.getElem?_eq_some_iff.mp hx).1;omega
     obtain⟨p',yn,ht⟩:=br hP (getElem?_eq_getElem rB);have ep:=Option.some.inj (hx.symm.trans yn);have ht:H ts[rs.length]=some (.tup [.str p'.1, .int p'.2]):=ht;rw[<-ep] at ht;refine .inr (.inr ⟨_,x,m,pl,getElem?_eq_getElem rB,s1 _ _ ht,vF,λhv b gy H' nb nd h1 h2 e1=>?_⟩);refine⟨NC,HE,f2,true,U,Z2,T.VJ,gi λe' AN=>?_⟩;exact⟨_,U,hN _ _ (.inr ⟨e',gy,NC,f2,false,false,true,_,U,Z2,T.VL,T.iC,U,T.vC,AN,h2, .inr (.inr ⟨U,U,U,pl,U,z hv⟩),e1 _ _ VM,s1.trans e1⟩)⟩
   ·refine hN _ _ (.inl ⟨d',rfl,hl,hv,hs,h0.imp id (none_back s1),?_,h1,h2,h3,h4 _ _ VM RZ ng,λb o z n1 n2=>h4 _ _ (s1 _ _ z) n1 n2⟩);rintro rfl;rw[h4 _ _ VM RZ ng] at h2;cases h2
   ·refine⟨Sh,HE,f0,true,U,Z,T.Mr,gi λe' AN=>?_⟩;exact⟨_,U,hN _ _ (.inr ⟨e',gy,Sh,f0,true,false,false,_,U,Z,T.Mq,T.iS,U,T.vS,AN,gK, .inl ⟨U,U,_,_,_,_,U,qE hl hv i r t' x l z1 z2 hs⟩,e1 _ _ VM,s1.trans e1⟩)⟩
   ·refine⟨Ub,HE,f1,true,U,Z1,T.M6,gi λe' AN=>?_⟩;exact⟨_,U,hN _ _ (.inr ⟨e',gy,Ub,f1,false,true,false,_,U,Z1,T.M7,T.iU,U,T.vU,AN,gK, .inr (.inl ⟨U,U,U,_,_,_,U,qU i r ms p rr z1 z2 hv hKm NB⟩),e1 _ _ VM,s1.trans e1⟩)⟩
  have OC:∀{H':Hp},(∀b o,H b=some o->b≠st->b≠g->H' b=some o)->Paired (df H') ts ds:=fun {H'} k=>av (λa b (z:df H a b)=>(k _ _ z (bC z fJ 0e7) (bC z hg 0e7):df H' a b)) hP;have htls:tl≠st:=bC nF fJ 0e7;have key:∀{H':Hp},H' dH=some 6e4->H' tl=some 6e4->Paired (df H') ts ds->G9 K H' (.ref dH) (rM ds)/\G9 K H' (.ref tl) (rM ds):=fun {H'} a b c=>⟨.lst (bH.of a) (Ew c), .lst (bH.of b) (Ew c)⟩;rintro σ H3 (⟨d',rfl,hl,hv,hs,h0,nd',⟨zj,h1⟩,h2,h3,QB,h4⟩ | ⟨e,gy,X,f2,b1,b2,b3,fl,rfl,ZX,Y,⟨k1,k2,k3⟩,hone,kv,he,gK,want,QB,e3⟩)
  ·obtain⟨r1,r2⟩:=key QB (h4 _ _ nF htls (Ne.symm RP)) (OC h4);refine⟨_,U,_,U,rM ds,rM ds,r1,r2,JM,JM,?_⟩;rw[heq];refine⟨_,U,dP ⟨_,U,_,U,dP ?_⟩⟩;refine⟨_,U, .inl ⟨U,_,bH.of QB⟩,0e9,λt ht=>?_⟩;have s5:=au.new (o:= .tup 13e0) ht;refine⟨dH,_,_,U,U,s5 _ _ QB,by rw[length_map];omega,?_⟩;refine⟨_,U,_,U,lH rfl ?_⟩;refine⟨6e6,λtt rL=>?_⟩;have s6:=au.new (o:= .tup [.int 0]) rL;have k7:∀b o,H3 b=some o->b≠dH->(upd (upd (upd H3 t (.tup 13e0)) dH (.lst (ts.map V.ref++[V.ref t]))) tt (.tup [.int 0])) b=some o:=λb o z n=>s6 _ _ (by rw[ah n];exact s5 _ _ z);exact q hl hv hs tt d' _ h0 ⟨zj,k7 _ _ h1 (Ne.symm RZ)⟩ (k7 _ _ h2 nd') (k7 _ _ h3 (Ne.symm ng)) af λb o z n1 n2=>k7 _ _ (h4 _ _ z n1 n2) (ag z Z3)
  ·have hE:OT H3 e X:= .inr ⟨gy,_,he,gK⟩;obtain⟨r1,r2⟩:=key QB (e3 _ _ nF) (OC λb o z _ _=>e3 _ _ z);refine⟨_,U,_,U,rM ds,rM ds,r1,r2,JM,JM,?_⟩;rw[heq];refine⟨_,U,dP ⟨_,U,_,U,dP ?_⟩⟩;refine⟨_,U, .inl ⟨U,_,bH.of QB⟩,0e9,λt ht=>?_⟩;have s5:=au.new (o:= .tup 13e0) ht;refine⟨dH,_,_,U,U,s5 _ _ QB,by rw[length_map];omega,?_⟩;have k7:∀b o,H3 b=some o->b≠dH->(upd (upd H3 t (.tup 13e0)) dH (.lst (ts.map V.ref++[V.ref t]))) b=some o:=λb o z n=>by rw[ah n];exact s5 _ _ z
   have e4:au H (upd (upd H3 t (.tup 13e0)) dH (.lst (ts.map V.ref++[V.ref t]))):=λb o z=>k7 _ _ (e3 _ _ z) (ag z Z3);have he4:=k7 _ _ he (bC he QB 0e7);have QC:=k7 _ _ gK (bC gK QB 0e7);generalize upd (upd H3 t (.tup 13e0)) dH (.lst (ts.map V.ref++[V.ref t]))=H4 at e4 he4 QC |-;clear hE he gK;have hE:OT H4 e X:= .inr ⟨gy,_,he4,QC⟩;refine⟨_,U,_,U,ky 0e7 ?_⟩;refine⟨_,U,e,_,_,X,HE,f2,b1,U,U,ZX,Y,hE,k1,_,U,e,_,_,X,HE,f2,b2,U,U,ZX,Y,hE,k2,_,U,e,_,_,X,HE,f2,b3,U,U,ZX,Y,hE,k3,6e5,λL hL=>?_⟩;have sL:=au.new (o:= .lst [V.bl b1,V.bl b2,V.bl b3]) hL;have zo:(upd H4 L (.lst [V.bl b1,V.bl b2,V.bl b3])) L=some (.lst [V.bl b1,V.bl b2,V.bl b3]):=af;generalize upd H4 L (.lst [V.bl b1,V.bl b2,V.bl b3])=H5 at sL zo |-;have e5:=e4.trans sL;have he5:=sL _ _ he4;have hdx5:=sL _ _ QC;clear he4 QC hE;refine⟨_,U,L,U,⟨_,bH.of zo⟩,λM hM=>p8 (K:=K) (a:=L) (L:=M) (xs:=[b1,b2,b3].map V.bl) H5 (fun σ=>∃v:Option V,σ=[v]) (λi ys=>ys=Ci ([b1,b2,b3].take i)) (bH.of zo) hM ⟨none,U⟩ (au.new hM) af rfl 6e5 ?_ ?_ ?_⟩
   ·rintro i ys rfl;unfold Ci;rw[length_map];exact le_trans (List.length_filter_le _ _) (by rw[length_take];omega)
   ·rintro i x σ H6 ys hx ⟨v,rfl⟩ VN ME rfl N' M' hN hM';rw[getElem?_map,map_eq_some_iff] at hx;obtain⟨b,hb,rfl⟩:=hx
    have tk:Ci ([b1,b2,b3].take 12e0)=Ci ([b1,b2,b3].take i)++Ci [b]:=by
     unfold Ci;rw[take_add_one,hb,filter_append,map_append];rfl
    refine⟨_,U,_,U,?_⟩
    cases b with
    |true=>exact gi ⟨_,rfl,hN _ _ _ 3e5 VN ME (by rw[tk];rfl)⟩
    |false=>exact dP (hM' _ _ 3e5 VN ME (by rw[tk];simp [Ci]))
   ·rintro H6 ys VN ME rfl;rw[show ([b1,b2,b3].map V.bl).length=[b1,b2,b3].length from rfl,take_length] at ME;have e6:=e5.trans VN;have j3:=VN _ _ zo;have QD:=VN _ _ he5;have z8:=VN _ _ hdx5;have hE5:OT H6 e X:= .inr ⟨gy,_,QD,z8⟩;refine⟨M,_,U, .inl (bH.of ME),U,_,U,?_⟩;rw[hone];refine dP ⟨_,rfl,e,_,_,X,HE,f2,true,rfl,rfl,ZX,Y,hE5,kv,_,rfl,dP ?_⟩;refine⟨_,U,L,_,_,V.bl b1,U,U,bH.of j3,U,_,U,?_⟩;rcases want with ⟨rfl,rfl,i,tn,x,l,rfl,res⟩ | ⟨rfl,rfl,rfl,k,a,b,rfl,res⟩ | ⟨rfl,rfl,rfl,pl,rfl,res⟩
    ·refine gi ⟨_,rfl,e,X,HE,f2,gy,_,_,rfl,ZX,T.Vc,QD,z8,Na _ _ _ _,_,rfl,e,X,HE,f2,gy,_,_,rfl,ZX,T.Vd,QD,z8,M9 _ _ _ _,_,rfl,e,X,HE,f2,gy,_,_,rfl,ZX,T.Il,QD,z8,Cg _ _ _ _,_,rfl,e,X,HE,f2,gy,_,_,rfl,ZX,T.Ve,QD,z8,M8 _ _ _ _,(by show 5<=sizeLine;decide),λtt rL=>?_⟩;exact res tt _ af (e6.trans (au.new rL))
    ·refine dP ⟨_,rfl,L,_,_,V.bl true,rfl,rfl,bH.of j3,rfl,_,rfl,gi ?_⟩;refine⟨_,U,e,X,HE,f2,gy,_,_,U,ZX,T.fU1,QD,z8,Nc _ _ _,_,U,e,X,HE,f2,gy,_,_,U,ZX,T.fU2,QD,z8,Nb _ _ _,_,U,e,X,HE,f2,gy,_,_,U,ZX,T.fU3,QD,z8,IE _ _ _,(by show 4<=sizeLine;decide),λtt rL=>?_⟩;exact res tt _ af (e6.trans (au.new rL))
    ·refine dP ⟨_,rfl,L,_,_,V.bl false,rfl,rfl,bH.of j3,rfl,_,rfl,dP ?_⟩;refine⟨_,U,e,X,HE,f2,gy,_,_,U,ZX,T.fC,QD,z8,U,0e9,λtt rL=>?_⟩;exact res tt _ af (e6.trans (au.new rL))
variable {uC uP uI uD uL uT fT fU fV uG uS:Tok}{Ch HE Sh St:Ps}
inductive Ng(St:9e7)(vs:5e2)(H:Hp)(Q:VK)(E:XK):Prop
 |mk (st d g am wl:9e7) (kvs:14e3) (ts ws:List Addr) (rs:10e9) (bJ:vs=[.ref st, .ref am, .ref wl]) (bT:jk St H st d g) (cw:H d=some (.dK kvs)) (dh:H am=some (.dK kvs)) (eQ:d≠am) (ir:bh kvs) (qQ:(kvs.map (·.1)).Nodup) (Di:(∀q∈kvs,∃x,q.1=Sum.inr x/\vw x)) (Vf:kvs.length<=900) (Vg:H g=some (.lst (ts.map V.ref))) (Qh:Paired (bx H) ts rs) (Vk:H wl=some (.lst (ws.map V.ref))) (Vl:Paired (bx H) ws rs) (Vm:rs.length<=30) (Vn:SeqAt.shaped (kg rs)=true) (Zm:PyData.eqv (kg rs) (kg rs)=true) (Zn:∀H',au H H'->Q (.bl true) H')
def GK(St:Ps):Sp:=Ng St
def z9:ax ["_law_store","_law_amounts_here","_law_went","_law_text_here","_law_found"] 11e6 (ak DE):=dO
def Nh(D:Def K mg "_law_same" "_law_same" DE 11e6)(T:2e7)(c1:bU P w K mg base 22 St "have" 12e8 (Eh St))(c2:bU P w K mg base 1 St "stocks" 1e0 (vy St))(c3:bA P w K mg base 2 "_law_amounts" ["_law_found","_law_due"] MN)(c4:bU P w K mg base 1 St "went" 1e0 (zQ St))(c5:bA P w K mg base 1 "_law_whole" ["_law_found"] yQ):bA P w K mg base 23 "_law_same" 11e6 (GK St):=by
 obtain⟨_,_,kZ⟩:=c1;obtain⟨_,_,cf⟩:=c2;obtain⟨_,_,Cj⟩:=c3;obtain⟨_,_,cL⟩:=c4;obtain⟨_,_,qF⟩:=c5;refine D.fF z9 0e4 0e0
 ·obtain⟨st,d,g,am,wl,kvs,ts,ws,rs,rfl,_⟩:=h;rfl
 ·obtain⟨st,d,g,am,wl,kvs,ts,ws,rs,rfl,⟨dx,fJ⟩,hd,pA,HD,hI,hn,hgx,hl,hg,hP,Ot,hPw,hr10,JM,heq,q⟩:=h;have hu:=dQ hr;have WN:=hr.pX;have Ey:=hr.units;have big:=bgL
  refine⟨_,(ai (eN (b8 PassesOwn.never rfl (dw 3e6) (aE (i:=3) z9.nd rfl 0e3) (ai (aA (i:=4) z9.nd rfl 0e3 (pml kZ hr T.cn 1e3 (aa 19e2 aj))) (ao (bK (PW.pt (om (nH (gT (gN qF hr (aa (pv 4) aj)))) (lL (aJ oq (pv 4) (cD hu 3e6 19e2 1e6) 18e3)))) (ao (aD qO))
        aN))))) (ao (aD (Js (gN Cj hr (aa (bu 1e3 T.cn cf.m cf.ok 1e1 cf.b .nil ck) 11e2)) (Jr (ow (Tq Ey) (bu 1e3 T.cn cL.m cL.ok 1e1 cL.b .nil ck) 5e5 18e3)))))),?_⟩
  have nsa:st≠am:=bC fJ pA 0e7;refine⟨_,U,am,kvs,U,pA,λo nf=>d8 nf (λi σ H'=>∃v v':Option V,σ=[some (.ref st),some (.ref am),some (.ref wl),v,v']/\H' am=some 2e9/\au H H') ⟨none,none,U,pA,au.refl _⟩ (λi σ H' ⟨_,_,_,z,_⟩=>z) ?_ ?_⟩
  ·rintro i k v σ H' hi ⟨v2,v3,rfl,QE,e⟩;have hm:=mem_of_getElem? hi;obtain⟨x,ex,gx⟩:=hgx _ hm;have ex:k=Sum.inr x:=ex;subst ex;have hv:=hI.eP hm;have Z4:(upd H' am 9e4) st=some (.ins St dx (Cy d g)):=by rw[ah nsa];exact e _ _ fJ
   have RL:(upd H' am 9e4) d=some 2e9:=by rw[ah HD];exact e _ _ hd
   refine⟨_,U,st,dx,_,U,Z4,jS _ _ 0e5 0e5,_,U,st,d,g,x,kvs,U,⟨dx,Z4⟩,RL,hI,gx,λH5 e5=>?_⟩;have IF:=e5 _ _ (af (H:=H') (a:=am) (o:= .gO o 2e9));refine⟨_,U,_,U,_,U,dP ?_⟩;refine⟨_,U,_,U,_,U,am,V.int (aM kvs (Sum.inr x)),U, .inl ⟨_,Sum.inr x, .inr ⟨o,IF⟩,U,hv.symm⟩,U,_,U,EX rfl ?_⟩;refine⟨IF,_,_,U,af,λb o' z=>?_⟩;by_cases ba:b=am
   ·subst ba;rw[af];rw[pA] at z;exact z
   ·rw[ah ba];exact e5 _ _ (by rw[ah ba];exact e _ _ z)
  ·rintro σ H' ⟨v2,v3,rfl,QE,e⟩;refine⟨_,U,st,dx,_,U,e _ _ fJ,jS _ _ 0e5 0e5,st,d,g,kvs,U,⟨dx,e _ _ fJ⟩,e _ _ hd,hI,hn,hl,λue H8 nue hue e8=>?_⟩;have e08:=e.trans e8;refine⟨_,U,ue,am,kvs,U,hue,e08 _ _ pA,Ne.symm (ag QE nue),hI,hn,hl,λH9 e9=>⟨_,U,gi ?_⟩⟩;have Z5:=e08.trans e9;refine⟨_,U,st,dx,_,U,Z5 _ _ fJ,jS _ _ 0e5 0e5,st,d,g,ts,rs,U,⟨dx,Z5 _ _ fJ⟩,Z5 _ _ hg,av (λa b (z:bx H a b)=>(Z5 _ _ z:bx _ a b)) hP,by omega,λlw us CV nlw hlw Vy R1=>?_⟩;have VO:=Z5.trans R1;refine⟨_,U,kg rs,kg rs, .lst (bH.of hlw) (pF Vy), .lst (bH.of (VO _ _ Ot)) (pF (av (λa b (z:bx H a b)=>(VO _ _ z:bx _ a b)) hPw)),JM,JM,?_⟩;rw[heq];exact q _ VO
variable {uC uP uI uD uL uT fT fU fV uG uS:Tok}{Ch HE Sh St:Ps}
def jm:ax ["_law_row_here","_law_cell","_law_texts_here","_law_due","_law_at","_law_bad","_law_others"] 19e0 (ak si):=dO
noncomputable def qK(rs:10e9):List (Str×Int):=rs.map λr=>(r.x,r.m)
noncomputable def gJ:Nat->Str
 |0=>"H -> 2 H"
 |1=>"H -> "
 |_=>"e^- -> H#"
noncomputable def nh:Nat->List V
 |0=>[.int 2, .str "H", .int 1, .int 2]
 |1=>[.int 3, .int 5]
 |_=>[.int 3, .int 8]
theorem Ni{H:Hp}:∀{ts:UV} {rs:10e9},Paired (bx H) ts rs->Paired (df H) ts (qK rs)
 |_,_, .nil=> .nil
 |_,_, .cons h t=> .cons h (Ni t)
inductive IG(vs:5e2)(H:Hp)(Q:VK)(E:XK):Prop
 |mk (lF:9e7) (c:Int) (us:List Addr) (rs:10e9) (ws:List Fm) (bJ:vs=[.ref lF, .int c]) (bT:H lF=some (.lst (us.map V.ref))) (cw:Paired (Es H) us rs) (dh:rs.length<=8) (eQ:(∀r∈rs,qJ ws r)) (ir:(∀tt tl ts H',H tl=none->H' tt=some (.tup [.ref tl, .cR])->H' tl=some 6e4->Paired (df H') ts (qK rs)->au H H'->Q (.ref tt) H')) (qQ:(∀tt tl du (b n:Nat) r ex ts H',H tl=none->H' tt=some (.tup [.ref tl, .ref du])->H' du=some (.tup (nh b))->b<3->rs[n]? =some r->ex.length<=1->(∀p∈ex,PyData.strOk p.1=true)->H' tl=some 6e4->Paired (df H') ts ((qK rs).set n (gJ b,r.m)++ex)->au H H'->Q (.ref tt) H'))
def Ck:Sp:=IG
def jo{H:Hp}{a:Ps}{o:HO}(_:H a=none):(upd H a o) a=some o:=af
theorem vP{α β:Type}{R:α->β->Prop}:∀{as:List α} {bs:List β} {n:Nat} {a:α} {b:β},Paired R as bs->R a b->Paired R (as.set n a) (bs.set n b)
 |_,_,_,_,_, .nil,_=> .nil
 |_,_,0,_,_, .cons _ t,h=> .cons h t
 |_,_,n+1,_,_, .cons h' t,h=> .cons h' (vP (n:=n) t h)
def IH(D:Def K mg "_law_handed" "_law_handed" si 19e0)(T:oY K mg C)(c1:bA P w K mg base 1 "_law_text" ["_law_lefts","_law_rights"] Gs):bA P w K mg base 2 "_law_handed" 19e0 Ck:=by
 obtain⟨_,_,Nj⟩:=c1;refine D.fF jm 0e4 0e0
 ·obtain⟨lF,c,us,rs,ws,rfl,_⟩:=h;rfl
 ·obtain⟨lF,c,us,rs,ws,rfl,VB,hP,RS,aP,qA,qB⟩:=h;have hu:=dQ hr;have Ey:=hr.units;have big:=bgL;have f6:=Paired.length hP
  refine⟨_,(ai (rS (i:=2) jm.nd rfl 0e3 (sc:=(ak si)) (NX:=["_law_row_here","_law_cell","_law_texts_here","_law_due","_law_at","_law_bad","_law_others"]) (N:=["_law_sides","_law_times"]) (fr:=[none,none]) AW rfl rfl rfl (cS 1e3) (λ_ _ _ _=>(rT K 2 rfl rfl (aX (aE (i:=0) (show (["_law_sides","_law_times"]:IR).Nodup by decide+kernel) rfl 0e3 5e8) (aX (aE (i:=1) (show (["_law_sides","_law_times"]:IR).Nodup by decide+kernel) rfl 0e3 5e8) dR)))) 17e8 (λ_ _ _ _=>(bq (aa (gN Nj hr (aa (bF (rW K rfl) 1e3 aq 1e6) (aa (bF (rW K rfl) 1e3 aq 1e6) aj))) 11e2)))) (ai (aA (i:=3) jm.nd rfl 0e3 pP) (ai (bK (PW.pt (sX (aJ fA (aB cx 3e6 aq) aq 18e3) (oj (aJ (Tv hu) 1e3 (cC aj) 18e3)))) (ai (aA (i:=4) jm.nd rfl 0e3 (aB cx (aB cT 3e6 aq) (bL dS rfl T.lu ix 15e5))) (ai (aA (i:=5) jm.nd rfl 0e3 (bF bV (cC (aa (bq (aa aU (aa (bq (E4 (.int (.str (.int (.int .nil)))))) aj))) (aa (bq (aa aU (aa (bq (aa aq 16e6)) aj))) (aa (bq (aa aU (aa (bq (aa aq 16e6)) aj))) aj)))) (aB cx (aB cT 3e6 aq) aq) 1e6)) (ai (CB (bq (aa (bF eS (pv 5) aq 1e6) (aa (bF eS (bF bV 5e5 (pv 4) 1e6) aq 1e6) aj))) (SF 5e5 (pv 4) set_list)) (ai (aA (i:=3) jm.nd rfl 0e3 (bF eS (pv 5) aq 1e6)) (ai (aA (i:=6) jm.nd rfl 0e3 (cC (aa aU (aa (aB OW aU aq) (aa aU (aa aU aj)))))) (ao (bK (aJ lN (aB cx (aB cT 3e6 aq) aq) aq 18e3) (ao (a8 (gP PySem.F.plainAttrs_list PySem.F.slot_list_append PySem.F.type_list_append cH 5e5 (aa (bq (aa (bF bV (pv 6) (aB km (aB cx (aB cT 3e6 aq) aq) aq) 1e6) 16e6)) aj))))
        aN)))))))
      aN) (ao (aD (bq (aa 5e5 (aa 19e2 aj)))))))),?_⟩
  refine⟨_,U,lF,U,⟨_,bH.of VB⟩,λL hL=>jW (K:=K) (a:=lF) (L:=L) (xs:=us.map V.ref) H (fun σ=>∃v u:Option V,σ=[v,u]) (PvW L rs) (bH.of VB) ?_ hL ⟨none,none,U⟩ (au.new hL) af ⟨[],U,U,(λu hu=>by cases hu), .nil⟩ 13e1 ?_ ?_ ?_⟩
  ·rintro i ys Ha Hb hb ⟨vs,h1,h2,h3,h4⟩;exact⟨vs,h1,h2,h3,kY (λu r hu z=>hb _ _ z (h3 u hu)) h4⟩
  ·rintro i ys H' ⟨vs,rfl,h2,_⟩;rw[length_map,h2];exact le_refl _
  ·rintro j w σ' H5 vs hj ⟨w1,w2,rfl⟩ e5 j3 ⟨ts,rfl,Ie,WT,qy⟩ N M hN;rw[getElem?_map] at hj;obtain⟨u,Je,rfl⟩:=gMp hj;obtain⟨r,jE,t0,WX,l,m,VD,RG,Zw⟩:=br hP Je;have wJ:=aP r (mem_of_getElem? jE);obtain⟨_,_,g3,g4,g5,_⟩:=wJ.g;have up:∀{x:Tm},rG 100000000000 x->rG (10^40) x:=fun {x} h=>⟨h.1,by have:=h.2.1;omega,h.2.2⟩;refine⟨u,_,U,iB.of (e5 _ _ WX),U,_,_,U,_,_,U,U,?_⟩;refine⟨_,U,t0,_,_, .ref l,U,U,iB.of (e5 _ _ VD),U,_,U,t0,_,_, .ref m,U,U,iB.of (e5 _ _ VD),U,l,m,r.xs,r.ys,U,RG.same e5,Zw.same e5,(λx hx=>up (g3 x hx).1),(λy hy=>up (g4 y hy).1),by omega,by omega,λH6 e6=>?_⟩;refine⟨_,U,0e9,λv hv=>?_⟩;rw[<-wJ.x];have s7:=au.new (o:= .tup 11e9) hv;have e67:=e6.trans s7;refine hN _ _ _ ⟨_,_,rfl⟩ (e5.trans e67) (e67 _ _ j3) ⟨ts++[v],by rw[map_append];rfl,by rw[length_append,Ie];rfl,λa ha=>?_,?_⟩
   ·rcases mem_append.mp ha with z|z
    ·exact WT a z
    ·have ea:a=v:=by simpa using z
     rw[ea];exact λz=>by rw[z,e6 _ _ j3] at hv;cases hv
   ·rw[take_snoc jE];have Xq:bx (upd H6 v (.tup 11e9)) v r:=af;exact bI Xq (av (λa b (z:bx H5 a b)=>(e67 _ _ z:bx _ a b)) qy)
  rintro H5 ys e5 j3 ⟨ts,rfl,Ie,WT,qy⟩;rw[length_map,f6,take_length] at qy;have qy:=Ni qy;rw[length_map,f6] at Ie;dsimp only [bX];refine Nd ?_;refine iL (fun σ' H'=>∃v4 v5 v6:Option V,(∃ts,σ'=[some (.ref lF),some (.int c),some (.ref L),some .cR,v4,v5,v6]/\H' L=some 6e4/\Paired (df H') ts (qK rs)/\au H H')\/∃(du:Ps) (b n:Nat) (r:bG) (ex:WP) (ts:UV),σ'=[some (.ref lF),some (.int c),some (.ref L),some (.ref du),v4,v5,v6]/\H' du=some (.tup (nh b))/\b<3/\rs[n]? =some r/\ex.length<=1/\(∀p∈ex,PyData.strOk p.1=true)/\H' L=some 6e4/\Paired (df H') ts ((qK rs).set n (gJ b,r.m)++ex)/\au H H') (λN hN=>?_) ?_
  ·have skip:∀{H':Hp},au H5 H'->N [some (.ref lF),some (.int c),some (.ref L),some .cR,none,none,none] H':=fun {H'} s=>hN _ _ ⟨none,none,none, .inl ⟨ts,rfl,s _ _ j3,av (λa b (z:df H5 a b)=>(s _ _ z:df _ a b)) qy,e5.trans s⟩⟩;refine⟨_,U,_,_,U,U,(by show (0 :Int) <6;decide),U,_,U,gM (λhc=>?_) λhc=>?_⟩
   rotate_left
   ·exact dP (skip (au.refl _))
   refine⟨_,U,16e1,λZ hZ=>?_⟩;have sZ:=au.new (o:= .lst []) hZ;have hZ6:(upd H5 Z 9e6) Z=some 9e6:=af;have skip:=skip sZ;have e6:=e5.trans sZ;have Cv:=sZ _ _ j3;have II:=av (λa b (z:df H5 a b)=>(sZ _ _ z:df (upd H5 Z 9e6) a b)) qy;clear j3 qy WT;generalize upd H5 Z 9e6=H6 at sZ hZ6 skip e6 Cv II |-;refine⟨lF,Z,_,U,U,bH.of (e6 _ _ VB),bH.of hZ6,_,U,?_⟩;by_cases nj:us=[]
   ·subst nj;exact dP skip
   have OO:0<us.length:=List.length_pos_iff.mpr nj;rw[show (!(us.map V.ref).isEmpty)=true by cases us with|nil=>exact absurd rfl nj|cons a b=>rfl];refine gi ?_;refine⟨_,U,_,_,U,U,2e5,_,U,lF,_,U, .inl (bH.of (e6 _ _ VB)),_,_,U,U,13e1,?_⟩
   obtain⟨n,hn,Jo⟩:∃n:Nat,c/6%((us.map V.ref).length:Int)=(n:Int)/\n<us.length:=by
    rw[length_map];have h1:=emod_nonneg (c/6) (b:=(us.length:Int)) 0e2;have h2:=emod_lt_of_pos (c/6) (b:=(us.length:Int)) 0e2;exact⟨(c/6%(us.length:Int)).toNat,by omega,by omega⟩
   rw[hn];dsimp only [bX];refine⟨(by show 4<=sizeLine;decide),λa1 h1=>⟨0e9,λA1 hA1=>⟨0e9,λa2 h2=>⟨0e9,λA2 Ez=>⟨0e9,λa3 h3=>⟨0e9,λA3 hA3=>⟨6e5,λBL hBL=>?_⟩⟩⟩⟩⟩⟩⟩;have s1:=au.new (o:= .tup (nh 0)) h1;have s2:=au.new (o:= .tup [.str (gJ 0), .ref a1]) hA1;have s3:=au.new (o:= .tup (nh 1)) h2;have s4:=au.new (o:= .tup [.str (gJ 1), .ref a2]) Ez;have s5:=au.new (o:= .tup (nh 2)) h3;have s6:=au.new (o:= .tup [.str (gJ 2), .ref a3]) hA3;have s7:=au.new (o:= .lst [.ref A1, .ref A2, .ref A3]) hBL;have m7:=s7;have m6:=s6.trans m7;have m5:=s5.trans m6;have m4:=s4.trans m5;have m3:=s3.trans m4;have m2:=s2.trans m3;have m1:=s1.trans m2;have g1:=m2 _ _ (af (H:=H6) (a:=a1) (o:= .tup (nh 0)));have g2:=m3 _ _ (af (a:=A1) (o:= .tup [.str (gJ 0), .ref a1]));have g3:=m4 _ _ (af (a:=a2) (o:= .tup (nh 1)));have g4:=m5 _ _ (af (a:=A2) (o:= .tup [.str (gJ 1), .ref a2]));have g5:=m6 _ _ (af (a:=a3) (o:= .tup (nh 2)));have g6:=m7 _ _ (af (a:=A3) (o:= .tup [.str (gJ 2), .ref a3]));have g7:=jo (o:= .lst [.ref A1, .ref A2, .ref A3]) hBL;clear s1 s2 s3 s4 s5 s6 s7 m2 m3 m4 m5 m6 m7;generalize upd _ BL _=H7 at m1 g1 g2 g3 g4 g5 g6 g7 |-;clear h1 hA1 h2 Ez h3 hA3 hBL
   obtain⟨b,hb,Ab,ab,vX,hAb,Wu⟩:∃b:Nat,b<3/\∃Ab ab,yh [V.ref A1,V.ref A2,V.ref A3] (c/54%3)=some (.ref Ab)/\H7 Ab=some (.tup [.str (gJ b), .ref ab])/\H7 ab=some (.tup (nh b)):=by
    have h1:=emod_nonneg (c/54) (b:=3) 0e1;have h2:=emod_lt_of_pos (c/54) (b:=3) 0e1;obtain⟨k,hk⟩:=eq_ofNat_of_zero_le h1;rw[hk];have Rg:k<3:=by omega
    match k,Rg with
    |0,_=>exact⟨0,by decide,A1,a1,U,g2,g1⟩
    |1,_=>exact⟨1,by decide,A2,a2,U,g4,g3⟩
    |2,_=>exact⟨2,by decide,A3,a3,U,g6,g5⟩
   clear g1 g2 g3 g4 g5 g6;refine⟨_,U,_,_,U,U,2e5,_,_,U,U,(by show (0 :Int) <3;decide),BL,_,_, .ref Ab,U,U,bH.of g7,vX,?_⟩;dsimp only [bX];have e7:=e6.trans m1;have Qt:=m1 _ _ Cv;have Z6:=av (λa b (z:df H6 a b)=>(m1 _ _ z:df H7 a b)) II;have hnt:n<ts.length:=by omega
   obtain⟨pn,hpn,htn⟩:=br Z6 (getElem?_eq_getElem hnt);have hrn:rs[n]? =some rs[n]:=getElem?_eq_getElem 0e2
   have epn:pn=(rs[n].x,rs[n].m):=by
    unfold qK at hpn;rw[getElem?_map,hrn] at hpn;exact(Option.some.inj hpn).symm
   subst epn;have htn:H7 ts[n]=some (.tup [.str rs[n].x, .int rs[n].m]):=htn;refine⟨_,U,Ab,_,_, .str (gJ b),U,U,iB.of hAb,U,_,U,_,U,L,_,_, .ref ts[n],U,U,bH.of Qt,ku (by rw[getElem?_map,getElem?_eq_getElem hnt];rfl),ts[n],_,_, .int rs[n].m,U,U,iB.of htn,U,0e9,λT1 Zt=>?_⟩;have s8:=au.new (o:= .tup [.str (gJ b), .int rs[n].m]) Zt;have hT8:=jo (o:= .tup [.str (gJ b), .int rs[n].m]) Zt;have Z7:=s8 _ _ Qt;have VP:=s8 _ _ Wu;have VQ:=s8 _ _ hAb;have Z8:=av (λa b (z:df H7 a b)=>(s8 _ _ z:df _ a b)) Z6;have e8:=e7.trans s8;generalize upd H7 T1 _=H8 at hT8 Z7 VP VQ Z8 e8 |-
   have ij:Oj (ts.map V.ref).length (n:Int)=some n:=by
    rw[length_map];unfold Oj;simp;omega
   refine⟨_,U,_,U,L,_,_,n,U,U,Z7,ij,?_⟩;have k9:∀b' o,H8 b'=some o->b'≠L->(upd H8 L (.lst ((ts.map V.ref).set n (.ref T1)))) b'=some o:=λb' o z nb=>by rw[ah nb];exact z
   have hP9:Paired (df (upd H8 L (.lst ((ts.map V.ref).set n (.ref T1))))) (ts.set n T1) ((qK rs).set n (gJ b,rs[n].m)):=av (λa b' (z:df H8 a b')=>(k9 _ _ z (bC z Z7 0e7):df _ a b')) (vP Z8 hT8);have hL9:(upd H8 L (.lst ((ts.map V.ref).set n (.ref T1)))) L=some (.lst ((ts.set n T1).map V.ref)):=by rw[af,List.map_set]
   have Z9:=k9 _ _ VP (bC VP Z7 0e7);have Z':=k9 _ _ VQ (bC VQ Z7 0e7);have e9:au H (upd H8 L (.lst ((ts.map V.ref).set n (.ref T1)))):=λb' o z=>k9 _ _ (e8 _ _ z) (ag z hL);generalize upd H8 L _=H9 at hP9 hL9 Z9 Z' e9 |-;refine⟨_,U,Ab,_,_, .ref ab,U,U,iB.of Z',U,?_⟩;dsimp only [bX];refine⟨72,401,U,U,by decide,by decide,(by show 4<=sizeLine;decide),λO hO=>?_⟩;have hos:∀k:Nat,k<4->∃x,yh [V.str "C + -> C",V.str ⟨(List.replicate (401 :Int).toNat 72).toArray⟩,V.str "H + H + H + H -> H + H + H + H + H",V.str "e^- -> 2 e^-"] (k:Int)=some (.str x)/\PyData.strOk x=true:=λk hk=>
    match k,hk with
    |0,_=>⟨_,rfl,by decide+kernel⟩
    |1,_=>⟨_,rfl,by decide+kernel⟩
    |2,_=>⟨_,rfl,by decide+kernel⟩
    |3,_=>⟨_,rfl,by decide+kernel⟩
   generalize [V.str "C + -> C",V.str ⟨(List.replicate (401 :Int).toNat 72).toArray⟩,V.str "H + H + H + H -> H + H + H + H + H",V.str "e^- -> 2 e^-"]=os at hos |-;have sO:=au.new (o:= .lst os) hO;have hO9:=jo (o:= .lst os) hO;have hLO:=sO _ _ hL9;have VR:=sO _ _ Z9;have hPO:=av (λa b' (z:df H9 a b')=>(sO _ _ z:df _ a b')) hP9;have eO:=e9.trans sO;generalize upd H9 O _=CV at sO hO9 hLO VR hPO eO |-;dsimp only [bX];refine⟨_,U,_,_,U,U,2e5,_,_,U,U,(by show (0 :Int) <5;decide),_,_,U,U,_,U,?_⟩;have o1:=emod_nonneg (c/162) (b:=5) 0e1;have o2:=emod_lt_of_pos (c/162) (b:=5) 0e1;refine gM (λhgt=>?_) λhgt=>?_
   ·have hgt:0<c/162%5:=by simpa using hgt
    obtain⟨k,hk⟩:=eq_ofNat_of_zero_le (show 0<=c/162%5 - 1 by omega);have Zi:k<4:=by omega
    obtain⟨x,hx,hsx⟩:=hos k Zi;refine⟨_,U, .inl ⟨U,_,bH.of hLO⟩,_,U,_,U,_,_,U,U,2e5,_,_,U,U,(by show (0 :Int) <5;decide),_,_,U,U,O,_,_, .str x,U,U,bH.of hO9,(by rw[hk];exact hx),0e9,λT2 hT2=>?_⟩;have sT:=au.new (o:= .tup [.str x, .int 2]) hT2;have hTT:=jo (o:= .tup [.str x, .int 2]) hT2;have hLT:=sT _ _ hLO;have VS:=sT _ _ VR;have hPT:=av (λa b' (z:df CV a b')=>(sT _ _ z:df _ a b')) hPO;have eT:=eO.trans sT;generalize upd CV T2 _=WV at hTT hLT VS hPT eT |-;refine⟨L,_,_,U,U,hLT,by rw[length_map,length_set];omega,?_⟩;have kF:∀(b':Ps) (o:HO),WV b'=some o->b'≠L->(upd WV L (.lst ((ts.set n T1).map V.ref++[V.ref T2]))) b'=some o:=λb' o z nb=>by rw[ah nb];exact z
    have i9:df WV T2 (x,2):=hTT;exact hN _ _ ⟨_,_,_, .inr ⟨ab,b,n,rs[n],[(x,2)],ts.set n T1++[T2],rfl,kF _ _ VS (bC VS hLT 0e7),hb,hrn,le_refl _,(λp hp=>by rw[mem_singleton.mp hp];exact hsx),by rw[af,map_append];rfl,av (λa b' (z:df WV a b')=>(kF _ _ z (bC z hLT 0e7):df _ a b')) (bI i9 hPT),λb' o z=>kF _ _ (eT _ _ z) (ag z hL)⟩⟩
   ·exact hN _ _ ⟨_,_,_, .inr ⟨ab,b,n,rs[n],[],ts.set n T1,rfl,VR,hb,hrn,zero_le _,12e6,hLO,by rw[append_nil];exact hPO,eO⟩⟩
  rintro σ H' ⟨v4,v5,v6,⟨lJ,rfl,uQ,NK,e'⟩ | ⟨du,b,n,r,ex,lJ,rfl,hdu,hb,hn,hex,fJ,uQ,NK,e'⟩⟩
  ·refine⟨_,U,_,U,0e9,λtt rL=>?_⟩;have s6:=au.new (o:= .tup [.ref L, .cR]) rL;exact qA tt L lJ _ hL af (s6 _ _ uQ) (av (λa b (z:df H' a b)=>(s6 _ _ z:df _ a b)) NK) (e'.trans s6)
  ·refine⟨_,U,_,U,0e9,λtt rL=>?_⟩;have s6:=au.new (o:= .tup [.ref L, .ref du]) rL;exact qB tt L du b n r ex lJ _ hL af (s6 _ _ hdu) hb hn hex fJ (s6 _ _ uQ) (av (λa b (z:df H' a b)=>(s6 _ _ z:df _ a b)) NK) (e'.trans s6)
theorem EA{ws:NE}:∀{rs:10e9} {am:Py},bh am->(am.map 2e1).Nodup->(∀s,Told ws s->(Sum.inr s:Key)∈am.map 2e1)->(∀r∈rs,qJ ws r)->sP am rs=dq am rs
 | [],_,_,_,_,_=>rfl
 |r::l,am,hI,hn,lG,ok=>by
  have hr:=ok r 1e8;have hk:=vO lG hr.g;obtain⟨n,hm⟩:=eq_ofNat_of_zero_le hr.m0
  have e:b5 am r.xs r.ys r.m.toNat=dE am r.xs r.ys r.m:=by
   rw[hm];exact xZ hI hn hk n
  have k1:(dE am r.xs r.ys r.m).map 2e1=am.map 2e1:=i6 _ _ _ _ (MX hk);have:=EA (rs:=l) (am:=dE am r.xs r.ys r.m) (dN _ _ _ _ hI) (by rw[k1];exact hn) (λs hs=>by rw[k1];exact lG s hs) λr' jE=>ok r' (mem_cons_of_mem _ jE);show sP (b5 am r.xs r.ys r.m.toNat) l=dq (dE am r.xs r.ys r.m) l;rw[e,this]
def IC.wk{ws:NE}{am:Py}(h:IC ws am){rs:10e9}(ok:∀r∈rs,qJ ws r)(i:Nat):sP am 6e2=dq am 6e2:=EA h.int h.nd h.all λr hr=>ok r (mem_of_mem_take hr)
def IC.at{ws:NE}{am:Py}(h:IC ws am){rs:10e9}(ok:∀r∈rs,qJ ws r)(i:Nat):bh (dq am 6e2)/\((dq am 6e2).map 2e1).Nodup/\∀{r},qJ ws r->InK (dq am 6e2) r.xs r.ys:=by
 have hk:=mz h.all λr hr=>ok r (mem_of_mem_take (i:=i) hr);exact⟨zO rs i h.int,by rw[hk];exact h.nd,fun {r} hr=>vO (λs hs=>by rw[hk];exact h.all s hs) hr.g⟩
def Cm{am:Py}{r:bG}(hI:bh am)(hn:(am.map 2e1).Nodup)(hk:InK am r.xs r.ys)(m0:0<=r.m)(h:NT am r r.m.toNat):bE am r.xs r.ys r.m=none:=by
 obtain⟨n,hm⟩:=eq_ofNat_of_zero_le m0
 cases e:bE am r.xs r.ys r.m with
 |none=>rfl
 |some p=>
  obtain⟨t,k,l⟩:=p;rw[hm] at e;obtain⟨t',_,ht,_,hl⟩:=n5 hI hn hk e;have:=h t' 0e2
  lia
def VT{am:Py}{r:bG}(m0:0<=r.m)(h:bE am r.xs r.ys r.m=none):NT am r r.m.toNat:=λt ht=>by
 obtain⟨n,hm⟩:=eq_ofNat_of_zero_le m0;rw[hm] at h;exact vJ h t 0e2
def Nk{am:Py}{r:bG}(hI:bh am)(hn:(am.map 2e1).Nodup)(hk:InK am r.xs r.ys)(m0:0<=r.m){t:Nat}{k:Key}{l:Int}(ht:t<r.m.toNat)(h:NT am r t)(hl:eZ (b5 am r.xs r.ys t) 7e5 7e5=some (k,l)):bE am r.xs r.ys r.m=some ((t:Int),k,l):=by
 obtain⟨n,hm⟩:=eq_ofNat_of_zero_le m0
 cases e:bE am r.xs r.ys r.m with
 |none=>
  have:=VT m0 e t ht
  lia
 |some p=>
  obtain⟨t',k',l'⟩:=p;rw[hm] at e;obtain⟨t2,e2,Wy,Oc,vR⟩:=n5 hI hn hk e
  have:t2=t:=by
   rcases Nat.lt_trichotomy t2 t with z|z|z
   ·have:=h t2 z
    lia
   ·exact z
   simp_all
  lia
def IC.rows{ws:NE}{am:Py}(h:IC ws am){rs:10e9}(ok:∀r∈rs,qJ ws r)(hs:∀i r,rs[i]? =some r->bE (dq am 6e2) r.xs r.ys r.m=none):IC ws (dq am rs):=by
 have hk:=mz h.all ok;refine⟨Qw rs h.int,by rw[hk];exact h.nd,λq hq=>?_,λs hs=>by rw[hk];exact h.all s hs,RX rs am h.nn ok hs,by rw[Qy h ok];exact h.len⟩;have:=mem_map_of_mem (f:=2e1) hq;rw[hk] at this;obtain⟨q',jr,e⟩:=mem_map.mp this;obtain⟨s,es,hs⟩:=h.told q' jr;exact⟨s,by rw[<-e];exact es,hs⟩
def IJ{am:Py}{ws:NE}{r:bG}(hr:qJ ws r){t:Nat}{k:Key}{l:Int}(hl:eZ (b5 am r.xs r.ys t) 7e5 7e5=some (k,l)):∃x,k=Sum.inr x/\Told ws x:=by
 obtain⟨q,hq,e,_⟩:=qI hl;obtain⟨s,es,ht⟩:=vL hr.g.2.2.1 q hq;exact⟨s,by rw[<-e];exact es,ht⟩
noncomputable def fmH:Fm:=([(1,[.one [72] 1])],0)
def vZ(n:Int):Tm:=(n,fmH)
def R3:kK [72]:=⟨72,[],rfl,rfl,rfl,by decide⟩
def Aa:cQ fmH:=⟨⟨rfl,λy hy=>by rw[mem_singleton.mp hy];exact⟨by simp,λt ht=>by rw[mem_singleton.mp ht];exact⟨R3,by decide,by decide⟩,by decide,by decide⟩,by decide,by decide⟩,by decide+kernel,by decide+kernel⟩
def VU:cQ ([], -1):=⟨rfl,by decide+kernel,by decide+kernel⟩
def bad0(m:Int):rn (gJ 0) [vZ 1] [vZ 2]:=by
 have h:∀n:Int,1<=n->n<=2->eC (vZ n):=λn h1 h2=>⟨h1,by show n<=999999999999;omega,Aa⟩;refine⟨by decide+kernel,by simp,by simp,λt ht=>?_,λt ht=>?_,by decide+kernel,by decide,by decide+kernel,λt ht=>?_,λt ht=>?_⟩<;>rw[mem_singleton.mp ht]
 ·simp_all
 ·simp_all
 ·exact Aa
 ·exact Aa
def bad1:rh (gJ 1) 5:=by
 refine⟨by decide+kernel,by decide+kernel,?_⟩;have e:(gJ 1).cps.toList=zE [vZ 1]++(LZ++[]):=by decide+kernel
 have e2:sf (gJ 1) 5=[]:=by decide+kernel
 have hp:K0 (LZ++[]):= .inr 3e5;have h:∀t∈[vZ 1],eC t:=λt ht=>by rw[mem_singleton.mp ht];exact⟨by decide,by decide,Aa⟩
 rw[e,e2];refine .inr ⟨[vZ 1],[],pq.mkN 2e3 h hp, .inl (.inr ⟨1,[],⟨rfl,by decide,by decide,by decide+kernel, .inl λc hc=>by cases hc⟩, .inl ⟨rfl, .inr ⟨by simp, .inl (.inl (.inl ⟨by simp, .inl ⟨rfl,λc hc=>by cases hc⟩⟩))⟩⟩⟩)⟩
def bad2:rh (gJ 2) 8:=by
 refine⟨by decide+kernel,by decide+kernel,?_⟩;have e:(gJ 2).cps.toList=zE [(1,([], -1))]++(LZ++[72,35]):=by decide+kernel
 have e2:sf (gJ 2) 8=[35]:=by decide+kernel
 have hp:K0 (LZ++[72,35]):= .inr 3e5;have h:∀t∈[((1 :Int),(([], -1):Fm))],eC t:=λt ht=>by rw[mem_singleton.mp ht];exact⟨by decide,by decide,VU⟩
 have n35:∀f:Nat->Bool,f 35=false->Not f [35]:=λf hf c hc=>by
  have:35=c:=by simpa using hc
  rw[<-this];exact hf
 have nm:¬More [35]:=fun⟨c,hc,z⟩=>by
  have:35=c:=by simpa using hc
  subst this;rcases z with z|z<;>cases z
 have hA:mh [72,35] [72] 1 [35]:=⟨[35],rfl,R3, .inr (n35 _ rfl),⟨by rw[jK];rfl,by decide,by decide,by decide+kernel, .inl (n35 _ rfl)⟩⟩;have hS:FD (lA 4) [72,35] [.one [72] 1] [35]:=⟨.one _ _ (.inl ⟨by simp,[72],1,rfl,hA⟩),nm⟩
 have n72:Not qV [72,35]:=λc hc=>by
  have:72=c:=by simpa using hc
  rw[<-this];rfl
 have hN:j2 12 [72,35] 1 [72,35]:=⟨by rw[jK];rfl,by decide,by decide,by rw[jK];decide, .inl n72⟩;have hT:HX [72,35] (vZ 1) [35]:=⟨[72,35],hN, .inl ⟨rfl, .inr ⟨by simp,[35], .one _ _ hS,by simp, .inl ⟨by simp,rfl,rfl⟩⟩⟩⟩;rw[e,e2];exact .inr ⟨[(1,([], -1))],[72,35],pq.mkN 2e3 h hp, .inr ⟨[vZ 1],[35], .one _ _ hT,by simp, .inl ⟨0,32,rfl,rfl,by simp⟩⟩⟩
def IK{ms:IR}{p:Str×Int×Int}{rr:List (Str×Int×Int)}(hK:kX ([vZ 1]++[vZ 2]) ms)(h:j7 (ms++[8e6]) [vZ 1] [vZ 2]=p::rr):p=((("H" :Str),(1 :Int),(2 :Int))):=by
 have e:UW ([vZ 1]++[vZ 2])=[("H" :Str)]:=by decide+kernel
 have hp:=hK.1;rw[e] at hp;have em:ms=[("H" :Str)]:=List.perm_singleton.mp hp;rw[em,show j7 ([("H" :Str)]++[8e6]) [vZ 1] [vZ 2]=[((("H" :Str),(1 :Int),(2 :Int)))] by decide+kernel] at h
 lia
def sQ{x:Str}{m:Int}:¬wI ⟨[vZ 1],[vZ 2],x,m⟩:=λh=>by
 have:=h (Sum.inr ("H" :Str));revert this;show¬sumZ [vZ 1] (Sum.inr ("H" :Str))=sumZ [vZ 2] (Sum.inr ("H" :Str));decide+kernel
variable {St:Ps}
def Nl{ws:NE}(aP:∀w∈ws,cQ w){s:Str}(h:Told ws s):PyData.strOk s=true:=by
 rcases h with rfl| ⟨w,hw,rfl⟩ | ⟨w,hw,h⟩
 ·decide+kernel
 ·exact vN (RT (aP w hw))
 ·obtain⟨q,hq,e⟩:=mem_map.mp h;obtain⟨k,hk,e'⟩:=qz (aP w hw) q hq;rw[e] at e';injection e' with e';rw[e'];exact vN (GF hk)
def Ready(St st g am:Ps)(kvs:Py)(R:10e9)(vs:KB)(tl:Ps)(H:Hp):Prop:=∀(Q:VK) (E:XK),(∀tt d' NU H6,H6 tt=some (.tup vs)->jk St H6 st d' g->H6 d'=some 2e9->d'≠am->H6 g=some (.lst (NU.map V.ref))->Paired (bx H6) NU R->(∀b o,H b=some o->b≠st->b≠g->H6 b=some o)->Q (.ref tt) H6)->Ex St [.ref st, .ref tl] H Q E
def sR{ds:WP}(h:∀p∈ds,PyData.strOk p.1=true):Z0 ds:=by
 have hc:(rM ds).canLay0=true:=by
  unfold rM;rw[PyData.canLay0];exact kz _ ds λr hr=>by simp [PyData.canLay0,PyData.canLayAll0,h r hr]
 refine⟨p7 hc ?_,oG _ hc⟩
 have:∀l:List (Str×Int),PyData.depthAll (l.map λr=>PyData.tuple [.str r.1, .int r.2])<=5:=λl=>by
  induction l with
  |nil=>simp [PyData.depthAll]
  |cons r l ih=>simp [PyData.depthAll,PyData.depth];omega
 have:=this ds;simp only [rM,PyData.depth];omega
structure x3(St:9e7)(ws:List Fm)(st d g tl am:9e7)(kvs:14e3)(gs:List Addr)(R:10e9)(us:List Addr)(H:Hp):Prop where
 sto:jk St H st d g
 hd:H d=some 2e9
 hg:H g=some (.lst (gs.map V.ref))
 hP:Paired (bx H) gs R
 len:gs.length<=32
 RP:g≠tl
 NV:IC ws kvs
 nF:H tl=some (.lst (us.map V.ref))
 pA:∃o,H am=some o
 HD:d≠am
def x3.res{ws:NE}{st d g tl am:Ps}{kvs:Py}{gs:UV}{R:10e9}{us:UV}{H:Hp}(h:x3 St ws st d g tl am kvs gs R us H){vs:KB}{Q:VK}(post:∀tt d' NU H6,H6 tt=some (.tup vs)->jk St H6 st d' g->H6 d'=some 2e9->d'≠am->H6 g=some (.lst (NU.map V.ref))->Paired (bx H6) NU R->(∀b o,H b=some o->b≠st->b≠g->H6 b=some o)->Q (.ref tt) H6):Res H Q vs:=λtt H' rL e=>by
 obtain⟨dx,fJ⟩:=h.sto;exact post tt d gs H' rL ⟨dx,e _ _ fJ⟩ (e _ _ h.hd) h.HD (e _ _ h.hg) (av (λa b (z:bx H a b)=>(e _ _ z:bx H' a b)) h.hP) λb o z _ _=>e _ _ z
theorem qJ.WQ{ws:NE}{r:bG}(h:qJ ws r):rn r.x r.xs r.ys:=h.ev.WQ
def qJ.VW{ws:NE}{r:bG}(h:qJ ws r):wI r:=h.ev.2.2.2.2.2.2.2.2.2.2
def Ac{ws:NE}{rs:10e9}(h:∀r∈rs,qJ ws r):∀p∈qK rs,PyData.strOk p.1=true:=λp hp=>by
 obtain⟨r,hr,rfl⟩:=mem_map.mp hp;exact M0 (h r hr).ev
def EC{ws:NE}{st d g tl am:Ps}{kvs:Py}{gs:UV}{R:10e9}{us:UV}{H:Hp}(h:x3 St ws st d g tl am kvs gs R us H){rs:10e9}(hP:Paired (df H) us (qK rs))(ok:∀r∈rs,qJ ws r)(h8:rs.length<=8)(Ei:∀i r,rs[i]? =some r->bE (dq kvs 6e2) r.xs r.ys r.m=none):Ready St st g am (dq kvs rs) (R++rs) [.int 0] tl H:=λQ E post=>by
 have f6:=Paired.length hP;have el:(qK rs).length=rs.length:=by unfold qK;rw[length_map]
 obtain⟨dx,fJ⟩:=h.sto;obtain⟨oa,ha⟩:=h.pA;refine⟨st,d,g,tl,kvs,gs.map V.ref,us,qK rs,rs,U,⟨dx,fJ⟩,h.hd,h.hg,h.RP,h.NV.int,by have:=h.NV.len;omega,h.nF,hP,sR (Ac ok),by omega,by rw[<-el,take_length];rfl,by omega,by rw[length_map];have:=h.len;omega,λr hr=>(ok r hr).WQ, .inl 0e2,λ_ _ i r t k l hi hs=>M4 h.NV ok 0e2 hi hs,λ_ _ _ tt d' H6 h0 hS dH su rL k=>?_,λ_ _ i r t x l hi _ hs=>?_,λi r ms p rr hi _ hv=>?_⟩
 ·have kt:∀{x:Ps} {vs:KB},H x=some (.tup vs)->H6 x=some (.tup vs):=fun {x vs} z=>k _ _ z (bC z fJ 0e7) (bC z h.hg 0e7);refine post tt d' (gs++us) H6 rL hS dH (h0.elim (λz=>by rw[z];exact h.HD) λz=>λy=>by rw[y,ha] at z;cases z) (by rw[map_append];exact su) ?_ k;have p1:=av (λa b (z:bx H a b)=>(kt z:bx H6 a b)) h.hP
  have p2:Paired (bx H6) us rs:=by
   have:=pH (rs:=rs) hP (by rw[<-el,take_length];rfl);rw[show us.take rs.length=us by rw[List.take_of_length_le 0e2]] at this;exact av (λa b (z:bx H a b)=>(kt z:bx H6 a b)) this
  exact ji p1 p2
 ·rw[Ei i r hi] at hs;cases hs
 ·exact absurd (ok r 8e0).VW hv
def Cn{ws:NE}{st d g tl am:Ps}{kvs:Py}{gs:UV}{R:10e9}{us:UV}{H:Hp}(h:x3 St ws st d g tl am kvs gs R us H){rs:10e9}(hP:Paired (df H) us (qK rs))(ok:∀r∈rs,qJ ws r)(h8:rs.length<=8){i:Nat}{r:bG}{t:Int}{x:Str}{l:Int}(hi:rs[i]? =some r)(hb:∀j r',j<i->rs[j]? =some r'->bE (dq kvs (rs.take j)) r'.xs r'.ys r'.m=none)(hs:bE (dq kvs 6e2) r.xs r.ys r.m=some (t,Sum.inr x,l)):Ready St st g am kvs R [.int 1, .int (i:Int), .int (t+1), .str x, .int l] tl H:=λQ E post=>by
 have f6:=Paired.length hP;have el:(qK rs).length=rs.length:=by unfold qK;rw[length_map]
 refine⟨st,d,g,tl,kvs,gs.map V.ref,us,qK rs,rs,U,h.sto,h.hd,h.hg,h.RP,h.NV.int,by have:=h.NV.len;omega,h.nF,hP,sR (Ac ok),by omega,by rw[<-el,take_length];rfl,by omega,by rw[length_map];have:=h.len;omega,λr hr=>(ok r hr).WQ, .inl 0e2,λ_ _ i r t k l hi hs=>M4 h.NV ok 0e2 hi hs,λ_ _ hn=>?_,λ_ _ i' r' t' x' l' Q5 AI pJ=>?_,λi r ms p rr hi _ hv=>?_⟩
 ·rw[hn i r hi] at hs;cases hs
 ·have e:i'=i:=by
   rcases Nat.lt_trichotomy i' i with z|z|z
   ·rw[hb i' r' z Q5] at pJ;cases pJ
   ·exact z
   ·rw[AI i r z hi] at hs;cases hs
  subst e;have er:=Option.some.inj (hi.symm.trans Q5);subst er;rw[hs] at pJ;injection pJ with pJ;injection pJ with a b;injection b with b c;injection b with b;subst a b c;exact h.res post
 ·exact absurd (ok r 8e0).VW hv
def IL{ws:NE}{st d g tl am:Ps}{kvs:Py}{gs:UV}{R:10e9}{us:UV}{H:Hp}(h:x3 St ws st d g tl am kvs gs R us H){rs:10e9}{b n:Nat}{r:bG}{ex:WP}(hP:Paired (df H) us ((qK rs).set n (gJ b,r.m)++ex))(ok:∀r∈rs,qJ ws r)(h8:rs.length<=8)(hb:b<3)(hn:rs[n]? =some r)(hx:ex.length<=1)(hs:∀p∈ex,PyData.strOk p.1=true):Ready St st g am kvs R (nh b) tl H:=λQ E post=>by
 have f6:=Paired.length hP;have el:(qK rs).length=rs.length:=by unfold qK;rw[length_map]
 have Jo:=(List.getElem?_eq_some_iff.mp hn).1;rw[length_append,length_set,el] at f6;have NL:∀r∈rs.take n,qJ ws r:=λr hr=>ok r (mem_of_mem_take hr);have ltk:(rs.take n).length=n:=by grind
 have QF:∀p∈(qK rs).set n (gJ b,r.m)++ex,PyData.strOk p.1=true:=λp hp=>by
  rcases mem_append.mp hp with z|z
  ·rcases List.mem_or_eq_of_mem_set z with y|y
   ·exact Ac ok p y
   ·rw[y];show PyData.strOk (gJ b)=true
    match b,hb with
    |0,_=>decide+kernel
    |1,_=>decide+kernel
    |2,_=>decide+kernel
  ·exact hs p z
 have wc:((qK rs).set n (gJ b,r.m)++ex).take n=qK (rs.take n):=by
  rw[List.take_append_of_le_length (by rw[length_set,el];omega),List.take_set_of_le 3e1];unfold qK;rw[List.map_take]
 have vX:((qK rs).set n (gJ b,r.m)++ex)[n]? =some (gJ b,r.m):=by
  rw[List.getElem?_append_left (by rw[length_set,el];omega),getElem?_set_self 0e2]
 have evs:∀r∈rs.take n,wI r:=λr hr=>(NL r hr).VW;by_cases b0:b=0
 ·subst b0
  let rb:bG:=⟨[vZ 1],[vZ 2],gJ 0,r.m⟩
  have lb:(rs.take n++[rb]).length=n+1:=by rw[length_append,ltk];rfl
  refine⟨st,d,g,tl,kvs,gs.map V.ref,us,_,rs.take n++[rb],U,h.sto,h.hd,h.hg,h.RP,h.NV.int,by have:=h.NV.len;omega,h.nF,hP,sR QF,by rw[lb];omega,?_,by omega,by rw[length_map];have:=h.len;omega,λr' jE=>?_, .inr (.inl ⟨rb,mem_append_right _ (List.mem_singleton_self _),sQ⟩),λ_ hv=>absurd (hv rb (mem_append_right _ (List.mem_singleton_self _))) sQ,λ_ hv=>absurd (hv rb (mem_append_right _ (List.mem_singleton_self _))) sQ,λ_ hv=>absurd (hv rb (mem_append_right _ (List.mem_singleton_self _))) sQ,λi r' ms p rr hi hj hv hK hl=>?_⟩
  ·rw[lb,take_add_one,wc,vX,map_append];rfl
  ·rcases mem_append.mp jE with z|z
   ·exact(NL r' z).WQ
   ·rw[mem_singleton.mp z];exact bad0 0
  ·have er:r'=rb:=by
    rcases mem_append.mp (mem_of_getElem? hi) with z|z
    ·exact absurd (evs r' z) hv
    ·exact mem_singleton.mp z
   subst er;rw[IK hK hl];exact h.res post
 ·have vF:∃pl:Nat,rh (gJ b) pl/\nh b=[.int 3, .int (pl:Int)]:=by
   match b,hb,b0 with
   |1,_,_=>exact⟨5,bad1,U⟩
   |2,_,_=>exact⟨8,bad2,U⟩
  obtain⟨pl,hbd,ev⟩:=vF;rw[ev] at post;refine⟨st,d,g,tl,kvs,gs.map V.ref,us,_,rs.take n,U,h.sto,h.hd,h.hg,h.RP,h.NV.int,by have:=h.NV.len;omega,h.nF,hP,sR QF,by omega,by rw[ltk,wc];rfl,by omega,by rw[length_map];have:=h.len;omega,λr' jE=>(NL r' jE).WQ, .inr (.inr ⟨gJ b,r.m,pl,by rw[ltk];exact vX,hbd,λ_=>h.res post⟩),λz=>?_,λz=>?_,λz=>?_,λi r' ms p rr hi _ hv=>absurd (evs r' 8e0) hv⟩
  all_goals (rw[ltk] at z;omega)
variable {uC uP uI uD uL uT fT fU fV uG uS:Tok}{Ch HE Sh St Ub NC:Ps}
inductive VX(K:1e5)(vs:5e2)(H:Hp)(Q:VK)(E:XK):Prop
 |mk (a:9e7) (ns:List Int) (bJ:vs=[.ref a]) (bT:bH K H a (ns.map V.int)) (cw:ns.length<=63) (dh:∀H',Q (.bl true) H')
def GL(K:Uf):Sp:=VX K
def fh:ax ["_law_script","_law_world_here","_law_amounts_here","_law_k","_law_text_here","_law_cell","_law_store","_law_went","_law_held","_law_row_here","_law_texts_here","_law_due","_law_found","_law_told_here","_law_copied","_law_look","_law_other"] ["_law_script"] (ak yL):=dO
def IM{H H':Hp}{st dx St:Ps}(s:au H H')(h1:H' st=none)(h2:H' dx=none):au H (upd (upd H' dx (.own st)) st (.ins St dx [])):=λb o z=>by
 rw[ah (ag (s _ _ z) h1),ah (ag (s _ _ z) h2)];exact s _ _ z
def HeldAt(g hl:Ps)(H:Hp)(t:Ps)(p:List bG×List 19e8):Prop:=∃a b c e us vs,H t=some (.tup [.ref a, .ref b, .ref c, .ref e])/\a≠g/\a≠hl/\b≠g/\b≠hl/\H a=some (.lst (us.map V.ref))/\Paired (bx H) us p.1/\H b=some (.lst (vs.map V.ref))/\Paired (bx H) vs p.1/\H c=some (.dK p.2)/\H e=some (.dK p.2)/\(∀r∈p.1,PyData.strOk r.x=true)/\bh p.2/\(p.2.map 2e1).Nodup/\p.2.length<=30
def HeldAt.keep{g hl:Ps}{H H':Hp}{t:Ps}{p:List bG×List 19e8}{gs hs:KB}(h:HeldAt g hl H t p)(hg:H g=some (.lst gs))(hh:H hl=some (.lst hs)){st:Ps}{o0:Ps}{f0:List (Str×V)}{X:Ps}(fJ:H st=some (.ins X o0 f0))(k:∀b o,H b=some o->b≠st->b≠g->b≠hl->H' b=some o):HeldAt g hl H' t p:=by
 obtain⟨a,b,c,e,us,vs,h1,na,na',nb,nb',ha,hP,hb,hQ,hc,he,hr⟩:=h;have kt:∀{x:Ps} {vs:KB},H x=some (.tup vs)->H' x=some (.tup vs):=fun {x vs} z=>k _ _ z (bC z fJ 0e7) (bC z hg 0e7) (bC z hh 0e7);have kd:∀{x:Ps} {vs:Py},H x=some (.dK vs)->H' x=some (.dK vs):=fun {x vs} z=>k _ _ z (bC z fJ 0e7) (bC z hg 0e7) (bC z hh 0e7);exact⟨a,b,c,e,us,vs,kt h1,na,na',nb,nb',k _ _ ha (bC ha fJ 0e7) na na',av (λ_ _ z=>kt z) hP,k _ _ hb (bC hb fJ 0e7) nb nb',av (λ_ _ z=>kt z) hQ,kd hc,kd he,hr⟩
def Mid(St:Ps)(ws:NE)(st g hl:Ps)(i:Nat)(am:Ps)(kvs:Py)(d wt:Ps)(H:Hp):Prop:=jk St H st d g/\H d=some 2e9/\H am=some 2e9/\d≠am/\IC ws kvs/\∃(gs us:UV) (R:10e9),H g=some (.lst (gs.map V.ref))/\Paired (bx H) gs R/\H wt=some (.lst (us.map V.ref))/\Paired (bx H) us R/\(∀r∈R,PyData.strOk r.x=true)/\R.length<=8*i/\wt≠g/\hl≠g/\hl≠wt/\∃(hs:UV) (ps:List (List bG×List 19e8)),H hl=some (.lst (hs.map V.ref))/\Paired (HeldAt g hl H) hs ps/\ps.length<=i
def IS(v:V):Prop:=(∃i,v= .int i)\/∃s,v= .str s/\PyData.strOk s=true
noncomputable def dV:V->PyData
 | .int i=> .int i
 | .str s=> .str s
 |_=> .int 0
def R4{H:Hp}{t:Ps}{vs:KB}(h:H t=some (.tup vs))(hs:∀v∈vs,IS v):G9 K H (.ref t) (.tuple (vs.map dV)):=by
 refine .tup (iB.of h) ?_;clear h
 induction vs with
 |nil=>exact .nil
 |cons v r ih=>
  refine .cons ?_ (ih λx hx=>hs x (mem_cons_of_mem _ hx));rcases hs v (mem_cons_self ..) with ⟨i,rfl⟩ | ⟨s,rfl,_⟩
  ·exact .int _
  ·exact .str _
def tv_ok{vs:KB}(hs:∀v∈vs,IS v):SeqAt.shaped (.tuple (vs.map dV))=true/\PyData.eqv (.tuple (vs.map dV)) (.tuple (vs.map dV))=true:=by
 have hc:(PyData.tuple (vs.map dV)).canLay0=true:=by
  rw[PyData.canLay0]
  exact kz _ vs λv hv=>by
   rcases hs v hv with ⟨i,rfl⟩ | ⟨s,rfl,z⟩
   ·simp [dV,PyData.canLay0]
   ·simp [dV,PyData.canLay0,z]
 refine⟨p7 hc ?_,oG _ hc⟩
 have:∀l:List V,PyData.depthAll (l.map dV)<=5:=λl=>by
  induction l with
  |nil=>simp [PyData.depthAll]
  |cons r l ih=>
   have:(dV r).depth<=5:=by cases r<;>simp [dV,PyData.depth]
   simp [PyData.depthAll];omega
 have:=this vs;simp only [PyData.depth];omega
def join3{S1 S2 S3 r:TS}{D:Ends}{σ:L2.St}{H:Hp}(Pm:L2.St->Hp->Prop)(h:∀N:L2.St->Hp->Prop,(∀σ' H',Pm σ' H'->N σ' H')->yb S1 (yb S2 S3) { D with nx:=N } σ H)(hr:∀σ' H',Pm σ' H'->r D σ' H'):yb S1 (yb S2 (yb S3 r)) D σ H:=h _ hr
def VY{f:Ps}{fd:17e4}(F:EW K "law" "law" yL f fd)(T:VI K mg C R G Pc Fo St HE Sh Ub NC uK uN uB uE uM uC uP uI uD uL uT)
  (c1:bA P w K mg base 3 "_law_world" ["_law_script"] (Gk K)) (c2:bA P w K mg base 1 "_law_texts" ["_law_world_here"] Gn) (c3:bA P w K mg base 1 "_law_cell_at" 13e8 (oX K)) (c4:bA P w K mg base 2 "_law_row" 12e5 (RY K)) (c5:Kn P w K mg base oC 24 St ["self","amounts"] (F7 St)) (c6:bA P w K mg base 2 "_law_handed" 19e0 Ck) (c7:bA P w K mg base 2 "_law_walked" 14e7 Cd) (c8:bA P w K mg base 28 "_law_told" 17e6 (Ex St)) (c9:bA P w K mg base 23 "_law_same" 11e6 (GK St)) (c10:bU P w K mg base 1 St "stocks" 1e0 (vy St)) (c11:bU P w K mg base 1 St "went" 1e0 (zQ St)):
  fB P w K mg base oC 29 f fd ["_law_script"] (GL K):=by
 obtain⟨_,_,IP⟩:=c1;obtain⟨_,_,IQ⟩:=c2;obtain⟨_,_,cZ⟩:=c3;obtain⟨_,_,QG⟩:=c4;obtain⟨_,_,cn⟩:=c5;obtain⟨_,_,ED⟩:=c6;obtain⟨_,_,EE⟩:=c7;obtain⟨_,_,Nm⟩:=c8;obtain⟨_,_,Co⟩:=c9;obtain⟨_,_,cf⟩:=c10;obtain⟨_,_,cL⟩:=c11;have IT:=cn.b0;have IU:Vals [] []:= .nil;refine F.ok fh 0e4 (λa9 A outer s H vs Q E hr h=>?_)
 ·obtain⟨a,ns,rfl,_⟩:=h;rfl
 ·obtain⟨a,ns,rfl,hS,hlen,q⟩:=h;have hu:=dQ hr;have WN:=hr.pX;have Ey:=hr.units;have big:=bgL
  refine⟨_,(ai (aA (i:=1) fh.nd rfl 0e3 (gN IP hr 15e5)) (ai (aA (i:=2) fh.nd rfl 0e3 d7) (ai (b8 PassesOwn.never rfl (E7 rfl T.mw (aa (gN IQ hr 11e2) aj)) (il rfl (aX (aE (i:=3) fh.nd rfl 0e3) (aX (aE (i:=4) fh.nd rfl 0e3) dR))) (ai (aA (i:=5) fh.nd rfl 0e3 (gN cZ hr (aa 1e3 (aa (aB cq aq 19e2) aj)))) (ao (dI hu 5e5 (pv 4) (aB cx (aB cT (pv 5) aq) (bF bV (cC (aa aq (aa (aB Jw aq aq) aj))) (bD pU rfl T.AY tP (aa (ow fA (aB cx (gN cZ hr (aa 1e3 16e6)) aq) aq 18e3) aj)) 1e6)) rfl)))) (ai (aA (i:=6) fh.nd rfl 0e3 (hV cn.m cn.ok 1e1 rfl T.P4 IT IU ck (aa (bD kx rfl T.jP iK (aa 5e5 aj)) aj))) (ai (aA (i:=7) fh.nd rfl 0e3 (cC aj)) (ai (aA (i:=8) fh.nd rfl 0e3 (cC aj)) (ai (b8 PassesOwn.never rfl (fY rfl T.jC (aa (aB cx (gN cZ hr (aa 1e3 16e6)) aq) aj)) (aE (i:=3) fh.nd rfl 0e3) (ai (aA (i:=9) fh.nd rfl 0e3 (gN QG hr (aa 1e3 (aa (aB cq aq (aB iq aq 19e2)) 11e2)))) (ai (CB (gN ED hr (aa (pv 9) (aa (gN cZ hr (aa 1e3 (aa (aB cq aq 19e2) aj))) aj))) (il rfl (aX (aE (i:=10) fh.nd rfl 0e3) (aX (aE (i:=11) fh.nd rfl 0e3) dR)))) (ai (aA (i:=12) fh.nd rfl 0e3 (gN EE hr (aa 5e5 (aa (pv 9) aj)))) (ai (bK (PW.pt (sX (nG (x9 (pv 11))) (oj (gT (bL jv rfl T.dz cX (aa (pv 12) (aa (oh (v:= .ty "dict") rfl T.jP iK rfl) aj))))))) (ai (aA (i:=11) fh.nd rfl 0e3 (bq 16e6)) (ai (aA (i:=2) fh.nd rfl 0e3 (pv 12)) (ao (aA (i:=7) fh.nd rfl 0e3 (aB nJ (pv 7) (pv 10)))))) (ao (bK (nG (x9 (pv 11))) (ao (aA (i:=11) fh.nd rfl 0e3 (pv 12)))
          aN))) (ai (bK (PW.pt (om (aJ (C0 Ey) (gN Nm hr (aa (pv 6) (aa (pv 10) aj))) (pv 11) 18e3) (lL (nH (gT (gN Co hr (aa (pv 6) (aa 5e5 (aa (pv 7) aj))))))))) (ao (aD qO))
        aN) (ai (a8 (gP PySem.F.plainAttrs_list PySem.F.slot_list_append PySem.F.type_list_append cH (bu (pv 6) T.cn cL.m cL.ok 1e1 cL.b .nil ck) (aa (bq (aa aU 16e6)) aj))) (ao (a8 (gP PySem.F.plainAttrs_list PySem.F.slot_list_append PySem.F.type_list_append cH (pv 8) (aa (bq (aa (bu (pv 6) T.cn cL.m cL.ok 1e1 cL.b .nil ck) (aa (bD dU rfl T.n_list jw (aa (pv 7) aj)) (aa (bu (pv 6) T.cn cf.m cf.ok 1e1 cf.b .nil ck) (aa (bD kx rfl T.jP iK (aa (bu (pv 6) T.cn cf.m cf.ok 1e1 cf.b .nil ck) aj)) aj))))) aj))))))))))) (ai (b8 PassesOwn.never rfl (cS (pv 8)) (il rfl (aX (aE (i:=13) fh.nd rfl 0e3) (aX (aE (i:=14) fh.nd rfl 0e3) (aX (aE (i:=15) fh.nd rfl 0e3) (aX (aE (i:=16) fh.nd rfl 0e3) dR))))) (ao (bK (PW.pt (om (aJ (C0 Ey) (pv 13) (pv 14) 18e3) (lL (aJ (Td WN) (pv 15) (pv 16) 18e3)))) (ao (aD qO))
        aN))) (ao (aD (gN Co hr (aa (pv 6) (aa 5e5 (aa (pv 7) aj)))))))))))))),?_⟩
  refine⟨_,U,a,ns,U,hS,hlen,λwl ws H1 hW aP zS h3 e1=>?_⟩;refine λam pA=>?_;have s4:=au.new (o:= .dK []) pA;have ham1:(upd H1 am (.dK [])) am=some (.dK []):=af;have hS4:=(e1.trans s4).seq hS;have hW4:=hW.same s4;generalize upd H1 am (.dK [])=H4 at s4 ham1 hS4 hW4 |-;dsimp only [bX];refine⟨_,U,wl,ws,U,hW4,aP,h3,λtl us H5 nF OO lG hu1 hu2 e5=>?_⟩;have IF:=e5 _ _ ham1;have nta:tl≠am:=bC nF IF 0e7;have eH:au H1 H5:=s4.trans e5;refine⟨tl,U,⟨_,bH.of nF⟩,AJ (K:=K) (a:=tl) (xs:=us.map V.str) (λi σ H'=>∃(kvs:Py) (v3 v4 v5:Option V),σ=[some 18e2,some (.ref wl),some (.ref am),v3,v4,v5,none,none,none,none,none,none,none,none,none,none,none]/\H' am=some 2e9/\H' tl=some (.lst (us.map V.str))/\bh kvs/\(kvs.map 2e1).Nodup/\rp ws kvs/\(∀s∈us.take i,(Sum.inr s:Key)∈kvs.map 2e1)/\(∀k,0<=aM kvs k)/\kvs.length<=i/\au H1 H') ?_ (λi σ H' ⟨_,_,_,_,_,_,z,_⟩=>bH.of z) ?_ ?_⟩
  ·exact⟨[],none,none,none,U,IF,nF,12e6,nodup_nil,12e6,12e6,λk=>Int.le_refl _,le_refl _,eH⟩
  ·rintro i v p σ H' hi hp ⟨kvs,v3,v4,v5,rfl,QE,htl',hI,hn,hT,xm,WZ,hl,e⟩;rw[getElem?_map] at hi;obtain⟨x,hx,rfl⟩:=gMp hi;have CY:i<us.length:=(List.getElem?_eq_some_iff.mp hx).1;have hTx:=OO x (mem_of_getElem? hx);have s6:=au.new (o:= .tup [.int i, .str x]) hp;have wM:=s6 _ _ QE;have EF:=s6 _ _ htl';have e6:=e.trans s6;refine⟨p,_,U,iB.of af,U,_,_,U,_,_,U,U,?_⟩;generalize upd H' p (.tup [.int i, .str x])=H6 at wM EF e6 |-;have ek:(8 :Int)+(i:Int)=((8+i:Nat):Int):=by omega
   refine⟨_,U,_,U,_,_,U,U,a,ns,8+i,by rw[<-ek];rfl,(e1.trans e6).seq hS,hlen,λn8=>?_⟩;refine⟨_,U,_,_,U,U,2e5,_,_,U,U,⟨by decide,by decide,by decide⟩,0e9,λy hy=>?_⟩;have s7:=au.new (o:= .lst [V.int 61,V.int (10^(30 :Int).toNat)]) hy;have EG:=s7 _ _ wM;have htl7:=s7 _ _ EF;have e7:=e6.trans s7;have hy7:(upd H6 y (.lst [V.int 61,V.int (10^(30 :Int).toNat)])) y=some (.lst [V.int 61,V.int (10^(30 :Int).toNat)]):=af;dsimp only;generalize upd H6 y (.lst [V.int 61,V.int (10^(30 :Int).toNat)])=H7 at EG htl7 e7 hy7 |-
   have vX:∀b:Bool,∃z:Int,0<z/\yh [V.int 61,V.int (10^(30 :Int).toNat)] (if b=true then 1 else 0)=some (V.int z):=λb=>by
    cases b
    ·exact⟨_,by decide,U⟩
    ·exact⟨_,by decide,U⟩
   refine⟨_,U,a,ns,7,U,(e1.trans e7).seq hS,hlen,λn7=>⟨_,_,U,U,(by show (0 :Int) <4;decide),U, .inr ⟨_,U,?_⟩⟩⟩;obtain⟨z,z0,hz⟩:=vX (decide (V.int (n7%4)=V.int 1));refine⟨y,_,_,V.int z,U,U,bH.of hy7,hz,_,_,U,U,z0,?_⟩;have vR:(putK kvs (Sum.inr x) (V.int (n8/4%z))).length<=kvs.length+1:=cO _ _ _;refine⟨_,U,_,U,am,_,U,kq.k (k:=Sum.inr x) EG 0e2,?_⟩;refine⟨_,_,_,_,U,af,by rw[ah nta];exact htl7,hI.put _ _,yN hn,hT.put hTx _,λs hs=>?_,λk=>?_,le_trans (cO _ _ _) 0e2,λb o z=>?_⟩
   ·rw[take_snoc hx] at hs;rcases mem_append.mp hs with hs|hs
    ·exact ik (xm s hs)
    ·have es:s=x:=by simpa using hs
     rw[es];exact sN _ _ _
   ·rw[iQ];split
    ·exact emod_nonneg _ 0e2
    ·exact WZ k
   ·rw[ah (ag z pA)];exact e7 _ _ z
  rintro σ H6 ⟨kvs,v3,v4,v5,rfl,wM,EF,hI,hn,hT,xm,WZ,hl,e6⟩;rw[length_map] at xm hl;rw[take_length] at xm;have hA:IC ws kvs:=⟨hI,hn,hT,λs hs=>xm s (lG s hs),WZ,by omega⟩;clear xm WZ hl EF nF lG OO IF;refine⟨_,U,am,_,U, .inl wM,λN6 WZ=>?_⟩;have s7:=au.new (o:= .dK kvs) WZ;have EG:=s7 _ _ wM;have hh7:(upd H6 N6 2e9) N6=some 2e9:=af;have e7:=e6.trans s7;generalize upd H6 N6 2e9=H7 at EG hh7 e7 |-;refine λst dx RZ Vr nds=>?_;have nas:am≠st:=ag EG RZ;have s8:au H7 (upd (upd H7 dx (.own st)) st (.ins St dx [])):=IM (au.refl _) RZ Vr;have VZ:=s8 _ _ EG;have hh8:=s8 _ _ hh7;have e8:=e7.trans s8;refine⟨st,dx, .ref N6,kvs,U,af, .inr ⟨N6,U,hh8⟩,hA.int,hA.nd,λq hq=>?_,by have:=hA.len;omega,λd g H9 nd ng DP hSt hd hg k9=>⟨U,?_⟩⟩
  ·obtain⟨s,es,hs⟩:=hA.told q hq;exact⟨s,es,qC aP hs⟩
  have ham9:=k9 _ _ VZ nas;have HD:d≠am:=λz=>by rw[z,VZ] at nd;cases nd
  have e9:au H1 H9:=λb o z=>k9 _ _ (e8 _ _ z) (ag (e7 _ _ z) RZ);have nst1:H1 st=none:=none_back e7 RZ;have ng1:H1 g=none:=none_back e8 ng;clear VZ hh8 hh7 EG s8 s7 e8 e7 wM e6 k9 nd;obtain⟨dM,hst9⟩:=hSt;refine⟨16e1,λwt NW=>?_⟩;have JU:=au.new (o:= .lst []) NW;have GN:=jo (o:= .lst []) NW;have Nn:=JU _ _ hst9;have V0:=JU _ _ hd;have QH:=JU _ _ hg;have Np:=JU _ _ ham9;have R1:=e9.trans JU;have ngw:g≠wt:=ag hg NW;generalize upd H9 wt 9e6=CV at GN Nn V0 QH Np R1 |-;clear hst9 hd hg ham9 e9 NW JU;dsimp only [bX];refine⟨16e1,λhl IV=>?_⟩;have wK:=au.new (o:= .lst []) IV;have R5:=jo (o:= .lst []) IV;have R6:=wK _ _ Nn;have hd11:=wK _ _ V0;have hg11:=wK _ _ QH;have R7:=wK _ _ Np;have R8:=wK _ _ GN;have e11:=R1.trans wK;have W2:hl≠g:=Ne.symm (ag QH IV);have nhw:hl≠wt:=Ne.symm (ag GN IV);have nH1:H1 hl=none:=none_back R1 IV;generalize upd CV hl 9e6=WV at R5 R6 hd11 hg11 R7 R8 e11 |-;clear Nn V0 QH Np GN R1 wK IV;dsimp only [bX];have e01:=e1.trans e11;refine⟨_,U,a,ns,6,U,e01.seq hS,hlen,λn6=>?_⟩;have m0:=emod_nonneg n6 (b:=4) 0e1;have m4:=emod_lt_of_pos n6 (b:=4) 0e1;refine⟨_,_,U,U,(by show (0 :Int) <4;decide),_,U,by omega,by omega,iW (λi σ H'=>∃(v3 v4 v5 v9 v10 v11 NY:Option V),∃am kvs d wt,σ=[some 18e2,some (.ref wl),some (.ref am),v3,v4,v5,some (.ref st),some (.ref wt),some (.ref hl),v9,v10,v11,NY,none,none,none,none]/\Mid St ws st g hl i am kvs d wt H'/\au H1 H') ⟨_,_,_,_,_,_,_,am,kvs,d,wt,U,?_,e11⟩ ?_ ?_⟩
  ·exact⟨⟨_,R6⟩,hd11,R7,HD,hA,[],[],[],hg11, .nil,R8, .nil,(λr hr=>by cases hr),zero_le _,Ne.symm ngw,W2,nhw,[],[],R5, .nil,le_refl _⟩
  ·rintro i σ H' hi ⟨v3,v4,v5,v9,v10,v11,NY,am,kvs,d,wt,rfl,hM,e⟩;obtain⟨fJ,hd,pA,HD,hA,gs,us,R,hg,hgP,NW,qy,hRs,WC,nwg,W2,nhw,hs,ps,IV,hhP,f6⟩:=hM;have e0:=e1.trans e;dsimp only [bX];have ea:(20 :Int)+10*(0+(i:Int))=((20+10*i:Nat):Int):=by omega
   refine⟨_,U,_,U,_,_,U,U, .inl 2e5,_,_,U,U,_,U,a,wl,ns,20+10*i,ws,(by rw[ea];rfl),e0.seq hS,hlen,hW.same e,aP,zS,h3,λrl ts rs H2 MA hP hR RS e2=>?_⟩;dsimp only [bX];have e02:=e0.trans e2;have Cp:∀r∈rs,qJ ws r:=λr hr=>(hR r hr).1;refine join3 (fun σ' H5=>∃(v4 v5 NY:Option V) (V1:Ps) (pI:Py) (R9:Ps) (QI:UV) (R2:10e9) (tl du:Ps) (vs:KB),σ'=[some 18e2,some (.ref wl),some (.ref V1),some (.int (0+i)),v4,v5,some (.ref st),some (.ref R9),some (.ref hl),some (.ref rl),some (.ref tl),some (.ref du),NY,none,none,none,none]/\H5 du=some (.tup vs)/\(∀v∈vs,IS v)/\H5 V1=some (.dK pI)/\IC ws pI/\H5 R9=some (.lst (QI.map V.ref))/\Paired (bx H5) QI R2/\(∀r∈R2,PyData.strOk r.x=true)/\R2.length<=8*12e0/\R9≠g/\hl≠R9/\Ready St st g V1 pI R2 vs tl H5/\au H' H5) (λN hN=>?_) ?_
   ·have eb:(16 :Int)+(0+(i:Int))=((16+i:Nat):Int):=by omega
    have i4:i<4:=by omega
    refine⟨_,U,_,U,_,U,_,_,U,U,a,ns,16+i,(by rw[eb];rfl),e02.seq hS,hlen,λc16=>?_⟩
    have cond:∀r∈rs,InK kvs r.xs r.ys/\(∀x∈r.xs,cQ x.2)/\(∀y∈r.ys,cQ y.2)/\r.xs.length<=8/\r.ys.length<=8/\0<=r.m/\r.m<=5:=λr hr=>by
     have wJ:=Cp r hr;obtain⟨_,_,g3,g4,g5,_⟩:=wJ.g;exact⟨vO hA.all wJ.g,λx hx=>(g3 x hx).1.2.2,λy hy=>(g4 y hy).1.2.2,by omega,by omega,wJ.m0,(hR r hr).2⟩
    have hgl:gs.length<=32:=by rw[Paired.length hgP];omega
    obtain⟨gy,Cq⟩:=fJ
    have ahead:∀{tl VA:Ps} {xM:UV} {H4:Hp} {o:HO},H2 tl=none->au H2 H4->H4 tl=some (.lst (xM.map V.ref))->H4 VA=some o->d≠VA->x3 St ws st d g tl VA kvs gs R xM H4:=fun {tl VA xM H4 o} W3 e4 nF ho nd=>by
     have Cz:=e2.trans e4;exact⟨⟨gy,Cz _ _ Cq⟩,Cz _ _ hd,Cz _ _ hg,av (λa b (z:bx H' a b)=>(Cz _ _ z:bx H4 a b)) hgP,hgl,ag (e2 _ _ hg) W3,hA,nF,⟨o,ho⟩,nd⟩
    refine⟨rl,c16,ts,rs,ws,U,MA,hP,RS,Cp,λtt tl xM H3 W3 rL nF MT e3=>?_,λtt tl du b n r ex xM H3 W3 rL hdu hb hn hex Kq nF MT e3=>?_⟩
    ·have e23:=e2.trans e3;refine⟨tt,_,U,iB.of rL,U,_,_,U,_,_,U,U,?_⟩;refine⟨_,U,_,U,am,rl,kvs,ts,rs,U,e23 _ _ pA,hA.int,hA.len,e3 _ _ MA,av (λ_ _ z=>z.same e3) hP,RS,cond,λj r t k l' ft H4 hj hbf htm Jo xT hft e4=>?_,λEi fe H4 nfe hfe e4=>?_⟩
     ·dsimp only [bX];refine⟨_,U,_,U,lH rfl ⟨_,U,_,_,_,_,false,U,U, .tup hft,JW 0e5 0e5 0e5,_,U,dP ?_⟩⟩;refine⟨_,U,_,U,lH rfl ⟨_,U,?_⟩⟩;have wJ:=Cp r (mem_of_getElem? hj);obtain⟨hIa,hna,Zg⟩:=hA.at Cp j;obtain⟨x,rfl,hTx⟩:=IJ wJ xT;rw[hA.wk Cp j] at Jo xT;have JM:=Nk hIa hna (Zg wJ) wJ.m0 htm Jo xT
      have hbs:∀j' r',j'<j->rs[j']? =some r'->bE (dq kvs (rs.take j')) r'.xs r'.ys r'.m=none:=λj' r' hjj jE=>by
       have NM:=Cp r' (mem_of_getElem? jE);obtain⟨h1,h2,h3⟩:=hA.at Cp j';have:=hbf j' r' hjj jE;rw[hA.wk Cp j'] at this;exact Cm h1 h2 (h3 NM) NM.m0 this
      have R':=e3.trans e4;have Cz:=e2.trans R';have htl4:=e4 _ _ nF;have hPt4:=av (λa b (z:df H3 a b)=>(e4 _ _ z:df H4 a b)) MT
      exact hN _ _ ⟨_,_,_,am,kvs,wt,us,R,tl,ft,[.int 1, .int (j:Int), .int ((t:Int)+1), .str x, .int l'],rfl,hft,(λv hv=>by
       simp only [mem_cons,not_mem_nil,or_false] at hv;rcases hv with rfl|rfl|rfl|rfl|rfl
       ·exact .inl 3e5
       ·exact .inl 3e5
       ·exact .inl 3e5
       ·exact .inr ⟨_,rfl,Nl aP hTx⟩
       ·exact .inl 3e5),Cz _ _ pA,hA,Cz _ _ NW,av (λa b (z:bx H' a b)=>(Cz _ _ z:bx H4 a b)) qy,hRs,by omega,nwg,nhw,Cn (ahead W3 R' htl4 (Cz _ _ pA) HD) hPt4 Cp RS hj hbs JM,Cz⟩
     ·dsimp only [bX];refine⟨_,U,_,U,lH rfl ⟨_,U,_,_,_,_,true,U,U, .dK hfe,AG,_,U,gi ?_⟩⟩;refine⟨6e6,λz0 nz0=>?_⟩;have s5:=au.new (o:= .tup [.int 0]) nz0;have hz5:=jo (o:= .tup [.int 0]) nz0;have R':=e3.trans e4;have e25:=e2.trans (R'.trans s5);have hfe5:=s5 _ _ hfe;have V2:=s5 _ _ (e4 _ _ nF);have hPt5:=av (λa b (z:df H3 a b)=>(s5 _ _ (e4 _ _ z):df _ a b)) MT;have e35:=R'.trans s5;generalize upd H4 z0 (.tup [.int 0])=H5 at s5 hz5 e25 hfe5 V2 hPt5 e35 |-;dsimp only [bX];have hwt5:=e25 _ _ NW;have Ie:us.length=R.length:=Paired.length qy;have hul':xM.length=rs.length:=by rw[Paired.length MT];unfold qK;rw[length_map]
      refine⟨_,U,_,U,_,U,wt,tl,_,_,U,U,hwt5,V2,by rw[length_map,length_map];omega,λW nW=>?_⟩;have s6:=au.new (o:= .lst (us.map V.ref++xM.map V.ref)) nW;have hW6:=jo (o:= .lst (us.map V.ref++xM.map V.ref)) nW;have e26:=e25.trans s6;have e36:=e35.trans s6;have QJ:=s6 _ _ hfe5;have EF:=s6 _ _ V2;have hz6:=s6 _ _ hz5;have V3:=av (λa b (z:df H5 a b)=>(s6 _ _ z:df _ a b)) hPt5;generalize upd H5 W (.lst (us.map V.ref++xM.map V.ref))=H6 at s6 hW6 e26 e36 QJ EF hz6 V3 |-
      have hnoS:∀j r',rs[j]? =some r'->bE (dq kvs (rs.take j)) r'.xs r'.ys r'.m=none:=λj r' jE=>by
       have NM:=Cp r' (mem_of_getElem? jE);obtain⟨h1,h2,h3⟩:=hA.at Cp j;have:=Ei j r' jE;rw[hA.wk Cp j] at this;exact Cm h1 h2 (h3 NM) NM.m0 this
      have eW:sP kvs rs=dq kvs rs:=EA hA.int hA.nd hA.all Cp;rw[eW] at QJ;have ndf:d≠fe:=ag (e3 _ _ (e2 _ _ hd)) nfe;have hRr:=pH (rs:=rs) V3 (by rw[show rs.length=(qK rs).length by unfold qK;rw[length_map],take_length];rfl);rw[List.take_of_length_le 0e2] at hRr;refine hN _ _ ⟨_,_,_,fe,dq kvs rs,W,us++xM,R++rs,tl,z0,[.int 0],rfl,hz6,(λv hv=>by rw[mem_singleton.mp hv];exact .inl 3e5),QJ,hA.rows Cp hnoS,by rw[hW6,map_append],ji (av (λa b (z:bx H' a b)=>(e26 _ _ z:bx H6 a b)) qy) hRr,λr' jE=>?_,by rw[length_append];omega,?_,?_,EC (ahead W3 e36 EF QJ ndf) V3 Cp RS hnoS,e26⟩
      ·rcases mem_append.mp jE with z|z
       ·exact hRs r' z
       ·exact M0 (Cp r' z).ev
      ·exact λz=>by rw[z,e25 _ _ hg] at nW;cases nW
      ·exact λz=>by rw[<-z,e25 _ _ IV] at nW;cases nW
    ·have e23:=e2.trans e3;refine⟨tt,_,U,iB.of rL,U,_,_,U,_,_,U,U,?_⟩
     have bIS:∀v∈nh b,IS v:=by
      match b,hb with
      |0,_=>
       intro v hv;simp only [nh,mem_cons,not_mem_nil,or_false] at hv;rcases hv with rfl|rfl|rfl|rfl
       ·exact .inl 3e5
       ·exact .inr ⟨_,rfl,by decide+kernel⟩
       ·exact .inl 3e5
       ·exact .inl 3e5
      |1,_=>
       intro v hv;simp only [nh,mem_cons,not_mem_nil,or_false] at hv;rcases hv with rfl|rfl<;>exact .inl 3e5
      |2,_=>
       intro v hv;simp only [nh,mem_cons,not_mem_nil,or_false] at hv;rcases hv with rfl|rfl<;>exact .inl 3e5
     have fin:∀{H4:Hp} {NY:V},au H3 H4->N [some 18e2,some (.ref wl),some (.ref am),some (.int (0+i)),v4,v5,some (.ref st),some (.ref wt),some (.ref hl),some (.ref rl),some (.ref tl),some (.ref du),some NY,none,none,none,none] H4:=fun {H4 NY} e4=>by
      have R':=e3.trans e4;have Cz:=e2.trans R';exact hN _ _ ⟨_,_,_,am,kvs,wt,us,R,tl,du,nh b,rfl,e4 _ _ hdu,bIS,Cz _ _ pA,hA,Cz _ _ NW,av (λa b (z:bx H' a b)=>(Cz _ _ z:bx H4 a b)) qy,hRs,by omega,nwg,nhw,IL (ahead W3 R' (e4 _ _ nF) (Cz _ _ pA) HD) (av (λa b (z:df H3 a b)=>(e4 _ _ z:df H4 a b)) MT) Cp RS hb hn hex Kq,Cz⟩
     refine⟨_,U,_,U,am,rl,kvs,ts,rs,U,e23 _ _ pA,hA.int,hA.len,e3 _ _ MA,av (λ_ _ z=>z.same e3) hP,RS,cond,λj r t k l' ft H4 hj hbf htm Jo xT hft e4=>?_,λEi fe H4 nfe hfe e4=>?_⟩
     ·dsimp only [bX];exact⟨_,U,_,U,ky 0e7 (dP ⟨_,U,_,U,ky 0e7 (fin e4)⟩)⟩
     ·dsimp only [bX];exact⟨_,U,_,U,ky 0e7 (dP ⟨_,U,_,U,ky 0e7 (fin e4)⟩)⟩
   ·rintro σ H5 ⟨v4,v5,NY,V1,pI,R9,QI,R2,tl,du,vs,rfl,hdu,his,MD,Ez,hwt2,huP2,V4,hRl2,nwg2,nhw2,ready,e5⟩;obtain⟨ks,ke⟩:=tv_ok his;obtain⟨gy,Cq⟩:=fJ;refine⟨_,U,_,U,ready _ _ λtt d' NU H6 rL hSt dH nda' su QK k6=>?_⟩;have kt:∀{x:Ps} {vs:KB},H5 x=some (.tup vs)->H6 x=some (.tup vs):=fun {x vs} z=>k6 _ _ z (bC z (e5 _ _ Cq) 0e7) (bC z (e5 _ _ hg) 0e7);have hdu6:=kt hdu;have wM:H6 V1=some (.dK pI):=k6 _ _ MD (bC MD (e5 _ _ Cq) 0e7) (bC MD (e5 _ _ hg) 0e7);have V5:=k6 _ _ hwt2 (bC hwt2 (e5 _ _ Cq) 0e7) nwg2;have II:=av (λa b (z:bx H5 a b)=>(kt z:bx H6 a b)) huP2;have V6:=e5 _ _ IV;have Nq:=k6 _ _ V6 (bC V6 (e5 _ _ Cq) 0e7) W2;have hhP6:=av (λa b (z:HeldAt g hl H' a b)=>HeldAt.keep (HeldAt.keep z hg IV Cq λb o y _ _ _=>e5 _ _ y) (e5 _ _ hg) V6 (e5 _ _ Cq) λb o y n1 n2 _=>k6 _ _ y n1 n2) hhP;have eF:au H1 H6:=λb o z=>k6 _ _ (e5 _ _ (e _ _ z)) (ag z nst1) (ag z ng1);obtain⟨NZ,EH⟩:=hSt;obtain⟨kr,kr2⟩:=zZ V4
    have Nr:∀q∈pI,∃x,q.1=Sum.inr x/\vw x:=λq hq=>by
     obtain⟨s,es,hs⟩:=Ez.told q hq;exact⟨s,es,qC aP hs⟩
    have i4:i<4:=by omega
    refine⟨_,U,_,_,R4 rL his,R4 hdu6 his,ks,ks,?_⟩;rw[ke];refine⟨_,U,dP ?_⟩;refine⟨_,U,_,U,_,U,st,d',g,V1,R9,pI,NU,QI,R2,U,⟨NZ,EH⟩,dH,wM,nda',Ez.int,Ez.nd,Nr,by have:=Ez.len;omega,su,QK,V5,II,by omega,kr,kr2,λH7 e7=>⟨_,U,dP ?_⟩⟩;dsimp only [Ap];have st7:=e7 _ _ EH;have rw7:∀{H8:Hp} {l:UV},au H7 H8->Paired (bx H6) l R2->Paired (bx H8) l R2:=fun {H8 l} s z=>av (λa b (z:bx H6 a b)=>(s _ _ (e7 _ _ z):bx H8 a b)) z;refine⟨_,U,st,NZ,_,U,st7,jS _ _ 0e5 0e5,st,d',g,NU,R2,U,⟨NZ,st7⟩,e7 _ _ su,rw7 (au.refl _) QK,by omega,λL1 us1 H8 nL1 WY hP1 e8=>?_⟩;refine⟨.inl ⟨U,_,bH.of WY⟩,0e9,λt ht=>?_⟩;have s9:=au.new (o:= .tup 13e0) ht;refine⟨L1,_,_,U,U,s9 _ _ WY,by rw[length_map,Paired.length hP1];omega,?_⟩;have e9:au H7 (upd (upd H8 t (.tup 13e0)) L1 (.lst (us1.map V.ref++[V.ref t]))):=λb o z=>by rw[ah (ag z nL1)];exact s9 _ _ (e8 _ _ z)
    generalize upd (upd H8 t (.tup 13e0)) L1 (.lst (us1.map V.ref++[V.ref t]))=H9 at e9 |-;clear s9 ht WY hP1 e8 nL1;have W4:=e7.trans e9;have st9:=W4 _ _ EH;have hlen2:=Ez.len;refine⟨_,U, .inl ⟨U,_,bH.of (W4 _ _ Nq)⟩,_,U,st,NZ,_,U,st9,jS _ _ 0e5 0e5,st,d',g,NU,R2,U,⟨NZ,st9⟩,W4 _ _ su,rw7 e9 QK,by omega,λL2 us2' CV nL2 uR hP2 R1=>?_⟩;have QL:=W4.trans R1;refine⟨_,U,R9,_,U, .inl (bH.of (QL _ _ V5)),λL3 W5=>?_⟩;have wK:=au.new (o:= .lst (QI.map V.ref)) W5;have nR:=jo (o:= .lst (QI.map V.ref)) W5;have hL2':=wK _ _ uR;have hP2':=av (λa b (z:bx CV a b)=>(wK _ _ z:bx _ a b)) hP2;have Nt:=QL.trans wK;generalize upd CV L3 (.lst (QI.map V.ref))=H11' at wK nR hL2' hP2' Nt |-;have st11:=Nt _ _ EH;refine⟨_,U,st,NZ,_,U,st11,jS _ _ 0e5 0e5,st,d',g,pI,U,⟨NZ,st11⟩,Nt _ _ dH,Ez.int,Ez.nd,by omega,λD1 H12 nD1 hD1 rj=>?_⟩;have e612:=Nt.trans rj;have st12:=e612 _ _ EH;refine⟨_,U,st,NZ,_,U,st12,jS _ _ 0e5 0e5,st,d',g,pI,U,⟨NZ,st12⟩,e612 _ _ dH,Ez.int,Ez.nd,by omega,λD2 H13 nD2 Jl NP=>?_⟩;refine⟨D2,_,U, .inl Jl,λD3 nD3=>⟨(by show 4<=sizeLine;decide),λTT nTT=>?_⟩⟩;have s14:=au.new (o:= .dK (j8 pI)) nD3;have hD3:=jo (o:= .dK (j8 pI)) nD3;have s15:=au.new (o:= .tup [.ref L2, .ref L3, .ref D1, .ref D3]) nTT;have hTT:=jo (o:= .tup [.ref L2, .ref L3, .ref D1, .ref D3]) nTT;have Nu:=rj.trans (NP.trans (s14.trans s15));have hD1T:=(NP.trans (s14.trans s15)) _ _ hD1;have hD3T:=s15 _ _ hD3;have GO:=Nt.trans Nu;generalize upd _ TT _=QM at s15 hTT Nu hD1T hD3T GO |-;have IW:=GO _ _ Nq;refine⟨hl,_,_,U,U,IW,by rw[length_map,Paired.length hhP6];omega,?_⟩;have kF:∀b o,QM b=some o->b≠hl->(upd QM hl (.lst (hs.map V.ref++[V.ref TT]))) b=some o:=λb o z n=>by rw[ah n];exact z
    have n2:L2≠hl:=λz=>by rw[z,W4 _ _ Nq] at nL2;cases nL2
    have n3:L3≠hl:=λz=>by rw[z,QL _ _ Nq] at W5;cases W5
    have n2g:L2≠g:=λz=>by rw[z,W4 _ _ su] at nL2;cases nL2
    have n3g:L3≠g:=λz=>by rw[z,QL _ _ su] at W5;cases W5
    have i9:HeldAt g hl QM TT (R2,j8 pI):=⟨L2,L3,D1,D3,us2',QI,hTT,n2g,n2,n3g,n3,Nu _ _ hL2',av (λa b (z:bx H11' a b)=>(Nu _ _ z:bx QM a b)) hP2',Nu _ _ nR,av (λa b (z:bx H6 a b)=>(GO _ _ z:bx QM a b)) II,hD1T,hD3T,V4,(λp hp=>Ez.int p ((mem_filter.mp hp).1)),MO Ez.nd,le_trans (zL _) hlen2⟩;have stT:=GO _ _ EH;have hgT:=GO _ _ su;have kt2:∀{x:Ps} {vs:KB},QM x=some (.tup vs)->(upd QM hl (.lst (hs.map V.ref++[V.ref TT]))) x=some (.tup vs):=fun {x vs} z=>kF _ _ z (bC z IW 0e7);refine⟨_,_,_,_,_,_,_,V1,pI,d',R9,U,⟨⟨NZ,kF _ _ stT (bC stT IW 0e7)⟩,kF _ _ (GO _ _ dH) (bC (GO _ _ dH) IW 0e7),kF _ _ (GO _ _ wM) (bC (GO _ _ wM) IW 0e7),nda',Ez,NU,QI,R2,kF _ _ hgT (Ne.symm W2),av (λa b (z:bx H6 a b)=>(kt2 (GO _ _ z):bx _ a b)) QK,kF _ _ (GO _ _ V5) (Ne.symm nhw2),av (λa b (z:bx H6 a b)=>(kt2 (GO _ _ z):bx _ a b)) II,V4,by omega,nwg2,W2,nhw2,hs++[TT],ps++[(R2,j8 pI)],by rw[af,map_append];rfl,?_,by rw[length_append];simp;omega⟩,λb o z=>kF _ _ (GO _ _ (eF _ _ z)) (ag z nH1)⟩;have hold:=bI i9 (av (λa b (z:HeldAt g hl H6 a b)=>HeldAt.keep (H':=QM) z su Nq EH λb o y _ _ _=>GO _ _ y) hhP6);exact av (λa b (z:HeldAt g hl QM a b)=>HeldAt.keep z hgT IW stT λb o y _ _ n=>kF _ _ y n) hold
  ·rintro σ H' ⟨v3,v4,v5,v9,v10,v11,NY,am,kvs,d,wt,rfl,hM,e⟩;obtain⟨fJ,hd,pA,HD,hA,gs,us,R,hg,hgP,NW,qy,hRs,WC,nwg,W2,nhw,hs,ps,IV,hhP,f6⟩:=hM
   have Nr:∀q∈kvs,∃x,q.1=Sum.inr x/\vw x:=λq hq=>by
    obtain⟨s,es,hs⟩:=hA.told q hq;exact⟨s,es,qC aP hs⟩
   obtain⟨kr,kr2⟩:=zZ hRs;refine⟨_,U,hl,U,⟨_,bH.of IV⟩,fz (K:=K) (a:=hl) (xs:=hs.map V.ref) (λj σ H2=>∃v13 v14 v15 v16:Option V,σ=[some 18e2,some (.ref wl),some (.ref am),v3,v4,v5,some (.ref st),some (.ref wt),some (.ref hl),v9,v10,v11,NY,v13,v14,v15,v16]/\H2=H') ⟨none,none,none,none,U,U⟩ (λj σ H2 _ ⟨_,_,_,_,_,z⟩=>by rw[z];exact bH.of IV) ?_ ?_⟩
   ·rintro j x σ H2 hj ⟨v13,v14,v15,v16,rfl,rfl⟩;rw[getElem?_map] at hj;obtain⟨t,ht,rfl⟩:=gMp hj;obtain⟨p,_,a',b',c',e',xM,E8,h1,_,_,_,_,ha,hP,hb,hQ,hc,he,QF,hI,hn,hl30⟩:=br hhP ht;obtain⟨k1,k2⟩:=zZ QF;have fl:tK p.2:=λq hq=>by obtain⟨i,ei⟩:=hI q hq;rw[ei];rfl
    refine⟨t,_,U,iB.of h1,U,_,_,U,_,_,U,_,_,U,_,_,U,U,?_⟩;refine⟨_,U,_,U,kg p.1,kg p.1, .lst (bH.of ha) (pF hP), .lst (bH.of hb) (pF hQ),k1,k1,?_⟩;rw[k2];refine⟨_,U,dP ⟨_,U,_,U,c',e',_,_,U,U, .inl hc, .inl he,fl,fl,λ_ _=>?_⟩⟩;rw[JT hn fl];exact⟨_,U,dP ⟨_,_,_,_,U,U⟩⟩
   ·rintro σ H2 ⟨v13,v14,v15,v16,rfl,rfl⟩;exact⟨_,U,_,U,_,U,st,d,g,am,wt,kvs,gs,us,R,U,fJ,hd,pA,HD,hA.int,hA.nd,Nr,by have:=hA.len;omega,hg,hgP,NW,qy,by omega,kr,kr2,λH3 _=>q H3⟩
end
def all_mk{l:PySem.W.OpenLaw}{w:8e8}{K:Uf}{h:Heap}{mg:Wp}{fa C Gr Pc Fo Rd Rc Ch St HE Sh Ub NF TG NC TN1 V7:Ps}{odlaw Sa:Uu}{sllaw:15e4}{oclaw Sb Sd Se Nv Sf:Pn}{uK uN uB uE uM uC uP uI uD uL uT fT fU fV uG uS:Tok}(X:K.In h)(G:h.Ns mainGlobals mg)(hfa:mg "law" =some (.ref fa))
  (aC:mg "Atom" =some 4e9)
  (aGr:mg "Group" =some (.ref Gr))
  (aPc:mg "Piece" =some (.ref Pc))
  (aFo:mg "Formula" =some (.ref Fo))
  (aRd:mg "Reader" =some (.ref Rd))
  (aRc:mg "ChangeReader" =some (.ref Rc))
  (aCh:mg "Change" =some (.ref Ch))
  (aSt:mg "Store" =some (.ref St))
  (aHE:mg "HallError" =some (.ref HE))
  (aSh:mg "Short" =some 19e6)
  (aUb:mg "Unbalanced" =some 17e3)
  (aNF:mg "NoFormula" =some (.ref NF))
  (aTG:mg "TooLong" =some (.ref TG))
  (aNC:mg "NoChange" =some (.ref NC))
  (aTN1:mg "TooMany" =some (.ref TN1))
  (T:m8 K mg C Rd Gr Pc Fo uK uN uB uE uM uC uP uI uD uL uT)
  (TH:Lx K mg C Rc Gr Pc Fo Ch uK uN uB uE uM uC uP uI uD uL uT fT fU fV)
  (TK:pk K mg C Rc Gr Pc Fo Ch uK uN uB uE uM uC uP uI uD uL uT fT fU fV uG uS)
  (TL:L' K mg C Rc Gr Pc Fo Ch uK uN uB uE uM uC uP uI uD uL uT fT fU fV)
  (TM:Zq K mg C Rc Gr Pc Fo Ch uK uN uB uE uM uC uP uI uD uL uT fT fU fV uG uS)
  (TO:Zl K mg C Rc Gr Pc Fo Ch St uK uN uB uE uM uC uP uI uD uL uT fT fU fV uG uS)
  (TS:rK K mg C Rd Gr Pc Fo St uK uN uB uE uM uC uP uI uD uL uT)
  (TF:YF K mg C Rd Gr Pc Fo uK uN uB uE uM uC uP uI uD uL uT)
  (TE:Qb K mg HE Sh)
  (TN:zg K mg HE NF TG)
  (TU:Vh K mg HE Ub)
  (d_xig:Def K mg "is_great" "is_great" Dp ["sign"])
  (d_xis:Def K mg "is_small" "is_small" Dx ["sign"])
  (d_xif:Def K mg "is_figure" "is_figure" yB ["sign"])
  (d_xcs:Def K mg "count_shown" "count_shown" lY ["count"])
  (d_xps:Def K mg "parts_shown" "parts_shown" oN ["parts"])
  (V8:lP K C "Atom.__init__" KA ["self","kind","count"] [1])
  (d_xsh:bw K C "shown" "Atom.shown" Dw 1e0)
  (d_xgi:lP K Gr "Group.__init__" Dn 6e7 [1])
  (d_xgs:bw K Gr "shown" "Group.shown" oM 1e0)
  (d_xpi:lP K Pc "Piece.__init__" Ds 6e7 [1])
  (d_xpS:bw K Pc "shown" "Piece.shown" l7 1e0)
  (d_xtl:Def K mg "refuse_too_long" "refuse_too_long" t9 ["text"])
  (d_xch:Def K mg "charge_shown" "charge_shown" kB ["charge"])
  (d_xfi:lP K Fo "Formula.__init__" Dm 14e8 [0])
  (d_xfS:bw K Fo "shown" "Formula.shown" rX 1e0)
  (d_xri:lP K Rd "Reader.__init__" yG 12e8 [])
  (e_xri:lP K Rc "Reader.__init__" yG 12e8 [])
  (d_xrs:bw K Rd "sign" "Reader.sign" Fj 1e0)
  (e_xrs:bw K Rc "sign" "Reader.sign" Fj 1e0)
  (d_xrt:bw K Rd "take" "Reader.take" Fn ["self","sign"])
  (e_xrt:bw K Rc "take" "Reader.take" Fn ["self","sign"])
  (d_xra:bw K Rd "take_all" "Reader.take_all" oR ["self","signs"])
  (e_xra:bw K Rc "take_all" "Reader.take_all" oR ["self","signs"])
  (d_xre:bw K Rd "take_end" "Reader.take_end" t8 1e0)
  (d_xrw:bw K Rd "read_whole" "Reader.read_whole" rZ 1e0)
  (e_xrw:bw K Rc "read_whole" "Reader.read_whole" rZ 1e0)
  (d_xrl:bw K Rd "read_electron" "Reader.read_electron" kE 1e0)
  (e_xrl:bw K Rc "read_electron" "Reader.read_electron" kE 1e0)
  (V9:bw K Rd "read_parts" "Reader.read_parts" oQ 3e9)
  (V':bw K Rc "read_parts" "Reader.read_parts" oQ 3e9)
  (d_xrp:bw K Rd "read_part" "Reader.read_part" t5 3e9)
  (e_xrp:bw K Rc "read_part" "Reader.read_part" t5 3e9)
  (d_xrg:bw K Rd "read_group" "Reader.read_group" mK 3e9)
  (e_xrg:bw K Rc "read_group" "Reader.read_group" mK 3e9)
  (Wa:bw K Rd "read_atom" "Reader.read_atom" yF 1e0)
  (Wb:bw K Rc "read_atom" "Reader.read_atom" yF 1e0)
  (d_xrc:bw K Rd "read_count" "Reader.read_count" rY 1e0)
  (e_xrc:bw K Rc "read_count" "Reader.read_count" rY 1e0)
  (d_xrn:bw K Rd "read_number" "Reader.read_number" oP ["self","longest"])
  (e_xrn:bw K Rc "read_number" "Reader.read_number" oP ["self","longest"])
  (Wc:bw K Rd "read_charge" "Reader.read_charge" oO 1e0)
  (Wd:bw K Rc "read_charge" "Reader.read_charge" oO 1e0)
  (d_xrf:Def K mg "read_formula" "read_formula" qb ["text"])
  (Sg:12e1)
  (d_xco:bw K C "counts" "Atom.counts" yA 1e0)
  (d_xgc:bw K Gr "counts" "Group.counts" lZ 1e0)
  (d_xpC:bw K Pc "counts" "Piece.counts" kD 1e0)
  (d_xfC:bw K Fo "counts" "Formula.counts" tW 1e0)
  (d_xci:lP K Ch "Change.__init__" Dl ["self","lefts","rights"] [])
  (d_xam:Def K mg "formula_amounts" "formula_amounts" ud ["formula"])
  (d_xkd:bw K Ch "kinds" "Change.kinds" Dq 1e0)
  (d_xrm:bw K Rc "read_term" "ChangeReader.read_term" Dt 1e0)
  (We:bw K Rc "read_lefts" "ChangeReader.read_lefts" yH 1e0)
  (Wf:bw K Rc "read_rights" "ChangeReader.read_rights" t7 1e0)
  (Wg:bw K Rc "read_sides" "ChangeReader.read_sides" yI 1e0)
  (QN:Def K mg "read_change" "read_change" tY ["text"])
  (d_xsc:Def K mg "side_counts" "side_counts" l8 ["terms"])
  (d_xgn:Def K mg "gains" "gains" yD ["change"])
  (d_xsa:Def K mg "side_amounts" "side_amounts" kH ["terms"])
  (d_xlo:bw K Ch "lost" "Change.lost" AX 1e0)
  (d_xev:Def K mg "read_even" "read_even" qc ["text"])
  (d_xto:Def K mg "turns_of" "turns_of" ub ["amount","taken","gain"])
  (d_xmo:Def K mg "most_turns" "most_turns" jb ["change","amounts"])
  (d_xtu:Def K mg "turned" "turned" yJ 16e5)
  (Wh:Def K mg "refuse_short" "refuse_short" kG 15e8)
  (Nw:lX K mg "Short" Sh HE "Short.__init__" Dv 10e7)
  (d_xsi:Km K St "Store.__init__" Du ["self","amounts"])
  (d_xsv:bw K St "have" "Store.have" Kz 12e8)
  (d_xsp:bw K St "put" "Store.put" Uj ["self","text","many"])
  (d_xsy:bw K St "go_all" "Store.go_all" yE ["self","rows"])
  (d_xss:bw K St "stocks" "Store.stocks" r8 1e0)
  (d_xsw:bw K St "went" "Store.went" Fl 1e0)
  (Si:lX K mg "Unbalanced" Ub HE "Unbalanced.__init__" DA 15e0)
  (Sj:lX K mg "NoFormula" NF HE "NoFormula.__init__" Ui 14e9)
  (d_xtg:lX K mg "TooLong" TG HE "TooLong.__init__" Dy 16e4)
  (Sk:lX K mg "NoChange" NC HE "NoChange.__init__" Uh 14e9)
  (d_xtm:lX K mg "TooMany" TN1 HE "TooMany.__init__" Dz 16e4)
  (d_xca:Def K mg "_law_cell_at" "_law_cell_at" yz 13e8)
  (d_xmi:Def K mg "_law_mixed" "_law_mixed" Dr ["_law_cell","_law_prime"])
  (d_xwh:Def K mg "_law_whole" "_law_whole" DB ["_law_found"])
  (d_xki:Def K mg "_law_kind" "_law_kind" KC ["_law_number"])
  (d_xfg:Def K mg "_law_figures" "_law_figures" tX ["_law_count_here"])
  (d_xlm:Def K mg "_law_matter" "_law_matter" sh ["_law_cell","_law_kinds"])
  (d_xlw:Def K mg "_law_world" "_law_world" uc ["_law_script"])
  (d_xlc:Def K mg "_law_change" "_law_change" oS 18e5)
  (d_xlt:Def K mg "_law_text" "_law_text" KD ["_law_lefts","_law_rights"])
  (d_xlk:Def K mg "_law_asked" "_law_asked" DC ["_law_terms"])
  (d_xlx:Def K mg "_law_texts" "_law_texts" DD ["_law_world_here"])
  (d_xla:Def K mg "_law_amounts" "_law_amounts" mJ ["_law_found","_law_due"])
  (d_xlr:Def K mg "_law_row" "_law_row" Uk 12e5)
  (d_xlv:Def K mg "_law_walked" "_law_walked" yK 14e7)
  (d_xlh:Def K mg "_law_handed" "_law_handed" si 19e0)
  (d_xld:Def K mg "_law_told" "_law_told" Fp 17e6)
  (d_xls:Def K mg "_law_same" "_law_same" DE 11e6)
  (alaw:mg "law" =some (.ref V7))
  (llaw:K.lookup V7=some ⟨oclaw,odlaw, .func (fnOf "law" "law" (eM yL) (bY yL) (ak yL) .none Sb Sd Se Sa Nv Sf),sllaw⟩)
  (claw:PySem.W.codeIn K Nv "law" =true)
  (klaw:keepIn K (.ref V7)=true)
  (fN1:PySem.W.findIn K (.ref NF) "place" =some none)
  (fC1:PySem.W.findIn K (.ref NC) "place" =some none)
  (fU1:PySem.W.findIn K 17e3 "kind" =some none)
  (fU2:PySem.W.findIn K 17e3 "left" =some none)
  (fU3:PySem.W.findIn K 17e3 "right" =some none)
  (Cr:mg "enumerate" =none)
  (Ad:mg "ValueError" =none)
  (t2:PySem.W.specialIn K 4e7 "__get__" =some (some 11e0))
  (t3:PySem.W.takesIn K 4e7=some true)
  (uS2:PySem.W.mroIn K Sh 19e6=some true)
  (tC1:PySem.W.takerIn K NC "place" =some none)
  (tM1:PySem.W.takerIn K TN1 "many" =some none)
  (uN2:PySem.W.mroIn K NF (.ref NF)=some true)
  (uNC:PySem.W.mroIn K NF (.ref NC)=some false)
  (t1U:PySem.W.findIn K 17e3 "__class__" =some (some 4e7))
  (t1C:PySem.W.findIn K (.ref NC) "__class__" =some (some 4e7))
  (uU1:PySem.W.mroIn K Ub (.ref HE)=some true)
  (uC1:PySem.W.mroIn K NC (.ref HE)=some true)
  (uU2:PySem.W.mroIn K Ub 17e3=some true)
  (uC2:PySem.W.mroIn K NC (.ref NC)=some true)
  (wS:PySem.W.isClsIn K Sh=true)
  (yS:PySem.W.typeIn K 19e6=some (.type "type"))
  (mSU:PySem.W.mroIn K Sh 17e3=some false)
  (mSC:PySem.W.mroIn K Sh (.ref NC)=some false)
  (wU:PySem.W.isClsIn K Ub=true)
  (yU:PySem.W.typeIn K 17e3=some (.type "type"))
  (mUS:PySem.W.mroIn K Ub 19e6=some false)
  (mUC:PySem.W.mroIn K Ub (.ref NC)=some false)
  (wC:PySem.W.isClsIn K NC=true)
  (yC:PySem.W.typeIn K (.ref NC)=some (.type "type"))
  (mCS:PySem.W.mroIn K NC 19e6=some false)
  (mCU:PySem.W.mroIn K NC 17e3=some false)
  :∃fd:FuncData,(∀(s:Op) (v:Pn),BindsTo s fd ⟨[v],[]⟩ [("_law_script",v)])/\∀base:Heap,K.In base->base.Ns mainGlobals mg->fB l.prog w K mg base oC 29 fa fd ["_law_script"] (GL K):=by
 have e:=hfa.symm.trans (alaw);cases e;obtain⟨_,_,_,Nx,_⟩:=id Nw;obtain⟨_,_,_,Sl,_⟩:=id Si;obtain⟨_,_,_,z_xnf,_⟩:=id Sj;obtain⟨_,_,_,Sm,_⟩:=id Sk;have Flaw:=Tb (st:=yL) llaw claw klaw;refine⟨fnOf "law" "law" (eM yL) (bY yL) (ak yL) .none Sb Sd Se Sa Nv Sf,λs v=> .of_eq rfl,λbase _ _=>?_⟩
 letI:js:=⟨λC=>C=NC⟩
 have nj:¬NF=NC:=λe=>by rw[e,uC2] at uNC;cases uNC
 have TA:oY K mg C:=T.touo.towu.tooY;have QO:=KS (P:=l.prog) (w:=w) (base:=base) d_xig;have q_is:=KU (P:=l.prog) (w:=w) (base:=base) d_xis;have q_if:=Hy (P:=l.prog) (w:=w) (base:=base) d_xif;have QP:=vK (P:=l.prog) (w:=w) (base:=base) d_xcs TA;have q_in:=Pp (P:=l.prog) (w:=w) (base:=base) V8 TA;have q_sh:=MY d_xsh TA QP;have q_gi:=Lp (P:=l.prog) (w:=w) (base:=base) d_xgi T;have q_pi:=Lq (P:=l.prog) (w:=w) (base:=base) d_xpi T;have QQ:=Lr (P:=l.prog) (w:=w) (base:=base) d_xfi T;have TN2:FF K mg HE NF TG NC TN1:=⟨TN,aNC,aTN1,tC1,tM1,z_xnf.par,fN1,uN2,rfl,nj⟩;have Cs:=Uz (P:=l.prog) (w:=w) (base:=base) Sj TN;have q_tg:=K8 (P:=l.prog) (w:=w) (base:=base) d_xtg TN;have q_nc:=UG (P:=l.prog) (w:=w) (base:=base) Sk TN2;have q_tm:=Lh (P:=l.prog) (w:=w) (base:=base) d_xtm TN2;have q_tl:=Bm d_xtl T TN q_tg;have q_ri:=A5 (P:=l.prog) (w:=w) (base:=base) d_xri T.touo.towu;have IX:=Fx (P:=l.prog) (w:=w) (base:=base) d_xrs T.touo.towu;have QR:=Bd d_xrt T.touo.towu TN IX Cs;have q_ra:=qY d_xra T.touo.towu QR;have q_rn:=uF d_xrn T.touo.towu TN IX q_if Cs;have QS:=uH d_xrc T.touo.towu q_rn;have q_rat:=xx Wa T.touo.towu TN IX QO q_is QS q_in Cs;have q_rps:=qo d_xrg d_xrp V9 T.touo IX QO q_rat QR QS q_gi 4;have q_rch:=qZ Wc T.toYB IX QR QS;have q_rl:=nv d_xrl T q_ra QQ;have q_rw:=uV d_xrw T IX QR QS q_rps q_rch q_rl q_pi QQ;have q_re:=Be d_xre T.touo.towu TN Cs;have q_rf0:=zp d_xrf TF q_tl q_ri q_rw q_re;have q_rf:=zF q_rf0;have q_ps:=xA d_xps d_xgs T.touo q_sh QP 1;have q_pS:=uZ 1 d_xpS T q_ps QP;have q_ch:=qr d_xch T QP;have q_fS:=DY 1 d_xfS T q_pS q_ch;have q_co:=HU (P:=l.prog) (w:=w) (base:=base) d_xco TA;have q_pc:=ve Sg d_xgc T.touo q_co 1;have q_pC:=rJ 1 d_xpC T q_pc;have q_pP:=Bx 1 Sg T q_pC;have q_fC:=Bz 1 d_xfC T q_pP;have p_ri:=A5 (P:=l.prog) (w:=w) (base:=base) e_xri TH.tom8.touo.towu;have IY:=Fx (P:=l.prog) (w:=w) (base:=base) e_xrs TH.tom8.touo.towu;have Ny:=Bd e_xrt TH.tom8.touo.towu TN IY Cs;have Wi:=qY e_xra TH.tom8.touo.towu Ny;have p_rn:=uF e_xrn TH.tom8.touo.towu TN IY q_if Cs;have QT:=uH e_xrc TH.tom8.touo.towu p_rn;have p_rat:=xx Wb TH.tom8.touo.towu TN IY QO q_is QT q_in Cs;have p_rps:=qo e_xrg e_xrp V' TH.tom8.touo IY QO p_rat Ny QT q_gi 4;have p_rch:=qZ Wd TH.tom8.toYB IY Ny QT;have p_rl:=nv e_xrl TH.tom8 Wi QQ;have p_rw:=uV e_xrw TH.tom8 IY Ny QT p_rps p_rch p_rl q_pi QQ;have q_ci:=LA (P:=l.prog) (w:=w) (base:=base) d_xci TH;have TKE:Rx K mg C Rc Gr Pc Fo Ch HE NF TG NC TN1 uK uN uB uE uM uC uP uI uD uL uT fT fU fV uG uS:=⟨TK,TN2⟩;have q_rm:=HZ d_xrm TK p_rn Ny p_rw;have q_rlf:=D7 We TK q_rm Wi;have q_rrf:=BF Wf TK q_rm Wi;have q_rsd:=D9 Wg TK q_rlf q_rrf q_ci;have Wj:=BJ QN TKE q_tl p_ri q_rsd q_nc q_tm Cs;have Wk:=wH d_xsc TK q_fS;have q_gn:=L9 d_xgn TK Wk;have q_am:=Eg d_xam TH q_fC;have q_kd:=Mf d_xkd TL q_fC;have q_sa:=vt d_xsa TL q_am;have q_lo:=P2 d_xlo TL q_sa q_kd;have q_ub:=Mv (P:=l.prog) (w:=w) (base:=base) Si TU;have q_ev:=zP d_xev TK TU Wj q_lo q_ub;have q_to:=Ek (P:=l.prog) (w:=w) (base:=base) d_xto;have q_mo:=Ql d_xmo TM Wk q_gn q_to;have q_tu:=Iw d_xtu TK q_gn;have q_sho:=Mt (P:=l.prog) (w:=w) (base:=base) Nw TE;have q_rfs:=Ip Wh TK TE q_mo q_tu Wk q_sho;have q_goa:=Mz d_xsy TO q_ev q_rfs q_tu;have q_ha:=P6 d_xsv TS q_rf;have q_pu:=U1 d_xsp TS q_ha;have q_si:=Mm d_xsi TS q_pu;have q_sk:=Ih (P:=l.prog) (w:=w) (base:=base) d_xss TS;have q_we:=MC (P:=l.prog) (w:=w) (base:=base) d_xsw TS;have Wl:=D0 (P:=l.prog) (w:=w) (base:=base) d_xca TA;have q_mi:=U6 (P:=l.prog) (w:=w) (base:=base) d_xmi;have q_wh:=Ll (P:=l.prog) (w:=w) (base:=base) d_xwh TA;have q_ki:=Ln (P:=l.prog) (w:=w) (base:=base) d_xki TA;have q_fg:=DZ (P:=l.prog) (w:=w) (base:=base) d_xfg TA;have q_lm:=Ij d_xlm TS q_fg;have q_lw:=MI d_xlw TS Wl q_mi q_ki q_lm;have q_lc:=Er (P:=l.prog) (w:=w) (base:=base) d_xlc TL;have q_lt:=MQ (P:=l.prog) (w:=w) (base:=base) d_xlt TA;have q_lk:=MG (P:=l.prog) (w:=w) (base:=base) d_xlk;have q_lx:=MM (P:=l.prog) (w:=w) (base:=base) d_xlx TS;have q_la:=Qn d_xla TS q_wh;have TV:VI K mg C Rd Gr Pc Fo St HE Sh Ub NC uK uN uB uE uM uC uP uI uD uL uT:=⟨TS,TE,Cr,Ad,aUb,aNC,uU1,uC1,⟨t1U,t2,t3⟩,⟨t1C,t2,t3⟩,⟨tV _,mI wU yU mSU uS2,mI wC yC mSC uS2⟩,⟨mI wS yS mUS uU2,tV _,mI wC yC mUC uU2⟩,⟨mI wS yS mCS uC2,mI wU yU mCU uC2,tV _⟩,yy Nx,yy Sl,yy Sm,fU1,fU2,fU3,fC1⟩;have q_lr:=VH d_xlr TA q_lc Wl;have q_lv:=IB d_xlv TK q_lk;have q_lh:=IH d_xlh TA q_lt;have q_ld:=QA d_xld TV Nx Sl Sm q_goa;have q_ls:=Nh d_xls TS q_ha q_sk q_la q_we q_wh;exact VY Flaw TV q_lw q_lx Wl q_lr q_si q_lh q_lv q_ld q_ls q_sk q_we
def walk{l:PySem.W.OpenLaw}{q:On}{loose:IR}{XP:(Str->Option Value)->Heap->Prop}{YP:World->Heap->Prop}{d:DefRec}{K:Params->PySem.W.Frag}(hn:l.most=some 63)(XS:d.params.defaults=[])
  (hY:∀(w:8e8) (h:Heap),YP w h->(K w.params).In h)
  (F:∀(w:8e8) (mg:Wp) (fa:Ps) (h:Heap),(K w.params).In h->h.Ns mainGlobals mg->mg d.name=some (.ref fa)->
   ∃fd:FuncData,(∀(s:Op) (u:Pn),BindsTo s fd ⟨[u],[]⟩ [("_law_script",u)])/\∀base:Heap,(K w.params).In base->base.Ns mainGlobals mg->fB l.prog w (K w.params) mg base oC 29 fa fd ["_law_script"] (GL (K w.params))):
  PySem.W.WalkO q loose XP YP l.row.toRowW d [] (λf vs=>PySem.call f vs):=
 L2.Ou (n:=63) (k:=29) (x:="_law_script") (CX:=λ_=>oC) (sp:=λw=>GL (K w.params)) hn 0e1 XS ⟨rfl,by decide,by decide⟩ hY F (λ_ _ a ns hl _ hS=>⟨a,ns,rfl,hS,hl,λ_=>rfl⟩) λ_ _ _ _ _ z=>z
end K54
open PySem PySem.W PyProof.Rows
set_option maxRecDepth 100000 in
set_option maxHeartbeats 0 in
theorem PySem.Challenge.cw_balancehall_k54_rows_go_or_stay_holds : PySem.Challenge.rw_balancehall_k54_rows_go_or_stay.Holds := by
 refine PySem.Challenge.hd ?_
 k_fill
 refine K54.walk (l:=PySem.Challenge.rw_balancehall_k54_rows_go_or_stay) rfl rfl (fun w h Y=>Y) ?F
 case F=>
  intro w mg fa h KX G XT
  apply K54.all_mk KX G XT
  all_goals repeat' first|k_is|exact PySem.W.mg_of KX G (by k_is) |exact PySem.W.mg_none_of KX G (by k_is) |exact(show PySem.W.findIn _ (.ref _) _=some none by k_is) |exact L2.AG|exact L2.yr|exact L2.Yp KX G (by k_is) ⟨⟨_,⟨⟨_,_,_,_,_,_,_,_,_,rfl,by k_is,by k_is⟩,by k_is⟩⟩,by k_is⟩ (by first|exact L2.ba1 fun _ _ _ _ _ _ _=>rfl|exact L2.ba2 fun _ _ _ _ _ _ _ _=>rfl|exact L2.ba3 fun _ _ _ _ _ _ _ _ _=>rfl|exact L2.ba4 fun _ _ _ _ _ _ _ _ _ _=>rfl|exact L2.ba5 fun _ _ _ _ _ _ _ _ _ _ _=>rfl) |exact L2.Yq (by k_is) ⟨⟨_,⟨⟨_,_,_,_,_,_,_,_,_,rfl,by k_is,by k_is⟩,by k_is⟩⟩,by k_is⟩ (by first|exact L2.ba1 fun _ _ _ _ _ _ _=>rfl|exact L2.ba2 fun _ _ _ _ _ _ _ _=>rfl|exact L2.ba3 fun _ _ _ _ _ _ _ _ _=>rfl|exact L2.ba4 fun _ _ _ _ _ _ _ _ _ _=>rfl|exact L2.ba5 fun _ _ _ _ _ _ _ _ _ _ _=>rfl) |exact L2.Yr (by k_is) (by k_is) (by k_is) ⟨⟨_,⟨⟨_,_,_,_,_,_,_,_,_,rfl,by k_is,by k_is⟩,by k_is⟩⟩,by k_is⟩ (by first|exact L2.ba1 fun _ _ _ _ _ _ _=>rfl|exact L2.ba2 fun _ _ _ _ _ _ _ _=>rfl|exact L2.ba3 fun _ _ _ _ _ _ _ _ _=>rfl|exact L2.ba4 fun _ _ _ _ _ _ _ _ _ _=>rfl|exact L2.ba5 fun _ _ _ _ _ _ _ _ _ _ _=>rfl) |exact L2.Ys ⟨⟨_,_,_,_,_,_,_,_,_,_,_,_,_,_,by k_is⟩,by k_is,by k_is,by k_is,by k_is,by k_is⟩ (PySem.W.mg_of KX G (by k_is)) (by k_is) ⟨⟨_,⟨⟨_,_,_,_,_,_,_,_,_,rfl,by k_is,by k_is⟩,by k_is⟩⟩,by k_is⟩ (by first|exact L2.ba1 fun _ _ _ _ _ _ _=>rfl|exact L2.ba2 fun _ _ _ _ _ _ _ _=>rfl|exact L2.ba3 fun _ _ _ _ _ _ _ _ _=>rfl|exact L2.ba4 fun _ _ _ _ _ _ _ _ _ _=>rfl|exact L2.ba5 fun _ _ _ _ _ _ _ _ _ _ _=>rfl) |exact L2.Ug (by k_is) (by k_is) (by k_is) (by k_is) (by k_is) (by k_is) (by k_is) (by k_is) (fun _ _ _ _ _ _ _ _ _=>⟨_,rfl,rfl⟩) (fun _ _ _ _ _ _ _ _ _ _=>⟨_,rfl,rfl⟩) |exact L2.Yx (by k_is) (by k_is) (by k_is) (by k_is) (by k_is) (by k_is) (by k_is) (by k_is) (fun _ _ _ _ _ _ _ _=>⟨_,rfl,rfl⟩) (fun _ _ _ _ _ _ _ _ _=>⟨_,rfl,rfl⟩) |exact⟨_,_,_,_,_,_,_,_,_,_,_,_,_,_,_,_,_,by k_is,by decide+kernel⟩ |exact⟨_,_,_,_,_,_,_,_,_,_,_,_,_,_,by k_is⟩ |constructor
