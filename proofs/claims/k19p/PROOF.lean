import PyProof.Rows.All
import Wide.All
import OpenK.AllK
import Wide.FinOn
import HandS.ForMost
import HandS.IsInst
import HandS.Wide
import HandS.ExcInit
import HandS.WordsExc
import HandS.SetKeys
import HandS.Zip
import HandS.Style
import HandS.Text
import HandS.Conv
import HandS.Walk
import HandS.TupAny
import HandS.ExcIs
import HandS.FStr
import KE.KCallOwn
import HandS.OwnEq
import PyProof.InstEq
import HandS.Defaults
import HandS.MakeKwOnly
import HandS.ExcField
import KE.KExcIs
import HandS.ExcValue
import HandS.MakeKw
import KE.DataMinMax
import HandS.Dict
import HandS.Iter
import HandS.DictTup
import KE.KDictWalk
import HandS.Codes
import HandS.StrMore
import KE.IntTextLaws
import HandS.EndTab
import HandS.HeadWalk
import PyProof.ReprRoads
import HandS.NestedK
import HandS.Lambda
import HandS.ClsMeth
import KE.KListMore
import HandS.More
import KE.KNestM
import PySem.Challenge.RW_farseen_k19_trays_made_changed_and_read
set_option Elab.async false
set_option linter.all false
set_option maxRecDepth 100000
set_option maxHeartbeats 8000000
namespace K19
open PySem PySem.Spec PyProof.Rows L2
def top (i : Nat) : Stmt := PySem.Challenge.pw_farseen_k19_trays_made_changed_and_read.main.body.getD i (.Pass ⟨0, 0, 0, 0⟩)
def inClass (s : Stmt) (i : Nat) : Stmt := match s with
  | .ClassDef _ _ _ b _ _ _ _ _ _ _ => b.getD i (.Pass ⟨0, 0, 0, 0⟩)
  | _ => .Pass ⟨0, 0, 0, 0⟩
/-! ### values: kinds -/
def isI : V → Bool
  | .int _ => true
  | _ => false
/-- what is told of the class of pictures, so that isinstance asks its instances -/
structure PicC (K : PySem.W.Frag) (C : Addr) : Prop where
  cls : Cls K C
  ha : PySem.W.findIn K (.ref C) "__class__" = some (some (.builtin "object.__class__"))
  hn : PySem.W.specialIn K (.builtin "object.__class__") "__get__" = some (some (.builtin "getset_descriptor.__get__"))
  ht : PySem.W.takesIn K (.builtin "object.__class__") = some true
  hm : PySem.W.mroIn K C (.type "object") = some true
  ki : PySem.W.kitOne K (.ref C) (.type "int") = some false
  kb : PySem.W.kitOne K (.ref C) (.type "bool") = some false
  kt : PySem.W.kitOne K (.ref C) (.type "tuple") = some false
  ks : PySem.W.kitAny K (.ref C) [.type "list", .type "tuple"] = some false
/-- a value of a kind that is looked at; whether it is a list or a tuple -/
inductive Kd (K : PySem.W.Frag) (H : Hp) : V → Bool → Prop
  | non : Kd K H .non false
  | bl (b : Bool) : Kd K H (.bl b) false
  | int (i : Int) : Kd K H (.int i) false
  | str (x : Str) : Kd K H (.str x) false
  | lst {a : Addr} {xs : List V} (e : H a = some (.lst xs)) : Kd K H (.ref a) true
  | tup {a : Addr} {xs : List V} (e : H a = some (.tup xs)) : Kd K H (.ref a) true
  | dK {a : Addr} {kvs : List (Key × V)} (e : H a = some (.dK kvs)) : Kd K H (.ref a) false
  | ins {a C dx : Addr} {fs : List (Str × V)} (e : H a = some (.ins C dx fs)) (P : PicC K C) : Kd K H (.ref a) false
theorem Kd.same {K : PySem.W.Frag} {H H' : Hp} {v : V} {t : Bool} (k : Kd K H v t) (s : Same H H') : Kd K H' v t := by
  cases k with
  | non => exact .non
  | bl b => exact .bl b
  | int i => exact .int i
  | str x => exact .str x
  | lst e => exact .lst (s _ _ e)
  | tup e => exact .tup (s _ _ e)
  | dK e => exact .dK (s _ _ e)
  | ins e P => exact .ins (s _ _ e) P
theorem no_two {K : PySem.W.Frag} {x : String} (h1 : kitB x "list" = some false) (h2 : kitB x "tuple" = some false) : PySem.W.kitAny K (.type x) [.type "list", .type "tuple"] = some false :=
  kitAny_cons (kit_ty h1) (fun _ => kitAny_cons (kit_ty h2) (fun _ => kitAny_nil) (fun z => nomatch z)) (fun z => nomatch z)
/-- what isinstance is told of it -/
theorem Kd.told {K : PySem.W.Frag} {H : Hp} {v : V} {t : Bool} (k : Kd K H v t) : ∃ (u : Value) (b c : Bool), TyX K H v u ∧ PySem.W.kitOne K u (.type "int") = some b ∧ PySem.W.kitOne K u (.type "bool") = some c ∧ (b && !c) = isI v ∧ PySem.W.kitAny K u [.type "list", .type "tuple"] = some t := by
  cases k with
  | non => exact ⟨_, _, _, .base .non, kit_ty (by decide +kernel : kitB _ _ = some false), kit_ty (by decide +kernel : kitB _ _ = some false), rfl, no_two (by decide +kernel) (by decide +kernel)⟩
  | bl b => exact ⟨_, _, _, .base (.bl b), kit_ty (by decide +kernel : kitB _ _ = some true), kit_ty (by decide +kernel : kitB _ _ = some true), rfl, no_two (by decide +kernel) (by decide +kernel)⟩
  | int i => exact ⟨_, _, _, .base (.int i), kit_ty (by decide +kernel : kitB _ _ = some true), kit_ty (by decide +kernel : kitB _ _ = some false), rfl, no_two (by decide +kernel) (by decide +kernel)⟩
  | str x => exact ⟨_, _, _, .base (.str x), kit_ty (by decide +kernel : kitB _ _ = some false), kit_ty (by decide +kernel : kitB _ _ = some false), rfl, no_two (by decide +kernel) (by decide +kernel)⟩
  | lst e => exact ⟨_, _, _, .base (.lst e), kit_ty (by decide +kernel : kitB _ _ = some false), kit_ty (by decide +kernel : kitB _ _ = some false), rfl, kitAny_cons (kit_ty (by decide +kernel : kitB _ _ = some true)) (fun z => nomatch z) (fun _ => rfl)⟩
  | tup e => exact ⟨_, _, _, .base (.tup e), kit_ty (by decide +kernel : kitB _ _ = some false), kit_ty (by decide +kernel : kitB _ _ = some false), rfl, kitAny_cons (kit_ty (by decide +kernel : kitB _ _ = some false)) (fun _ => kitAny_cons (kit_ty (by decide +kernel : kitB _ _ = some true)) (fun z => nomatch z) (fun _ => rfl)) (fun z => nomatch z)⟩
  | dK e => exact ⟨_, _, _, .base (.dK e), kit_ty (by decide +kernel : kitB _ _ = some false), kit_ty (by decide +kernel : kitB _ _ = some false), rfl, no_two (by decide +kernel) (by decide +kernel)⟩
  | ins e P => exact ⟨_, _, _, .base (.ins e P.cls P.ha P.hn P.ht P.hm), P.ki, P.kb, rfl, P.ks⟩
/-- a list or a tuple of these -/
def Sq (H : Hp) (a : Addr) (xs : List V) : Prop := H a = some (.lst xs) ∨ H a = some (.tup xs)
theorem Sq.same {H H' : Hp} {a : Addr} {xs : List V} (k : Sq H a xs) (s : Same H H') : Sq H' a xs := k.elim (fun e => .inl (s _ _ e)) (fun e => .inr (s _ _ e))
theorem Sq.kd {K : PySem.W.Frag} {H : Hp} {a : Addr} {xs : List V} (k : Sq H a xs) : Kd K H (.ref a) true := k.elim (fun e => .lst e) (fun e => .tup e)
theorem same_new {H : Hp} {p : Addr} {o : HO} (h : H p = none) : Same H (upd H p o) := fun b u e => by
  rw [upd_ne (ne_of_none e h)]
  exact e
theorem Same.me {H : Hp} : Same H H := fun _ _ e => e
theorem take_more {α : Type} : ∀ {l : List α} {i : Nat} {x : α}, l[i]? = some x → l.take (i + 1) = l.take i ++ [x]
  | [], i, x, h => by simp at h
  | a :: l, 0, x, h => by
    have e : a = x := Option.some.inj h
    subst e
    rfl
  | a :: l, i + 1, x, h => by
    have ih := take_more (l := l) (i := i) (x := x) h
    show a :: l.take (i + 1) = a :: l.take i ++ [x]
    rw [ih]
    rfl
/-! ### the built-in names -/
structure Bn (mg : Str → Option Value) : Prop where
  isinstance : mg "isinstance" = none
  int : mg "int" = none
  bool : mg "bool" = none
  list : mg "list" = none
  tuple : mg "tuple" = none
  all : mg "all" = none
  len : mg "len" = none
  range : mg "range" = none
  abs : mg "abs" = none
  str : mg "str" = none
  sum : mg "sum" = none
  min : mg "min" = none
  enumerate : mg "enumerate" = none
  max : mg "max" = none
  any : mg "any" = none
  set : mg "set" = none
/-- a def that may be called by its name -/
def Callee (P : Program) (w : World) (K : PySem.W.Frag) (mg : Str → Option Value) (base : Heap) (CX : CXT) (k : Nat) (x : Str) (ps : List Str) (sp : Sp) : Prop :=
  ∃ (f : Addr) (fd : FuncData), mg x = some (.ref f) ∧ PySem.W.keepIn K (.ref f) = true ∧ Binds K fd ps [] ∧ FnOk P w K mg base CX k f fd ps sp
def RB (b : Bool) (H : Hp) (Q : VK) : Prop := ∀ H', Same H H' → Q (.bl b) H'
section
variable {P : Program} {w : World} {K : PySem.W.Frag} {mg : Str → Option Value} {base : Heap}
/-! ### is_integer -/
def spInt (K : PySem.W.Frag) : Sp := fun vs H Q _ => ∃ v t, vs = [v] ∧ Kd K H v t ∧ Q (.bl (isI v)) H
abbrev sInt : Stmt := top 11
theorem scInt : FnScope ["value"] ["value"] (defScope sInt) := ⟨rfl, rfl, rfl, by decide +kernel, rfl, by decide +kernel, by decide +kernel⟩
theorem ok_int {f : Addr} {fd : FuncData} (F : Fun K "is_integer" "is_integer" sInt f fd) (B : Bn mg) : FnOk P w K mg base CX0 1 f fd ["value"] (spInt K) := by
  refine F.ok scInt (fun vs H Q E h => ?_) (fun cdv A outer s H vs Q E hr h => ?_)
  · obtain ⟨v, t, rfl, _⟩ := h
    rfl
  · obtain ⟨v, t, rfl, k, q⟩ := h
    refine ⟨_, pss_one (ps_ret (pe_and ((pe_callB (r := rIsi K) call_isi (by rfl) B.isinstance boot_isinstance (pa_cons (pv 0) (pa_cons (pe_bltn (v := .ty "int") (by rfl) B.int (by decide +kernel) rfl) pa_nil)))) (pe_one (pe_not (pe_callB (r := rIsi K) call_isi (by rfl) B.isinstance boot_isinstance (pa_cons (pv 0) (pa_cons (pe_bltn (v := .ty "bool") (by rfl) B.bool (by decide +kernel) rfl) pa_nil))))))), ?_⟩
    obtain ⟨u, b, c, ty, hb, hc, e, _⟩ := k.told
    refine ⟨_, rfl, _, _, _, _, b, rfl, .ty _, ty, hb, b, rfl, ?_⟩
    cases b with
    | true =>
      refine iteT ⟨_, rfl, _, _, _, _, c, rfl, .ty _, ty, hc, c, rfl, ?_⟩
      rw [← e] at q
      simpa using q
    | false =>
      refine iteF ?_
      rw [← e] at q
      simpa using q
/-! ### is_list -/
def spIsList (K : PySem.W.Frag) : Sp := fun vs H Q _ => ∃ v t, vs = [v] ∧ Kd K H v t ∧ RB t H Q
abbrev sIsList : Stmt := top 13
theorem scIsList : FnScope ["value"] ["value"] (defScope sIsList) := ⟨rfl, rfl, rfl, by decide +kernel, rfl, by decide +kernel, by decide +kernel⟩
theorem ok_isList {f : Addr} {fd : FuncData} (F : Fun K "is_list" "is_list" sIsList f fd) (B : Bn mg) : FnOk P w K mg base CX0 1 f fd ["value"] (spIsList K) := by
  refine F.ok scIsList (fun vs H Q E h => ?_) (fun cdv A outer s H vs Q E hr h => ?_)
  · obtain ⟨v, t, rfl, _⟩ := h
    rfl
  · obtain ⟨v, t, rfl, k, q⟩ := h
    refine ⟨_, pss_one (ps_ret (pe_callB call_isiT (by rfl) B.isinstance boot_isinstance (pa_cons (pv 0) (pa_cons (pe_tup (pa_cons (pe_bltn (v := .ty "list") (by rfl) B.list (by decide +kernel) rfl) (pa_cons (pe_bltn (v := .ty "tuple") (by rfl) B.tuple (by decide +kernel) rfl) pa_nil))) pa_nil)))), ?_⟩
    refine ⟨_, rfl, by show 2 ≤ sizeLine; decide, fun p hp => ?_⟩
    obtain ⟨u, _, _, ty, _, _, _, hs⟩ := (k.same (same_new (o := .tup [.ty "list", .ty "tuple"]) hp)).told
    exact ⟨_, p, _, _, _, t, rfl, upd_same, .cons (.ty _) (.cons (.ty _) .nil), ty, hs, q _ (same_new hp)⟩
/-! ### is_within -/
def within (v : V) (l m : Int) : Bool := match v with
  | .int n => decide (l ≤ n) && decide (n ≤ m)
  | _ => false
def spWithin (K : PySem.W.Frag) : Sp := fun vs H Q _ => ∃ v t l m, vs = [v, .int l, .int m] ∧ Kd K H v t ∧ Q (.bl (within v l m)) H
abbrev sWithin : Stmt := top 12
theorem scWithin : FnScope ["value", "least", "most"] ["value", "least", "most"] (defScope sWithin) := ⟨rfl, rfl, rfl, by decide +kernel, rfl, by decide +kernel, by decide +kernel⟩
theorem ok_within {f : Addr} {fd : FuncData} (F : Fun K "is_within" "is_within" sWithin f fd) (C1 : Callee P w K mg base CX0 1 "is_integer" ["value"] (spInt K)) : FnOk P w K mg base CX0 2 f fd ["value", "least", "most"] (spWithin K) := by
  obtain ⟨f1, fd1, m1, k1, b1, G1⟩ := C1
  refine F.ok scWithin (fun vs H Q E h => ?_) (fun cdv A outer s H vs Q E hr h => ?_)
  · obtain ⟨v, t, l, m, rfl, _⟩ := h
    rfl
  · obtain ⟨v, t, l, m, rfl, k, q⟩ := h
    refine ⟨_, (pss_cons (ps_if (pt_not (pt_val (pe_call G1 (hr.mono (by decide)) rfl m1 k1 b1 .nil pass0 (pa_cons (pv 0) pa_nil)))) (pss_one (ps_ret pe_bl)) pss_nil) (pss_one (ps_ret (pe_and ((pe_or (pe_cmpR op_isN (pv 1) pe_non (nomark _)) (pe_one (pe_cmpR op_le (pv 1) (pv 0) (nomark _))))) (pe_one ((pe_or (pe_cmpR op_isN (pv 2) pe_non (nomark _)) (pe_one (pe_cmpR op_le (pv 0) (pv 2) (nomark _)))))))))), ?_⟩
    refine ⟨_, rfl, v, t, rfl, k, _, rfl, ?_⟩
    cases e : isI v with
    | false =>
      refine iteT ?_
      have : within v l m = false := by
        cases v <;> first | rfl | cases e
      rw [this] at q
      exact q
    | true =>
      obtain ⟨n, rfl⟩ : ∃ n, v = .int n := by
        cases v <;> first | exact ⟨_, rfl⟩ | cases e
      have q : Q (.bl (decide (l ≤ n) && decide (n ≤ m))) H := q
      refine iteF ⟨_, rfl, rfl, _, rfl, iteF ⟨_, rfl, _, rfl, _, _, rfl, rfl, _, rfl, ?_⟩⟩
      by_cases hl : l ≤ n
      · rw [decide_eq_true hl] at q ⊢
        exact iteT ⟨_, rfl, rfl, _, rfl, iteF ⟨_, rfl, _, rfl, _, _, rfl, rfl, q⟩⟩
      · rw [decide_eq_false hl] at q ⊢
        exact iteF q
end
end K19

namespace K19
open PySem PySem.Spec PyProof.Rows L2
theorem paired_get {α β : Type} {R : α → β → Prop} {xs : List α} {ys : List β} (h : Paired R xs ys) : ∀ {i : Nat} {x : α}, xs[i]? = some x → ∃ y, ys[i]? = some y ∧ R x y := by
  induction h with
  | nil =>
    intro i x e
    simp at e
  | cons a _ ih =>
    intro i x e
    cases i with
    | zero =>
      have z := Option.some.inj e
      subst z
      exact ⟨_, rfl, a⟩
    | succ i => exact ih (by simpa using e)
theorem len100 {α β : Type} {xs : List α} (h : xs.length ≤ 100) (i : Nat) (f : α → β) : ((xs.take i).map f).length < sizeLine := by
  rw [List.length_map, List.length_take]
  exact small1000 (Nat.le_trans (Nat.min_le_right _ _) (by omega))
theorem all_id {xs : List V} {f : V → Bool} : (xs.map f).all id = xs.all f := by
  rw [List.all_map]
  rfl
/-- the list that a comprehension has made so far -/
def At (H0 : Hp) (D : Addr) (ys : List V) (H : Hp) : Prop := Same H0 H ∧ H D = some (.lst ys)
theorem At.step {H0 H H1 : Hp} {D : Addr} {ys zs : List V} {y : V} (hD : H0 D = none) (p : At H0 D ys H) (s : Same H H1) (e : zs = ys ++ [y]) : At H0 D zs (upd H1 D (.lst (ys ++ [y]))) := by
  refine ⟨fun b o h => ?_, by rw [upd_same, e]⟩
  rw [upd_ne (ne_of_none h hD)]
  exact s _ _ (p.1 b o h)
def rTu (K : PySem.W.Frag) : List V → Hp → VK → Prop := fun xs H Q => ∃ p ys, xs = [.ref p] ∧ ((SqL K H p ys ∧ ∀ l, H l = none → Q (.ref l) (upd H l (.tup ys))) ∨ (SqT K H p ys ∧ Q (.ref p) H))
theorem call_tu {X : Cx} : CallR X (.type "tuple") (rTu X.K) := call_tuple_of
def rLi (K : PySem.W.Frag) : List V → Hp → VK → Prop := fun xs H Q => ∃ p ys, xs = [.ref p] ∧ (SqL K H p ys ∨ SqT K H p ys) ∧ ∀ l, H l = none → Q (.ref l) (upd H l (.lst ys))
theorem call_li {X : Cx} : CallR X (.type "list") (rLi X.K) := call_list_of
section
variable {X : Cx} {K : PySem.W.Frag}
theorem call_tuK (h : X.K = K := by rfl) : CallR X (.type "tuple") (rTu K) := by subst h; exact call_tu
theorem call_liK (h : X.K = K := by rfl) : CallR X (.type "list") (rLi K) := by subst h; exact call_li
theorem sl_tupK (h : X.K = K := by rfl) : SlR X (rSlT K) := by subst h; exact sl_tup
theorem sl_listK (h : X.K = K := by rfl) : SlR X (rSlL K) := by subst h; exact sl_list
theorem ix_tupK (h : X.K = K := by rfl) : IxR X (rIxT K) := by subst h; exact ix_tup
theorem ix_listK (h : X.K = K := by rfl) : IxR X (rIxL K) := by subst h; exact ix_list
theorem pi_tupK {tg l : Expr} {tl : TE} (K : PySem.W.Frag) (hl : PE X l tl) (h : X.K = K := by rfl) : PI X tg l (iTup K tl) := by subst h; exact pi_tup hl
theorem pi_listK {tg l : Expr} {tl : TE} (K : PySem.W.Frag) (hl : PE X l tl) (h : X.K = K := by rfl) : PI X tg l (iList K tl) := by subst h; exact pi_list hl
theorem ix_seqK (h : X.K = K := by rfl) : IxR X (rIx K) := by subst h; exact ix_seq
end
theorem sIx1 (n : Nat) : HT.sIx n 0 (some 1) = min 1 n := HT.sIx_nat n 0 1
theorem cut1 {xs : List V} (h : 1 ≤ xs.length) : cutV xs (some 1) none = xs.drop 1 := by
  unfold cutV
  have e : HT.sIx xs.length 0 (some 1) = 1 := by
    rw [sIx1]
    omega
  rw [e]
  show (xs.drop 1).take (xs.length - 1) = _
  rw [List.take_of_length_le (by rw [List.length_drop]; exact Nat.le_refl _)]
theorem paired_of {α β : Type} {R : α → β → Prop} {xs : List α} {ys : List β} (h : Paired R xs ys) {i : Nat} {y : β} (e : ys[i]? = some y) : ∃ x, xs[i]? = some x ∧ R x y := by
  induction h generalizing i with
  | nil => simp at e
  | cons a _ ih =>
    cases i with
    | zero =>
      have z := Option.some.inj e
      subst z
      exact ⟨_, rfl, a⟩
    | succ i => exact ih (by simpa using e)
theorem ints_at {ns : List Int} {i : Nat} (h : i < ns.length) : atI (ns.map V.int) (i : Int) = some (.int (ns.getD i 0)) := atI_nat (by rw [List.getElem?_map, List.getElem?_eq_getElem h, List.getD_eq_getElem?_getD, List.getElem?_eq_getElem h]; rfl)
def Bd (ns : List Int) : Prop := ∀ n ∈ ns, -(2 ^ 40) < n ∧ n < 2 ^ 40
theorem Bd.get {ns : List Int} (h : Bd ns) (i : Nat) : -(2 ^ 40) < ns.getD i 0 ∧ ns.getD i 0 < 2 ^ 40 := by
  rw [List.getD_eq_getElem?_getD]
  cases e : ns[i]? with
  | none => exact ⟨by decide, by decide⟩
  | some n => exact h n (List.mem_of_getElem? e)
theorem nodup_at {fs : List Addr} (nd : fs.Nodup) {i j : Nat} {f : Addr} (h1 : fs[i]? = some f) (h2 : fs[j]? = some f) : i = j := by
  have a : i < fs.length := by
    rcases Nat.lt_or_ge i fs.length with h | h
    · exact h
    · rw [List.getElem?_eq_none h] at h1
      cases h1
  exact (List.getElem?_inj a nd).mp (h1.trans h2.symm)
theorem ixN_nat {n j : Nat} (h : j < n) : ixN n (j : Int) = some j := by
  unfold ixN
  first
    | (rw [if_neg (by omega), if_pos (by omega)]; simp)
    | (simp; omega)
    | (split <;> simp_all <;> omega)
theorem pe_fldK {X : Cx} {e : Expr} {ta : TE} {f : Str} {pos : Pos} (K : PySem.W.Frag) (he : PE X e ta) (hb : attributeBase e f X.env (eval e X.env) = eval e X.env) (h : X.K = K := by rfl) : PE X (.Attribute e f pos) (tFld K ta f) := by subst h; exact pe_fld he hb
theorem cut_from {xs : List V} {k : Nat} (h : k ≤ xs.length) : cutV xs (some (k : Int)) none = xs.drop k := by
  unfold cutV
  have e : HT.sIx xs.length 0 (some (k : Int)) = k := by
    rw [HT.sIx_nat]
    omega
  rw [e]
  show (xs.drop k).take (xs.length - k) = _
  rw [List.take_of_length_le (by rw [List.length_drop]; exact Nat.le_refl _)]
theorem cut_to {xs : List V} {k : Nat} (h : k ≤ xs.length) : cutV xs none (some (k : Int)) = xs.take k := by
  unfold cutV
  have e : HT.sIx xs.length xs.length (some (k : Int)) = k := by
    rw [HT.sIx_nat]
    omega
  rw [e]
  rfl
theorem paired_take {α β : Type} {R : α → β → Prop} {xs : List α} {ys : List β} (h : Paired R xs ys) : ∀ n, Paired R (xs.take n) (ys.take n) ∧ Paired R (xs.drop n) (ys.drop n) := by
  induction h with
  | nil => exact fun n => ⟨by rw [List.take_nil, List.take_nil]; exact .nil, by rw [List.drop_nil, List.drop_nil]; exact .nil⟩
  | cons a t ih => exact fun n => match n with
    | 0 => ⟨.nil, .cons a t⟩
    | n + 1 => ⟨.cons a (ih n).1, (ih n).2⟩
theorem paired_app {α β : Type} {R : α → β → Prop} {xs us : List α} {ys vs : List β} (h : Paired R xs ys) (k : Paired R us vs) : Paired R (xs ++ us) (ys ++ vs) := by
  induction h with
  | nil => exact k
  | cons a _ ih => exact .cons a ih
theorem paired_snoc {α β : Type} {R : α → β → Prop} {xs : List α} {ys : List β} {x : α} {y : β} (h : Paired R xs ys) (r : R x y) : Paired R (xs ++ [x]) (ys ++ [y]) := by
  induction h with
  | nil => exact .cons r .nil
  | cons a _ ih => exact .cons a ih
end K19

namespace K19
open PySem PySem.Spec PyProof.Rows L2
/-- a comprehension without a test keeps every item -/
theorem yes_of {T N : Hp → Prop} {σ : L2.St} {H : Hp} (h : T H) : tYes σ H fun b H3 => if b = true then T H3 else N H3 := by
  show if true = true then T H else N H
  rw [if_pos rfl]
  exact h
def rLen (K : PySem.W.Frag) : List V → Hp → VK → Prop := fun xs H Q => ∃ p ys, xs = [.ref p] ∧ (SqL K H p ys ∨ SqT K H p ys) ∧ Q (.int (ys.length : Nat)) H
theorem call_lenK {X : Cx} {K : PySem.W.Frag} (h : X.K = K := by rfl) : CallR X (.builtin "len") (rLen K) := by subst h; exact call_len_seq
/-! ### walks over a list or a tuple, by one reading -/
def iSq (K : PySem.W.Frag) (tl : TE) : TI := fun σ H R => iList K tl σ H R ∨ iTup K tl σ H R
theorem pi_sq {X : Cx} {tg l : Expr} {tl : TE} (K : PySem.W.Frag) (hl : PE X l tl) (h : X.K = K := by rfl) : PI X tg l (iSq K tl) := by
  subst h
  exact ⟨fun pins s σ H R I z => z.elim ((pi_list hl).run pins s σ H R I) ((pi_tup hl).run pins s σ H R I)⟩
/-- a comprehension over it -/
theorem lcq {K : PySem.W.Frag} {a : Addr} {xs : List V} {g : TG} {tt : TT} {te tl : TE} {vs : List Nat} {σ : L2.St} {H : Hp} {Q : VK} (ht : ∀ Q' : VK, Q' (.ref a) H → tl σ H Q') (sq : Sq H a xs) (Pv : Addr → Nat → Hp → Prop)
    (h0 : ∀ D, H D = none → Pv D 0 (upd H D (.lst []))) (same : ∀ D i H', H D = none → Pv D i H' → Same H H')
    (hs : ∀ D i x H', H D = none → xs[i]? = some x → Pv D i H' → g x (wipe σ vs) H' fun σ2 H2 => wipe σ2 vs = wipe σ vs ∧ tt σ2 H2 fun b H3 =>
      if b = true then te σ2 H3 fun y H4 => ∃ acc, H4 D = some (.lst acc) ∧ acc.length < sizeLine ∧ Pv D (i + 1) (upd H4 D (.lst (acc ++ [y]))) else Pv D (i + 1) H3)
    (hd : ∀ D H', H D = none → Pv D xs.length H' → Q (.ref D) H') : tLc (iSq K tl) g tt te vs σ H Q := by
  rcases sq with e | e
  · refine .inl (ht _ ⟨a, rfl, ⟨_, SqL.of e⟩, fun D hD => ?_⟩)
    exact lc_list (K := K) (a := a) (xs := xs) (Pv D) (h0 D hD) (fun i H' _ p => SqL.of (same D i H' hD p _ _ e)) (fun i x H' hx p => hs D i x H' hD hx p) (fun H' p => hd D H' hD p)
  · refine .inr (ht _ ⟨a, rfl, ⟨_, SqT.of e⟩, fun D hD => ?_⟩)
    exact lc_tup (K := K) (a := a) (xs := xs) (Pv D) (h0 D hD) (fun i H' _ p => SqT.of (same D i H' hD p _ _ e)) (fun i x H' hx p => hs D i x H' hD hx p) (fun H' p => hd D H' hD p)
/-- a for over it -/
theorem forq {K : PySem.W.Frag} {a : Addr} {xs : List V} {g : TG} {tb : TS} {tl : TE} {Dn : Ends} {σ : L2.St} {H : Hp} (ht : ∀ Q' : VK, Q' (.ref a) H → tl σ H Q') (sq : Sq H a xs) (Pv : Nat → L2.St → Hp → Prop) (h0 : Pv 0 σ H) (same : ∀ i σ' H', Pv i σ' H' → Same H H')
    (hs : ∀ i x σ' H', xs[i]? = some x → Pv i σ' H' → g x σ' H' fun σ2 H2 => tb { Dn with nx := Pv (i + 1), ct := Pv (i + 1), bk := Dn.nx } σ2 H2) (hd : ∀ σ' H', Pv xs.length σ' H' → Dn.nx σ' H') : tFor (iSq K tl) g tb Dn σ H := by
  rcases sq with e | e
  · refine .inl (ht _ ⟨a, rfl, ⟨_, SqL.of e⟩, ?_⟩)
    exact for_list (K := K) (a := a) (xs := xs) Pv h0 (fun i σ' H' _ p => SqL.of (same i σ' H' p _ _ e)) hs hd
  · refine .inr (ht _ ⟨a, rfl, ⟨_, SqT.of e⟩, ?_⟩)
    exact for_tup (K := K) (a := a) (xs := xs) Pv h0 (fun i σ' H' _ p => SqT.of (same i σ' H' p _ _ e)) hs hd
/-- .. whose items are flat values -/
theorem lcv {K : PySem.W.Frag} {a : Addr} {xs ys : List V} {g : TG} {te tl : TE} {vs : List Nat} {σ : L2.St} {H : Hp} {Q : VK} (ht : ∀ Q' : VK, Q' (.ref a) H → tl σ H Q') (sq : Sq H a xs) (ly : ys.length = xs.length) (l1 : xs.length ≤ 1000)
    (hs : ∀ (D : Addr) (i : Nat) (x y : V) (H' : Hp), H D = none → xs[i]? = some x → ys[i]? = some y → Same H H' → ∀ (T : VK) (N : Hp → Prop), (∀ H4, Same H' H4 → T y H4) → g x (wipe σ vs) H' fun σ2 H2 => wipe σ2 vs = wipe σ vs ∧ tYes σ2 H2 fun b H3 => if b = true then te σ2 H3 T else N H3)
    (hd : ∀ D H', H D = none → Same H H' → H' D = some (.lst ys) → Q (.ref D) H') : tLc (iSq K tl) g tYes te vs σ H Q := by
  refine lcq (xs := xs) ht sq (fun D i => At H D (ys.take i)) (fun D hD => ⟨same_new hD, upd_same⟩) (fun D i H' hD p => p.1) (fun D i x H' hD hx p => ?_) (fun D H' hD p => ?_)
  · have hi : i < xs.length := (List.getElem?_eq_some_iff.mp hx).1
    have hy : ys[i]? = some ys[i] := List.getElem?_eq_getElem (by omega)
    refine hs D i x ys[i] H' hD hx hy p.1 _ _ fun H4 s4 => ⟨_, s4 _ _ p.2, ?_, p.step hD s4 (take_more hy)⟩
    rw [List.length_take]
    exact small1000 (by omega)
  · rw [← ly, List.take_length] at p
    exact hd D H' hD p.1 p.2
/-- .. over a tuple that is made for it -/
theorem lcvT {K : PySem.W.Frag} {xs ys : List V} {g : TG} {te tl : TE} {vs : List Nat} {σ : L2.St} {H : Hp} {Q : VK} (ht : ∀ Q' : VK, (∀ H' c, Same H H' → H' c = some (.tup xs) → Q' (.ref c) H') → tl σ H Q') (ly : ys.length = xs.length) (l1 : xs.length ≤ 1000)
    (hs : ∀ (D : Addr) (i : Nat) (x y : V) (H1 H' : Hp), Same H H1 → H1 D = none → xs[i]? = some x → ys[i]? = some y → Same H1 H' → ∀ (T : VK) (N : Hp → Prop), (∀ H4, Same H' H4 → T y H4) → g x (wipe σ vs) H' fun σ2 H2 => wipe σ2 vs = wipe σ vs ∧ tYes σ2 H2 fun b H3 => if b = true then te σ2 H3 T else N H3)
    (hd : ∀ D H1 H', Same H H1 → H1 D = none → Same H1 H' → H' D = some (.lst ys) → Q (.ref D) H') : tLc (iTup K tl) g tYes te vs σ H Q := by
  refine ht _ fun H1 c s1 hc => ⟨c, rfl, ⟨_, SqT.of hc⟩, fun D hD => ?_⟩
  refine lc_tup (K := K) (a := c) (xs := xs) (fun i => At H1 D (ys.take i)) ⟨same_new hD, upd_same⟩ (fun i H' _ p => SqT.of (p.1 _ _ hc)) (fun i x H' hx p => ?_) (fun H' p => ?_)
  · have hi : i < xs.length := (List.getElem?_eq_some_iff.mp hx).1
    have hy : ys[i]? = some ys[i] := List.getElem?_eq_getElem (by omega)
    refine hs D i x ys[i] H1 H' s1 hD hx hy p.1 _ _ fun H4 s4 => ⟨_, s4 _ _ p.2, ?_, p.step hD s4 (take_more hy)⟩
    rw [List.length_take]
    exact small1000 (by omega)
  · rw [← ly, List.take_length] at p
    exact hd D H1 H' s1 hD p.1 p.2
/-- .. over a list that is made for it -/
theorem lcvL {K : PySem.W.Frag} {xs ys : List V} {g : TG} {te tl : TE} {vs : List Nat} {σ : L2.St} {H : Hp} {Q : VK} (ht : ∀ Q' : VK, (∀ H' c, Same H H' → H' c = some (.lst xs) → Q' (.ref c) H') → tl σ H Q') (ly : ys.length = xs.length) (l1 : xs.length ≤ 1000)
    (hs : ∀ (D : Addr) (i : Nat) (x y : V) (H1 H' : Hp), Same H H1 → H1 D = none → xs[i]? = some x → ys[i]? = some y → Same H1 H' → ∀ (T : VK) (N : Hp → Prop), (∀ H4, Same H' H4 → T y H4) → g x (wipe σ vs) H' fun σ2 H2 => wipe σ2 vs = wipe σ vs ∧ tYes σ2 H2 fun b H3 => if b = true then te σ2 H3 T else N H3)
    (hd : ∀ D H1 H', Same H H1 → H1 D = none → Same H1 H' → H' D = some (.lst ys) → Q (.ref D) H') : tLc (iList K tl) g tYes te vs σ H Q := by
  refine ht _ fun H1 c s1 hc => ⟨c, rfl, ⟨_, SqL.of hc⟩, fun D hD => ?_⟩
  refine lc_list (K := K) (a := c) (xs := xs) (fun i => At H1 D (ys.take i)) ⟨same_new hD, upd_same⟩ (fun i H' _ p => SqL.of (p.1 _ _ hc)) (fun i x H' hx p => ?_) (fun H' p => ?_)
  · have hi : i < xs.length := (List.getElem?_eq_some_iff.mp hx).1
    have hy : ys[i]? = some ys[i] := List.getElem?_eq_getElem (by omega)
    refine hs D i x ys[i] H1 H' s1 hD hx hy p.1 _ _ fun H4 s4 => ⟨_, s4 _ _ p.2, ?_, p.step hD s4 (take_more hy)⟩
    rw [List.length_take]
    exact small1000 (by omega)
  · rw [← ly, List.take_length] at p
    exact hd D H1 H' s1 hD p.1 p.2
/-- .. whose items are things, each good for one of bs -/
theorem lcg {K : PySem.W.Frag} {a : Addr} {xs : List V} {β : Type} {Good : HO → β → Prop} {bs : List β} {g : TG} {te tl : TE} {vs : List Nat} {σ : L2.St} {H : Hp} {Q : VK} (ht : ∀ Q' : VK, Q' (.ref a) H → tl σ H Q') (sq : Sq H a xs) (ly : bs.length = xs.length) (l1 : xs.length ≤ 1000)
    (hs : ∀ (D : Addr) (i : Nat) (x : V) (y : β) (H' : Hp), H D = none → xs[i]? = some x → bs[i]? = some y → Same H H' → (∃ acc, H' D = some (.lst acc)) → ∀ (T : VK) (N : Hp → Prop), (∀ r o H4, r ≠ D → Same H' H4 → H4 r = some o → Good o y → T (.ref r) H4) → g x (wipe σ vs) H' fun σ2 H2 => wipe σ2 vs = wipe σ vs ∧ tYes σ2 H2 fun b H3 => if b = true then te σ2 H3 T else N H3)
    (hd : ∀ D rs H', H D = none → Same H H' → H' D = some (.lst (rs.map V.ref)) → D ∉ rs → Paired (fun r b => ∃ o, H' r = some o ∧ Good o b) rs bs → Q (.ref D) H') : tLc (iSq K tl) g tYes te vs σ H Q := by
  refine lcq (xs := xs) ht sq (fun D i H' => Same H H' ∧ ∃ rs : List Addr, H' D = some (.lst (rs.map V.ref)) ∧ D ∉ rs ∧ Paired (fun r b => ∃ o, H' r = some o ∧ Good o b) rs (bs.take i)) (fun D hD => ⟨same_new hD, [], upd_same, List.not_mem_nil, .nil⟩) (fun D i H' hD p => p.1) (fun D i x H' hD hx p => ?_) (fun D H' hD p => ?_)
  · obtain ⟨s1, rs, hd1, nr, pr⟩ := p
    have hi : i < xs.length := (List.getElem?_eq_some_iff.mp hx).1
    have hy : bs[i]? = some bs[i] := List.getElem?_eq_getElem (by omega)
    have lr : rs.length ≤ i := by
      rw [Paired.length pr, List.length_take]
      exact Nat.min_le_left _ _
    refine hs D i x bs[i] H' hD hx hy s1 ⟨_, hd1⟩ _ _ fun r o H4 ne s4 hr go => ⟨_, s4 _ _ hd1, by rw [List.length_map]; exact small1000 (by omega), fun b u e => ?_, rs ++ [r], ?_, ?_, ?_⟩
    · rw [upd_ne (ne_of_none e hD)]
      exact s4 _ _ (s1 _ _ e)
    · rw [upd_same, List.map_append]
      rfl
    · intro z
      rcases List.mem_append.mp z with z | z
      · exact nr z
      · exact ne (List.mem_singleton.mp z).symm
    · rw [take_more hy]
      have all : ∀ {as : List Addr} {cs : List β}, D ∉ as → Paired (fun u b => ∃ o, H' u = some o ∧ Good o b) as cs → Paired (fun u b => ∃ o, (upd H4 D (.lst (rs.map V.ref ++ [V.ref r]))) u = some o ∧ Good o b) as cs := fun {as cs} nd p => by
        induction p with
        | nil => exact .nil
        | cons z _ ih =>
          obtain ⟨o', e', g'⟩ := z
          refine .cons ⟨o', ?_, g'⟩ (ih fun m => nd (List.mem_cons_of_mem _ m))
          rw [upd_ne (fun (q : _ = D) => nd (by rw [← q]; exact List.mem_cons_self))]
          exact s4 _ _ e'
      exact paired_app (all nr pr) (.cons ⟨o, by rw [upd_ne ne]; exact hr, go⟩ .nil)
  · obtain ⟨s1, rs, hd1, nr, pr⟩ := p
    rw [← ly, List.take_length] at pr
    exact hd D rs H' hD s1 hd1 nr pr
end K19

namespace K19
open PySem PySem.Spec PyProof.Rows L2
/-! ### rows of three to seven numbers -/
def G9 : Int := 1000000000
def inB (x : V) : Bool := within x (-G9) G9
def rowB (xs : List V) : Bool := decide (3 ≤ xs.length) && (decide (xs.length ≤ 7) && xs.all inB)
/-- a value judged as a row -/
inductive RowV (K : PySem.W.Frag) (H : Hp) : V → Bool → Prop
  | no {v : V} (k : Kd K H v false) : RowV K H v false
  | seq {a : Addr} {xs : List V} (hs : Sq H a xs) (hk : ∀ x ∈ xs, ∃ t, Kd K H x t) (hl : xs.length ≤ 100) : RowV K H (.ref a) (rowB xs)
theorem RowV.same {K : PySem.W.Frag} {H H' : Hp} {v : V} {b : Bool} (k : RowV K H v b) (s : Same H H') : RowV K H' v b := by
  cases k with
  | no k => exact .no (k.same s)
  | seq hs hk hl => exact .seq (hs.same s) (fun x hx => let ⟨t, k⟩ := hk x hx; ⟨t, k.same s⟩) hl
theorem Sq.len {K : PySem.W.Frag} {H : Hp} {a : Addr} {xs : List V} (h : Sq H a xs) : SqL K H a xs ∨ SqT K H a xs := h.elim (fun z => .inl (SqL.of z)) (fun z => .inr (SqT.of z))
section
variable {P : Program} {w : World} {K : PySem.W.Frag} {mg : Str → Option Value} {base : Heap}
/-! ### is_row -/
def spRow (K : PySem.W.Frag) : Sp := fun vs H Q _ => ∃ v b, vs = [v, .int 3, .int 7] ∧ RowV K H v b ∧ RB b H Q
abbrev sRow : Stmt := top 25
abbrev nRow : List Str := ["value", "fewest", "most", "item"]
theorem scRow : FnScope nRow ["value", "fewest", "most"] (defScope sRow) := ⟨rfl, rfl, rfl, by decide +kernel, rfl, by decide +kernel, by decide +kernel⟩
theorem ok_row {f : Addr} {fd : FuncData} (F : Fun K "is_row" "is_row" sRow f fd) (B : Bn mg) (L : ∃ t, mg "LIMIT" = some (.int 1000000000 t)) (C1 : Callee P w K mg base CX0 1 "is_list" ["value"] (spIsList K)) (C2 : Callee P w K mg base CX0 2 "is_within" ["value", "least", "most"] (spWithin K)) : FnOk P w K mg base CX0 3 f fd ["value", "fewest", "most"] (spRow K) := by
  obtain ⟨f1, fd1, m1, k1, b1, G1⟩ := C1
  obtain ⟨f2, fd2, m2, k2, b2, G2⟩ := C2
  obtain ⟨tL, mL⟩ := L
  have nd := scRow.nd
  refine F.ok scRow (fun vs H Q E h => ?_) (fun cdv A outer s H vs Q E hr h => ?_)
  · obtain ⟨v, b, rfl, _⟩ := h
    rfl
  · obtain ⟨v, b, rfl, j, q⟩ := h
    refine ⟨_, (pss_cons (ps_if (PW.pt (pw_or (pt_not (pt_val (pe_call G1 (hr.mono (by decide)) rfl m1 k1 b1 .nil pass0 (pa_cons (pv 0) pa_nil)))) (pw_or1 (pt_not (pt_chain op_le op_le (pv 1) (pe_callB call_len_seq (by rfl) B.len PySem.boot_len (pa_cons (pv 0) pa_nil)) (pv 2)))))) (pss_one (ps_ret pe_bl)) pss_nil) (pss_one (ps_ret (pe_callB (cr_all rfl) (by rfl) B.all boot_all (pa_cons ((pe_lc (own := [("item", 3)]) (g := gName 3) (tt := tYes) rfl nd (pi_sq K (pv 0)) (blkOk_by (N := nRow) (sc := defScope sRow) (by decide +kernel)) (fun _ _ _ _ _ => (pg_name (i := 3) nd rfl (Or.inl rfl))) (fun _ _ _ _ _ => pts_nil) (fun _ _ _ _ _ => (pe_call G2 (hr.mono (by decide)) rfl m2 k2 b2 .nil pass0 (pa_cons (pv 3) (pa_cons (pe_un un_neg (pe_glob (v := .int 1000000000) rfl mL ⟨_, rfl⟩)) (pa_cons (pe_glob (v := .int 1000000000) rfl mL ⟨_, rfl⟩) pa_nil))))))) pa_nil))))), ?_⟩
    cases j with
    | no k => exact ⟨_, rfl, v, false, rfl, k, fun H1 s1 => ⟨_, rfl, iteT (q _ s1)⟩⟩
    | @seq a xs hs hk hl =>
      refine ⟨_, rfl, _, true, rfl, hs.kd, fun H1 s1 => ⟨_, rfl, iteF ?_⟩⟩
      refine ⟨_, rfl, _, rfl, a, xs, rfl, (hs.same s1).len, _, _, rfl, rfl, _, rfl, ?_⟩
      by_cases h3 : 3 ≤ xs.length
      · rw [decide_eq_true (show (3 : Int) ≤ (xs.length : Int) by omega)]
        refine iteT ⟨_, rfl, _, _, rfl, rfl, _, rfl, ?_⟩
        by_cases h7 : xs.length ≤ 7
        · rw [decide_eq_true (show (xs.length : Int) ≤ 7 by omega)]
          refine iteF ?_
          dsimp only [tNext, tRet, tCB, tCons, tNil]
          refine (lcv (xs := xs) (ys := (xs.map inB).map V.bl) (fun Q' q' => ⟨_, rfl, q'⟩) (hs.same s1) (by rw [List.length_map, List.length_map]) (by omega) (fun D i x y H' hD hx hy s2 T N t => ?_) (fun D H' hD s2 hd => ?_))
          · obtain ⟨tx, kx⟩ := hk x (List.mem_of_getElem? hx)
            refine ⟨rfl, yes_of ?_⟩
            refine ⟨_, rfl, _, rfl, x, tx, _, _, rfl, (kx.same s1).same s2, ?_⟩
            have ey : y = .bl (inB x) := by
              rw [List.getElem?_map, List.getElem?_map, hx] at hy
              exact (Option.some.inj hy).symm
            subst ey
            exact t _ Same.me
          · refine ⟨D, xs.map inB, rfl, SqL.of hd, ?_⟩
            have e : rowB xs = (xs.map inB).all id := by
              unfold rowB
              rw [decide_eq_true h3, decide_eq_true h7, Bool.true_and, Bool.true_and, all_id]
            rw [← e]
            exact q _ (s1.trans s2)
        · have q2 := q _ s1
          have e : rowB xs = false := by
            unfold rowB
            rw [decide_eq_false h7, Bool.false_and, Bool.and_false]
          rw [e] at q2
          rw [decide_eq_false (show ¬ (xs.length : Int) ≤ 7 by omega)]
          exact iteT q2
      · have q2 := q _ s1
        have e : rowB xs = false := by
          unfold rowB
          rw [decide_eq_false h3]
          rfl
        rw [e] at q2
        rw [decide_eq_false (show ¬ (3 : Int) ≤ (xs.length : Int) by omega)]
        exact iteF ⟨_, rfl, iteT q2⟩
/-! ### _is_tray_row -/
def spTR (K : PySem.W.Frag) : Sp := fun vs H Q _ => ∃ v b, vs = [v] ∧ RowV K H v b ∧ RB b H Q
abbrev sTR : Stmt := top 37
theorem scTR : FnScope ["value"] ["value"] (defScope sTR) := ⟨rfl, rfl, rfl, by decide +kernel, rfl, by decide +kernel, by decide +kernel⟩
theorem ok_tr {f : Addr} {fd : FuncData} (F : Fun K "_is_tray_row" "_is_tray_row" sTR f fd) (L3 : ∃ t, mg "FEWEST_PINS" = some (.int 3 t)) (L7 : ∃ t, mg "MOST_PINS" = some (.int 7 t)) (C1 : Callee P w K mg base CX0 3 "is_row" ["value", "fewest", "most"] (spRow K)) : FnOk P w K mg base CX0 4 f fd ["value"] (spTR K) := by
  obtain ⟨f1, fd1, m1, k1, b1, G1⟩ := C1
  obtain ⟨t3, m3⟩ := L3
  obtain ⟨t7, m7⟩ := L7
  refine F.ok scTR (fun vs H Q E h => ?_) (fun cdv A outer s H vs Q E hr h => ?_)
  · obtain ⟨v, b, rfl, _⟩ := h
    rfl
  · obtain ⟨v, b, rfl, j, q⟩ := h
    refine ⟨_, pss_one (ps_ret (pe_call G1 (hr.mono (by decide)) rfl m1 k1 b1 .nil pass0 (pa_cons (pv 0) (pa_cons (pe_glob (v := .int 3) rfl m3 ⟨_, rfl⟩) (pa_cons (pe_glob (v := .int 7) rfl m7 ⟨_, rfl⟩) pa_nil))))), ?_⟩
    exact ⟨_, rfl, v, b, rfl, j, q⟩
end
/-- a row of these numbers, a list or a tuple -/
def Row (H : Hp) (v : V) (ns : List Int) : Prop := ∃ a, v = .ref a ∧ Sq H a (ns.map V.int)
theorem Row.same {H H' : Hp} {v : V} {ns : List Int} (h : Row H v ns) (s : Same H H') : Row H' v ns := let ⟨a, e, q⟩ := h; ⟨a, e, q.same s⟩
def OkR (ns : List Int) : Prop := 3 ≤ ns.length ∧ ns.length ≤ 7 ∧ ∀ n ∈ ns, -G9 ≤ n ∧ n ≤ G9
theorem Row.rowV {K : PySem.W.Frag} {H : Hp} {v : V} {ns : List Int} (h : Row H v ns) (ok : OkR ns) : RowV K H v true := by
  obtain ⟨a, rfl, q⟩ := h
  obtain ⟨h3, h7, hb⟩ := ok
  have z : RowV K H (.ref a) (rowB (ns.map V.int)) := .seq q (fun x hx => by
    obtain ⟨n, _, rfl⟩ := List.mem_map.mp hx
    exact ⟨_, .int n⟩) (by rw [List.length_map]; omega)
  have e : rowB (ns.map V.int) = true := by
    unfold rowB
    rw [List.length_map, decide_eq_true h3, decide_eq_true h7, Bool.true_and, Bool.true_and, List.all_map, List.all_eq_true]
    intro n hn
    obtain ⟨h1, h2⟩ := hb n hn
    show (decide (-G9 ≤ n) && decide (n ≤ G9)) = true
    rw [decide_eq_true h1, decide_eq_true h2]
    rfl
  rw [e] at z
  exact z
end K19

namespace K19
open PySem PySem.Spec PyProof.Rows L2
section
variable {P : Program} {w : World} {K : PySem.W.Frag} {mg : Str → Option Value} {base : Heap} {C : Addr}
/-! ### first_twice -/
/-- the first that stands twice -/
def TW (ks : List Key) (r : Option Key) : Prop := (r = none ∧ ks.Nodup) ∨ ∃ i k, ks[i]? = some k ∧ k ∈ ks.take i ∧ (ks.take i).Nodup ∧ r = some k
def seenS (ks : List Key) (i : Nat) : Key → Bool := fun k => (ks.take i).any fun j => decide (k = j)
theorem seenS_t {ks : List Key} {i : Nat} {k : Key} : seenS ks i k = true ↔ k ∈ ks.take i := by
  unfold seenS
  rw [List.any_eq_true]
  constructor
  · rintro ⟨j, hj, e⟩
    rw [of_decide_eq_true e]
    exact hj
  · intro h
    exact ⟨k, h, decide_eq_true rfl⟩
def rv : Option Key → V
  | none => .non
  | some k => kV k
theorem get_keys {ks : List Key} {i : Nat} {x : V} (h : (ks.map kV)[i]? = some x) : ∃ k, ks[i]? = some k ∧ x = kV k := by
  rw [List.getElem?_map] at h
  cases e : ks[i]? with
  | none =>
    rw [e] at h
    cases h
  | some z =>
    rw [e] at h
    exact ⟨z, rfl, (Option.some.inj h).symm⟩
def spFt : Sp := fun vs H Q _ => ∃ (a : Addr) (ks : List Key), vs = [.ref a] ∧ Sq H a (ks.map kV) ∧ ks.length ≤ 100 ∧ ∀ H' r, Same H H' → TW ks r → Q (rv r) H'
abbrev sFt : Stmt := top 14
abbrev nFt : List Str := ["values", "seen", "value"]
theorem scFt : FnScope nFt ["values"] (defScope sFt) := ⟨rfl, rfl, rfl, by decide +kernel, rfl, by decide +kernel, by decide +kernel⟩
theorem nodup_snoc {ks : List Key} {k : Key} (h : ks.Nodup) (hk : k ∉ ks) : (ks ++ [k]).Nodup := by
  rw [List.nodup_append]
  exact ⟨h, List.nodup_cons.mpr ⟨List.not_mem_nil, List.nodup_nil⟩, fun a ha b hb => by rw [List.mem_singleton.mp hb]; intro e; exact hk (e ▸ ha)⟩
theorem ok_ft {f : Addr} {fd : FuncData} (F : Fun K "first_twice" "first_twice" sFt f fd) (hset : mg "set" = none) : FnOk P w K mg base CX0 1 f fd ["values"] spFt := by
  have nd := scFt.nd
  refine F.ok scFt (fun vs H Q E h => ?_) (fun cdv A outer s H vs Q E hr h => ?_)
  · obtain ⟨a, ks, rfl, _⟩ := h
    rfl
  · obtain ⟨a, ks, rfl, hs, hl, q⟩ := h
    rcases hs with hs | hs
    · refine ⟨_, (pss_cons ((ps_set (i := 1) nd rfl (Or.inl rfl) (pe_callTy0 cr_set0K (by rfl) hset (by decide +kernel)))) (pss_cons (ps_for PassesOwn.never rfl (pi_list (pv 0)) (pg_name (i := 2) nd rfl (Or.inl rfl)) (pss_cons (ps_if (pt_cmpR or_sinK (pv 2) (pv 1) rfl) (pss_one (ps_ret (pv 2))) pss_nil) (pss_one (ps_expr (pe_saddK (pv 1) (pa_cons (pv 2) pa_nil)))))) (pss_one (ps_ret pe_non)))), ?_⟩
      refine ⟨rfl, fun p hp => ?_⟩
      have s0 := same_new (o := SetK P w p (fun _ => false) 0) hp
      refine ⟨_, rfl, a, rfl, ⟨_, SqL.of (s0 _ _ hs)⟩, ?_⟩
      refine for_list (xs := ks.map kV) (fun i σ H' => Same H H' ∧ (∃ v, σ = [some (.ref a), some (.ref p), v]) ∧ (ks.take i).Nodup ∧ ∃ n, n ≤ i ∧ H' p = some (SetK P w p (seenS ks i) n))
        ⟨s0, ⟨none, rfl⟩, List.nodup_nil, 0, Nat.le_refl _, upd_same⟩ (fun i σ H' _ p' => SqL.of (p'.1 _ _ hs)) ?_ ?_
      · rintro i x σ H' hx ⟨s1, ⟨v, rfl⟩, hnd, n, hn, hS⟩
        obtain ⟨k, hk, rfl⟩ := get_keys hx
        have hi : i < ks.length := by
          rcases Nat.lt_or_ge i ks.length with z | z
          · exact z
          · rw [List.getElem?_eq_none z] at hk
            cases hk
        refine ⟨_, rfl, _, rfl, k, p, _, n, rfl, rfl, hS, _, rfl, ?_⟩
        by_cases hm : k ∈ ks.take i
        · rw [seenS_t.mpr hm]
          exact iteT ⟨_, rfl, q _ (some k) s1 (.inr ⟨i, k, hk, hm, hnd, rfl⟩)⟩
        · have em : seenS ks i k = false := by
            cases e : seenS ks i k with
            | false => rfl
            | true => exact absurd (seenS_t.mp e) hm
          rw [em]
          refine iteF ⟨_, rfl, ⟨p, _, n, rfl, hS⟩, _, rfl, p, k, _, n, rfl, rfl, hS, Nat.lt_of_le_of_lt (show n + 1 ≤ 100 by omega) (by decide +kernel), ?_⟩
          refine ⟨fun b o eb => ?_, ⟨_, rfl⟩, ?_, if seenS ks i k = true then n else n + 1, ?_, ?_⟩
          · have nb : b ≠ p := ne_of_none eb hp
            rw [upd_ne nb]
            exact s1 b o eb
          · rw [take_more hk]
            exact nodup_snoc hnd hm
          · split <;> omega
          · rw [upd_same]
            have e : seenS ks (i + 1) = fun j => seenS ks i j || decide (j = k) := by
              funext j
              unfold seenS
              rw [take_more hk, List.any_append]
              simp
            rw [e]
            rfl
      · rintro σ H' ⟨s1, ⟨v, rfl⟩, hnd, n, hn, hS⟩
        rw [List.length_map, List.take_length] at hnd
        exact q _ none s1 (.inl ⟨rfl, hnd⟩)
    · refine ⟨_, (pss_cons ((ps_set (i := 1) nd rfl (Or.inl rfl) (pe_callTy0 cr_set0K (by rfl) hset (by decide +kernel)))) (pss_cons (ps_for PassesOwn.never rfl (pi_tup (pv 0)) (pg_name (i := 2) nd rfl (Or.inl rfl)) (pss_cons (ps_if (pt_cmpR or_sinK (pv 2) (pv 1) rfl) (pss_one (ps_ret (pv 2))) pss_nil) (pss_one (ps_expr (pe_saddK (pv 1) (pa_cons (pv 2) pa_nil)))))) (pss_one (ps_ret pe_non)))), ?_⟩
      refine ⟨rfl, fun p hp => ?_⟩
      have s0 := same_new (o := SetK P w p (fun _ => false) 0) hp
      refine ⟨_, rfl, a, rfl, ⟨_, SqT.of (s0 _ _ hs)⟩, ?_⟩
      refine for_tup (xs := ks.map kV) (fun i σ H' => Same H H' ∧ (∃ v, σ = [some (.ref a), some (.ref p), v]) ∧ (ks.take i).Nodup ∧ ∃ n, n ≤ i ∧ H' p = some (SetK P w p (seenS ks i) n))
        ⟨s0, ⟨none, rfl⟩, List.nodup_nil, 0, Nat.le_refl _, upd_same⟩ (fun i σ H' _ p' => SqT.of (p'.1 _ _ hs)) ?_ ?_
      · rintro i x σ H' hx ⟨s1, ⟨v, rfl⟩, hnd, n, hn, hS⟩
        obtain ⟨k, hk, rfl⟩ := get_keys hx
        have hi : i < ks.length := by
          rcases Nat.lt_or_ge i ks.length with z | z
          · exact z
          · rw [List.getElem?_eq_none z] at hk
            cases hk
        refine ⟨_, rfl, _, rfl, k, p, _, n, rfl, rfl, hS, _, rfl, ?_⟩
        by_cases hm : k ∈ ks.take i
        · rw [seenS_t.mpr hm]
          exact iteT ⟨_, rfl, q _ (some k) s1 (.inr ⟨i, k, hk, hm, hnd, rfl⟩)⟩
        · have em : seenS ks i k = false := by
            cases e : seenS ks i k with
            | false => rfl
            | true => exact absurd (seenS_t.mp e) hm
          rw [em]
          refine iteF ⟨_, rfl, ⟨p, _, n, rfl, hS⟩, _, rfl, p, k, _, n, rfl, rfl, hS, Nat.lt_of_le_of_lt (show n + 1 ≤ 100 by omega) (by decide +kernel), ?_⟩
          refine ⟨fun b o eb => ?_, ⟨_, rfl⟩, ?_, if seenS ks i k = true then n else n + 1, ?_, ?_⟩
          · have nb : b ≠ p := ne_of_none eb hp
            rw [upd_ne nb]
            exact s1 b o eb
          · rw [take_more hk]
            exact nodup_snoc hnd hm
          · split <;> omega
          · rw [upd_same]
            have e : seenS ks (i + 1) = fun j => seenS ks i j || decide (j = k) := by
              funext j
              unfold seenS
              rw [take_more hk, List.any_append]
              simp
            rw [e]
            rfl
      · rintro σ H' ⟨s1, ⟨v, rfl⟩, hnd, n, hn, hS⟩
        rw [List.length_map, List.take_length] at hnd
        exact q _ none s1 (.inl ⟨rfl, hnd⟩)
end
/-! ### TooMany -/
/-- the exception at a has these fields, its own dict is new -/
def ErN (H H' : Hp) (C : Addr) (fs : List (Str × V)) (a : Addr) : Prop := ∃ d, H d = none ∧ d ≠ a ∧ H' a = some (exo a C (some d)) ∧ H' d = some (exd d fs)
def spIn2 (K : PySem.W.Frag) (f g : Str) : Sp := fun vs H Q _ => ∃ (a C : Addr) (v u : V), vs = [.ref a, v, u] ∧ OexC K C ∧ PySem.W.findIn K (.ref C) f = some none ∧ PySem.W.findIn K (.ref C) g = some none ∧ H a = some (exo a C none) ∧
  ∀ H', (∀ b o, b ≠ a → H b = some o → H' b = some o) → ErN H H' C [(g, u), (f, v)] a → Q .non H'
theorem two_fields {H : Hp} {a C : Addr} {f g : Str} {v u : V} {Q : VK} (q : ∀ H', (∀ b o, b ≠ a → H b = some o → H' b = some o) → ErN H H' C [(g, u), (f, v)] a → Q .non H') :
    ∀ dx, H dx = none → dx ≠ a → Q .non (upd (upd (upd H dx (exd dx [(f, v)])) a (exo a C (some dx))) dx (exd dx [(g, u), (f, v)])) := fun dx n ne => by
  refine q _ (fun b o nb e => ?_) ⟨dx, n, ne, ?_, upd_same⟩
  · rw [upd_ne (ne_of_none e n), upd_ne nb, upd_ne (ne_of_none e n)]
    exact e
  · rw [upd_ne ne.symm]
    exact upd_same
/-- an error of the class at C with these fields is raised -/
def RzF (C : Addr) (fs : List (Str × V)) (H : Hp) (E : XK) : Prop := ∀ d H', Same H H' → H' d = some (.xd fs) → E (.ref C) (some d) H'
theorem rzf_of {C a d : Addr} {fs : List (Str × V)} {H H2 : Hp} {E : XK} (r : RzF C fs H E) (na : H a = none) (k : ∀ b o, b ≠ a → upd H a (exo a C none) b = some o → H2 b = some o) (nd : upd H a (exo a C none) d = none) (ne : d ≠ a) :
    E (.ref C) (some d) (upd (L2.del H2 a) d (.xd fs)) := by
  have hd : H d = none := by
    rw [upd_ne ne] at nd
    exact nd
  refine r d _ (fun b o e => ?_) upd_same
  have b1 : b ≠ d := ne_of_none e hd
  have b2 : b ≠ a := ne_of_none e na
  rw [upd_ne b1, del_ne b2]
  exact k b o b2 (by rw [upd_ne b2]; exact e)
/-- what the top has written of TooMany -/
structure TmT (K : PySem.W.Frag) (mg : Str → Option Value) (C fI : Addr) : Prop where
  oex : OexC K C
  mgC : mg "TooMany" = some (.ref C)
  no1 : PySem.W.findIn K (.ref C) "what" = some none
  no2 : PySem.W.findIn K (.ref C) "most" = some none
  iC : PySem.W.findIn K (.ref C) "__init__" = some (some (.ref fI))
  tI : PySem.W.typeIn K (.ref fI) = some (.type "function")
/-! ### classes of errors with one field -/
structure ErT (K : PySem.W.Frag) (mg : Str → Option Value) (x fld : Str) (C fI : Addr) : Prop where
  oex : OexC K C
  mgC : mg x = some (.ref C)
  noF : PySem.W.findIn K (.ref C) fld = some none
  iC : PySem.W.findIn K (.ref C) "__init__" = some (some (.ref fI))
  tI : PySem.W.typeIn K (.ref fI) = some (.type "function")
/-- an error of the class at C with this one field is raised: its own dict is new -/
def RzV (C : Addr) (fld : Str) (v : V) (H : Hp) (E : XK) : Prop := ∀ d H', Same H H' → H d = none → H' d = some (.xd [(fld, v)]) → E (.ref C) (some d) H'
theorem RzV.same {C : Addr} {fld : Str} {v : V} {H H1 : Hp} {E : XK} (h : RzV C fld v H E) (s : Same H H1) : RzV C fld v H1 E := fun d H' s' n e => h d H' (s.trans s') (s.free n) e
theorem raisedV {H H1 : Hp} {C a dx : Addr} {fld : Str} {v : V} {E : XK} (h : RzV C fld v H E) (s1 : Same H H1) (ha : H1 a = none) (hd : upd H1 a (exo a C none) dx = none) (ne : dx ≠ a) :
    E (.ref C) (some dx) (upd (L2.del (upd (upd (upd H1 a (exo a C none)) dx (exd dx [(fld, v)])) a (exo a C (some dx))) a) dx (.xd [(fld, v)])) := by
  have hd1 : H1 dx = none := by
    rw [upd_ne ne] at hd
    exact hd
  refine h dx _ (fun b o e => ?_) (s1.free hd1) upd_same
  have e1 := s1 b o e
  have nb : b ≠ dx := ne_of_none e1 hd1
  have na : b ≠ a := ne_of_none e1 ha
  rw [upd_ne nb, del_ne na, upd_ne na, upd_ne nb, upd_ne na]
  exact e1
section
variable {P : Program} {w : World} {K : PySem.W.Frag} {mg : Str → Option Value} {base : Heap}
/-- an __init__ that keeps one field -/
def spE1 (K : PySem.W.Frag) (fld : Str) (C : Addr) : Sp := fun vs H Q _ => ∃ (a : Addr) (y : V), vs = [.ref a, y] ∧ OexC K C ∧ PySem.W.findIn K (.ref C) fld = some none ∧ H a = some (exo a C none) ∧
  ∀ dx, H dx = none → dx ≠ a → Q .non (upd (upd H dx (exd dx [(fld, y)])) a (exo a C (some dx)))
abbrev sBI : Stmt := inClass (top 2) 0
theorem scBI : FnScope ["self", "part"] ["self", "part"] (defScope sBI) := ⟨rfl, rfl, rfl, by decide +kernel, rfl, by decide +kernel, by decide +kernel⟩
theorem ok_bi {f C : Addr} {fd : FuncData} (F : Fun K "__init__" "BadTray.__init__" sBI f fd) : FnOk P w K mg base CX0 1 f fd ["self", "part"] (spE1 K "part" C) := by
  refine F.ok scBI (fun vs H Q E h => ?_) (fun cdv A outer s H vs Q E hr h => ?_)
  · obtain ⟨a, y, rfl, _⟩ := h
    rfl
  · obtain ⟨a, y, rfl, T, no, ha, q⟩ := h
    exact ⟨_, pss_one (ps_ost (pv 0) (pv 1)), _, rfl, _, rfl, a, C, rfl, T, no, .inl ⟨ha, q⟩⟩
abbrev sFI : Stmt := inClass (top 3) 0
theorem scFI : FnScope ["self", "part"] ["self", "part"] (defScope sFI) := ⟨rfl, rfl, rfl, by decide +kernel, rfl, by decide +kernel, by decide +kernel⟩
theorem ok_fi {f C : Addr} {fd : FuncData} (F : Fun K "__init__" "Misfit.__init__" sFI f fd) : FnOk P w K mg base CX0 1 f fd ["self", "part"] (spE1 K "part" C) := by
  refine F.ok scFI (fun vs H Q E h => ?_) (fun cdv A outer s H vs Q E hr h => ?_)
  · obtain ⟨a, y, rfl, _⟩ := h
    rfl
  · obtain ⟨a, y, rfl, T, no, ha, q⟩ := h
    exact ⟨_, pss_one (ps_ost (pv 0) (pv 1)), _, rfl, _, rfl, a, C, rfl, T, no, .inl ⟨ha, q⟩⟩
abbrev sVI : Stmt := inClass (top 4) 0
theorem scVI : FnScope ["self", "value"] ["self", "value"] (defScope sVI) := ⟨rfl, rfl, rfl, by decide +kernel, rfl, by decide +kernel, by decide +kernel⟩
theorem ok_vi {f C : Addr} {fd : FuncData} (F : Fun K "__init__" "Missing.__init__" sVI f fd) : FnOk P w K mg base CX0 1 f fd ["self", "value"] (spE1 K "value" C) := by
  refine F.ok scVI (fun vs H Q E h => ?_) (fun cdv A outer s H vs Q E hr h => ?_)
  · obtain ⟨a, y, rfl, _⟩ := h
    rfl
  · obtain ⟨a, y, rfl, T, no, ha, q⟩ := h
    exact ⟨_, pss_one (ps_ost (pv 0) (pv 1)), _, rfl, _, rfl, a, C, rfl, T, no, .inl ⟨ha, q⟩⟩
abbrev sWI : Stmt := inClass (top 7) 0
theorem scWI : FnScope ["self", "value"] ["self", "value"] (defScope sWI) := ⟨rfl, rfl, rfl, by decide +kernel, rfl, by decide +kernel, by decide +kernel⟩
theorem ok_wi {f C : Addr} {fd : FuncData} (F : Fun K "__init__" "Twice.__init__" sWI f fd) : FnOk P w K mg base CX0 1 f fd ["self", "value"] (spE1 K "value" C) := by
  refine F.ok scWI (fun vs H Q E h => ?_) (fun cdv A outer s H vs Q E hr h => ?_)
  · obtain ⟨a, y, rfl, _⟩ := h
    rfl
  · obtain ⟨a, y, rfl, T, no, ha, q⟩ := h
    exact ⟨_, pss_one (ps_ost (pv 0) (pv 1)), _, rfl, _, rfl, a, C, rfl, T, no, .inl ⟨ha, q⟩⟩
abbrev sTI : Stmt := inClass (top 8) 0
theorem scTI : FnScope ["self", "what", "most"] ["self", "what", "most"] (defScope sTI) := ⟨rfl, rfl, rfl, by decide +kernel, rfl, by decide +kernel, by decide +kernel⟩
theorem ok_ti {f : Addr} {fd : FuncData} (F : Fun K "__init__" "TooMany.__init__" sTI f fd) : FnOk P w K mg base CX0 1 f fd ["self", "what", "most"] (spIn2 K "what" "most") := by
  refine F.ok scTI (fun vs H Q E h => ?_) (fun cdv A outer s H vs Q E hr h => ?_)
  · obtain ⟨a, C, v, u, rfl, _⟩ := h
    rfl
  · obtain ⟨a, C, v, u, rfl, T, no1, no2, ha, q⟩ := h
    refine ⟨_, pss_cons (ps_ost (pv 0) (pv 1)) (pss_one (ps_ost (pv 0) (pv 2))), _, rfl, _, rfl, a, C, rfl, T, no1, .inl ⟨ha, fun dx n ne => ?_⟩⟩
    exact ⟨_, rfl, _, rfl, a, C, rfl, T, no2, .inr ⟨dx, _, upd_same, by rw [upd_ne ne]; exact upd_same, (by show 1 ≤ 900; decide), two_fields q dx n ne⟩⟩
end
end K19

namespace K19
open PySem PySem.Spec PyProof.Rows L2
/-- numbers of pins as values -/
def nV (ns : List Nat) : List V := (ns.map fun n => ((n : Nat) : Int)).map V.int
theorem nV_len (ns : List Nat) : (nV ns).length = ns.length := by
  unfold nV
  rw [List.length_map, List.length_map]
theorem rg_nV (k : Nat) : rgV 0 (k : Int) = nV (List.range k) := by
  unfold rgV nV
  rw [show ((k : Int) - 0).toNat = k by omega, List.map_map]
  refine List.map_congr_left fun i _ => ?_
  show V.int (0 + (i : Int)) = V.int (i : Int)
  rw [Int.zero_add]
theorem erase_map {α β : Type} (f : α → β) : ∀ (l : List α) (i : Nat), (l.map f).eraseIdx i = (l.eraseIdx i).map f
  | [], _ => rfl
  | _ :: _, 0 => rfl
  | a :: l, i + 1 => by
    show f a :: (l.map f).eraseIdx i = f a :: (l.eraseIdx i).map f
    rw [erase_map f l i]
theorem erase_nV (ns : List Nat) (i : Nat) : (nV ns).eraseIdx i = nV (ns.eraseIdx i) := by
  unfold nV
  rw [erase_map, erase_map]
theorem nV_at {ns : List Nat} {i : Nat} (h : i < ns.length) : (nV ns)[i]? = some (.int (ns[i] : Nat)) := by
  unfold nV
  rw [List.getElem?_map, List.getElem?_map, List.getElem?_eq_getElem h]
  rfl
theorem nV_snoc (ns : List Nat) (x : Nat) : nV (ns ++ [x]) = nV ns ++ [V.int (x : Nat)] := by
  unfold nV
  rw [List.map_append, List.map_append]
  rfl
theorem erase_perm {α : Type} : ∀ {l : List α} {i : Nat} (h : i < l.length), (l[i] :: l.eraseIdx i).Perm l
  | [], _, h => absurd h (Nat.not_lt_zero _)
  | _ :: _, 0, _ => List.Perm.refl _
  | a :: l, i + 1, h => by
    have h' : i < l.length := by simpa using h
    have ih := erase_perm (l := l) (i := i) h'
    show (l[i] :: a :: l.eraseIdx i).Perm (a :: l)
    exact (List.Perm.swap a l[i] (l.eraseIdx i)).trans (List.Perm.cons a ih)
theorem perm_pop {ns fs : List Nat} {i : Nat} (h : i < ns.length) : (ns.eraseIdx i ++ (fs ++ [ns[i]])).Perm (ns ++ fs) := by
  have b : (ns.eraseIdx i ++ (fs ++ [ns[i]])).Perm (ns[i] :: (ns.eraseIdx i ++ fs)) := by
    rw [← List.append_assoc]
    exact List.perm_append_singleton _ _
  exact b.trans (List.Perm.append_right fs (erase_perm h))
theorem cut_ints (ns : List Int) (lo hi : Option Int) : ∃ ms : List Int, cutV (ns.map V.int) lo hi = ms.map V.int ∧ ms.length ≤ ns.length := by
  refine ⟨(ns.drop (HT.sIx (ns.map V.int).length 0 lo)).take (HT.sIx (ns.map V.int).length (ns.map V.int).length hi - HT.sIx (ns.map V.int).length 0 lo), ?_, ?_⟩
  · unfold cutV
    rw [List.map_take, List.map_drop]
  · rw [List.length_take, List.length_drop]
    omega
theorem get_ints {ns : List Int} {i : Nat} {x : V} (h : (ns.map V.int)[i]? = some x) : ∃ z, ns[i]? = some z ∧ x = .int z := by
  rw [List.getElem?_map] at h
  cases e : ns[i]? with
  | none =>
    rw [e] at h
    cases h
  | some z =>
    rw [e] at h
    exact ⟨z, rfl, (Option.some.inj h).symm⟩
theorem dp_ints {K : PySem.W.Frag} {H : Hp} : ∀ ns : List Int, DpAll K H (ns.map V.int) (ns.map PyData.int)
  | [] => .nil
  | n :: ns => .cons (.int n) (dp_ints ns)
theorem ix_cells {ns : List Int} {spot : Int} (h0 : 0 ≤ spot) (hn : ns ≠ []) : ∃ z, atI (ns.map V.int) (spot % (ns.map V.int).length) = some (.int z) := by
  have hl : 0 < ns.length := List.length_pos_iff.mpr hn
  have e1 := Int.emod_nonneg spot (show ((ns.map V.int).length : Int) ≠ 0 by rw [List.length_map]; omega)
  have e2 := Int.emod_lt_of_pos spot (show (0 : Int) < ((ns.map V.int).length : Int) by rw [List.length_map]; omega)
  obtain ⟨j, hj⟩ := Int.eq_ofNat_of_zero_le e1
  have hj2 : j < ns.length := by
    rw [List.length_map] at hj e2
    omega
  refine ⟨ns[j], ?_⟩
  rw [hj]
  refine atI_nat ?_
  rw [List.getElem?_map, List.getElem?_eq_getElem hj2]
  rfl
end K19

namespace K19
open PySem PySem.Spec PyProof.Rows L2
/-! ### numbers of pins, judged -/
def pinOk (k : Nat) (x : V) : Bool := within x 0 ((k : Int) - 1)
inductive WJ (K : PySem.W.Frag) (H : Hp) (k : Nat) : V → Option V → Prop
  | no {v : V} (h : Kd K H v false) : WJ K H k v (some v)
  | seq {a : Addr} {xs : List V} (hs : Sq H a xs) (hk : ∀ x ∈ xs, ∃ t, Kd K H x t) (hl : xs.length ≤ 100) : WJ K H k (.ref a) (xs.find? fun x => !pinOk k x)
theorem WJ.same {K : PySem.W.Frag} {H H' : Hp} {k : Nat} {v : V} {r : Option V} (j : WJ K H k v r) (s : Same H H') : WJ K H' k v r := by
  cases j with
  | no h => exact .no (h.same s)
  | seq hs hk hl => exact .seq (hs.same s) (fun x hx => let ⟨t, h⟩ := hk x hx; ⟨t, h.same s⟩) hl
/-- a list or a tuple of these numbers, each of a pin -/
structure PinL (H : Hp) (a : Addr) (ns : List Nat) (k : Nat) : Prop where
  sq : Sq H a (nV ns)
  len : ns.length ≤ 100
  lt : ∀ n ∈ ns, n < k
theorem PinL.same {H H' : Hp} {a : Addr} {ns : List Nat} {k : Nat} (h : PinL H a ns k) (s : Same H H') : PinL H' a ns k := ⟨h.sq.same s, h.len, h.lt⟩
def ksN (ns : List Nat) : List Key := ns.map fun n => Sum.inl ((n : Nat) : Int)
theorem ksN_v (ns : List Nat) : (ksN ns).map kV = nV ns := by
  unfold ksN nV
  rw [List.map_map, List.map_map]
  rfl
theorem ksN_nd {ns : List Nat} : (ksN ns).Nodup ↔ ns.Nodup := by
  unfold ksN
  rw [List.Nodup, List.pairwise_map]
  constructor
  · intro h
    refine h.imp fun {a b} n e => n (by rw [e])
  · intro h
    refine h.imp fun {a b} n e => n (by have := Sum.inl.inj e; omega)
/-- the first number that stands twice -/
def TwN (ns : List Nat) (j : Nat) : Prop := ∃ i, ns[i]? = some j ∧ j ∈ ns.take i ∧ (ns.take i).Nodup
theorem tw_none {ns : List Nat} (h : TW (ksN ns) none) : ns.Nodup := by
  rcases h with ⟨_, h⟩ | ⟨_, _, _, _, _, e⟩
  · exact ksN_nd.mp h
  · cases e
theorem tw_some {ns : List Nat} {k : Key} (h : TW (ksN ns) (some k)) : ∃ j, k = Sum.inl ((j : Nat) : Int) ∧ TwN ns j := by
  rcases h with ⟨e, _⟩ | ⟨i, k', h1, h2, h3, e⟩
  · cases e
  · cases e
    unfold ksN at h1 h2 h3
    rw [List.getElem?_map] at h1
    cases q : ns[i]? with
    | none =>
      rw [q] at h1
      cases h1
    | some j =>
      rw [q] at h1
      have ek : (Sum.inl ((j : Nat) : Int) : Key) = k := Option.some.inj h1
      subst ek
      refine ⟨j, rfl, i, q, ?_, ?_⟩
      · rw [← List.map_take] at h2
        obtain ⟨m, hm, em⟩ := List.mem_map.mp h2
        have : (m : Int) = j := Sum.inl.inj em
        have : m = j := by omega
        rw [← this]
        exact hm
      · rw [← List.map_take] at h3
        exact ksN_nd.mp h3
theorem nV_pin {k : Nat} : ∀ {xs : List V}, xs.find? (fun x => !pinOk k x) = none → ∃ ns, xs = nV ns ∧ ∀ n ∈ ns, n < k := by
  intro xs
  induction xs with
  | nil => exact fun _ => ⟨[], rfl, fun n h => by cases h⟩
  | cons x xs ih =>
    intro h
    rw [List.find?_cons] at h
    cases e : pinOk k x with
    | false =>
      rw [e] at h
      cases h
    | true =>
      rw [e] at h
      obtain ⟨ns, rfl, hl⟩ := ih h
      cases x with
      | int i =>
        have e : (decide (0 ≤ i) && decide (i ≤ (k : Int) - 1)) = true := e
        rw [Bool.and_eq_true] at e
        have e1 := of_decide_eq_true e.1
        have e2 := of_decide_eq_true e.2
        obtain ⟨m, rfl⟩ := Int.eq_ofNat_of_zero_le e1
        refine ⟨m :: ns, rfl, fun n hn => ?_⟩
        rcases List.mem_cons.mp hn with z | z
        · omega
        · exact hl n z
      | _ => cases e
theorem pinOk_nat {k n : Nat} : pinOk k (.int (n : Nat)) = decide (n < k) := by
  show (decide ((0 : Int) ≤ (n : Int)) && decide ((n : Int) ≤ (k : Int) - 1)) = _
  rw [decide_eq_true (show (0 : Int) ≤ (n : Int) by omega), Bool.true_and, Bool.eq_iff_iff, decide_eq_true_iff, decide_eq_true_iff]
  omega
theorem find_pins {k : Nat} {ns : List Nat} (h : ∀ n ∈ ns, n < k) : (nV ns).find? (fun x => !pinOk k x) = none := by
  rw [List.find?_eq_none]
  intro x hx
  unfold nV at hx
  rw [List.map_map] at hx
  obtain ⟨n, hn, rfl⟩ := List.mem_map.mp hx
  show ¬ (!pinOk k (.int (n : Nat))) = true
  rw [pinOk_nat, decide_eq_true (h n hn)]
  decide
theorem find_first {α : Type} {f : α → Bool} : ∀ {xs : List α} {i : Nat} {x : α}, xs[i]? = some x → f x = true → (∀ y ∈ xs.take i, f y = false) → xs.find? f = some x
  | a :: xs, 0, x, e, h, _ => by
    have e : a = x := Option.some.inj e
    subst e
    rw [List.find?_cons, h]
  | a :: xs, i + 1, x, e, h, n => by
    rw [List.find?_cons, n a (by rw [List.take_succ_cons]; exact List.mem_cons_self)]
    exact find_first (xs := xs) (i := i) (by simpa using e) h fun y hy => n y (by rw [List.take_succ_cons]; exact List.mem_cons_of_mem _ hy)
section
variable {P : Program} {w : World} {K : PySem.W.Frag} {mg : Str → Option Value} {base : Heap}
/-! ### _first_wrong -/
def spFW (K : PySem.W.Frag) : Sp := fun vs H Q _ => ∃ (v : V) (k : Nat) (r : Option V), vs = [v, .int k] ∧ WJ K H k v r ∧ ∀ H' t, Same H H' → H' t = some (.tup r.toList) → Q (.ref t) H'
abbrev sFW : Stmt := top 16
abbrev nFW : List Str := ["values", "many", "value"]
theorem scFW : FnScope nFW ["values", "many"] (defScope sFW) := ⟨rfl, rfl, rfl, by decide +kernel, rfl, by decide +kernel, by decide +kernel⟩
theorem ok_fw {f : Addr} {fd : FuncData} (F : Fun K "_first_wrong" "_first_wrong" sFW f fd) (C1 : Callee P w K mg base CX0 1 "is_list" ["value"] (spIsList K)) (C2 : Callee P w K mg base CX0 2 "is_within" ["value", "least", "most"] (spWithin K)) : FnOk P w K mg base CX0 3 f fd ["values", "many"] (spFW K) := by
  obtain ⟨f1, fd1, m1, k1, b1, G1⟩ := C1
  obtain ⟨f2, fd2, m2, k2, b2, G2⟩ := C2
  have nd := scFW.nd
  refine F.ok scFW (fun vs H Q E h => ?_) (fun cdv A outer s H vs Q E hr h => ?_)
  · obtain ⟨v, k, r, rfl, _⟩ := h
    rfl
  · obtain ⟨v, k, r, rfl, j, q⟩ := h
    cases j with
    | no h =>
      refine ⟨_, pss_cons (ps_if (pt_not (pt_val (pe_call G1 (hr.mono (by decide)) rfl m1 k1 b1 .nil pass0 (pa_cons (pv 0) pa_nil)))) (pss_one (ps_ret (pe_tup (pa_cons (pv 0) pa_nil)))) pss_nil) pss_never, ?_⟩
      refine ⟨_, rfl, v, false, rfl, h, fun H1 s1 => ⟨_, rfl, iteT ⟨_, rfl, by show 1 ≤ sizeLine; decide, fun t ht => ?_⟩⟩⟩
      exact q _ t (s1.trans (same_new ht)) upd_same
    | @seq a xs hs hk hl =>
      have sq := hs
      have turn : ∀ {i : Nat} {x : V}, xs[i]? = some x → (∀ y ∈ xs.take i, pinOk k y = true) → (pinOk k x = true → ∀ y ∈ xs.take (i + 1), pinOk k y = true) ∧ (pinOk k x = false → xs.find? (fun x => !pinOk k x) = some x) := fun {i x} hx al => ⟨fun e y hy => by
          rw [take_more hx] at hy
          rcases List.mem_append.mp hy with z | z
          · exact al y z
          · rw [List.mem_singleton.mp z]
            exact e, fun e => find_first hx (by rw [e]; rfl) fun y hy => by rw [al y hy]; rfl⟩
      have none_of : (∀ y ∈ xs.take xs.length, pinOk k y = true) → xs.find? (fun x => !pinOk k x) = none := fun h => by
        rw [List.take_length] at h
        rw [List.find?_eq_none]
        intro x hx
        rw [h x hx]
        decide
      rcases hs with hs | hs
      · refine ⟨_, (pss_cons (ps_if (pt_not (pt_val (pe_call G1 (hr.mono (by decide)) rfl m1 k1 b1 .nil pass0 (pa_cons (pv 0) pa_nil)))) (pss_one (ps_ret (pe_tup (pa_cons (pv 0) pa_nil)))) pss_nil) (pss_cons (ps_for PassesOwn.never rfl (pi_list (pv 0)) (pg_name (i := 2) nd rfl (Or.inl rfl)) (pss_one (ps_if (pt_not (pt_val (pe_call G2 (hr.mono (by decide)) rfl m2 k2 b2 .nil pass0 (pa_cons (pv 2) (pa_cons (pe_int) (pa_cons (pe_op op_sub (pv 1) pe_int) pa_nil)))))) (pss_one (ps_ret (pe_tup (pa_cons (pv 2) pa_nil)))) pss_nil))) (pss_one (ps_ret (pe_tup pa_nil))))), ?_⟩
        refine ⟨_, rfl, _, true, rfl, sq.kd, fun H1 s1 => ⟨_, rfl, iteF ?_⟩⟩
        refine ⟨_, rfl, a, rfl, ⟨_, SqL.of (s1 _ _ hs)⟩, ?_⟩
        refine for_list (K := K) (a := a) (xs := xs) (fun i σ H' => Same H1 H' ∧ (∀ y ∈ xs.take i, pinOk k y = true) ∧ ∃ c, σ = [some (.ref a), some (.int k), c]) ⟨Same.me, (fun y h => by cases h), _, rfl⟩ (fun i σ H' _ p => SqL.of (p.1 _ _ (s1 _ _ hs))) (fun i x σ H' hx p => ?_) (fun σ H' p => ?_)
        · obtain ⟨s2, al, c, rfl⟩ := p
          obtain ⟨tx, kx⟩ := hk x (List.mem_of_getElem? hx)
          refine ⟨_, rfl, _, rfl, _, _, rfl, rfl, x, tx, 0, (k : Int) - 1, rfl, (kx.same s1).same s2, _, rfl, ?_⟩
          cases e : within x 0 ((k : Int) - 1) with
          | true => exact iteF ⟨s2, (turn hx al).1 e, _, rfl⟩
          | false =>
            refine iteT ⟨_, rfl, by show 1 ≤ sizeLine; decide, fun t ht => ?_⟩
            refine q _ t ((s1.trans s2).trans (same_new ht)) ?_
            rw [(turn hx al).2 e]
            exact upd_same
        · obtain ⟨s2, al, c, rfl⟩ := p
          refine ⟨by show 0 ≤ sizeLine; decide, fun t ht => q _ t ((s1.trans s2).trans (same_new ht)) ?_⟩
          rw [none_of al]
          exact upd_same
      · refine ⟨_, (pss_cons (ps_if (pt_not (pt_val (pe_call G1 (hr.mono (by decide)) rfl m1 k1 b1 .nil pass0 (pa_cons (pv 0) pa_nil)))) (pss_one (ps_ret (pe_tup (pa_cons (pv 0) pa_nil)))) pss_nil) (pss_cons (ps_for PassesOwn.never rfl (pi_tup (pv 0)) (pg_name (i := 2) nd rfl (Or.inl rfl)) (pss_one (ps_if (pt_not (pt_val (pe_call G2 (hr.mono (by decide)) rfl m2 k2 b2 .nil pass0 (pa_cons (pv 2) (pa_cons (pe_int) (pa_cons (pe_op op_sub (pv 1) pe_int) pa_nil)))))) (pss_one (ps_ret (pe_tup (pa_cons (pv 2) pa_nil)))) pss_nil))) (pss_one (ps_ret (pe_tup pa_nil))))), ?_⟩
        refine ⟨_, rfl, _, true, rfl, sq.kd, fun H1 s1 => ⟨_, rfl, iteF ?_⟩⟩
        refine ⟨_, rfl, a, rfl, ⟨_, SqT.of (s1 _ _ hs)⟩, ?_⟩
        refine for_tup (K := K) (a := a) (xs := xs) (fun i σ H' => Same H1 H' ∧ (∀ y ∈ xs.take i, pinOk k y = true) ∧ ∃ c, σ = [some (.ref a), some (.int k), c]) ⟨Same.me, (fun y h => by cases h), _, rfl⟩ (fun i σ H' _ p => SqT.of (p.1 _ _ (s1 _ _ hs))) (fun i x σ H' hx p => ?_) (fun σ H' p => ?_)
        · obtain ⟨s2, al, c, rfl⟩ := p
          obtain ⟨tx, kx⟩ := hk x (List.mem_of_getElem? hx)
          refine ⟨_, rfl, _, rfl, _, _, rfl, rfl, x, tx, 0, (k : Int) - 1, rfl, (kx.same s1).same s2, _, rfl, ?_⟩
          cases e : within x 0 ((k : Int) - 1) with
          | true => exact iteF ⟨s2, (turn hx al).1 e, _, rfl⟩
          | false =>
            refine iteT ⟨_, rfl, by show 1 ≤ sizeLine; decide, fun t ht => ?_⟩
            refine q _ t ((s1.trans s2).trans (same_new ht)) ?_
            rw [(turn hx al).2 e]
            exact upd_same
        · obtain ⟨s2, al, c, rfl⟩ := p
          refine ⟨by show 0 ≤ sizeLine; decide, fun t ht => q _ t ((s1.trans s2).trans (same_new ht)) ?_⟩
          rw [none_of al]
          exact upd_same
end
end K19

namespace K19
open PySem PySem.Spec PyProof.Rows L2
theorem tw_excl {ks : List Key} {k : Key} (h : TW ks (some k)) : ¬ ks.Nodup := fun nd => by
  rcases h with ⟨e, _⟩ | ⟨i, k', h1, h2, _, _⟩
  · cases e
  · have hi : i < ks.length := (List.getElem?_eq_some_iff.mp h1).1
    have hm : k' ∈ ks.drop i := List.mem_of_getElem? (i := 0) (by rw [List.getElem?_drop, Nat.add_zero]; exact h1)
    rw [← List.take_append_drop i ks, List.nodup_append] at nd
    exact nd.2.2 k' h2 k' hm rfl
/-- a class of errors with one field, as it is raised -/
def ErM (P : Program) (w : World) (K : PySem.W.Frag) (mg : Str → Option Value) (base : Heap) (x fld : Str) (C : Addr) : Prop :=
  ∃ (fI : Addr) (fd : FuncData), ErT K mg x fld C fI ∧ FnOk P w K mg base CX0 1 fI fd ["self", fld] (spE1 K fld C) ∧ Binds K fd ["self", fld] []
section
variable {P : Program} {w : World} {K : PySem.W.Frag} {mg : Str → Option Value} {base : Heap} {CP CW CF : Addr}
/-! ### _check_unlike -/
def spCU (CW : Addr) : Sp := fun vs H Q E => ∃ (a : Addr) (ks : List Key), vs = [.ref a] ∧ Sq H a (ks.map kV) ∧ ks.length ≤ 100 ∧ (TW ks none → ∀ H', Same H H' → Q .non H') ∧ ∀ k, TW ks (some k) → RzV CW "value" (kV k) H E
abbrev sCU : Stmt := top 17
theorem scCU : FnScope ["values"] ["values"] (defScope sCU) := ⟨rfl, rfl, rfl, by decide +kernel, rfl, by decide +kernel, by decide +kernel⟩
theorem kv_non (k : Key) : kV k ≠ .non := by
  cases k <;> exact fun z => nomatch z
theorem ok_cu {f : Addr} {fd : FuncData} (F : Fun K "_check_unlike" "_check_unlike" sCU f fd) (M1 : ErM P w K mg base "Twice" "value" CW) (C1 : Callee P w K mg base CX0 1 "first_twice" ["values"] spFt) : FnOk P w K mg base (L2.CX P w) 3 f fd ["values"] (spCU CW) := by
  obtain ⟨f1, fd1, m1, k1, b1, G1⟩ := C1
  obtain ⟨fI, fdI, T1, GE1, bE1⟩ := M1
  have nd := scCU.nd
  refine F.okX scCU (fun vs H Q E h => ?_) (fun cdv A outer s H vs Q E hr h => ?_)
  · obtain ⟨a, ks, rfl, _⟩ := h
    rfl
  · obtain ⟨a, ks, rfl, hs, hl, hy, hn⟩ := h
    refine ⟨_, pss_one (ps_if (pt_cmpR op_notN (pe_call G1 (hr.mono (by decide)) rfl m1 k1 b1 .nil pass0 (pa_cons (pv 0) pa_nil)) pe_non (nomark _)) (pss_one (ps_raise rfl (takes_of rfl rfl rfl rfl) (pmk_oex T1.oex T1.iC T1.tI GE1 (hr.mono (by decide)) bE1 .nil pass0 rfl T1.mgC (pa_cons ((pe_call G1 (hr.mono (by decide)) rfl m1 k1 b1 .nil pass0 (pa_cons (pv 0) pa_nil))) pa_nil)))) pss_nil), ?_⟩
    refine ⟨_, rfl, a, ks, rfl, hs, hl, fun H1 r s1 tw => ⟨rfl, _, rfl, ?_⟩⟩
    cases r with
    | none => exact iteF (hy tw _ s1)
    | some k =>
      have e : (!decide (rv (some k) = V.non)) = true := by
        rw [decide_eq_false (show ¬ rv (some k) = V.non from kv_non k)]
        rfl
      rw [e]
      refine iteT ⟨_, rfl, a, ks, rfl, hs.same s1, hl, fun H2 r2 s2 tw2 => ?_⟩
      cases r2 with
      | none =>
        rcases tw2 with ⟨_, nd2⟩ | ⟨_, _, _, _, _, z⟩
        · exact absurd nd2 (tw_excl tw)
        · cases z
      | some k2 =>
        refine ⟨by show 1 ≤ 1000; decide, fun x hx => ?_⟩
        exact ⟨x, _, rfl, T1.oex, T1.noF, upd_same, fun dx hdx ne => ⟨rfl, dx, _, upd_same, by rw [upd_ne ne]; exact upd_same, by rw [upd_ne ne] at hdx; exact hdx, raisedV (hn _ tw2) (s1.trans s2) hx hdx ne⟩⟩
/-! ### check_pins -/
def spCP (K : PySem.W.Frag) (CP CW : Addr) : Sp := fun vs H Q E => ∃ (v : V) (k : Nat), vs = [v, .int k] ∧
  ((∃ x, WJ K H k v (some x) ∧ RzV CP "value" x H E) ∨ (∃ a ns, v = .ref a ∧ PinL H a ns k ∧ (ns.Nodup → ∀ H', Same H H' → Q .non H') ∧ ∀ j, TwN ns j → RzV CW "value" (.int (j : Nat)) H E))
abbrev sCP : Stmt := top 18
abbrev nCP : List Str := ["values", "many", "wrong"]
theorem scCP : FnScope nCP ["values", "many"] (defScope sCP) := ⟨rfl, rfl, rfl, by decide +kernel, rfl, by decide +kernel, by decide +kernel⟩
theorem PinL.wj {K : PySem.W.Frag} {H : Hp} {a : Addr} {ns : List Nat} {k : Nat} (h : PinL H a ns k) : WJ K H k (.ref a) none := by
  have z : WJ K H k (.ref a) ((nV ns).find? fun x => !pinOk k x) := .seq h.sq (fun x hx => by
    unfold nV at hx
    obtain ⟨i, _, rfl⟩ := List.mem_map.mp hx
    exact ⟨_, .int i⟩) (by rw [nV_len]; exact h.len)
  rw [find_pins h.lt] at z
  exact z
theorem ok_cp {f : Addr} {fd : FuncData} (F : Fun K "check_pins" "check_pins" sCP f fd) (M1 : ErM P w K mg base "NoPin" "value" CP) (C1 : Callee P w K mg base CX0 3 "_first_wrong" ["values", "many"] (spFW K)) (C2 : Callee P w K mg base (L2.CX P w) 3 "_check_unlike" ["values"] (spCU CW)) : FnOk P w K mg base (L2.CX P w) 4 f fd ["values", "many"] (spCP K CP CW) := by
  obtain ⟨f1, fd1, m1, k1, b1, G1⟩ := C1
  obtain ⟨f2, fd2, m2, k2, b2, G2⟩ := C2
  obtain ⟨fI, fdI, T1, GE1, bE1⟩ := M1
  have nd := scCP.nd
  refine F.okX scCP (fun vs H Q E h => ?_) (fun cdv A outer s H vs Q E hr h => ?_)
  · obtain ⟨v, k, rfl, _⟩ := h
    rfl
  · obtain ⟨v, k, rfl, h⟩ := h
    refine ⟨_, (pss_cons ((ps_set (i := 2) nd rfl (Or.inl rfl) ((pe_call G1 (hr.mono (by decide)) rfl m1 k1 b1 .nil pass0 (pa_cons (pv 0) (pa_cons (pv 1) pa_nil)))))) (pss_cons (ps_if (pt_truth (pv 2) (fun _ => rfl)) (pss_one (ps_raise rfl (takes_of rfl rfl rfl rfl) (pmk_oex T1.oex T1.iC T1.tI GE1 (hr.mono (by decide)) bE1 .nil pass0 rfl T1.mgC (pa_cons ((pe_ix ix_tup (pv 2) (pe_int) (fun _ _ => rfl))) pa_nil)))) pss_nil) (pss_one (ps_expr (pe_callS (E := fun _ => E) G2 (hr.mono (by decide)) rfl m2 k2 b2 (fun σ => passAt (takes_of rfl rfl rfl rfl) σ) (pa_cons (pv 0) pa_nil)))))), ?_⟩
    rcases h with ⟨x, j, r⟩ | ⟨a, ns, rfl, pl, hy, hn⟩
    · refine ⟨_, rfl, _, rfl, v, k, some x, rfl, j, fun H1 t s1 ht => ?_⟩
      refine ⟨_, rfl, true, .inr (.inl ⟨_, SqT.of ht, rfl⟩), iteT ⟨_, rfl, t, _, 0, x, rfl, rfl, SqT.of ht, rfl, by show 1 ≤ 1000; decide, fun e he => ?_⟩⟩
      exact ⟨e, _, rfl, T1.oex, T1.noF, upd_same, fun dx hdx ne => ⟨rfl, dx, _, upd_same, by rw [upd_ne ne]; exact upd_same, by rw [upd_ne ne] at hdx; exact hdx, raisedV r s1 he hdx ne⟩⟩
    · refine ⟨_, rfl, _, rfl, .ref a, k, none, rfl, pl.wj, fun H1 t s1 ht => ?_⟩
      refine ⟨_, rfl, false, .inr (.inl ⟨_, SqT.of ht, rfl⟩), iteF ?_⟩
      refine ⟨_, rfl, a, ksN ns, rfl, by rw [ksN_v]; exact pl.sq.same s1, by unfold ksN; rw [List.length_map]; exact pl.len, fun tw H2 s2 => hy (tw_none tw) H2 (s1.trans s2), fun k' tw => ?_⟩
      obtain ⟨j, rfl, hj⟩ := tw_some tw
      exact (hn j hj).same s1
/-! ### check_order -/
def spCO (K : PySem.W.Frag) (CP CW CF : Addr) : Sp := fun vs H Q E => ∃ (v : V) (k : Nat), vs = [v, .int k] ∧
  ((∃ x, WJ K H k v (some x) ∧ RzV CP "value" x H E) ∨ (∃ a ns, v = .ref a ∧ PinL H a ns k ∧ (ns.Nodup → k ≤ ns.length → ∀ H', Same H H' → Q .non H') ∧ (ns.Nodup → ns.length < k → RzV CF "part" (.str "pins") H E) ∧ ∀ j, TwN ns j → RzV CW "value" (.int (j : Nat)) H E))
abbrev sCO : Stmt := top 19
theorem scCO : FnScope ["values", "many"] ["values", "many"] (defScope sCO) := ⟨rfl, rfl, rfl, by decide +kernel, rfl, by decide +kernel, by decide +kernel⟩
theorem ok_co {f : Addr} {fd : FuncData} (F : Fun K "check_order" "check_order" sCO f fd) (B : Bn mg) (M1 : ErM P w K mg base "Misfit" "part" CF) (C1 : Callee P w K mg base (L2.CX P w) 4 "check_pins" ["values", "many"] (spCP K CP CW)) : FnOk P w K mg base (L2.CX P w) 5 f fd ["values", "many"] (spCO K CP CW CF) := by
  obtain ⟨f1, fd1, m1, k1, b1, G1⟩ := C1
  obtain ⟨fI, fdI, T1, GE1, bE1⟩ := M1
  have nd := scCO.nd
  refine F.okX scCO (fun vs H Q E h => ?_) (fun cdv A outer s H vs Q E hr h => ?_)
  · obtain ⟨v, k, rfl, _⟩ := h
    rfl
  · obtain ⟨v, k, rfl, h⟩ := h
    refine ⟨_, (pss_cons (ps_expr (pe_callS (E := fun _ => E) G1 (hr.mono (by decide)) rfl m1 k1 b1 (fun σ => passAt (takes_of rfl rfl rfl rfl) σ) (pa_cons (pv 0) (pa_cons (pv 1) pa_nil)))) (pss_one (ps_if (pt_cmpR op_lt ((pe_callB call_len_seq (by rfl) B.len PySem.boot_len (pa_cons (pv 0) pa_nil))) (pv 1) (nomark _)) (pss_one (ps_raise rfl (takes_of rfl rfl rfl rfl) (pmk_oex T1.oex T1.iC T1.tI GE1 (hr.mono (by decide)) bE1 .nil pass0 rfl T1.mgC (pa_cons (pe_str) pa_nil)))) pss_nil))), ?_⟩
    rcases h with ⟨x, j, r⟩ | ⟨a, ns, rfl, pl, hy, hs, hn⟩
    · exact ⟨_, rfl, _, rfl, v, k, rfl, .inl ⟨x, j, r⟩⟩
    · refine ⟨_, rfl, _, rfl, .ref a, k, rfl, .inr ⟨a, ns, rfl, pl, fun ndp H1 s1 => ?_, hn⟩⟩
      refine ⟨_, rfl, a, _, rfl, (pl.sq.same s1).elim (fun z => .inl (SqL.of z)) (fun z => .inr (SqT.of z)), _, rfl, _, _, rfl, rfl, _, rfl, ?_⟩
      rw [nV_len]
      by_cases hlt : ns.length < k
      · rw [decide_eq_true (show ((ns.length : Nat) : Int) < (k : Int) by omega)]
        refine iteT ⟨by show 1 ≤ 1000; decide, fun e he => ?_⟩
        exact ⟨e, _, rfl, T1.oex, T1.noF, upd_same, fun dx hdx ne => ⟨rfl, dx, _, upd_same, by rw [upd_ne ne]; exact upd_same, by rw [upd_ne ne] at hdx; exact hdx, raisedV (hs ndp hlt) s1 he hdx ne⟩⟩
      · rw [decide_eq_false (show ¬ ((ns.length : Nat) : Int) < (k : Int) by omega)]
        exact iteF (hy ndp (by omega) _ s1)
/-! ### check_picture_numbers -/
abbrev sPN : Stmt := top 20
theorem scPN : FnScope nCP ["values", "many"] (defScope sPN) := ⟨rfl, rfl, rfl, by decide +kernel, rfl, by decide +kernel, by decide +kernel⟩
theorem ok_pn {f : Addr} {fd : FuncData} (F : Fun K "check_picture_numbers" "check_picture_numbers" sPN f fd) (M1 : ErM P w K mg base "NoPicture" "value" CP) (C1 : Callee P w K mg base CX0 3 "_first_wrong" ["values", "many"] (spFW K)) (C2 : Callee P w K mg base (L2.CX P w) 3 "_check_unlike" ["values"] (spCU CW)) : FnOk P w K mg base (L2.CX P w) 4 f fd ["values", "many"] (spCP K CP CW) := by
  obtain ⟨f1, fd1, m1, k1, b1, G1⟩ := C1
  obtain ⟨f2, fd2, m2, k2, b2, G2⟩ := C2
  obtain ⟨fI, fdI, T1, GE1, bE1⟩ := M1
  have nd := scPN.nd
  refine F.okX scPN (fun vs H Q E h => ?_) (fun cdv A outer s H vs Q E hr h => ?_)
  · obtain ⟨v, k, rfl, _⟩ := h
    rfl
  · obtain ⟨v, k, rfl, h⟩ := h
    refine ⟨_, (pss_cons ((ps_set (i := 2) nd rfl (Or.inl rfl) ((pe_call G1 (hr.mono (by decide)) rfl m1 k1 b1 .nil pass0 (pa_cons (pv 0) (pa_cons (pv 1) pa_nil)))))) (pss_cons (ps_if (pt_truth (pv 2) (fun _ => rfl)) (pss_one (ps_raise rfl (takes_of rfl rfl rfl rfl) (pmk_oex T1.oex T1.iC T1.tI GE1 (hr.mono (by decide)) bE1 .nil pass0 rfl T1.mgC (pa_cons ((pe_ix ix_tup (pv 2) (pe_int) (fun _ _ => rfl))) pa_nil)))) pss_nil) (pss_one (ps_expr (pe_callS (E := fun _ => E) G2 (hr.mono (by decide)) rfl m2 k2 b2 (fun σ => passAt (takes_of rfl rfl rfl rfl) σ) (pa_cons (pv 0) pa_nil)))))), ?_⟩
    rcases h with ⟨x, j, r⟩ | ⟨a, ns, rfl, pl, hy, hn⟩
    · refine ⟨_, rfl, _, rfl, v, k, some x, rfl, j, fun H1 t s1 ht => ?_⟩
      refine ⟨_, rfl, true, .inr (.inl ⟨_, SqT.of ht, rfl⟩), iteT ⟨_, rfl, t, _, 0, x, rfl, rfl, SqT.of ht, rfl, by show 1 ≤ 1000; decide, fun e he => ?_⟩⟩
      exact ⟨e, _, rfl, T1.oex, T1.noF, upd_same, fun dx hdx ne => ⟨rfl, dx, _, upd_same, by rw [upd_ne ne]; exact upd_same, by rw [upd_ne ne] at hdx; exact hdx, raisedV r s1 he hdx ne⟩⟩
    · refine ⟨_, rfl, _, rfl, .ref a, k, none, rfl, pl.wj, fun H1 t s1 ht => ?_⟩
      refine ⟨_, rfl, false, .inr (.inl ⟨_, SqT.of ht, rfl⟩), iteF ?_⟩
      refine ⟨_, rfl, a, ksN ns, rfl, by rw [ksN_v]; exact pl.sq.same s1, by unfold ksN; rw [List.length_map]; exact pl.len, fun tw H2 s2 => hy (tw_none tw) H2 (s1.trans s2), fun k' tw => ?_⟩
      obtain ⟨j, rfl, hj⟩ := tw_some tw
      exact (hn j hj).same s1
end
end K19

namespace K19
open PySem PySem.Spec PyProof.Rows L2
/-! ### floor division by any divisor but 0 -/
def CDivWN (_ j : Int) : Prop := j ≠ 0 ∧ j.natAbs.log2 < 9000
theorem op_fdivWN {X : Cx} : OpR X (binaryOp .FloorDiv) (rI CDivWN fun i j => .int (i.fdiv j)) := opI fun _ _ _ _ _ _ _ hc q => floordiv_int hc.1 q (.inl (PyProof.noPylong_of_log2 hc.2))
theorem cdiv_of {i j : Int} {b : Nat} (h : j ≠ 0) (hb : j.natAbs < 2 ^ b) (h0 : 0 < b) (h9 : b ≤ 9000) : CDivWN i j := ⟨h, Nat.lt_of_lt_of_le (PySem.Flt.log2_lt_of h0 hb) h9⟩
/-! ### the lens -/
/-- but at p all stands as it stood, and what draws keeps its cells -/
def SB (p : Addr) (H H' : Hp) : Prop := (∀ b o, b ≠ p → H b = some o → H' b = some o) ∧ ∀ c x y, H p = some (.lst [.ref c, x, y]) → ∃ x' y', H' p = some (.lst [.ref c, x', y'])
theorem SB.refl (p : Addr) (H : Hp) : SB p H H := ⟨fun _ _ _ h => h, fun _ _ _ h => ⟨_, _, h⟩⟩
theorem SB.trans {p : Addr} {H H1 H2 : Hp} (a : SB p H H1) (b : SB p H1 H2) : SB p H H2 := ⟨fun c o n h => b.1 c o n (a.1 c o n h), fun c x y h => let ⟨_, _, h1⟩ := a.2 c x y h; b.2 _ _ _ h1⟩
theorem SB.of {p : Addr} {H H' : Hp} (s : Same H H') : SB p H H' := ⟨fun b o _ h => s b o h, fun _ _ _ h => ⟨_, _, s _ _ h⟩⟩
theorem SB.set {p c : Addr} {x y x' y' : V} {H : Hp} (e : H p = some (.lst [.ref c, x, y])) : SB p H (upd H p (.lst [.ref c, x', y'])) := ⟨fun b o n h => by
  rw [upd_ne n]
  exact h, fun d _ _ h => by
  rw [e] at h
  have z := V.ref.inj (List.cons.inj (HO.lst.inj (Option.some.inj h))).1
  exact ⟨x', y', by rw [upd_same, z]⟩⟩
/-- the lens at p, of n turns at most -/
def Lens (H : Hp) (p : Addr) (n : Nat) : Prop := ∃ (c : Addr) (ns : List Int) (spot store : Int), H p = some (.lst [.ref c, .int spot, .int store]) ∧ H c = some (.lst (ns.map V.int)) ∧ c ≠ p ∧ 0 ≤ spot ∧ spot ≤ n
theorem Lens.same {H H' : Hp} {p : Addr} {n : Nat} (v : Lens H p n) (s : Same H H') : Lens H' p n := by
  obtain ⟨c, ns, a, b, h1, h2, h⟩ := v
  exact ⟨c, ns, a, b, s _ _ h1, s _ _ h2, h⟩
theorem Lens.le {H : Hp} {p : Addr} {n m : Nat} (v : Lens H p n) (h : n ≤ m) : Lens H p m := by
  obtain ⟨c, ns, a, b, h1, h2, h3, h4, h5⟩ := v
  exact ⟨c, ns, a, b, h1, h2, h3, h4, by omega⟩
theorem Lens.at {H : Hp} {p : Addr} {n : Nat} (v : Lens H p n) : ∃ (c : Addr) (a b : Int), H p = some (.lst [.ref c, .int a, .int b]) := by
  obtain ⟨c, ns, a, b, h1, _⟩ := v
  exact ⟨c, a, b, h1⟩
/-- a thing made later is no part of what draws -/
theorem Lens.upd {H4 H : Hp} {p D : Addr} {n n4 : Nat} {o : HO} (v : Lens H p n) (v4 : Lens H4 p n4) (s : SB p H4 H) (hD : H4 D = none) : Lens (upd H D o) p n := by
  obtain ⟨c, ns, x, y, h1, h2, h3, h4, h5⟩ := v
  obtain ⟨c4, ms, x4, y4, g1, g2, g3, _⟩ := v4
  obtain ⟨x', y', e⟩ := s.2 _ _ _ g1
  rw [h1] at e
  have z : c = c4 := V.ref.inj (List.cons.inj (HO.lst.inj (Option.some.inj e))).1
  subst z
  exact ⟨c, ns, x, y, by rw [upd_ne (ne_of_none g1 hD)]; exact h1, by rw [upd_ne (ne_of_none g2 hD)]; exact h2, h3, h4, h5⟩
section
variable {P : Program} {w : World} {K : PySem.W.Frag} {mg : Str → Option Value} {base : Heap}
def spLens (K : PySem.W.Frag) : Sp := fun vs H Q _ => ∃ (a : Addr) (ns : List Int), vs = [.ref a] ∧ SqL K H a (ns.map V.int) ∧ ns.length ≤ 63 ∧ ∀ H' p, Same H H' → H p = none → Lens H' p 0 → Q (.ref p) H'
abbrev sLens : Stmt := top 41
theorem scLens : FnScope ["_law_script", "_law_cell"] ["_law_script"] (defScope sLens) := ⟨rfl, rfl, rfl, by decide +kernel, rfl, by decide +kernel, by decide +kernel⟩
theorem ok_lens {f : Addr} {fd : FuncData} (F : Fun K "_law_cask" "_law_cask" sLens f fd) (B : Bn mg) : FnOk P w K mg base CX0 1 f fd ["_law_script"] (spLens K) := by
  refine F.ok scLens (fun vs H Q E h => ?_) (fun cdv A outer s H vs Q E hr h => ?_)
  · obtain ⟨a, ns, rfl, _⟩ := h
    rfl
  · obtain ⟨a, ns, rfl, hS, hl, q⟩ := h
    refine ⟨_, pss_one (ps_ret (pe_lst (pa_cons (pe_lc (own := [("_law_cell", 1)]) (g := gName 1) (tt := tYes) rfl scLens.nd (pi_list (pe_slice sl_list (pv 0) po_none (po_some pe_int))) (blkOk_by (N := ["_law_script", "_law_cell"]) (sc := defScope sLens) (by decide +kernel)) (fun _ _ _ _ _ => pg_name (i := 1) scLens.nd rfl (Or.inl rfl)) (fun _ _ _ _ _ => pts_nil)
      (fun _ _ _ _ _ => pe_callTy call_int1 (by rfl) B.int boot_int (pa_cons (pv 1) pa_nil))) (pa_cons pe_int (pa_cons pe_int pa_nil))))), ?_⟩
    obtain ⟨ms, em, hm⟩ := cut_ints ns none (some 55)
    refine ⟨_, rfl, 55, rfl, a, _, rfl, hS, fun p hp => ?_⟩
    rw [em]
    refine ⟨p, rfl, ⟨_, SqL.of upd_same⟩, fun D hD => ?_⟩
    refine lc_list (K := K) (a := p) (xs := ms.map V.int) (fun i H' => Same (upd H p (.lst (ms.map V.int))) H' ∧ H' D = some (.lst ((ms.map V.int).take i))) ⟨same_new hD, upd_same⟩ (fun i H' _ p' => SqL.of (p'.1 _ _ upd_same)) (fun i x H' hx p' => ?_) (fun H' p' => ?_)
    · obtain ⟨z, _, rfl⟩ := get_ints hx
      refine ⟨rfl, yes_of ?_⟩
      refine ⟨_, rfl, .inl ⟨z, rfl, _, p'.2, ?_, ?_, ?_⟩⟩
      · rw [List.length_take, List.length_map]
        exact small1000 (by omega)
      · intro b o e
        rw [upd_ne (ne_of_none e hD)]
        exact p'.1 b o e
      · rw [upd_same, take_more hx]
    · have e := p'.2
      rw [List.take_length] at e
      refine ⟨by show 3 ≤ sizeLine; decide, fun t ht => ?_⟩
      have s0 : Same H (upd H p (.lst (ms.map V.int))) := same_new hp
      refine q _ t ((s0.trans p'.1).trans (same_new ht)) (s0.free (p'.1.free ht)) ⟨D, ms, 0, 0, upd_same, ?_, ne_of_none e ht, by decide, by decide⟩
      rw [upd_ne (ne_of_none e ht)]
      exact e
theorem mix_lt (x : Int) : 0 ≤ x % 2147483497 ∧ x % 2147483497 < 2147483497 := ⟨Int.emod_nonneg _ (by decide), Int.emod_lt_of_pos _ (by decide)⟩
theorem mixmul (x j : Int) : CMul (x % 2147483497) j := .inl ⟨by have := mix_lt x; omega, by have := mix_lt x; omega⟩
theorem pw5 (x : Int) {spot : Int} (h0 : 0 ≤ spot) (h1 : spot < 60000) : CPow (x % 2147483563 + 91886 * spot + 4330) 5 := by
  have a := Int.emod_nonneg x (show (2147483563 : Int) ≠ 0 by decide)
  have b := Int.emod_lt_of_pos x (show (0 : Int) < 2147483563 by decide)
  exact ⟨by decide, by decide, by omega⟩
theorem pw3 (y spot : Int) (a : 0 ≤ y) (b : y < 2147483497) (h0 : 0 ≤ spot) (h1 : spot < 60000) : CPow (y * (2 * spot + 2217) + 81924 * spot * spot + 91886) 3 := by
  have c1 : y * (2 * spot + 2217) ≤ 2147483497 * 122217 := Int.mul_le_mul (by omega) (by omega) (by omega) (by omega)
  have c0 : 0 ≤ y * (2 * spot + 2217) := Int.mul_nonneg a (by omega)
  have d1 : 81924 * spot * spot ≤ 81924 * 60000 * 60000 := Int.mul_le_mul (by omega) (by omega) (by omega) (by omega)
  have d0 : 0 ≤ 81924 * spot * spot := Int.mul_nonneg (by omega) h0
  exact ⟨by decide, by decide, by omega⟩
def spShot : Sp := fun vs H Q _ => ∃ (p : Addr) (m : Int) (n : Nat), vs = [.ref p, .int m] ∧ Lens H p n ∧ n < 60000 ∧ 0 < m ∧ m.natAbs < 2 ^ 64 ∧ ∀ H' d, SB p H H' → Lens H' p (n + 1) → 0 ≤ d → d < m → Q (.int d) H'
abbrev sShot : Stmt := top 42
abbrev nShot : List Str := ["_law_cask_here", "_law_many", "_law_rest", "_law_turn", "_law_cell", "_law_mixed"]
theorem scShot : FnScope nShot ["_law_cask_here", "_law_many"] (defScope sShot) := ⟨rfl, rfl, rfl, by decide +kernel, rfl, by decide +kernel, by decide +kernel⟩
theorem ok_shot {f : Addr} {fd : FuncData} (F : Fun K "_law_draw" "_law_draw" sShot f fd) (B : Bn mg) : FnOk P w K mg base CX0 1 f fd ["_law_cask_here", "_law_many"] spShot := by
  refine F.ok scShot (fun vs H Q E h => ?_) (fun cdv A outer s H vs Q E hr h => ?_)
  · obtain ⟨p, m, n, rfl, _⟩ := h
    rfl
  · obtain ⟨p, m, n, rfl, ⟨c, ns, spot, store, hp, hc, npc, h0, h1⟩, hn, hm0, hm, q⟩ := h
    have nd := scShot.nd
    refine ⟨_, (pss_cons (ps_if (pt_cmpR op_gt (pe_ix ix_list (pv 0) (pe_int) (fun _ _ => rfl)) pe_int (nomark _))
        (pss_cons ((ps_set (i := 2) nd rfl (Or.inl rfl) ((pe_ix ix_list (pv 0) (pe_int) (fun _ _ => rfl))))) (pss_cons (ps_asg (pe_op op_fdivWN (pe_callTy call_int1 (by rfl) B.int boot_int (pa_cons (pv 2) pa_nil)) (pv 1)) (pg_sub (pv 0) pe_int set_list)) (pss_one (ps_ret (pe_op op_mod (pe_callTy call_int1 (by rfl) B.int boot_int (pa_cons (pv 2) pa_nil)) (pv 1)))))) pss_nil) (pss_cons ((ps_set (i := 3) nd rfl (Or.inl rfl) ((pe_ix ix_list (pv 0) (pe_int) (fun _ _ => rfl))))) (pss_cons (ps_asg (pe_op op_add (pv 3) pe_int) (pg_sub (pv 0) pe_int set_list)) (pss_cons ((ps_set (i := 4) nd rfl (Or.inl rfl) (pe_op op_add (pe_op op_mul pe_int (pv 3)) pe_int))) (pss_cons (ps_if (pt_cmpR (op_neD hr.units) (pe_ix ix_list (pv 0) (pe_int) (fun _ _ => rfl)) (pe_lst pa_nil) (nomark _))
        (pss_one ((ps_set (i := 4) nd rfl (Or.inl rfl) ((pe_ix ix_list ((pe_ix ix_list (pv 0) (pe_int) (fun _ _ => rfl))) (pe_op op_mod (pe_callTy call_int1 (by rfl) B.int boot_int (pa_cons (pv 3) pa_nil)) (pe_callB call_len_seq (by rfl) B.len PySem.boot_len (pa_cons ((pe_ix ix_list (pv 0) (pe_int) (fun _ _ => rfl))) pa_nil))) (fun _ _ => rfl)))))) pss_nil) (pss_cons (ps_if (PW.pt (pw_and (pt_cmpR op_lt (pv 3) (pe_callB call_len_seq (by rfl) B.len PySem.boot_len (pa_cons ((pe_ix ix_list (pv 0) (pe_int) (fun _ _ => rfl))) pa_nil)) (nomark _)) (pw_and1 (pt_cmpR op_ge (pe_callB call_abs (by rfl) B.abs (by decide +kernel) (pa_cons (pv 4) pa_nil)) (pe_op op_pow pe_int pe_int) (nomark _)))))
        (pss_cons ((ps_set (i := 2) nd rfl (Or.inl rfl) (pe_op op_add (pe_op op_mul pe_int (pe_op op_sub (pe_callB call_abs (by rfl) B.abs (by decide +kernel) (pa_cons (pv 4) pa_nil)) (pe_op op_pow pe_int pe_int))) (pe_callTy call_int1 (by rfl) B.int boot_int (pa_cons (pe_cmpR op_lt (pv 4) pe_int (nomark _)) pa_nil))))) (pss_cons (ps_asg (pe_op op_fdivWN (pe_callTy call_int1 (by rfl) B.int boot_int (pa_cons (pv 2) pa_nil)) (pv 1)) (pg_sub (pv 0) pe_int set_list)) (pss_one (ps_ret (pe_op op_mod (pe_callTy call_int1 (by rfl) B.int boot_int (pa_cons (pv 2) pa_nil)) (pv 1)))))) pss_nil) (pss_cons ((ps_set (i := 5) nd rfl (Or.inl rfl) (pe_op op_mod (pe_callTy call_int1 (by rfl) B.int boot_int (pa_cons (pe_op op_pow (pe_op op_add (pe_op op_add (pe_op op_mod (pe_callTy call_int1 (by rfl) B.int boot_int (pa_cons (pv 4) pa_nil)) pe_int) (pe_op op_mul pe_int (pv 3))) pe_int) pe_int) pa_nil)) pe_int))) (pss_cons ((ps_set (i := 5) nd rfl (Or.inl rfl) (pe_op op_mod (pe_callTy call_int1 (by rfl) B.int boot_int (pa_cons (pe_op op_pow (pe_op op_add (pe_op op_add (pe_op op_mul (pv 5) (pe_op op_add (pe_op op_mul pe_int (pv 3)) pe_int)) (pe_op op_mul (pe_op op_mul pe_int (pv 3)) (pv 3))) pe_int) pe_int) pa_nil)) pe_int))) (pss_one (ps_ret (pe_op op_mod (pe_callTy call_int1 (by rfl) B.int boot_int (pa_cons (pe_op op_fdiv (pv 5) pe_int) pa_nil)) (pv 1)))))))))))), ?_⟩
    have hdm : ∀ x : Int, CDivWN x m := fun x => cdiv_of (by omega) hm (by decide) (by decide)
    refine ⟨_, rfl, p, _, 2, _, rfl, rfl, SqL.of hp, rfl, _, _, rfl, rfl, _, rfl, ?_⟩
    have fin : ∀ (x st sp : Int) (H1 : Hp), H1 p = some (.lst [.ref c, .int sp, .int st]) → SB p H H1 → 0 ≤ sp → sp ≤ (n + 1 : Nat) → Q (.int (x % m)) H1 := fun x st sp H1 e s1 h0 h1 =>
      q _ _ s1 ⟨c, ns, sp, st, e, s1.1 _ _ npc hc, npc, h0, h1⟩ (Int.emod_nonneg _ (by omega)) (Int.emod_lt_of_pos _ hm0)
    by_cases hpos : 0 < store
    · rw [decide_eq_true hpos]
      refine iteT ⟨_, rfl, p, _, 2, _, rfl, rfl, SqL.of hp, rfl, ?_⟩
      refine ⟨_, rfl, .inl ⟨_, rfl, _, rfl, _, _, rfl, rfl, hdm _, ?_⟩⟩
      refine ⟨_, rfl, p, _, 2, 2, rfl, rfl, hp, rfl, ?_⟩
      refine ⟨_, rfl, .inl ⟨_, rfl, _, rfl, _, _, rfl, rfl, hm0, ?_⟩⟩
      exact fin store _ spot _ upd_same (SB.set hp) h0 (by omega)
    · rw [decide_eq_false hpos]
      refine iteF ⟨_, rfl, p, _, 1, _, rfl, rfl, SqL.of hp, rfl, ?_⟩
      refine ⟨_, rfl, _, _, rfl, rfl, _, rfl, p, _, 1, 1, rfl, rfl, hp, rfl, ?_⟩
      have hp1 : (upd H p (.lst [.ref c, .int (spot + 1), .int store])) p = some (.lst [.ref c, .int (spot + 1), .int store]) := upd_same
      have s1 : SB p H (upd H p (.lst [.ref c, .int (spot + 1), .int store])) := SB.set hp
      have e1 : upd H p (.lst (List.set [V.ref c, V.int spot, V.int store] 1 (V.int (spot + 1)))) = upd H p (.lst [.ref c, .int (spot + 1), .int store]) := rfl
      generalize hH1 : upd H p (.lst [.ref c, .int (spot + 1), .int store]) = H1 at hp1 s1 e1
      rw [e1]
      refine ⟨_, rfl, _, _, rfl, rfl, .inl ⟨by decide, by decide⟩, _, _, rfl, rfl, ?_⟩
      have hc1 := s1.1 _ _ npc hc
      refine ⟨_, rfl, p, _, 0, _, rfl, rfl, SqL.of hp1, rfl, Nat.zero_le _, fun l hl' => ?_⟩
      have hp2 : upd H1 l (.lst []) p = some (.lst [.ref c, .int (spot + 1), .int store]) := same_new hl' _ _ hp1
      have hc2 : upd H1 l (.lst []) c = some (.lst (ns.map V.int)) := same_new hl' _ _ hc1
      have s2 : SB p H (upd H1 l (.lst [])) := s1.trans (SB.of (same_new hl'))
      have hl2 : upd H1 l (.lst []) l = some (.lst []) := upd_same
      have hsn : spot < 60000 := by omega
      clear hl'
      generalize upd H1 l (.lst []) = H2 at hp2 hc2 s2 hl2
      refine ⟨.list (ns.map PyData.int), .list [], .lst (SqL.of hc2) (dp_ints ns), .lst (SqL.of hl2) .nil, PySem.W.ke_shaped_ints ns, by decide, _, rfl, ?_⟩
      by_cases hnn : ns = []
      · have e : (!PyData.eqv (.list (ns.map PyData.int)) (.list [])) = false := by subst hnn; rfl
        rw [e]
        refine iteF ?_
        generalize 81924 * spot + 4330 = x
        refine ⟨_, rfl, _, rfl, p, _, 0, _, rfl, rfl, SqL.of hp2, rfl, c, _, rfl, .inl (SqL.of hc2), _, _, rfl, rfl, _, rfl, ?_⟩
        refine ite2 (fun ha => ?_) (fun ha => ?_)
        · refine ⟨_, rfl, _, rfl, _, _, rfl, rfl, ⟨by decide, by decide, by decide⟩, _, _, rfl, rfl, _, rfl, ?_⟩
          refine ite2 (fun hb => ?_) (fun hb => ?_)
          · refine ⟨_, rfl, _, rfl, _, _, rfl, rfl, ⟨by decide, by decide, by decide⟩, _, _, rfl, rfl, _, _, rfl, rfl, .inl ⟨by decide, by decide⟩, _, rfl, _, _, rfl, rfl, .inr ⟨_, rfl, _, _, rfl, rfl, ?_⟩⟩
            refine ⟨_, rfl, .inl ⟨_, rfl, _, rfl, _, _, rfl, rfl, hdm _, ?_⟩⟩
            refine ⟨_, rfl, p, _, 2, 2, rfl, rfl, hp2, rfl, ?_⟩
            refine ⟨_, rfl, .inl ⟨_, rfl, _, rfl, _, _, rfl, rfl, hm0, ?_⟩⟩
            exact fin _ _ (spot + 1) _ upd_same (s2.trans (SB.set hp2)) (by omega) (by omega)
          · refine ⟨_, rfl, .inl ⟨_, rfl, _, _, rfl, rfl, (by show (0 : Int) < 2147483563; decide), _, rfl, _, _, rfl, rfl, .inl ⟨by decide, by decide⟩, _, _, rfl, rfl, _, _, rfl, rfl, _, _, rfl, rfl, pw5 _ h0 hsn, .inl ⟨_, rfl, _, _, rfl, rfl, (by show (0 : Int) < 2147483497; decide), ?_⟩⟩⟩
            refine ⟨_, rfl, _, rfl, _, _, rfl, rfl, .inl ⟨by decide, by decide⟩, _, _, rfl, rfl, _, _, rfl, rfl, mixmul _ _, _, rfl, _, _, rfl, rfl, .inl ⟨by decide, by decide⟩, _, rfl, _, _, rfl, rfl, .inr ⟨by omega, by omega⟩, _, _, rfl, rfl, _, _, rfl, rfl, _, _, rfl, rfl, pw3 _ spot (mix_lt _).1 (mix_lt _).2 h0 hsn, .inl ⟨_, rfl, _, _, rfl, rfl, (by show (0 : Int) < 2147483587; decide), ?_⟩⟩
            refine ⟨_, rfl, _, _, rfl, rfl, ⟨by decide, by decide⟩, .inl ⟨_, rfl, _, rfl, _, _, rfl, rfl, hm0, ?_⟩⟩
            exact fin _ _ _ _ hp2 s2 (by omega) (by omega)
        · refine iteF ?_
          refine ⟨_, rfl, .inl ⟨_, rfl, _, _, rfl, rfl, (by show (0 : Int) < 2147483563; decide), _, rfl, _, _, rfl, rfl, .inl ⟨by decide, by decide⟩, _, _, rfl, rfl, _, _, rfl, rfl, _, _, rfl, rfl, pw5 _ h0 hsn, .inl ⟨_, rfl, _, _, rfl, rfl, (by show (0 : Int) < 2147483497; decide), ?_⟩⟩⟩
          refine ⟨_, rfl, _, rfl, _, _, rfl, rfl, .inl ⟨by decide, by decide⟩, _, _, rfl, rfl, _, _, rfl, rfl, mixmul _ _, _, rfl, _, _, rfl, rfl, .inl ⟨by decide, by decide⟩, _, rfl, _, _, rfl, rfl, .inr ⟨by omega, by omega⟩, _, _, rfl, rfl, _, _, rfl, rfl, _, _, rfl, rfl, pw3 _ spot (mix_lt _).1 (mix_lt _).2 h0 hsn, .inl ⟨_, rfl, _, _, rfl, rfl, (by show (0 : Int) < 2147483587; decide), ?_⟩⟩
          refine ⟨_, rfl, _, _, rfl, rfl, ⟨by decide, by decide⟩, .inl ⟨_, rfl, _, rfl, _, _, rfl, rfl, hm0, ?_⟩⟩
          exact fin _ _ _ _ hp2 s2 (by omega) (by omega)
      · have e : (!PyData.eqv (.list (ns.map PyData.int)) (.list [])) = true := by
          cases ns with
          | nil => exact absurd rfl hnn
          | cons => rfl
        rw [e]
        obtain ⟨z, hz⟩ := ix_cells (ns := ns) h0 hnn
        refine iteT ⟨_, rfl, p, _, 0, _, rfl, rfl, SqL.of hp2, rfl, _, rfl, .inl ⟨_, rfl, _, rfl, p, _, 0, _, rfl, rfl, SqL.of hp2, rfl, c, _, rfl, .inl (SqL.of hc2), _, _, rfl, rfl, ?_, c, _, _, _, rfl, rfl, SqL.of hc2, hz, ?_⟩⟩
        · rw [List.length_map]
          have := List.length_pos_iff.mpr hnn
          omega
        generalize z = x
        refine ⟨_, rfl, _, rfl, p, _, 0, _, rfl, rfl, SqL.of hp2, rfl, c, _, rfl, .inl (SqL.of hc2), _, _, rfl, rfl, _, rfl, ?_⟩
        refine ite2 (fun ha => ?_) (fun ha => ?_)
        · refine ⟨_, rfl, _, rfl, _, _, rfl, rfl, ⟨by decide, by decide, by decide⟩, _, _, rfl, rfl, _, rfl, ?_⟩
          refine ite2 (fun hb => ?_) (fun hb => ?_)
          · refine ⟨_, rfl, _, rfl, _, _, rfl, rfl, ⟨by decide, by decide, by decide⟩, _, _, rfl, rfl, _, _, rfl, rfl, .inl ⟨by decide, by decide⟩, _, rfl, _, _, rfl, rfl, .inr ⟨_, rfl, _, _, rfl, rfl, ?_⟩⟩
            refine ⟨_, rfl, .inl ⟨_, rfl, _, rfl, _, _, rfl, rfl, hdm _, ?_⟩⟩
            refine ⟨_, rfl, p, _, 2, 2, rfl, rfl, hp2, rfl, ?_⟩
            refine ⟨_, rfl, .inl ⟨_, rfl, _, rfl, _, _, rfl, rfl, hm0, ?_⟩⟩
            exact fin _ _ (spot + 1) _ upd_same (s2.trans (SB.set hp2)) (by omega) (by omega)
          · refine ⟨_, rfl, .inl ⟨_, rfl, _, _, rfl, rfl, (by show (0 : Int) < 2147483563; decide), _, rfl, _, _, rfl, rfl, .inl ⟨by decide, by decide⟩, _, _, rfl, rfl, _, _, rfl, rfl, _, _, rfl, rfl, pw5 _ h0 hsn, .inl ⟨_, rfl, _, _, rfl, rfl, (by show (0 : Int) < 2147483497; decide), ?_⟩⟩⟩
            refine ⟨_, rfl, _, rfl, _, _, rfl, rfl, .inl ⟨by decide, by decide⟩, _, _, rfl, rfl, _, _, rfl, rfl, mixmul _ _, _, rfl, _, _, rfl, rfl, .inl ⟨by decide, by decide⟩, _, rfl, _, _, rfl, rfl, .inr ⟨by omega, by omega⟩, _, _, rfl, rfl, _, _, rfl, rfl, _, _, rfl, rfl, pw3 _ spot (mix_lt _).1 (mix_lt _).2 h0 hsn, .inl ⟨_, rfl, _, _, rfl, rfl, (by show (0 : Int) < 2147483587; decide), ?_⟩⟩
            refine ⟨_, rfl, _, _, rfl, rfl, ⟨by decide, by decide⟩, .inl ⟨_, rfl, _, rfl, _, _, rfl, rfl, hm0, ?_⟩⟩
            exact fin _ _ _ _ hp2 s2 (by omega) (by omega)
        · refine iteF ?_
          refine ⟨_, rfl, .inl ⟨_, rfl, _, _, rfl, rfl, (by show (0 : Int) < 2147483563; decide), _, rfl, _, _, rfl, rfl, .inl ⟨by decide, by decide⟩, _, _, rfl, rfl, _, _, rfl, rfl, _, _, rfl, rfl, pw5 _ h0 hsn, .inl ⟨_, rfl, _, _, rfl, rfl, (by show (0 : Int) < 2147483497; decide), ?_⟩⟩⟩
          refine ⟨_, rfl, _, rfl, _, _, rfl, rfl, .inl ⟨by decide, by decide⟩, _, _, rfl, rfl, _, _, rfl, rfl, mixmul _ _, _, rfl, _, _, rfl, rfl, .inl ⟨by decide, by decide⟩, _, rfl, _, _, rfl, rfl, .inr ⟨by omega, by omega⟩, _, _, rfl, rfl, _, _, rfl, rfl, _, _, rfl, rfl, pw3 _ spot (mix_lt _).1 (mix_lt _).2 h0 hsn, .inl ⟨_, rfl, _, _, rfl, rfl, (by show (0 : Int) < 2147483587; decide), ?_⟩⟩
          refine ⟨_, rfl, _, _, rfl, rfl, ⟨by decide, by decide⟩, .inl ⟨_, rfl, _, rfl, _, _, rfl, rfl, hm0, ?_⟩⟩
          exact fin _ _ _ _ hp2 s2 (by omega) (by omega)
/-! ### _law_of -/
def spPick : Sp := fun vs H Q _ => ∃ (p a : Addr) (n : Nat) (xs : List V), vs = [.ref p, .ref a] ∧ Lens H p n ∧ n < 60000 ∧ H a = some (.lst xs) ∧ a ≠ p ∧ 0 < xs.length ∧ xs.length ≤ 1000 ∧ ∀ H' x, SB p H H' → Lens H' p (n + 1) → x ∈ xs → Q x H'
abbrev sPick : Stmt := top 43
theorem scPick : FnScope ["_law_cask_here", "_law_some"] ["_law_cask_here", "_law_some"] (defScope sPick) := ⟨rfl, rfl, rfl, by decide +kernel, rfl, by decide +kernel, by decide +kernel⟩
theorem ok_pick {f : Addr} {fd : FuncData} (F : Fun K "_law_of" "_law_of" sPick f fd) (B : Bn mg) (C1 : Callee P w K mg base CX0 1 "_law_draw" ["_law_cask_here", "_law_many"] spShot) : FnOk P w K mg base CX0 2 f fd ["_law_cask_here", "_law_some"] spPick := by
  obtain ⟨f1, fd1, m1, k1, b1, G1⟩ := C1
  refine F.ok scPick (fun vs H Q E h => ?_) (fun cdv A outer s H vs Q E hr h => ?_)
  · obtain ⟨p, a, n, xs, rfl, _⟩ := h
    rfl
  · obtain ⟨p, a, n, xs, rfl, hv, hn, ha, nap, h0, h1, q⟩ := h
    refine ⟨_, pss_one (ps_ret (pe_ix ix_list (pv 1) ((pe_call G1 (hr.mono (by decide)) rfl m1 k1 b1 .nil pass0 (pa_cons (pv 0) (pa_cons ((pe_callB call_len_seq (by rfl) B.len PySem.boot_len (pa_cons (pv 1) pa_nil))) pa_nil)))) (fun _ _ => rfl))), ?_⟩
    refine ⟨_, rfl, _, rfl, _, rfl, a, xs, rfl, .inl (SqL.of ha), p, _, n, rfl, hv, hn, by omega, by rw [Int.natAbs_natCast]; exact Nat.lt_of_le_of_lt h1 (by decide), fun H' d s1 v1 d0 d1 => ?_⟩
    obtain ⟨j, rfl⟩ := Int.eq_ofNat_of_zero_le d0
    have hj : j < xs.length := by omega
    exact ⟨a, xs, _, xs[j], rfl, rfl, SqL.of (s1.1 _ _ nap ha), atI_nat (List.getElem?_eq_getElem hj), q _ _ s1 v1 (List.getElem_mem hj)⟩
end
end K19

namespace K19
open PySem PySem.Spec PyProof.Rows L2
theorem paired_mono {α β : Type} {R S : α → β → Prop} {xs : List α} {ys : List β} (h : Paired R xs ys) (i : ∀ x y, R x y → S x y) : Paired S xs ys := by
  induction h with
  | nil => exact .nil
  | cons a _ ih => exact .cons (i _ _ a) ih
/-- all but what stands at a -/
def Kp (a : Addr) (H H' : Hp) : Prop := ∀ b o, b ≠ a → H b = some o → H' b = some o
theorem Kp.of {a : Addr} {H H' : Hp} (s : Same H H') : Kp a H H' := fun b o _ e => s b o e
theorem Kp.trans {a : Addr} {H H1 H2 : Hp} (x : Kp a H H1) (y : Kp a H1 H2) : Kp a H H2 := fun b o n e => y b o n (x b o n e)
theorem Kp.set {a : Addr} {H : Hp} {o : HO} : Kp a H (upd H a o) := fun b u n e => by rw [upd_ne n]; exact e
/-! ### tuples of rows -/
def RowT (H : Hp) (r : Addr) (xs : List Int) : Prop := H r = some (.tup (xs.map V.int))
def TRw (H : Hp) (t : Addr) (rs : List (List Int)) : Prop := ∃ ts : List Addr, H t = some (.tup (ts.map V.ref)) ∧ Paired (RowT H) ts rs
theorem TRw.same {H H' : Hp} {t : Addr} {rs : List (List Int)} (h : TRw H t rs) (s : Same H H') : TRw H' t rs := let ⟨ts, e, p⟩ := h; ⟨ts, s _ _ e, paired_mono p fun _ _ z => s _ _ z⟩
theorem TRw.kp {H H' : Hp} {t a C dx : Addr} {fs : List (Str × V)} {rs : List (List Int)} (h : TRw H t rs) (ha : H a = some (.ins C dx fs)) (k : Kp a H H') : TRw H' t rs := by
  obtain ⟨ts, e, p⟩ := h
  have ne : ∀ {x : Addr} {xs : List V}, H x = some (.tup xs) → x ≠ a := fun h => L2.ne_of h ha (by intro z; cases z)
  exact ⟨ts, k _ _ (ne e) e, paired_mono p fun _ _ z => k _ _ (ne z) z⟩
/-- a row less the place of pin 0 -/
def stp (ns : List Int) : List Int := (ns.drop 1).map fun n => n - ns.headD 0
/-- what a thing must be to stand for a row -/
def isRowT (o : HO) (ns : List Int) : Prop := o = .tup (ns.map V.int)
theorem tt_of {H : Hp} {t : Addr} {ts : List Addr} {rs : List (List Int)} (e : H t = some (.tup (ts.map V.ref))) (p : Paired (fun r b => ∃ o, H r = some o ∧ isRowT o b) ts rs) : TRw H t rs := ⟨ts, e, paired_mono p fun _ _ ⟨o, h, g⟩ => by
  unfold isRowT at g
  subst g
  exact h⟩
/-! ### trays -/
structure TrT (K : PySem.W.Frag) (C : Addr) : Prop where
  pc : PicC K C
  n1 : NoAttr K C "pins"
  n2 : NoAttr K C "places"
  n3 : NoAttr K C "rows"
/-- at a: the tray with these rows -/
def TrF (H : Hp) (C a : Addr) (rs : List (List Int)) : Prop := ∃ dx t u, H a = some (.ins C dx [("pins", .int ((rs.headD []).length : Nat)), ("places", .ref t), ("rows", .ref u)]) ∧ TRw H t rs ∧ TRw H u (rs.map stp)
theorem TrF.same {H H' : Hp} {C a : Addr} {rs : List (List Int)} (h : TrF H C a rs) (s : Same H H') : TrF H' C a rs := let ⟨dx, t, u, e, p, q⟩ := h; ⟨dx, t, u, s _ _ e, p.same s, q.same s⟩
def alike (rs : List (List Int)) : Bool := rs.all fun r => decide (r.length = (rs.headD []).length)
def fullR : List (Str × V) := [("most", .int 8), ("what", .str "rows")]
def nq (r0 r : List Int) : Bool := !decide (V.int (r.length : Nat) = V.int (r0.length : Nat))
theorem nq_any (r0 : List Int) : ∀ rs : List (List Int), (rs.map (nq r0)).any id = !rs.all fun r => decide (r.length = r0.length)
  | [] => rfl
  | r :: rs => by
    rw [List.map_cons, List.any_cons, List.all_cons, nq_any r0 rs]
    have e : id (nq r0 r) = !decide (r.length = r0.length) := by
      show (!decide (V.int (r.length : Nat) = V.int (r0.length : Nat))) = _
      congr 1
      rw [Bool.eq_iff_iff, decide_eq_true_iff, decide_eq_true_iff]
      exact ⟨fun z => by have := V.int.inj z; omega, fun z => by rw [z]⟩
    rw [e, Bool.not_and]
/-- how a tray is made of a value: refused, or of rows -/
def TrJ (K : PySem.W.Frag) (CB CF CT : Addr) (v : V) (H : Hp) (OK : List (List Int) → Prop) (RZ : (Hp → XK → Prop) → Prop) : Prop :=
  ((Kd K H v false ∨ (∃ b, v = .ref b ∧ Sq H b []) ∨ ∃ b xs bs, v = .ref b ∧ Sq H b xs ∧ xs ≠ [] ∧ xs.length ≤ 100 ∧ Paired (RowV K H) xs bs ∧ bs.all id = false) ∧ RZ (RzV CB "part" (.str "rows"))) ∨
  (∃ b xs rs, v = .ref b ∧ Sq H b xs ∧ Paired (Row H) xs rs ∧ (∀ r ∈ rs, OkR r) ∧ rs ≠ [] ∧ rs.length ≤ 100 ∧ (alike rs = false → RZ (RzV CF "part" (.str "pins"))) ∧ (alike rs = true → 8 < rs.length → RZ (RzF CT fullR)) ∧ (alike rs = true → rs.length ≤ 8 → OK rs))
theorem ix_in {K : PySem.W.Frag} {H : Hp} {b : Addr} {xs : List V} {i : Int} {x : V} {Q : VK} (sq : Sq H b xs) (h : atI xs i = some x) (q : Q x H) : rIx K (.ref b) (.int i) H Q :=
  sq.elim (fun e => .inl ⟨b, _, i, x, rfl, rfl, SqL.of e, h, q⟩) (fun e => .inr (.inl ⟨b, _, i, x, rfl, rfl, SqT.of e, h, q⟩))
theorem Row.kp {H H' : Hp} {a C dx : Addr} {fs : List (Str × V)} {x : V} {ns : List Int} (h : Row H x ns) (ha : H a = some (.ins C dx fs)) (k : Kp a H H') : Row H' x ns := by
  obtain ⟨g, e, q⟩ := h
  exact ⟨g, e, q.elim (fun z => .inl (k _ _ (L2.ne_of z ha (by intro z; cases z)) z)) (fun z => .inr (k _ _ (L2.ne_of z ha (by intro z; cases z)) z))⟩
theorem Sq.kp {H H' : Hp} {a C dx b : Addr} {fs : List (Str × V)} {xs : List V} (q : Sq H b xs) (ha : H a = some (.ins C dx fs)) (k : Kp a H H') : Sq H' b xs :=
  q.elim (fun z => .inl (k _ _ (L2.ne_of z ha (by intro z; cases z)) z)) (fun z => .inr (k _ _ (L2.ne_of z ha (by intro z; cases z)) z))
theorem stp_len (ns : List Int) : (stp ns).length = ns.length - 1 := by
  unfold stp
  rw [List.length_map, List.length_drop]
section
variable {P : Program} {w : World} {K : PySem.W.Frag} {mg : Str → Option Value} {base : Heap} {C CB CF CT fT : Addr}
def spTrI (K : PySem.W.Frag) (C CB CF CT : Addr) : Sp := fun vs H Q E => ∃ (a dx : Addr) (v : V), vs = [.ref a, v] ∧ H a = some (.ins C dx []) ∧
  TrJ K CB CF CT v H (fun rs => ∀ H', Kp a H H' → TrF H' C a rs → Q .non H') (fun R => ∀ H1, Kp a H H1 → R H1 E)
abbrev sTrI : Stmt := inClass (top 38) 0
abbrev nTrI : List Str := ["self", "rows", "row", "place"]
theorem scTrI : FnScope nTrI ["self", "rows"] (defScope sTrI) := ⟨rfl, rfl, rfl, by decide +kernel, rfl, by decide +kernel, by decide +kernel⟩
abbrev scTrR : Scope := { kind := .function, names := [(".0", .local), ("row", .cell), ("tuple", .globalImplicit)], isGenerator := false, isCoroutine := false }
theorem ok_tri {f : Addr} {fd fdT : FuncData} (F : Fun K "__init__" "Tray.__init__" sTrI f fd) (B : Bn mg) (T : TrT K C) (L8 : ∃ t, mg "MOST_ROWS" = some (.int 8 t)) (M1 : ErM P w K mg base "BadTray" "part" CB) (M2 : ErM P w K mg base "Misfit" "part" CF) (TM : TmT K mg CT fT) (FT : Fun K "__init__" "TooMany.__init__" sTI fT fdT) (C1 : Callee P w K mg base CX0 1 "is_list" ["value"] (spIsList K)) (C2 : Callee P w K mg base CX0 4 "_is_tray_row" ["value"] (spTR K)) :
    FnOk P w K mg base (L2.CX P w) 5 f fd ["self", "rows"] (spTrI K C CB CF CT) := by
  obtain ⟨f1, fd1, m1, k1, b1, G1⟩ := C1
  obtain ⟨f2, fd2, m2, k2, b2, G2⟩ := C2
  obtain ⟨fE1, fdE1, T1, GE1, bE1⟩ := M1
  obtain ⟨fE2, fdE2, T2, GE2, bE2⟩ := M2
  obtain ⟨t8, m8⟩ := L8
  have GT : FnOk P w K mg base CX0 1 fT fdT ["self", "what", "most"] (spIn2 K "what" "most") := ok_ti FT
  have bT : Binds K fdT ["self", "what", "most"] [] := FT.binds (ps := ["self", "what", "most"]) fun _ _ _ _ _ _ us hl => match us, hl with | [_, _, _], _ => rfl
  have nd := scTrI.nd
  have cl := T.pc.cls
  refine F.okX scTrI (fun vs H Q E h => ?_) (fun cdv A outer s H vs Q E hr h => ?_)
  · obtain ⟨a, dx, v, rfl, _⟩ := h
    rfl
  · obtain ⟨a, dx, v, rfl, ha, h⟩ := h
    refine ⟨_, (pss_cons (ps_if (PW.pt (pw_or (pt_not (pt_val (pe_call G1 (hr.mono (by decide)) rfl m1 k1 b1 .nil pass0 (pa_cons (pv 1) pa_nil)))) (pw_or (pt_not (pt_truth (pv 1) (fun _ => rfl))) (pw_or1 (pt_not (pt_val (pe_callB (cr_all rfl) (by rfl) B.all boot_all (pa_cons ((pe_lc (own := [("row", 2)]) (g := gName 2) (tt := tYes) rfl nd (pi_sq K (pv 1)) (blkOk_by (N := nTrI) (sc := defScope sTrI) (by decide +kernel)) (fun _ _ _ _ _ => (pg_name (i := 2) nd rfl (Or.inl rfl))) (fun _ _ _ _ _ => pts_nil) (fun _ _ _ _ _ => (pe_call G2 (hr.mono (by decide)) rfl m2 k2 b2 .nil pass0 (pa_cons (pv 2) pa_nil))))) pa_nil)))))))) (pss_one (ps_raise rfl (takes_of rfl rfl rfl rfl) (pmk_oex T1.oex T1.iC T1.tI GE1 (hr.mono (by decide)) bE1 .nil pass0 rfl T1.mgC (pa_cons (pe_str) pa_nil)))) pss_nil) (pss_cons (ps_fld (pv 0) (pe_callB call_len_seq (by rfl) B.len PySem.boot_len (pa_cons ((pe_ix ix_seq (pv 1) (pe_int) (fun _ _ => rfl))) pa_nil)) rfl) (pss_cons (ps_if (pt_val (pe_callB (cr_any rfl) (by rfl) B.any boot_any (pa_cons ((pe_lc (own := [("row", 2)]) (g := gName 2) (tt := tYes) rfl nd (pi_sq K (pv 1)) (blkOk_by (N := nTrI) (sc := defScope sTrI) (by decide +kernel)) (fun _ _ _ _ _ => (pg_name (i := 2) nd rfl (Or.inl rfl))) (fun _ _ _ _ _ => pts_nil) (fun _ _ _ _ _ => pe_cmpR op_ne (pe_callB (r := rLen K) call_lenK (by rfl) B.len PySem.boot_len (pa_cons (pv 2) pa_nil)) (pe_fldK K (pv 0) rfl) (nomark _)))) pa_nil))) (pss_one (ps_raise rfl (takes_of rfl rfl rfl rfl) (pmk_oex T2.oex T2.iC T2.tI GE2 (hr.mono (by decide)) bE2 .nil pass0 rfl T2.mgC (pa_cons (pe_str) pa_nil)))) pss_nil) (pss_cons (ps_if (pt_cmpR op_gt (pe_callB call_len_seq (by rfl) B.len PySem.boot_len (pa_cons (pv 1) pa_nil)) (pe_glob (v := .int 8) rfl m8 ⟨_, rfl⟩) (nomark _)) (pss_one (ps_raise rfl (takes_of rfl rfl rfl rfl) (pmk_oex TM.oex TM.iC TM.tI GT (hr.mono (by decide)) bT .nil pass0 rfl TM.mgC (pa_cons (pe_str) (pa_cons (pe_glob (v := .int 8) rfl m8 ⟨_, rfl⟩) pa_nil))))) pss_nil) (pss_cons (ps_fld (pv 0) (pe_callTy (T := "tuple") (r := rTu K) call_tuK (by rfl) B.tuple (by decide +kernel) (pa_cons ((pe_lc (own := [("row", 2)]) (g := gName 2) (tt := tYes) rfl nd (pi_sq K (pv 1)) (blkOk_by (N := nTrI) (sc := defScope sTrI) (by decide +kernel)) (fun _ _ _ _ _ => (pg_name (i := 2) nd rfl (Or.inl rfl))) (fun _ _ _ _ _ => pts_nil) (fun _ _ _ _ _ => (pe_callTy (T := "tuple") (r := rTu K) call_tuK (by rfl) B.tuple (by decide +kernel) (pa_cons (pv 2) pa_nil))))) pa_nil)) rfl) (pss_one (ps_fld (pv 0) (pe_callTy (T := "tuple") (r := rTu K) call_tuK (by rfl) B.tuple (by decide +kernel) (pa_cons ((pe_lc (own := [("row", 2)]) (g := gName 2) (tt := tYes) rfl nd (pi_sq K (pe_fld (pv 0) rfl)) (blkOk_by (N := nTrI) (sc := defScope sTrI) (by decide +kernel)) (fun _ _ _ _ _ => (pg_name (i := 2) nd rfl (Or.inr rfl))) (fun _ _ _ _ _ => pts_nil) (fun _ _ _ _ _ => (pe_callTy (T := "tuple") (r := rTu K) call_tuK (by rfl) B.tuple (by decide +kernel) (pa_cons ((pe_lc (own := [("place", 3)]) (g := gName 3) (tt := tYes) rfl nd (pi_tupK K (pe_slice (r := rSlT K) sl_tupK (pv 2) (po_some pe_int) (po_none))) (blkOk_by (N := nTrI) (sc := scTrR) (by decide +kernel)) (fun _ _ _ _ _ => (pg_name (i := 3) nd rfl (Or.inl rfl))) (fun _ _ _ _ _ => pts_nil) (fun _ _ _ _ _ => pe_op op_sub (pv 3) (pe_ix (r := rIxT K) ix_tupK (pv 2) (pe_int) (fun _ _ => rfl))))) pa_nil))))) pa_nil)) rfl))))))), ?_⟩
    rcases h with ⟨h, r⟩ | ⟨b, xs, rs, rfl, hs, hp, ok, hne, h100, r1, r2, q⟩
    · rcases h with h | ⟨b, rfl, hs⟩ | ⟨b, xs, bs, rfl, hs, hne, h100, hj, hb⟩
      · exact ⟨_, rfl, v, false, rfl, h, fun H1 s1 => ⟨_, rfl, iteT ⟨by show 1 ≤ 1000; decide, fun e he => ⟨e, _, rfl, T1.oex, T1.noF, upd_same, fun dx hdx ne => ⟨rfl, dx, _, upd_same, by rw [upd_ne ne]; exact upd_same, by rw [upd_ne ne] at hdx; exact hdx, raisedV (r _ (Kp.of s1)) Same.me he hdx ne⟩⟩⟩⟩⟩
      · refine ⟨_, rfl, _, true, rfl, hs.kd, fun H1 s1 => ⟨_, rfl, iteF ?_⟩⟩
        exact ⟨_, rfl, false, (hs.same s1).elim (fun z => .inl ⟨_, SqL.of z, rfl⟩) (fun z => .inr (.inl ⟨_, SqT.of z, rfl⟩)), iteT ⟨by show 1 ≤ 1000; decide, fun e he => ⟨e, _, rfl, T1.oex, T1.noF, upd_same, fun dx hdx ne => ⟨rfl, dx, _, upd_same, by rw [upd_ne ne]; exact upd_same, by rw [upd_ne ne] at hdx; exact hdx, raisedV (r _ (Kp.of s1)) Same.me he hdx ne⟩⟩⟩⟩
      · have ne1 : (!xs.isEmpty) = true := by
          cases xs with
          | nil => exact absurd rfl hne
          | cons => rfl
        refine ⟨_, rfl, _, true, rfl, hs.kd, fun H1 s1 => ⟨_, rfl, iteF ?_⟩⟩
        refine ⟨_, rfl, true, (hs.same s1).elim (fun z => .inl ⟨_, SqL.of z, ne1.symm⟩) (fun z => .inr (.inl ⟨_, SqT.of z, ne1.symm⟩)), iteF ?_⟩
        try dsimp only [tNext, tRet, tCB, tCons, tNil, tNot, tB, tOr, tSeq, tIfS, sFld]
        refine lcv (xs := xs) (ys := bs.map V.bl) (fun Q' q' => ⟨_, rfl, q'⟩) (hs.same s1) (by rw [List.length_map, Paired.length hj]) (by omega) (fun D i x y H' hD hx hy s2 T N t => ?_) (fun D H' hD s2 hd => ?_)
        · obtain ⟨bx, hbx, rx⟩ := paired_get hj hx
          refine ⟨rfl, yes_of ?_⟩
          refine ⟨_, rfl, x, bx, rfl, (rx.same s1).same s2, fun H3 s3 => ?_⟩
          have ey : y = .bl bx := by
            rw [List.getElem?_map, hbx] at hy
            exact (Option.some.inj hy).symm
          subst ey
          exact t _ s3
        · refine ⟨D, bs, rfl, SqL.of hd, _, rfl, ?_⟩
          rw [hb]
          exact iteT ⟨by show 1 ≤ 1000; decide, fun e he => ⟨e, _, rfl, T1.oex, T1.noF, upd_same, fun dx hdx ne => ⟨rfl, dx, _, upd_same, by rw [upd_ne ne]; exact upd_same, by rw [upd_ne ne] at hdx; exact hdx, raisedV (r _ (Kp.of (s1.trans s2))) Same.me he hdx ne⟩⟩⟩
    · obtain ⟨x0, xr, rfl⟩ : ∃ x0 xr, xs = x0 :: xr := by
        cases hp with
        | nil => exact absurd rfl hne
        | cons => exact ⟨_, _, rfl⟩
      obtain ⟨r0, rr, rfl⟩ : ∃ r0 rr, rs = r0 :: rr := by
        cases rs with
        | nil => exact absurd rfl hne
        | cons r0 rr => exact ⟨r0, rr, rfl⟩
      have lxr : (x0 :: xr).length = (r0 :: rr).length := Paired.length hp
      have h0 : Row H x0 r0 := by
        cases hp with
        | cons z _ => exact z
      have al : ((r0 :: rr).map (nq r0)).any id = !alike (r0 :: rr) := nq_any r0 _
      refine ⟨_, rfl, _, true, rfl, hs.kd, fun H1 s1 => ⟨_, rfl, iteF ?_⟩⟩
      refine ⟨_, rfl, true, (hs.same s1).elim (fun z => .inl ⟨_, SqL.of z, rfl⟩) (fun z => .inr (.inl ⟨_, SqT.of z, rfl⟩)), iteF ?_⟩
      try dsimp only [tNext, tRet, tCB, tCons, tNil, tNot, tB, tOr, tSeq, tIfS, sFld]
      refine lcv (xs := x0 :: xr) (ys := (r0 :: rr).map fun _ => V.bl true) (fun Q' q' => ⟨_, rfl, q'⟩) (hs.same s1) (by rw [List.length_map, lxr]) (by omega) (fun D i x y H' hD hx hy s2 T N t => ?_) (fun D H2 hD s2 hd => ?_)
      · obtain ⟨ns, hn, rw_⟩ := paired_get hp hx
        refine ⟨rfl, yes_of ?_⟩
        refine ⟨_, rfl, x, true, rfl, ((rw_.same s1).same s2).rowV (ok _ (List.mem_of_getElem? hn)), fun H3 s3 => ?_⟩
        have ey : y = .bl true := by
          rw [List.getElem?_map, hn] at hy
          exact (Option.some.inj hy).symm
        subst ey
        exact t _ s3
      · refine ⟨D, (r0 :: rr).map fun _ => true, rfl, SqL.of (by rw [List.map_map]; exact hd), _, rfl, ?_⟩
        have e1 : ((r0 :: rr).map fun _ => true).all id = true := by
          rw [List.all_map]
          exact List.all_eq_true.mpr fun _ _ => rfl
        rw [e1]
        refine iteF ?_
        have s12 := s1.trans s2
        have ha2 := s12 _ _ ha
        obtain ⟨g0, rfl, sq0⟩ := h0.same s12
        refine ⟨_, rfl, ix_in (hs.same s12) (atI_nat (j := 0) rfl) ?_⟩
        refine ⟨g0, _, rfl, sq0.len, _, rfl, a, C, dx, [], rfl, ha2, cl, T.n1, by show 0 < 1000; decide, ?_⟩
        rw [List.length_map]
        have k3 : Kp a H (upd H2 a (.ins C dx (putF "pins" (.int r0.length) []))) := (Kp.of s12).trans Kp.set
        have ha3 : upd H2 a (.ins C dx (putF "pins" (.int r0.length) [])) a = some (.ins C dx [("pins", .int r0.length)]) := upd_same
        generalize upd H2 a (.ins C dx (putF "pins" (.int r0.length) [])) = H3 at k3 ha3 ⊢
        have hs3 := hs.kp ha k3
        try dsimp only [tNext, tRet, tCB, tCons, tNil, tNot, tB, tOr, tSeq, tIfS, sFld]
        refine lcv (xs := V.ref g0 :: xr) (ys := ((r0 :: rr).map (nq r0)).map V.bl) (fun Q' q' => ⟨_, rfl, q'⟩) hs3 (by rw [List.length_map, List.length_map, lxr]) (by omega) (fun D2 i x y H' hD2 hx hy s3 T' N t => ?_) (fun D2 H4 hD2 s4 hd4 => ?_)
        · obtain ⟨ns, hn, rw_⟩ := paired_get hp hx
          obtain ⟨g, rfl, sg⟩ := (rw_.kp ha k3).same s3
          refine ⟨rfl, yes_of ?_⟩
          refine ⟨_, rfl, g, _, rfl, sg.len, _, rfl, a, C, dx, _, .int r0.length, rfl, s3 _ _ ha3, cl, T.n1, rfl, rfl, ?_⟩
          rw [List.length_map]
          have ey : y = .bl (nq r0 ns) := by
            rw [List.getElem?_map, List.getElem?_map, hn] at hy
            exact (Option.some.inj hy).symm
          subst ey
          exact t _ Same.me
        · refine ⟨D2, _, rfl, SqL.of hd4, _, rfl, ?_⟩
          rw [al]
          have k4 : Kp a H H4 := k3.trans (Kp.of s4)
          have ha4 := s4 _ _ ha3
          have hs4 := hs3.same s4
          cases ea : alike (r0 :: rr) with
          | false => exact iteT ⟨by show 1 ≤ 1000; decide, fun e he => ⟨e, _, rfl, T2.oex, T2.noF, upd_same, fun dx hdx ne => ⟨rfl, dx, _, upd_same, by rw [upd_ne ne]; exact upd_same, by rw [upd_ne ne] at hdx; exact hdx, raisedV (r1 ea _ k4) Same.me he hdx ne⟩⟩⟩
          | true =>
            refine iteF ⟨_, rfl, b, _, rfl, hs4.len, _, _, rfl, rfl, _, rfl, ?_⟩
            rw [lxr]
            by_cases h8 : 8 < (r0 :: rr).length
            · rw [decide_eq_true (show (8 : Int) < (((r0 :: rr).length : Nat) : Int) by omega)]
              refine iteT ⟨by show 2 ≤ 1000; decide, fun e na => ?_⟩
              refine ⟨e, CT, _, _, rfl, TM.oex, TM.no1, TM.no2, upd_same, fun H5 k ⟨d, nd, ne, h1, h2⟩ => ⟨rfl, d, _, h1, h2, ?_, rzf_of (r2 ea h8 _ k4) na k nd ne⟩⟩
              rw [upd_ne ne] at nd
              exact nd
            rw [decide_eq_false (show ¬ (8 : Int) < (((r0 :: rr).length : Nat) : Int) by omega)]
            refine iteF ?_
            try dsimp only [tNext, tRet, tCB, tCons, tNil, tNot, tB, tOr, tSeq, tIfS, sFld]
            refine lcg (xs := V.ref g0 :: xr) (Good := isRowT) (bs := r0 :: rr) (fun Q' q' => ⟨_, rfl, q'⟩) hs4 lxr.symm (by omega) (fun D3 i x ns H' hD3 hx hn s5 ⟨acc, hacc⟩ T' N t => ?_) (fun D3 ts H5 hD3 s5 hd5 nm pr5 => ?_)
            · obtain ⟨ns', hn', rw_⟩ := paired_get hp hx
              have en : ns' = ns := Option.some.inj (hn'.symm.trans hn)
              subst en
              obtain ⟨g, rfl, sg⟩ := (rw_.kp ha k4)
              refine ⟨rfl, yes_of ?_⟩
              rcases sg with sg | sg
              · exact ⟨_, rfl, g, _, rfl, .inl ⟨SqL.of (s5 _ _ sg), fun l hl => t l _ _ (fun z => by rw [z, hacc] at hl; cases hl) (same_new hl) upd_same rfl⟩⟩
              · exact ⟨_, rfl, g, _, rfl, .inr ⟨SqT.of (s5 _ _ sg), t g _ _ (ne_of_none sg hD3) Same.me (s5 _ _ sg) rfl⟩⟩
            · refine ⟨D3, _, rfl, .inl ⟨SqL.of hd5, fun t nt => ?_⟩⟩
              have st := same_new (o := .tup (ts.map V.ref)) nt
              have tt6 : TRw (upd H5 t (.tup (ts.map V.ref))) t (r0 :: rr) := tt_of upd_same (paired_mono pr5 fun _ _ ⟨o, h, gd⟩ => ⟨o, st _ _ h, gd⟩)
              generalize upd H5 t (.tup (ts.map V.ref)) = H6 at st tt6 ⊢
              have s46 := s5.trans st
              have ha6 := s46 _ _ ha4
              refine ⟨_, rfl, a, C, dx, _, rfl, ha6, cl, T.n2, by show 1 < 1000; decide, ?_⟩
              have k7 : Kp a H (upd H6 a (.ins C dx (putF "places" (.ref t) [("pins", .int r0.length)]))) := (k4.trans (Kp.of s46)).trans Kp.set
              have ha7 : upd H6 a (.ins C dx (putF "places" (.ref t) [("pins", .int r0.length)])) a = some (.ins C dx [("pins", .int r0.length), ("places", .ref t)]) := upd_same
              have tt7 := tt6.kp ha6 (Kp.set (o := .ins C dx (putF "places" (.ref t) [("pins", .int r0.length)])))
              generalize upd H6 a (.ins C dx (putF "places" (.ref t) [("pins", .int r0.length)])) = H7 at k7 ha7 tt7 ⊢
              obtain ⟨ts7, et7, pr7⟩ := id tt7
              have lt7 : ts7.length = (r0 :: rr).length := Paired.length pr7
              try dsimp only [tNext, tRet, tCB, tCons, tNil, tNot, tB, tOr, tSeq, tIfS, sFld]
              refine lcg (a := t) (xs := ts7.map V.ref) (Good := isRowT) (bs := (r0 :: rr).map stp) (fun Q' q' => ⟨_, rfl, a, C, dx, _, .ref t, rfl, ha7, cl, T.n2, rfl, q'⟩) (.inr et7) (by rw [List.length_map, List.length_map, lt7]) (by rw [List.length_map]; omega) (fun D4 i x ns H' hD4 hx hn s8 ⟨acc, hacc⟩ T' N t' => ?_) (fun D4 us H8 hD4 s8 hd8 nm8 pr8 => ?_)
              · obtain ⟨g, eg, rfl⟩ : ∃ g, ts7[i]? = some g ∧ x = .ref g := by
                  rw [List.getElem?_map] at hx
                  cases e : ts7[i]? with
                  | none => rw [e] at hx; cases hx
                  | some g => rw [e] at hx; exact ⟨g, rfl, (Option.some.inj hx).symm⟩
                obtain ⟨r, er, hg⟩ := paired_get pr7 eg
                have en : stp r = ns := by
                  rw [List.getElem?_map, er] at hn
                  exact Option.some.inj hn
                subst en
                have okr := ok _ (List.mem_of_getElem? er)
                have hg' : H' g = some (.tup (r.map V.int)) := s8 _ _ hg
                refine ⟨rfl, yes_of ?_⟩
                have l3 := okr.1
                have l7 := okr.2.1
                try dsimp only [tNext, tRet, tCB, tCons, tNil, tNot, tB, tOr, tSeq, tIfS, sFld]
                refine lcvT (xs := (r.map V.int).drop 1) (ys := (stp r).map V.int) (fun Q' k => ⟨_, rfl, _, rfl, g, _, rfl, SqT.of hg', ?_, fun c hc => k _ c (same_new hc) ?_⟩) (by rw [List.length_map, stp_len, List.length_drop, List.length_map]) (by rw [List.length_drop, List.length_map]; omega) (fun D5 j x y H1 H3 s1 hD5 hx5 hy5 s3 T5 N5 t5 => ?_) (fun D5 H1 H3 s1 hD5 s3 hd5 => ?_)
                · intro z
                  have z1 := z.1
                  rw [sIx1, List.length_map] at z1
                  omega
                · rw [cut1 (by rw [List.length_map]; omega)]
                  exact upd_same
                · refine ⟨rfl, yes_of ?_⟩
                  obtain ⟨n, hn5⟩ : ∃ n, (r.drop 1)[j]? = some n ∧ x = .int n := by
                    rw [← List.map_drop] at hx5
                    rw [List.getElem?_map] at hx5
                    cases e : (r.drop 1)[j]? with
                    | none => rw [e] at hx5; cases hx5
                    | some n => rw [e] at hx5; exact ⟨n, rfl, (Option.some.inj hx5).symm⟩
                  obtain ⟨hn5, rfl⟩ := hn5
                  have ey : y = .int (n - r.headD 0) := by
                    unfold stp at hy5
                    rw [List.getElem?_map, List.getElem?_map, hn5] at hy5
                    exact (Option.some.inj hy5).symm
                  subst ey
                  have h0r : atI (r.map V.int) 0 = some (.int (r.headD 0)) := atI_nat (j := 0) (by
                    cases r with
                    | nil => exact absurd l3 (by decide)
                    | cons a b => rfl)
                  exact ⟨_, rfl, _, rfl, g, _, _, _, rfl, rfl, SqT.of (s3 _ _ (s1 _ _ hg')), h0r, _, _, rfl, rfl, t5 _ Same.me⟩
                · refine ⟨D5, _, rfl, .inl ⟨SqL.of hd5, fun l hl => ?_⟩⟩
                  have s13 := s1.trans s3
                  exact t' l _ _ (fun z => by have := s13 _ _ hacc; rw [← z, hl] at this; cases this) (s13.trans (same_new hl)) upd_same rfl
              · refine ⟨D4, _, rfl, .inl ⟨SqL.of hd8, fun u nu => ?_⟩⟩
                have su := same_new (o := .tup (us.map V.ref)) nu
                have tt9 : TRw (upd H8 u (.tup (us.map V.ref))) u ((r0 :: rr).map stp) := tt_of upd_same (paired_mono pr8 fun _ _ ⟨o, h, gd⟩ => ⟨o, su _ _ h, gd⟩)
                generalize upd H8 u (.tup (us.map V.ref)) = H9 at su tt9 ⊢
                have s79 := s8.trans su
                have ha9 := s79 _ _ ha7
                refine ⟨_, rfl, a, C, dx, _, rfl, ha9, cl, T.n3, by show 2 < 1000; decide, ?_⟩
                exact q ea (by omega) _ ((k7.trans (Kp.of s79)).trans Kp.set) ⟨dx, t, u, upd_same, (tt7.same s79).kp ha9 Kp.set, tt9.kp ha9 Kp.set⟩
end
end K19

namespace K19
open PySem PySem.Spec PyProof.Rows L2
/-! ### rows as data -/
theorem int_lay : ∀ ns : List Int, PyData.canLayAll0 (ns.map PyData.int) = true
  | [] => rfl
  | n :: ns => by
    show (PyData.canLay0 (.int n) && PyData.canLayAll0 (ns.map PyData.int)) = true
    rw [int_lay ns]
    rfl
theorem int_depth : ∀ ns : List Int, PyData.depthAll (ns.map PyData.int) = 0
  | [] => rfl
  | n :: ns => by
    show max (PyData.depth (.int n)) (PyData.depthAll (ns.map PyData.int)) = 0
    rw [int_depth ns]
    rfl
theorem int_eqv : ∀ ns ms : List Int, PyData.eqvAll (ns.map PyData.int) (ms.map PyData.int) = decide (ns = ms)
  | [], [] => rfl
  | [], _ :: _ => rfl
  | _ :: _, [] => rfl
  | n :: ns, m :: ms => by
    show ((n == m) && PyData.eqvAll (ns.map PyData.int) (ms.map PyData.int)) = _
    rw [int_eqv ns ms, Bool.eq_iff_iff, Bool.and_eq_true, decide_eq_true_iff, decide_eq_true_iff, List.cons.injEq, beq_iff_eq]
/-- a row, a tuple (true) or a list -/
def enR (b : Bool) (ns : List Int) : PyData := if b = true then .tuple (ns.map PyData.int) else .list (ns.map PyData.int)
theorem enR_depth (b : Bool) (ns : List Int) : PyData.depth (enR b ns) = 1 := by
  cases b <;> (show PyData.depthAll (ns.map PyData.int) + 1 = 1; rw [int_depth])
theorem enR_lay (b : Bool) (ns : List Int) : PyData.canLay0 (enR b ns) = true := by
  cases b <;> (show PyData.canLayAll0 (ns.map PyData.int) = true; exact int_lay ns)
theorem enR_shaped (b : Bool) (ns : List Int) : SeqAt.shaped (enR b ns) = true := by
  have h := int_lay ns
  have d := int_depth ns
  cases b <;> (show (PyData.canLayAll0 (ns.map PyData.int) && decide (PyData.depthAll (ns.map PyData.int) + 1 ≤ 64)) = true; rw [h, d]; rfl)
theorem enR_eqv (b : Bool) (ns ms : List Int) : PyData.eqv (enR b ns) (enR b ms) = decide (ns = ms) := by
  cases b <;> exact int_eqv ns ms
theorem rows_lay (b : Bool) : ∀ rs : List (List Int), PyData.canLayAll0 (rs.map (enR b)) = true
  | [] => rfl
  | r :: rs => by
    show (PyData.canLay0 (enR b r) && PyData.canLayAll0 (rs.map (enR b))) = true
    rw [rows_lay b rs, enR_lay]
    rfl
theorem rows_depth (b : Bool) : ∀ rs : List (List Int), PyData.depthAll (rs.map (enR b)) ≤ 1
  | [] => Nat.zero_le _
  | r :: rs => by
    show max (PyData.depth (enR b r)) (PyData.depthAll (rs.map (enR b))) ≤ 1
    have h := rows_depth b rs
    rw [enR_depth]
    omega
theorem rows_eqv (b : Bool) : ∀ rs qs : List (List Int), PyData.eqvAll (rs.map (enR b)) (qs.map (enR b)) = decide (rs = qs)
  | [], [] => rfl
  | [], _ :: _ => rfl
  | _ :: _, [] => rfl
  | r :: rs, q :: qs => by
    show (PyData.eqv (enR b r) (enR b q) && PyData.eqvAll (rs.map (enR b)) (qs.map (enR b))) = _
    rw [enR_eqv, rows_eqv b rs qs, Bool.eq_iff_iff, Bool.and_eq_true, decide_eq_true_iff, decide_eq_true_iff, decide_eq_true_iff, List.cons.injEq]
/-- a tuple of tuples of numbers -/
def encR (rs : List (List Int)) : PyData := .tuple (rs.map (enR true))
theorem encR_shaped (rs : List (List Int)) : SeqAt.shaped (encR rs) = true := by
  show (PyData.canLayAll0 (rs.map (enR true)) && decide (PyData.depthAll (rs.map (enR true)) + 1 ≤ 64)) = true
  rw [rows_lay, Bool.true_and, decide_eq_true_iff]
  have := rows_depth true rs
  omega
theorem encR_eqv (rs qs : List (List Int)) : PyData.eqv (encR rs) (encR qs) = decide (rs = qs) := rows_eqv true rs qs
theorem int_dp {K : PySem.W.Frag} {H : Hp} : ∀ ns : List Int, DpAll K H (ns.map V.int) (ns.map PyData.int)
  | [] => .nil
  | n :: ns => .cons (.int n) (int_dp ns)
theorem rowT_dp {K : PySem.W.Frag} {H : Hp} {ts : List Addr} {rs : List (List Int)} (h : Paired (RowT H) ts rs) : DpAll K H (ts.map V.ref) (rs.map (enR true)) := by
  induction h with
  | nil => exact .nil
  | cons a _ ih => exact .cons (.tup (SqT.of a) (int_dp _)) ih
theorem TRw.dp {K : PySem.W.Frag} {H : Hp} {t : Addr} {rs : List (List Int)} (h : TRw H t rs) : Dp K H (.ref t) (encR rs) := let ⟨_, e, p⟩ := h; .tup (SqT.of e) (rowT_dp p)
/-! ### values that are no trays -/
inductive Np (H : Hp) : V → String → Prop
  | non : Np H .non "NoneType"
  | str (z : Str) : Np H (.str z) "str"
  | lst {a : Addr} {xs : List V} (e : H a = some (.lst xs)) : Np H (.ref a) "list"
  | tup {a : Addr} {xs : List V} (e : H a = some (.tup xs)) : Np H (.ref a) "tuple"
theorem Np.ty {K : PySem.W.Frag} {H : Hp} {v : V} {t : String} (k : Np H v t) : TyX K H v (.type t) := by
  cases k with
  | non => exact .base .non
  | str z => exact .base (.str z)
  | lst e => exact .base (.lst e)
  | tup e => exact .base (.tup e)
theorem Np.same {H H' : Hp} {v : V} {t : String} (k : Np H v t) (s : Same H H') : Np H' v t := by
  cases k with
  | non => exact .non
  | str z => exact .str z
  | lst e => exact .lst (s _ _ e)
  | tup e => exact .tup (s _ _ e)
/-- what the class tells of other kinds -/
structure PicN (K : PySem.W.Frag) (C : Addr) : Prop where
  k : ∀ t ∈ ["NoneType", "str", "list", "tuple"], PySem.W.kitOne K (.type t) (.ref C) = some false ∧ PySem.W.notFirst K C (.type t) = true
  ne : PySem.W.findIn K (.ref C) "__ne__" = some (some (.builtin "object.__ne__"))
theorem PicN.of {K : PySem.W.Frag} {C : Addr} {H : Hp} {v : V} {t : String} (N : PicN K C) (k : Np H v t) : PySem.W.kitOne K (.type t) (.ref C) = some false ∧ PySem.W.notFirst K C (.type t) = true := by
  cases k with
  | non => exact N.k _ (by decide)
  | str z => exact N.k _ (by decide)
  | lst e => exact N.k _ (by decide)
  | tup e => exact N.k _ (by decide)
/-- whether a tray equals it -/
def Eqs (H : Hp) (C : Addr) (rs : List (List Int)) (y : V) (b : Bool) : Prop := (∃ t, Np H y t ∧ b = false) ∨ (∃ q qs, y = .ref q ∧ TrF H C q qs ∧ b = decide (rs = qs))
theorem kit_self {K : PySem.W.Frag} {C : Addr} : PySem.W.kitOne K (.ref C) (.ref C) = some true := by
  unfold PySem.W.kitOne
  rw [if_pos (beq_self_eq_true _)]
theorem TrF.ty {K : PySem.W.Frag} {H : Hp} {C a : Addr} {rs : List (List Int)} (h : TrF H C a rs) (T : TrT K C) : TyX K H (.ref a) (.ref C) := let ⟨_, _, _, e, _⟩ := h; .base (.ins e T.pc.cls T.pc.ha T.pc.hn T.pc.ht T.pc.hm)
section
variable {P : Program} {w : World} {K : PySem.W.Frag} {mg : Str → Option Value} {base : Heap} {C : Addr}
/-! ### Tray.__eq__, Tray.__len__ -/
def spEqP (C : Addr) : Sp := fun vs H Q _ => ∃ (a : Addr) (y : V) (rs : List (List Int)) (b : Bool), vs = [.ref a, y] ∧ TrF H C a rs ∧ Eqs H C rs y b ∧ Q (.bl b) H
abbrev sEqP : Stmt := inClass (top 38) 2
theorem scEqP : FnScope ["self", "other"] ["self", "other"] (defScope sEqP) := ⟨rfl, rfl, rfl, by decide +kernel, rfl, by decide +kernel, by decide +kernel⟩
theorem ok_eqP {f : Addr} {fd : FuncData} (F : Fun K "__eq__" "Tray.__eq__" sEqP f fd) (B : Bn mg) (T : TrT K C) (N : PicN K C) (mC : mg "Tray" = some (.ref C)) : FnOk P w K mg base CX0 1 f fd ["self", "other"] (spEqP C) := by
  refine F.ok scEqP (fun vs H Q E h => ?_) (fun cdv A outer s H vs Q E hr h => ?_)
  · obtain ⟨a, y, rs, b, rfl, _⟩ := h
    rfl
  · obtain ⟨a, y, rs, b, rfl, hp, he, q⟩ := h
    refine ⟨_, pss_one (ps_ret (pe_and (pe_callB (r := rIsi K) call_isi (by rfl) B.isinstance boot_isinstance (pa_cons (pv 1) (pa_cons (pe_glob (v := .ref C) rfl mC rfl) pa_nil))) (pe_one (pe_cmpR (op_eqD hr.units) (pe_fld (pv 0) rfl) (pe_fld (pv 1) rfl) (nomark _))))), ?_⟩
    rcases he with ⟨t, np, rfl⟩ | ⟨c, qs, rfl, hq, rfl⟩
    · exact ⟨_, rfl, _, _, _, _, false, rfl, .own _, np.ty, (N.of np).1, _, rfl, iteF q⟩
    · refine ⟨_, rfl, _, _, _, _, true, rfl, .own _, hq.ty T, kit_self, _, rfl, iteT ?_⟩
      obtain ⟨dx, t, u, ha, ht, _⟩ := hp
      obtain ⟨dx2, t2, u2, hc, ht2, _⟩ := hq
      refine ⟨_, rfl, a, C, dx, _, .ref t, rfl, ha, T.pc.cls, T.n2, rfl, _, rfl, c, C, dx2, _, .ref t2, rfl, hc, T.pc.cls, T.n2, rfl, _, _, ht.dp, ht2.dp, encR_shaped _, encR_shaped _, ?_⟩
      rw [encR_eqv]
      exact q
def spLenP (C : Addr) : Sp := fun vs H Q _ => ∃ (a : Addr) (rs : List (List Int)), vs = [.ref a] ∧ TrF H C a rs ∧ Q (.int (rs.length : Nat)) H
abbrev sLenP : Stmt := inClass (top 38) 1
theorem scLenP : FnScope ["self"] ["self"] (defScope sLenP) := ⟨rfl, rfl, rfl, by decide +kernel, rfl, by decide +kernel, by decide +kernel⟩
theorem ok_lenP {f : Addr} {fd : FuncData} (F : Fun K "__len__" "Tray.__len__" sLenP f fd) (B : Bn mg) (T : TrT K C) : FnOk P w K mg base CX0 1 f fd ["self"] (spLenP C) := by
  refine F.ok scLenP (fun vs H Q E h => ?_) (fun cdv A outer s H vs Q E hr h => ?_)
  · obtain ⟨a, rs, rfl, _⟩ := h
    rfl
  · obtain ⟨a, rs, rfl, hp, q⟩ := h
    obtain ⟨dx, t, u, ha, ⟨ts, ht, pr⟩, _⟩ := hp
    refine ⟨_, pss_one (ps_ret (pe_callB call_len_seq (by rfl) B.len PySem.boot_len (pa_cons (pe_fld (pv 0) rfl) pa_nil))), ?_⟩
    refine ⟨_, rfl, a, C, dx, _, .ref t, rfl, ha, T.pc.cls, T.n2, rfl, t, _, rfl, .inr (SqT.of ht), ?_⟩
    rw [List.length_map, show ts.length = rs.length from Paired.length pr]
    exact q
end
end K19

namespace K19
open PySem PySem.Spec PyProof.Rows L2
theorem str_len (a b : Str) : (a ++ b).length = a.length + b.length := by
  show (a.cps ++ b.cps).size = a.cps.size + b.cps.size
  exact Array.size_append
def rJn (K : PySem.W.Frag) : V → List V → Hp → VK → Prop := fun x xs H Q => ∃ a p, ∃ ys : List Str, x = .str a ∧ xs = [.ref p] ∧ (SqL K H p (ys.map V.str) ∨ SqT K H p (ys.map V.str)) ∧ (ys.map (·.length)).sum + ys.length * a.length ≤ 16777216 ∧ Q (.str (Txt.join a ys)) H
theorem pe_joinN {X : Cx} {o e : Expr} {to te : TE} {apos pos : Pos} (ho : PE X o to) (he : PE X e te) (hs : starEach [e] X.env = [(false, eval e X.env)] := by rfl) (hbase : attributeBase o "join" X.env (eval o X.env) = eval o X.env := by rfl) (hline : (apos.endLine == pos.line) = true := by rfl) :
    PE X (.Call (.Attribute o "join" apos) [e] [] pos) (tM1 (rJn X.K) to te) := pe_join ho he hs hbase hline
theorem pe_joinK {X : Cx} {o e : Expr} {to te : TE} {apos pos : Pos} (K : PySem.W.Frag) (ho : PE X o to) (he : PE X e te) (h : X.K = K := by rfl) (hs : starEach [e] X.env = [(false, eval e X.env)] := by rfl) (hbase : attributeBase o "join" X.env (eval o X.env) = eval o X.env := by rfl) (hline : (apos.endLine == pos.line) = true := by rfl) :
    PE X (.Call (.Attribute o "join" apos) [e] [] pos) (tM1 (rJn K) to te) := by
  subst h
  exact pe_joinN ho he hs hbase hline
theorem sum_le (B : Nat) : ∀ ys : List Str, (∀ y ∈ ys, y.length ≤ B) → (ys.map (·.length)).sum ≤ B * ys.length
  | [], _ => Nat.zero_le _
  | y :: ys, h => by
    have h1 := h y List.mem_cons_self
    have h2 := sum_le B ys fun z hz => h z (List.mem_cons_of_mem _ hz)
    rw [List.map_cons, List.sum_cons, List.length_cons, Nat.mul_add]
    omega
theorem str_join_le (sep : Str) : ∀ ys : List Str, (Str.join sep ys).length ≤ (ys.map (·.length)).sum + ys.length * sep.length
  | [] => Nat.zero_le _
  | [y] => by
    show y.length ≤ (y.length + 0) + 1 * sep.length
    omega
  | y :: z :: ys => by
    have ih := str_join_le sep (z :: ys)
    have e : Str.join sep (y :: z :: ys) = y ++ sep ++ Str.join sep (z :: ys) := rfl
    rw [e, str_len, str_len, List.map_cons, List.sum_cons, List.length_cons, Nat.add_mul]
    omega
theorem txt_join_le (sep : Str) (ys : List Str) : (Txt.join sep ys).length ≤ (ys.map (·.length)).sum + ys.length * sep.length := by
  show (Builtin.Str.glued sep ys).length ≤ _
  rw [StrLaws.glued_eq_join]
  exact str_join_le sep ys
/-- a number's text, a row's, a tray's -/
def shN (n : Int) : Str := Str.ofString (toString n)
def rowS (ns : List Int) : Str := Txt.join (Str.ofString " ") (ns.map shN)
def trayS (rs : List (List Int)) : Str := Txt.join (Str.ofString " / ") (rs.map rowS)
theorem log_small {n : Int} (h : -G9 ≤ n) (h2 : n ≤ G9) : n.natAbs.log2 < 1920 := Nat.lt_trans (PySem.Flt.log2_lt_of (k := 31) (by decide) (by have : G9 = 1000000000 := rfl; omega)) (by decide)
theorem shN_len {n : Int} (h : -G9 ≤ n) (h2 : n ≤ G9) : (shN n).length ≤ 1921 := int_text_len_1921 (log_small h h2)
theorem shN_sum {ns : List Int} (ok : OkR ns) : ((ns.map shN).map (·.length)).sum ≤ 1921 * 7 := by
  have h := sum_le 1921 (ns.map shN) fun y hy => by
    obtain ⟨n, hn, rfl⟩ := List.mem_map.mp hy
    obtain ⟨a, b⟩ := ok.2.2 n hn
    exact shN_len a b
  rw [List.length_map] at h
  have := ok.2.1
  omega
theorem rowS_len {ns : List Int} (ok : OkR ns) : (rowS ns).length ≤ 14000 := by
  have h := txt_join_le (Str.ofString " ") (ns.map shN)
  have h1 := shN_sum ok
  have e1 : (Str.ofString " ").length = 1 := by decide +kernel
  rw [e1, List.length_map] at h
  have := ok.2.1
  unfold rowS
  omega
theorem trayS_sum {rs : List (List Int)} (ok : ∀ r ∈ rs, OkR r) (l8 : rs.length ≤ 8) : ((rs.map rowS).map (·.length)).sum ≤ 14000 * 8 := by
  have h := sum_le 14000 (rs.map rowS) fun y hy => by
    obtain ⟨n, hn, rfl⟩ := List.mem_map.mp hy
    exact rowS_len (ok n hn)
  rw [List.length_map] at h
  omega
theorem trayS_len {rs : List (List Int)} (ok : ∀ r ∈ rs, OkR r) (l8 : rs.length ≤ 8) : (trayS rs).length ≤ 120000 := by
  have h := txt_join_le (Str.ofString " / ") (rs.map rowS)
  have h1 := trayS_sum ok l8
  have e1 : (Str.ofString " / ").length = 3 := by decide +kernel
  rw [e1, List.length_map] at h
  unfold trayS
  omega
theorem get_map {α β : Type} {f : α → β} {xs : List α} {i : Nat} {y : β} (h : (xs.map f)[i]? = some y) : ∃ x, xs[i]? = some x ∧ y = f x := by
  rw [List.getElem?_map] at h
  cases e : xs[i]? with
  | none => rw [e] at h; cases h
  | some x => rw [e] at h; exact ⟨x, rfl, (Option.some.inj h).symm⟩
section
variable {P : Program} {w : World} {K : PySem.W.Frag} {mg : Str → Option Value} {base : Heap} {C : Addr}
/-! ### Tray.__str__ -/
def spStrP (C : Addr) : Sp := fun vs H Q _ => ∃ (a : Addr) (rs : List (List Int)), vs = [.ref a] ∧ TrF H C a rs ∧ (∀ r ∈ rs, OkR r) ∧ rs.length ≤ 8 ∧ ∀ H', Same H H' → Q (.str (trayS rs)) H'
abbrev sStrP : Stmt := inClass (top 38) 3
abbrev nStrP : List Str := ["self", "row", "place"]
theorem scStrP : FnScope nStrP ["self"] (defScope sStrP) := ⟨rfl, rfl, rfl, by decide +kernel, rfl, by decide +kernel, by decide +kernel⟩
abbrev scStrR : Scope := { kind := .function, names := [(".0", .local), ("row", .local)], isGenerator := false, isCoroutine := false }
theorem ok_strP {f : Addr} {fd : FuncData} (F : Fun K "__str__" "Tray.__str__" sStrP f fd) (B : Bn mg) (T : TrT K C) : FnOk P w K mg base CX0 1 f fd ["self"] (spStrP C) := by
  have nd := scStrP.nd
  refine F.ok scStrP (fun vs H Q E h => ?_) (fun cdv A outer s H vs Q E hr h => ?_)
  · obtain ⟨a, rs, rfl, _⟩ := h
    rfl
  · obtain ⟨a, rs, rfl, hp, ok, l8, q⟩ := h
    refine ⟨_, pss_one (ps_ret (pe_joinN pe_str (pe_lc (own := [("row", 1)]) (g := gName 1) (tt := tYes) rfl nd (pi_sq K (pe_fld (pv 0) rfl)) (blkOk_by (N := nStrP) (sc := defScope sStrP) (by decide +kernel)) (fun _ _ _ _ _ => (pg_name (i := 1) nd rfl (Or.inl rfl))) (fun _ _ _ _ _ => pts_nil) (fun _ _ _ _ _ => pe_joinK K pe_str (pe_lc (own := [("place", 2)]) (g := gName 2) (tt := tYes) rfl nd (pi_sq K (pv 1)) (blkOk_by (N := nStrP) (sc := scStrR) (by decide +kernel)) (fun _ _ _ _ _ => (pg_name (i := 2) nd rfl (Or.inl rfl))) (fun _ _ _ _ _ => pts_nil) (fun _ _ _ _ _ => pe_callTy call_str_int (by rfl) B.str (by decide +kernel) (pa_cons (pv 2) pa_nil))))))), ?_⟩
    obtain ⟨dx, t, u, ha, ⟨ts, ht, pr⟩, _⟩ := hp
    have lt : ts.length = rs.length := Paired.length pr
    refine ⟨⟨_, rfl⟩, ?_⟩
    try dsimp only [tNext, tRet, tCB, tCons, tNil, tNot, tB, tOr, tSeq, tIfS, sFld]
    refine lcv (a := t) (xs := ts.map V.ref) (ys := (rs.map rowS).map V.str) (fun Q' q' => ⟨_, rfl, a, C, dx, _, .ref t, rfl, ha, T.pc.cls, T.n2, rfl, q'⟩) (.inr ht) (by rw [List.length_map, List.length_map, List.length_map, lt]) (by rw [List.length_map]; omega) (fun D i x y H' hD hx hy s1 T' N t' => ?_) (fun D H' hD s1 hd => ?_)
    · obtain ⟨g, eg, rfl⟩ := get_map hx
      obtain ⟨ns, en, hg⟩ := paired_get pr eg
      obtain ⟨y1, hy1, rfl⟩ := get_map hy
      obtain ⟨ns', en', rfl⟩ := get_map hy1
      obtain rfl : ns = ns' := Option.some.inj (en.symm.trans en')
      have okn := ok _ (List.mem_of_getElem? en)
      refine ⟨rfl, yes_of ?_⟩
      refine ⟨⟨_, rfl⟩, ?_⟩
      try dsimp only [tNext, tRet, tCB, tCons, tNil, tNot, tB, tOr, tSeq, tIfS, sFld]
      refine lcv (a := g) (xs := ns.map V.int) (ys := (ns.map shN).map V.str) (fun Q' q' => ⟨_, rfl, q'⟩) (.inr (s1 _ _ hg)) (by rw [List.length_map, List.length_map, List.length_map]) (by rw [List.length_map]; have := okn.2.1; omega) (fun D2 j x2 y2 H2 hD2 hx2 hy2 s2 T2 N2 t2 => ?_) (fun D2 H2 hD2 s2 hd2 => ?_)
      · obtain ⟨n, en2, rfl⟩ := get_map hx2
        obtain ⟨y3, hy3, rfl⟩ := get_map hy2
        obtain ⟨n', en2', rfl⟩ := get_map hy3
        obtain rfl : n = n' := Option.some.inj (en2.symm.trans en2')
        obtain ⟨b1, b2⟩ := okn.2.2 n (List.mem_of_getElem? en2)
        refine ⟨rfl, yes_of ?_⟩
        exact ⟨_, rfl, n, rfl, log_small b1 b2, t2 _ Same.me⟩
      · refine ⟨_, D2, ns.map shN, rfl, rfl, .inl (SqL.of hd2), ?_, t' _ s2⟩
        have e1 : (Str.ofString " ").length = 1 := by decide +kernel
        have := shN_sum okn
        rw [e1, List.length_map]
        have := okn.2.1
        omega
    · refine ⟨_, D, rs.map rowS, rfl, rfl, .inl (SqL.of hd), ?_, q _ s1⟩
      have e3 : (Str.ofString " / ").length = 3 := by decide +kernel
      have := trayS_sum ok l8
      rw [e3, List.length_map]
      omega
end
end K19

namespace K19
open PySem PySem.Spec PyProof.Rows L2
/-! ### a call of a def in places where no expression stands -/
section
variable {X : Cx} {k : Nat} {f : Addr} {fd : FuncData} {ps : List Str} {sp : Sp}
theorem Env0.around {P : Program} {w : World} {K : PySem.W.Frag} {mg : Str → Option Value} {base : Heap} {A A' : Around} {st : List Env} {s : Shared} {H : Hp} (e : Env0 P w K mg base A st s H) (h : A'.frames = A.frames) : Env0 P w K mg base A' st s H := ⟨by rw [h]; exact e.frames, e.mod, e.bs, e.bsz, e.funs, e.frf, e.hok, e.bare⟩
theorem run_at {A : Around} {pins : List (Addr × Obj)} {σ : L2.St} {H : Hp} {s : Shared} {Q : VK} {us : List Value} {vs : List V} (F : FnOk X.prog X.w X.K X.mg X.base CX0 k f fd ps sp) (hr : Room k A) (hf : A.frames = X.A.frames) (hb : Binds X.K fd ps [])
    (I : Inv X pins σ H s) (r : Vals vs us) (h : sp vs H Q (fun _ _ _ => False)) : wpAny (model X.prog X.w) A (call (.ref f) us) (EP X pins σ Q) X.xe s := by
  have hl := F.len _ _ _ _ h
  refine wpAny_call (codeAny_mono (F.run A X.stack s H ⟨us, []⟩ us vs Q _ hr (Env0.around I.env0 hf) (by
    have := hb s us I.kIn (by rw [List.append_nil, ← r.length]; exact hl)
    rw [List.append_nil] at this
    exact this) r h) fun r s' hq => ?_)
  cases r with
  | error e => exact False.elim hq
  | ok fl =>
    cases fl with
    | ret u => exact I.after hq
    | next => exact False.elim hq
    | brk => exact False.elim hq
    | cont => exact False.elim hq
end
section
variable {prog : Program} {w : World} {A : Around} {E : Value → Shared → Prop} {h : Heap} {g : Array GenState} {d : Drawn} {t : Nat} {os : OsState} {K : PySem.W.Frag} {x C : Addr} {ob : Obj} {od : Option Obj}
theorem special_in {name : Str} {id : String} {args : List Value} {Q : Option Value → Shared → Prop} (Y : K.In h) (J : PySem.W.InstAt h x ob C od) (ha : PySem.W.findIn K (.ref C) name = some (some (.builtin id))) (S : Slot "object" name id)
    (go : wpAny (model prog w) A (call (.builtin id) (.ref x :: args)) (fun v => Q (some v)) E ⟨h, g, d, t, os⟩) : wpAny (model prog w) A (callSpecialIfBound? (.ref x) name args) Q E ⟨h, g, d, t, os⟩ := by
  simp only [callSpecialIfBound?, bindSpecialIfBound?]
  refine wpAny_holding (wpAny_bind (wpAny_bind ?_))
  unfold specialOf
  refine wpAny_bind (J.type.at ((PySem.W.looks_findIn Y ha).at ?_))
  simp only [S.bind]
  refine wpAny_bind (wpAny_askSetting (wpAny_ite ?_))
  have fin : wpAny (model prog w) A (call (.builtin id) ([.ref x] ++ args) >>= fun v => pure (some v)) Q E ⟨h, g, d, t, os⟩ :=
    wpAny_bind (wpAny_mono go (fun v z hz => wpAny_pure hz) fun _ _ hz => hz)
  split
  · exact wpAny_bind (wpAny_pure (wpAny_pure fin))
  · exact wpAny_tryCatch (wpAny_bind (wpAny_pure (wpAny_pure fin)))
end
def rEqI (K : PySem.W.Frag) (C : Addr) (sp : Sp) : R2 := fun x y H Q => ∃ (a dx : Addr) (fs : List (Str × V)) (tb : Value), x = .ref a ∧ H a = some (.ins C dx fs) ∧ TyX K H y tb ∧ PySem.W.notFirst K C tb = true ∧ sp [.ref a, y] H (fun r H' => ∃ b : Bool, r = .bl b ∧ Q (.bl b) H') (fun _ _ _ => False)
def rNeI (K : PySem.W.Frag) (C : Addr) (sp : Sp) : R2 := fun x y H Q => ∃ (a dx : Addr) (fs : List (Str × V)) (tb : Value), x = .ref a ∧ H a = some (.ins C dx fs) ∧ TyX K H y tb ∧ PySem.W.notFirst K C tb = true ∧ sp [.ref a, y] H (fun r H' => ∃ b : Bool, r = .bl b ∧ Q (.bl (!b)) H') (fun _ _ _ => False)
section
variable {X : Cx} {C fE : Addr} {fd : FuncData} {sp : Sp} {k : Nat}
theorem ins_inst {pins : List (Addr × Obj)} {σ : L2.St} {H : Hp} {s : Shared} {a dx : Addr} {fs : List (Str × V)} (I : Inv X pins σ H s) (h : H a = some (.ins C dx fs)) : ∃ (ob : Obj) (od : Obj), PySem.W.InstAt s.heap a ob C (some od) := by
  obtain ⟨mA, J, _⟩ := ins_get I.hok h
  obtain ⟨od, J, _⟩ := J.look
  exact ⟨_, od, J⟩
theorem ty_look {pins : List (Addr × Obj)} {σ : L2.St} {H : Hp} {s : Shared} {y : V} {u tb : Value} (I : Inv X pins σ H s) (ry : RelV y u) (t : TyX X.K H y tb) : PySem.W.Looks (model X.prog X.w) s.heap (typeOf u) tb := by
  obtain ⟨P, Z, p, _⟩ := kit_of I ry t
  exact Z.ty _ _ I.kIn p
theorem rc_own {A' : Around} {pins : List (Addr × Obj)} {σ : L2.St} {H : Hp} {s : Shared} {a dx : Addr} {fs : List (Str × V)} {y : V} {u tb : Value} {Q : VK} (G : FnOk X.prog X.w X.K X.mg X.base CX0 k fE fd ["self", "other"] sp) (hs : PySem.W.findIn X.K (.ref C) "__eq__" = some (some (.ref fE))) (hf : PySem.W.isFn X.K (.ref fE) = true) (hb : Binds X.K fd ["self", "other"] []) (hr : Room (k + 1) A') (hA : A'.frames = X.A.frames)
    (I : Inv X pins σ H s) (ry : RelV y u) (ha : H a = some (.ins C dx fs)) (ht : TyX X.K H y tb) (nf : PySem.W.notFirst X.K C tb = true) (h : sp [.ref a, y] H (fun r H' => ∃ b : Bool, r = .bl b ∧ Q (.bl b) H') (fun _ _ _ => False)) :
    wpAny (model X.prog X.w) A' (richCompare .Eq (.ref a) u) (fun r s' => ∃ b, r = .bool b ∧ ∃ H', Inv X pins σ H' s' ∧ Q (.bl b) H') X.xe s := by
  obtain ⟨ob, od, J⟩ := ins_inst I ha
  obtain ⟨m, hF⟩ := I.fr
  refine PySem.W.cmp_K (op := .Eq) (tb := tb) hr.units0 hF I.ok.mod.kin J (ty_look I ry ht) nf hs hf ?_
  refine wpAny_mono (run_at (vs := [.ref a, y]) (us := [.ref a, u]) G (hr.mono (Nat.le_succ k)) hA hb I (.cons rfl (.cons ry .nil)) h) (fun r s' hq => ?_) fun _ _ z => z
  obtain ⟨v, H', I', rv, b, ev, q'⟩ := hq
  subst ev
  obtain rfl : r = Value.bool b := rv
  exact ⟨b, rfl, H', I', q'⟩
theorem op_eqI (G : FnOk X.prog X.w X.K X.mg X.base CX0 k fE fd ["self", "other"] sp) (hs : PySem.W.findIn X.K (.ref C) "__eq__" = some (some (.ref fE))) (hf : PySem.W.isFn X.K (.ref fE) = true) (hb : Binds X.K fd ["self", "other"] []) (hr : Room (k + 1) X.A) : OpR X (compareOp .Eq) (rEqI X.K C sp) := by
  intro pins s σ H x y v u Q I rx ry h
  obtain ⟨a, dx, fs, tb, rfl, ha, ht, nf, h⟩ := h
  obtain rfl : v = Value.ref a := rx
  show wpAny _ _ (richCompare .Eq (.ref a) u) _ _ s
  refine wpAny_mono (rc_own G hs hf hb hr rfl I ry ha ht nf h) (fun r s' hq => ?_) fun _ _ z => z
  obtain ⟨b, rfl, H', I', q⟩ := hq
  exact ⟨.bl b, H', I', rfl, q⟩
theorem op_neI (G : FnOk X.prog X.w X.K X.mg X.base CX0 k fE fd ["self", "other"] sp) (hs : PySem.W.findIn X.K (.ref C) "__eq__" = some (some (.ref fE))) (hf : PySem.W.isFn X.K (.ref fE) = true) (hb : Binds X.K fd ["self", "other"] []) (hne : PySem.W.findIn X.K (.ref C) "__ne__" = some (some (.builtin "object.__ne__"))) (hm : PySem.W.mroIn X.K C (.type "object") = some true) (hr : Room (k + 2) X.A) : OpR X (compareOp .NotEq) (rNeI X.K C sp) := by
  intro pins s σ H x y v u Q I rx ry h
  obtain ⟨a, dx, fs, tb, rfl, ha, ht, nf, h⟩ := h
  obtain rfl : v = Value.ref a := rx
  obtain ⟨ob, od, J⟩ := ins_inst I ha
  have L := ty_look I ry ht
  have hu : X.A.units + 1 < cLine := by
    have := hr.un
    omega
  have isO : PySem.W.Looks (model X.prog X.w) s.heap (isInstance (.ref a) (.type "object")) true := J.type.andThen (PySem.W.looks_mroIn I.kIn hm)
  have neDone : ∀ {Q' : Fin → Shared → Prop}, (∀ s' b, (∃ H', Inv X pins σ H' s' ∧ Q (.bl (!b)) H') → Q' (.done (.ret (.bool (!b)))) s') → wpAny (model X.prog X.w) X.A.in1 (Builtin.«object.__ne__» ⟨[.ref a, u], []⟩) Q' X.xe s := fun {Q'} k' => by
    unfold Builtin.«object.__ne__»
    have go : wpAny (model X.prog X.w) X.A.in1 (callSpecialIfBound? (.ref a) (Str.ofString "__eq__") [u]) (fun r s' => ∃ b, r = some (.bool b) ∧ ∃ H', Inv X pins σ H' s' ∧ Q (.bl (!b)) H') X.xe s :=
      PySem.W.ifBound_K I.kIn J hs hf (wpAny_mono (run_at (A := X.A.in1) (vs := [.ref a, y]) (us := [.ref a, u]) G (hr.mono (Nat.le_succ (k + 1))).in1 rfl hb I (.cons rfl (.cons ry .nil)) h) (fun r s' hq => by
        obtain ⟨v, H', I', rv, b, ev, q'⟩ := hq
        subst ev
        obtain rfl : r = Value.bool b := rv
        exact ⟨b, rfl, H', I', q'⟩) fun _ _ z => z)
    repeat (first
      | with_reducible refine wpAny_cRoomFor (show X.A.in1.units < cLine from hu) ?_
      | (refine wpAny_bind (m := callSpecialIfBound? (.ref a) (Str.ofString "__eq__") [u]) (wpAny_mono go (fun r s' hr => by
          obtain ⟨b, rfl, hq⟩ := hr
          have z := k' s' b hq
          repeat (first | exact z | exact wpAny_pure z | exact wpAny_truthy_bool z | (refine wpAny_bind (m := truthy (.bool _)) (wpAny_truthy_bool ?_)) | wp_step)) fun _ _ e => e))
      | wp_step)
  have tryDone : wpAny (model X.prog X.w) X.A (tryCompare (.ref a) "__ne__" u) (fun r s' => ∃ b, r = some (.bool (!b)) ∧ ∃ H', Inv X pins σ H' s' ∧ Q (.bl (!b)) H') X.xe s := by
    simp only [tryCompare]
    obtain ⟨hp', g, d, t, os⟩ := s
    refine wpAny_bind (special_in I.kIn J hne F.cmp_object.ne (wpAny_call (codeAny_call_builtin F.cmp_object.ne.plain F.cmpEntry_ne (PySem.W.check_slot F.cmpKind_ne F.cmpSplit_ne isO (F.cmpArgs_ne _ _) (neDone (fun s' b hq => ?_))))))
    exact wpAny_pure ⟨b, rfl, hq⟩
  show wpAny _ _ (richCompare .NotEq (.ref a) u) _ _ s
  unfold richCompare
  simp only [oneThing_ref, cmpInfo_NotEq]
  refine wpAny_holding (wpAny_bind (wpAny_cRoomFor (Nat.lt_of_succ_lt hu) ?_))
  refine wpAny_bind (J.type.here (wpAny_bind (L.here ?_)))
  split
  · rename_i q'
    have e : PySem.W.subIn X.K tb (.ref C) = some false := by
      unfold PySem.W.notFirst at nf
      rcases Bool.or_eq_true_iff.mp nf with e | e
      · rw [beq_iff_eq.mp e] at q'; simp at q'
      · exact beq_iff_eq.mp e
    refine wpAny_bind ((PySem.W.looks_subIn I.kIn e).here ?_)
    simp only [Bool.false_eq_true, if_false]
    refine wpAny_bind (wpAny_mono tryDone (fun r s' z => ?_) fun _ _ e => e)
    obtain ⟨b, rfl, H', I', hq⟩ := z
    exact wpAny_pure ⟨.bl (!b), H', I', rfl, hq⟩
  · refine wpAny_bind (wpAny_pure ?_)
    simp only [Bool.false_eq_true, if_false]
    refine wpAny_bind (wpAny_mono tryDone (fun r s' z => ?_) fun _ _ e => e)
    obtain ⟨b, rfl, H', I', hq⟩ := z
    exact wpAny_pure ⟨.bl (!b), H', I', rfl, hq⟩
end
/-! ### len(x) by an own __len__ -/
def rLenI (C : Addr) (sp : Sp) : List V → Hp → VK → Prop := fun xs H Q => ∃ (a dx : Addr) (fs : List (Str × V)), xs = [.ref a] ∧ H a = some (.ins C dx fs) ∧ sp [.ref a] H (fun r H' => ∃ n : Nat, r = .int n ∧ n ≤ 1000000 ∧ Q (.int n) H') (fun _ _ _ => False)
section
variable {X : Cx} {C fE : Addr} {fd : FuncData} {sp : Sp} {k : Nat}
theorem call_lenI (G : FnOk X.prog X.w X.K X.mg X.base CX0 k fE fd ["self"] sp) (hs : PySem.W.findIn X.K (.ref C) "__len__" = some (some (.ref fE))) (hf : PySem.W.isFn X.K (.ref fE) = true) (hb : Binds X.K fd ["self"] []) (hr : Room (k + 1) X.A) : CallR X (.builtin "len") (rLenI C sp) := by
  intro pins s σ H xs us Q I r h
  obtain ⟨a, dx, fs, rfl, ha, h⟩ := h
  obtain ⟨u, rfl, ru⟩ := vals1 r
  obtain rfl : u = Value.ref a := ru
  obtain ⟨ob, od, J⟩ := ins_inst I ha
  refine Calls.call_function_entry (by kernel_rfl) (by decide +kernel) entry_len (by kernel_rfl) ?_
  unfold Builtin.«len»
  refine wpAny_bind (m := oneArg "len" _) (wpAny_pure ?_)
  refine wpAny_bind (m := callSpecial? (.ref a) (Str.ofString "__len__")) (PySem.W.special_fn I.kIn J hs (beq_iff_eq.mp hf) (wpAny_mono (run_at (A := X.A.in1) (vs := [.ref a]) (us := [.ref a]) G hr.in1 rfl hb I (.cons rfl .nil) h) (fun r s' hq => ?_) fun _ _ z => z))
  obtain ⟨v, H', I', rv, n, ev, hn, q⟩ := hq
  subst ev
  obtain ⟨t, rfl⟩ := rv
  refine wpAny_bind (wpAny_holding (wpAny_pure ?_))
  refine wpAny_bind (wpAny_letGo ?_)
  show wpAny _ _ (if ((n : Nat) : Int) < 0 then _ else _) _ _ _
  rw [if_neg (by omega)]
  show wpAny _ _ (if ((n : Nat) : Int) ≥ 2 ^ 63 then _ else _) _ _ _
  rw [if_neg (by omega)]
  exact wpAny_bind (wpAny_mkInt (wpAny_pure ⟨_, rfl, .int n, H', I'.tok _, ⟨_, rfl⟩, q⟩))
end
def rStrI (C : Addr) (sp : Sp) : List V → Hp → VK → Prop := fun xs H Q => ∃ (a dx : Addr) (fs : List (Str × V)), xs = [.ref a] ∧ H a = some (.ins C dx fs) ∧ sp [.ref a] H (fun r H' => ∃ z : Str, r = .str z ∧ Q (.str z) H') (fun _ _ _ => False)
section
variable {X : Cx} {C fS : Addr} {fd : FuncData} {sp : Sp} {k : Nat}
theorem call_strI (G : FnOk X.prog X.w X.K X.mg X.base CX0 k fS fd ["self"] sp) (hs : PySem.W.findIn X.K (.ref C) "__str__" = some (some (.ref fS))) (hf : PySem.W.isFn X.K (.ref fS) = true) (hb : Binds X.K fd ["self"] []) (hr : Room (k + 2) X.A) : CallR X (.type "str") (rStrI C sp) := by
  intro pins s σ H xs us Q I r h
  obtain ⟨a, dx, fs, rfl, ha, h⟩ := h
  obtain ⟨u, rfl, ru⟩ := vals1 r
  obtain rfl : u = Value.ref a := ru
  obtain ⟨ob, od, J⟩ := ins_inst I ha
  have hu : X.A.in1.in1.units < cLine := by
    have := hr.un
    show X.A.units + 1 + 1 < cLine
    omega
  refine PySem.W.kso_call hu I.kIn J hs hf (wpAny_mono (run_at (A := X.A.in1.in1) (vs := [.ref a]) (us := [.ref a]) G hr.in1.in1 rfl hb I (.cons rfl .nil) h) (fun r s' hq => ?_) fun _ _ z => z)
  obtain ⟨v, H', I', rv, z, ev, q'⟩ := hq
  subst ev
  obtain ⟨t, rfl⟩ := rv
  exact ⟨.str z, H', I', ⟨t, rfl⟩, q'⟩
end
end K19

namespace K19
open PySem PySem.Spec PyProof.Rows L2
/-- wishes about what is raised that outlast what is made -/
def Mon (R : Hp → XK → Prop) : Prop := ∀ H H1 E, Same H H1 → R H E → R H1 E
theorem mon_V {C : Addr} {f : Str} {v : V} : Mon (RzV C f v) := fun _ _ _ s h => h.same s
theorem RzF.same {C : Addr} {fs : List (Str × V)} {H H1 : Hp} {E : XK} (h : RzF C fs H E) (s : Same H H1) : RzF C fs H1 E := fun d H' s' e => h d H' (s.trans s') e
theorem mon_F {C : Addr} {fs : List (Str × V)} : Mon (RzF C fs) := fun _ _ _ s h => h.same s
section
variable {K : PySem.W.Frag} {C CB CF CT : Addr} {v : V} {H H' : Hp} {OK OK' : List (List Int) → Prop} {RZ RZ' : (Hp → XK → Prop) → Prop}
theorem TrJ.imp (h : TrJ K CB CF CT v H OK RZ) (s : Same H H') (i : ∀ rs, OK rs → OK' rs) (r : ∀ R, Mon R → RZ R → RZ' R) : TrJ K CB CF CT v H' OK' RZ' := by
  rcases h with ⟨h, z⟩ | ⟨b, xs, rs, e, hs, hp, ok, hne, h100, z1, z2, q⟩
  · refine .inl ⟨?_, r _ mon_V z⟩
    rcases h with h | ⟨b, e, hs⟩ | ⟨b, xs, bs, e, hs, hne, h100, hj, hb⟩
    · exact .inl (h.same s)
    · exact .inr (.inl ⟨b, e, hs.same s⟩)
    · exact .inr (.inr ⟨b, xs, bs, e, hs.same s, hne, h100, paired_mono hj fun _ _ z => z.same s, hb⟩)
  · exact .inr ⟨b, xs, rs, e, hs.same s, paired_mono hp fun _ _ z => z.same s, ok, hne, h100, fun a => r _ mon_V (z1 a), fun a l => r _ mon_F (z2 a l), fun a l => i _ (q a l)⟩
end
/-- a new tray with these rows -/
def NewT (C : Addr) (H : Hp) (Q : VK) (rs : List (List Int)) : Prop := ∀ a H', Same H H' → H a = none → TrF H' C a rs → Q (.ref a) H'
theorem NewT.same {C : Addr} {H H1 : Hp} {Q : VK} {rs : List (List Int)} (h : NewT C H Q rs) (s : Same H H1) : NewT C H1 Q rs := fun a H' s' n f => h a H' (s.trans s') (s.free n) f
/-- how a tray is made of a value, or refused -/
def MkT (K : PySem.W.Frag) (C CB CF CT : Addr) (v : V) (H : Hp) (Q : VK) (E : XK) : Prop := TrJ K CB CF CT v H (NewT C H Q) (fun R => R H E)
theorem MkT.of {K : PySem.W.Frag} {C CB CF CT b : Addr} {xs : List V} {rs : List (List Int)} {H : Hp} {Q : VK} {E : XK} (hs : Sq H b xs) (hp : Paired (Row H) xs rs) (ok : ∀ r ∈ rs, OkR r) (hne : rs ≠ []) (ha : alike rs = true) (h8 : rs.length ≤ 8) (q : NewT C H Q rs) : MkT K C CB CF CT (.ref b) H Q E :=
  .inr ⟨b, xs, rs, rfl, hs, hp, ok, hne, by omega, fun z => (by rw [ha] at z; cases z), fun _ z => absurd z (by omega), fun _ _ => q⟩
theorem mkT_in {K : PySem.W.Frag} {C CB CF CT : Addr} {v : V} {H : Hp} {Q : VK} {E : XK} (m : MkT K C CB CF CT v H Q E) : ∀ x dx, H x = none → H dx = none → dx ≠ x → spTrI K C CB CF CT [.ref x, v] (upd (upd H dx (.own x)) x (.ins C dx [])) (fun r H2 => r = .non ∧ Q (.ref x) H2) E := fun x dx hx hdx ne => by
  have s0 : Same H (upd (upd H dx (.own x)) x (.ins C dx [])) := fun b o e => by
    rw [upd_ne (ne_of_none e hx), upd_ne (ne_of_none e hdx)]
    exact e
  have sk : ∀ {H1 : Hp}, Kp x (upd (upd H dx (.own x)) x (.ins C dx [])) H1 → Same H H1 := fun k b o e => k b o (ne_of_none e hx) (s0 _ _ e)
  exact ⟨x, dx, v, rfl, upd_same, m.imp s0 (fun rs n H' k f => ⟨rfl, n x H' (sk k) hx f⟩) fun R mo z H1 k => mo _ _ _ (sk k) z⟩
/-- how a tray's __init__ is kept -/
def IniT (P : Program) (w : World) (K : PySem.W.Frag) (mg : Str → Option Value) (base : Heap) (C CB CF CT : Addr) : Prop := ∃ (fI : Addr) (fd : FuncData), Mk K C fI ∧ FnOk P w K mg base (L2.CX P w) 5 fI fd ["self", "rows"] (spTrI K C CB CF CT) ∧ Binds K fd ["self", "rows"] [] ∧ KBn K fd ["self", "rows"] 1 ["rows"] (fun us ws => us ++ ws) (fun vs zs => vs ++ zs)
section
variable {X : Cx} {C CB CF CT : Addr} {x : Str} {e : Expr} {es : List Expr} {kws : List Keyword} {t tk : TA} {p pos : Pos}
/-- Tray(e) -/
def tMkT (K : PySem.W.Frag) (C CB CF CT : Addr) (E : XK) (t : TA) : TE := fun σ H Q => t σ H fun vs H1 => ∃ v, vs = [v] ∧ MkT K C CB CF CT v H1 Q E
theorem pe_mkT {E : XK} (K : PySem.W.Frag) (mA : X.mg "Tray" = some (.ref C)) (ini : IniT X.prog X.w X.K X.mg X.base C CB CF CT) (hr : Room 6 X.A) (hx : Passes (L2.CX X.prog X.w) X E) (hg : Gl X "Tray") (ha : PA X (e :: es) t) (h : X.K = K := by rfl) (he : starEach (e :: es) X.env = (false, eval e X.env) :: starEach es X.env := by rfl) (hpl : (backTo pos (starEach es X.env)).any (·.1) = false := by rfl) :
    PE X (.Call (.Name "Tray" p) (e :: es) [] pos) (tMkT K C CB CF CT E t) := by
  subst h
  obtain ⟨fI, fd, M, G, b, _⟩ := ini
  refine ⟨fun pins s σ H Q I h => ?_⟩
  refine wpAny_Call_Name_kw (ld_glob I hg mA ?_ (by decide))
  refine PySem.W.callWith_K (h₀ := X.base) I.ok.mod.kin M.kp (thn (ha.run pos pins s σ H _ I h) fun us s1 ⟨vs, H1, I1, r, v, ev, m⟩ => ⟨I1.kIn, ?_⟩) he hpl
  subst ev
  exact run_make (dvs := []) (ds := []) M G hr b .nil hx I1 r (mkT_in m)
/-- Tray(e), as what ends a call -/
theorem pe_mkTS {Es : L2.St → XK} (K : PySem.W.Frag) (mA : X.mg "Tray" = some (.ref C)) (ini : IniT X.prog X.w X.K X.mg X.base C CB CF CT) (hr : Room 6 X.A) (hx : ∀ σ, PassesAt (L2.CX X.prog X.w) X σ (Es σ)) (hg : Gl X "Tray") (ha : PA X (e :: es) t) (h : X.K = K := by rfl) (he : starEach (e :: es) X.env = (false, eval e X.env) :: starEach es X.env := by rfl) (hpl : (backTo pos (starEach es X.env)).any (·.1) = false := by rfl) :
    PE X (.Call (.Name "Tray" p) (e :: es) [] pos) (fun σ H Q => tMkT K C CB CF CT (Es σ) t σ H Q) := by
  subst h
  obtain ⟨fI, fd, M, G, b, _⟩ := ini
  refine ⟨fun pins s σ H Q I h => ?_⟩
  refine wpAny_Call_Name_kw (ld_glob I hg mA ?_ (by decide))
  refine PySem.W.callWith_K (h₀ := X.base) I.ok.mod.kin M.kp (thn (ha.run pos pins s σ H _ I h) fun us s1 ⟨vs, H1, I1, r, v, ev, m⟩ => ⟨I1.kIn, ?_⟩) he hpl
  subst ev
  have hq := mkT_in m (s1.heap.objs.size + 1) s1.heap.objs.size (I1.hok.fresh (Nat.le_succ _)) (I1.hok.fresh (Nat.le_refl _)) (Nat.ne_of_lt (Nat.lt_succ_self _))
  have I2 := Inv.made (C := C) I1
  have r2 : Vals [V.ref (s1.heap.objs.size + 1), v] (Value.ref (s1.heap.objs.size + 1) :: us) := .cons rfl r
  have hl : (Value.ref (s1.heap.objs.size + 1) :: us ++ []).length = (["self", "rows"] : List Str).length := by
    rw [List.append_nil, ← r2.length]
    rfl
  have bb := b _ (Value.ref (s1.heap.objs.size + 1) :: us) I2.kIn hl
  rw [List.append_nil] at bb
  refine wpAny_call (make_map (f := fI) I1.kIn M.makes M.init (beq_iff_eq.mp M.fn) (codeAny_mono (G.run _ X.stack _ _ ⟨Value.ref (s1.heap.objs.size + 1) :: us, []⟩ (Value.ref (s1.heap.objs.size + 1) :: us) _ _ (Es σ) (hr.make C us [])
    (I2.env0.make C us []) bb r2 hq) fun r s' hq' => ?_))
  cases r with
  | error e => exact hx σ pins _ _ e s' I2 hq'
  | ok fl =>
    cases fl with
    | ret u =>
      obtain ⟨v, H', I3, rv, ev, q3⟩ := I2.after hq'
      subst ev
      exact ⟨rv, ⟨V.ref (s1.heap.objs.size + 1), H', I3, rfl, q3⟩⟩
    | next => exact False.elim hq'
    | brk => exact False.elim hq'
    | cont => exact False.elim hq'
/-- Tray(rows=e) -/
theorem pe_mkTK {E : XK} (K : PySem.W.Frag) (mA : X.mg "Tray" = some (.ref C)) (ini : IniT X.prog X.w X.K X.mg X.base C CB CF CT) (hr : Room 6 X.A) (hx : Passes (L2.CX X.prog X.w) X E) (hg : Gl X "Tray") (hkw : PK X kws tk) (h : X.K = K := by rfl)
    (hall : (backToKw pos (keywordEach kws X.env)).all (·.1.isSome) = true := by rfl) (hks : (backToKw pos (keywordEach kws X.env)).filterMap (·.1) = (["rows"] : List Str) := by rfl)
    (hpl : ((backTo pos (starEach [] X.env)).any (·.1) || (backToKw pos (keywordEach kws X.env)).any (·.1.isNone)) = false := by rfl) :
    PE X (.Call (.Name "Tray" p) [] kws pos) (tMkT K C CB CF CT E tk) := by
  subst h
  obtain ⟨fI, fd, M, G, _, b⟩ := ini
  refine ⟨fun pins s σ H Q I h => ?_⟩
  refine wpAny_Call_Name_kw (ld_glob I hg mA ?_ (by decide))
  refine PySem.W.callWith_KW0 (h₀ := X.base) I.ok.mod.kin M.kp hall ?_ hpl
  refine thn (hkw.run pos pins s σ H _ I h) fun ws s2 ⟨zs, H2, I2, rz, v, ev, m⟩ => ⟨I2.kIn, ?_⟩
  subst ev
  rw [hks]
  exact run_makeN (n := 0) (us := []) (vs := []) M G hr b hx I2 .nil rz rfl rfl (mkT_in m)
end
end K19

namespace K19
open PySem PySem.Spec PyProof.Rows L2
/-- rows that make a tray -/
structure OkT (rs : List (List Int)) : Prop where
  ok : ∀ r ∈ rs, OkR r
  al : alike rs = true
  ne : rs ≠ []
  l8 : rs.length ≤ 8
/-- what comes of rows that are told -/
def TRes (C CF CT : Addr) (rs : List (List Int)) (H : Hp) (Q : VK) (E : XK) : Prop := (alike rs = false → RzV CF "part" (.str "pins") H E) ∧ (alike rs = true → 8 < rs.length → RzF CT fullR H E) ∧ (alike rs = true → rs.length ≤ 8 → NewT C H Q rs)
theorem TRes.same {C CF CT : Addr} {rs : List (List Int)} {H H1 : Hp} {Q : VK} {E : XK} (h : TRes C CF CT rs H Q E) (s : Same H H1) : TRes C CF CT rs H1 Q E := ⟨fun a => (h.1 a).same s, fun a l => (h.2.1 a l).same s, fun a l => (h.2.2 a l).same s⟩
theorem TRes.mk {K : PySem.W.Frag} {C CB CF CT b : Addr} {xs : List V} {rs : List (List Int)} {H : Hp} {Q : VK} {E : XK} (h : TRes C CF CT rs H Q E) (hs : Sq H b xs) (hp : Paired (Row H) xs rs) (ok : ∀ r ∈ rs, OkR r) (hne : rs ≠ []) (h100 : rs.length ≤ 100) : MkT K C CB CF CT (.ref b) H Q E := .inr ⟨b, xs, rs, rfl, hs, hp, ok, hne, h100, h.1, h.2.1, h.2.2⟩
theorem rowT_row {H : Hp} {ts : List Addr} {rs : List (List Int)} (h : Paired (RowT H) ts rs) : Paired (Row H) (ts.map V.ref) rs := by
  induction h with
  | nil => exact .nil
  | cons a _ ih => exact .cons ⟨_, rfl, .inr a⟩ ih
theorem alike_eq {rs : List (List Int)} (h : alike rs = true) : ∀ r ∈ rs, r.length = (rs.headD []).length := fun r hr => of_decide_eq_true (List.all_eq_true.mp h r hr)
theorem alike_of {rs : List (List Int)} {k : Nat} (h : ∀ r ∈ rs, r.length = k) : alike rs = true := by
  cases rs with
  | nil => rfl
  | cons p ps =>
    refine List.all_eq_true.mpr fun q hq => decide_eq_true ?_
    show q.length = p.length
    rw [h q hq, h p List.mem_cons_self]
theorem getD_at {α : Type} {l : List α} {n : Nat} (d : α) (h : n < l.length) : l.getD n d = l[n] := by
  rw [List.getD_eq_getElem?_getD, List.getElem?_eq_getElem h]
  rfl
/-- some of the rows; some of the places of a row -/
def pickR (rs : List (List Int)) (ns : List Nat) : List (List Int) := ns.map fun n => rs.getD n []
def pickI (ns : List Nat) (r : List Int) : List Int := ns.map fun n => r.getD n 0
theorem pickR_ok {rs : List (List Int)} {ns : List Nat} (h : OkT rs) (hl : ∀ n ∈ ns, n < rs.length) (hne : ns ≠ []) (l8 : ns.length ≤ 8) : OkT (pickR rs ns) := by
  have mem : ∀ r ∈ pickR rs ns, r ∈ rs := fun r hr => by
    unfold pickR at hr
    obtain ⟨n, hn, rfl⟩ := List.mem_map.mp hr
    rw [getD_at [] (hl n hn)]
    exact List.getElem_mem _
  refine ⟨fun r hr => h.ok r (mem r hr), alike_of fun r hr => alike_eq h.al r (mem r hr), fun z => hne ?_, ?_⟩
  · unfold pickR at z
    exact List.map_eq_nil_iff.mp z
  · unfold pickR
    rw [List.length_map]
    exact l8
theorem pickI_ok {rs : List (List Int)} {ns : List Nat} (h : OkT rs) (hl : ∀ n ∈ ns, n < (rs.headD []).length) (l3 : 3 ≤ ns.length) (l7 : ns.length ≤ 7) : OkT (rs.map (pickI ns)) := by
  refine ⟨fun q hq => ?_, alike_of (k := ns.length) fun q hq => ?_, fun z => h.ne (List.map_eq_nil_iff.mp z), by rw [List.length_map]; exact h.l8⟩
  · obtain ⟨r, hr, rfl⟩ := List.mem_map.mp hq
    refine ⟨by unfold pickI; rw [List.length_map]; exact l3, by unfold pickI; rw [List.length_map]; exact l7, fun n hn => ?_⟩
    unfold pickI at hn
    obtain ⟨m, hm, rfl⟩ := List.mem_map.mp hn
    have lm : m < r.length := by
      rw [alike_eq h.al r hr]
      exact hl m hm
    rw [getD_at 0 lm]
    exact (h.ok r hr).2.2 _ (List.getElem_mem _)
  · obtain ⟨r, hr, rfl⟩ := List.mem_map.mp hq
    unfold pickI
    rw [List.length_map]
/-- no number below k stands twice: no more than k stand there -/
theorem nodup_le {ns : List Nat} {k : Nat} (nd : ns.Nodup) (h : ∀ n ∈ ns, n < k) : ns.length ≤ k := by
  induction k generalizing ns with
  | zero =>
    cases ns with
    | nil => exact Nat.le_refl _
    | cons n ns => exact absurd (h n List.mem_cons_self) (Nat.not_lt_zero _)
  | succ k ih =>
    by_cases hm : k ∈ ns
    · have e1 : (ns.erase k).length = ns.length - 1 := List.length_erase_of_mem hm
      have e2 := ih (nd.erase k) fun n hn => by
        have h1 := h n (List.mem_of_mem_erase hn)
        have h2 : n ≠ k := fun z => by
          rw [z] at hn
          exact (List.Nodup.not_mem_erase nd) hn
        omega
      omega
    · have := ih nd fun n hn => by
        have h1 := h n hn
        have h2 : n ≠ k := fun z => hm (z ▸ hn)
        omega
      omega
theorem nV_get {ns : List Nat} {i : Nat} {x : V} (h : (nV ns)[i]? = some x) : ∃ n, ns[i]? = some n ∧ x = .int (n : Nat) := by
  unfold nV at h
  obtain ⟨z, hz, rfl⟩ := get_map h
  obtain ⟨n, hn, rfl⟩ := get_map hz
  exact ⟨n, hn, rfl⟩
theorem TrF.ptr {H : Hp} {C a : Addr} {rs : List (List Int)} (h : TrF H C a rs) : ∃ dx fs, H a = some (.ins C dx fs) := let ⟨dx, _, _, e, _⟩ := h; ⟨dx, _, e⟩
section
variable {P : Program} {w : World} {K : PySem.W.Frag} {mg : Str → Option Value} {base : Heap} {C CB CF CT CP CQ CW : Addr}
/-! ### Tray.with_row -/
def spWR (K : PySem.W.Frag) (C CB CF CT : Addr) : Sp := fun vs H Q E => ∃ (a : Addr) (v : V) (rs : List (List Int)), vs = [.ref a, v] ∧ TrF H C a rs ∧ OkT rs ∧
  ((RowV K H v false ∧ RzV CB "part" (.str "places") H E) ∨ (∃ r, Row H v r ∧ OkR r ∧ TRes C CF CT (rs ++ [r]) H Q E))
abbrev sWR : Stmt := inClass (top 38) 5
theorem scWR : FnScope ["self", "places"] ["self", "places"] (defScope sWR) := ⟨rfl, rfl, rfl, by decide +kernel, rfl, by decide +kernel, by decide +kernel⟩
theorem ok_wrow {f : Addr} {fd : FuncData} (F : Fun K "with_row" "Tray.with_row" sWR f fd) (T : TrT K C) (mA : mg "Tray" = some (.ref C)) (IT : IniT P w K mg base C CB CF CT) (M1 : ErM P w K mg base "BadTray" "part" CB) (C1 : Callee P w K mg base CX0 4 "_is_tray_row" ["value"] (spTR K)) : FnOk P w K mg base (L2.CX P w) 7 f fd ["self", "places"] (spWR K C CB CF CT) := by
  obtain ⟨f1, fd1, m1, k1, b1, G1⟩ := C1
  obtain ⟨fE1, fdE1, T1, GE1, bE1⟩ := M1
  have cl := T.pc.cls
  have nd := scWR.nd
  refine F.okX scWR (fun vs H Q E h => ?_) (fun cdv A outer s H vs Q E hr h => ?_)
  · obtain ⟨a, v, rs, rfl, _⟩ := h
    rfl
  · obtain ⟨a, v, rs, rfl, tf, ok, h⟩ := h
    refine ⟨_, (pss_cons (ps_if (pt_not (pt_val (pe_call G1 (hr.mono (by decide)) rfl m1 k1 b1 .nil pass0 (pa_cons (pv 1) pa_nil)))) (pss_one (ps_raise rfl (takes_of rfl rfl rfl rfl) (pmk_oex T1.oex T1.iC T1.tI GE1 (hr.mono (by decide)) bE1 .nil pass0 rfl T1.mgC (pa_cons (pe_str) pa_nil)))) pss_nil) (pss_one (ps_ret (pe_mkT (E := E) K mA IT (hr.mono (by decide)) (fun pins σ => passAt (takes_of rfl rfl rfl rfl) σ pins) rfl (pa_cons (pe_op op_catA (pe_fld (pv 0) rfl) (pe_tup (pa_cons (pv 1) pa_nil))) pa_nil))))), ?_⟩
    rcases h with ⟨hv, r⟩ | ⟨r, hv, okr, res⟩
    · exact ⟨_, rfl, v, false, rfl, hv, fun H1 s1 => ⟨_, rfl, iteT ⟨by show 1 ≤ 1000; decide, fun e he => ⟨e, _, rfl, T1.oex, T1.noF, upd_same, fun dx hdx ne => ⟨rfl, dx, _, upd_same, by rw [upd_ne ne]; exact upd_same, by rw [upd_ne ne] at hdx; exact hdx, raisedV (r) s1 he hdx ne⟩⟩⟩⟩⟩
    · refine ⟨_, rfl, v, true, rfl, hv.rowV okr, fun H1 s1 => ⟨_, rfl, iteF ?_⟩⟩
      obtain ⟨dx, t, u, ha, ⟨ts, ht, pr⟩, _⟩ := tf.same s1
      have lt : ts.length = rs.length := Paired.length pr
      have l8 := ok.l8
      refine ⟨_, rfl, a, C, dx, _, .ref t, rfl, ha, cl, T.n2, rfl, _, rfl, by show 1 ≤ sizeLine; decide, fun c1 n1 => ?_⟩
      have s2 := same_new (o := .tup [v]) n1
      have g1 : upd H1 c1 (.tup [v]) c1 = some (.tup [v]) := upd_same
      generalize upd H1 c1 (.tup [v]) = H2 at s2 g1 ⊢
      refine ⟨t, c1, _, _, rfl, rfl, SqT.of (s2 _ _ ht), SqT.of g1, ?_, fun e0 => ?_, fun _ e0 => ?_, fun _ _ c6 n6 => ?_⟩
      · rw [List.length_map, lt]
        exact Nat.le_of_lt (small1000 (by show rs.length + 1 ≤ 1000; omega))
      · have := congrArg List.length (List.map_eq_nil_iff.mp e0)
        rw [lt] at this
        exact absurd (List.length_eq_zero_iff.mp this) ok.ne
      · cases e0
      · have s6 := same_new (o := .tup (ts.map V.ref ++ [v])) n6
        have g6 : upd H2 c6 (.tup (ts.map V.ref ++ [v])) c6 = some (.tup (ts.map V.ref ++ [v])) := upd_same
        generalize upd H2 c6 (.tup (ts.map V.ref ++ [v])) = H6 at s6 g6 ⊢
        have s26 := s2.trans s6
        have s := s1.trans s26
        exact ⟨.ref c6, rfl, (res.same s).mk (.inr g6) (paired_snoc (paired_mono (rowT_row pr) fun _ _ z => z.same s26) (hv.same s)) (fun q hq => (List.mem_append.mp hq).elim (ok.ok q) fun z => (List.mem_singleton.mp z) ▸ okr) (by simp) (by rw [List.length_append]; show rs.length + 1 ≤ 100; omega)⟩
/-! ### Tray.picked -/
def spPk (K : PySem.W.Frag) (C CB CP CW : Addr) : Sp := fun vs H Q E => ∃ (a : Addr) (v : V) (rs : List (List Int)), vs = [.ref a, v] ∧ TrF H C a rs ∧ OkT rs ∧
  ((∃ x, WJ K H rs.length v (some x) ∧ RzV CP "value" x H E) ∨ (∃ c ns, v = .ref c ∧ PinL H c ns rs.length ∧ (ns = [] → RzV CB "part" (.str "rows") H E) ∧ (ns.Nodup → ns ≠ [] → NewT C H Q (pickR rs ns)) ∧ ∀ j, TwN ns j → RzV CW "value" (.int (j : Nat)) H E))
abbrev sPk : Stmt := inClass (top 38) 6
abbrev nPk : List Str := ["self", "numbers", "number"]
theorem scPk : FnScope nPk ["self", "numbers"] (defScope sPk) := ⟨rfl, rfl, rfl, by decide +kernel, rfl, by decide +kernel, by decide +kernel⟩
theorem ok_pk {f : Addr} {fd : FuncData} (F : Fun K "picked" "Tray.picked" sPk f fd) (B : Bn mg) (T : TrT K C) (mA : mg "Tray" = some (.ref C)) (IT : IniT P w K mg base C CB CF CT) (C1 : Callee P w K mg base (L2.CX P w) 4 "check_picture_numbers" ["values", "many"] (spCP K CP CW)) : FnOk P w K mg base (L2.CX P w) 7 f fd ["self", "numbers"] (spPk K C CB CP CW) := by
  obtain ⟨f1, fd1, m1, k1, b1, G1⟩ := C1
  have cl := T.pc.cls
  have nd := scPk.nd
  refine F.okX scPk (fun vs H Q E h => ?_) (fun cdv A outer s H vs Q E hr h => ?_)
  · obtain ⟨a, v, rs, rfl, _⟩ := h
    rfl
  · obtain ⟨a, v, rs, rfl, tf, ok, h⟩ := h
    obtain ⟨dx, t, u, ha, ⟨ts, ht, pr⟩, _⟩ := id tf
    have lt : ts.length = rs.length := Paired.length pr
    have el : ((ts.map V.ref).length : Int) = ((rs.length : Nat) : Int) := by rw [List.length_map, lt]
    refine ⟨_, (pss_cons (ps_expr (pe_callS (E := fun _ => E) G1 (hr.mono (by decide)) rfl m1 k1 b1 (fun σ => passAt (takes_of rfl rfl rfl rfl) σ) (pa_cons (pv 1) (pa_cons ((pe_callB call_len_seq (by rfl) B.len PySem.boot_len (pa_cons (pe_fld (pv 0) rfl) pa_nil))) pa_nil)))) (pss_one (ps_ret (pe_mkT (E := E) K mA IT (hr.mono (by decide)) (fun pins σ => passAt (takes_of rfl rfl rfl rfl) σ pins) rfl (pa_cons ((pe_lc (own := [("number", 2)]) (g := gName 2) (tt := tYes) rfl nd (pi_sq K (pv 1)) (blkOk_by (N := nPk) (sc := defScope sPk) (by decide +kernel)) (fun _ _ _ _ _ => (pg_name (i := 2) nd rfl (Or.inl rfl))) (fun _ _ _ _ _ => pts_nil) (fun _ _ _ _ _ => (pe_ix (r := rIxT K) ix_tupK (pe_fldK K (pv 0) rfl) (pv 2) (fun _ _ => rfl))))) pa_nil))))), ?_⟩
    refine ⟨_, rfl, _, rfl, a, C, dx, _, .ref t, rfl, ha, cl, T.n2, rfl, t, _, rfl, .inr (SqT.of ht), ?_⟩
    rw [el]
    rcases h with ⟨x, j, r⟩ | ⟨c, ns, rfl, pl, hn, hk, htw⟩
    · exact ⟨v, rs.length, rfl, .inl ⟨x, j, r⟩⟩
    · refine ⟨.ref c, rs.length, rfl, .inr ⟨c, ns, rfl, pl, fun ndp H1 s1 => ?_, htw⟩⟩
      have l8 := ok.l8
      have ln := nodup_le ndp pl.lt
      have ha1 := s1 _ _ ha
      have ht1 := s1 _ _ ht
      try dsimp only [tNext, tRet, tCB, tCons, tNil, tNot, tB, tOr, tSeq, tIfS, sFld, tMkT]
      refine lcg (a := c) (xs := nV ns) (Good := isRowT) (bs := pickR rs ns) (fun Q' q' => ⟨_, rfl, q'⟩) (pl.sq.same s1) (by unfold pickR; rw [List.length_map, nV_len]) (by rw [nV_len]; omega) (fun D i x r H' hD hx hr' s2 ⟨acc, hacc⟩ T' N t' => ?_) (fun D gs H2 hD s2 hd nm pg => ?_)
      · obtain ⟨n, en, rfl⟩ := nV_get hx
        have hn' : n < rs.length := pl.lt n (List.mem_of_getElem? en)
        have er : rs.getD n [] = r := by
          unfold pickR at hr'
          rw [List.getElem?_map, en] at hr'
          exact Option.some.inj hr'
        rw [getD_at [] hn'] at er
        obtain ⟨g, eg, hg⟩ := paired_of pr (i := n) (y := r) (by rw [List.getElem?_eq_getElem hn', er])
        refine ⟨rfl, yes_of ?_⟩
        exact ⟨_, rfl, a, C, dx, _, .ref t, rfl, s2 _ _ ha1, cl, T.n2, rfl, _, rfl, t, _, _, .ref g, rfl, rfl, SqT.of (s2 _ _ ht1), atI_nat (by rw [List.getElem?_map, eg]; rfl), t' g _ _ (ne_of_none (s1 _ _ hg) hD) Same.me (s2 _ _ (s1 _ _ hg)) rfl⟩
      · refine ⟨.ref D, rfl, ?_⟩
        have s12 := s1.trans s2
        by_cases hnn : ns = []
        · subst hnn
          cases pg
          exact .inl ⟨.inr (.inl ⟨D, rfl, .inl hd⟩), (hn rfl).same s12⟩
        · have okp := pickR_ok ok pl.lt hnn (by omega)
          refine MkT.of (.inl hd) (rowT_row (paired_mono pg fun _ _ ⟨o, h, g⟩ => by unfold isRowT at g; subst g; exact h)) okp.ok okp.ne okp.al okp.l8 ((hk ndp hnn).same s12)
end
end K19

namespace K19
open PySem PySem.Spec PyProof.Rows L2
/-- what a thing must be to stand for a row, as a list -/
def isRowL (o : HO) (ns : List Int) : Prop := o = .lst (ns.map V.int)
theorem rows_l {H : Hp} {gs : List Addr} {rs : List (List Int)} (h : Paired (fun r b => ∃ o, H r = some o ∧ isRowL o b) gs rs) : Paired (Row H) (gs.map V.ref) rs := by
  induction h with
  | nil => exact .nil
  | cons a _ ih =>
    obtain ⟨o, h, g⟩ := a
    unfold isRowL at g
    subst g
    exact .cons ⟨_, rfl, .inl h⟩ ih
theorem rows_t {H : Hp} {gs : List Addr} {rs : List (List Int)} (h : Paired (fun r b => ∃ o, H r = some o ∧ isRowT o b) gs rs) : Paired (Row H) (gs.map V.ref) rs := by
  induction h with
  | nil => exact .nil
  | cons a _ ih =>
    obtain ⟨o, h, g⟩ := a
    unfold isRowT at g
    subst g
    exact .cons ⟨_, rfl, .inr h⟩ ih
section
variable {P : Program} {w : World} {K : PySem.W.Frag} {mg : Str → Option Value} {base : Heap} {C CB CF CT CP CQ CW : Addr}
/-! ### Tray.in_order -/
def spIO (K : PySem.W.Frag) (C CP CW CF : Addr) : Sp := fun vs H Q E => ∃ (a : Addr) (v : V) (rs : List (List Int)), vs = [.ref a, v] ∧ TrF H C a rs ∧ OkT rs ∧
  ((∃ x, WJ K H (rs.headD []).length v (some x) ∧ RzV CP "value" x H E) ∨ (∃ c ns, v = .ref c ∧ PinL H c ns (rs.headD []).length ∧ (ns.Nodup → (rs.headD []).length ≤ ns.length → NewT C H Q (rs.map (pickI ns))) ∧ (ns.Nodup → ns.length < (rs.headD []).length → RzV CF "part" (.str "pins") H E) ∧ ∀ j, TwN ns j → RzV CW "value" (.int (j : Nat)) H E))
abbrev sIO : Stmt := inClass (top 38) 7
abbrev nIO : List Str := ["self", "pins", "row", "pin"]
abbrev scIOR : Scope := { kind := .function, names := [(".0", .local), ("row", .cell), ("pins", .cell)], isGenerator := false, isCoroutine := false }
theorem scIO : FnScope nIO ["self", "pins"] (defScope sIO) := ⟨rfl, rfl, rfl, by decide +kernel, rfl, by decide +kernel, by decide +kernel⟩
theorem head_ok {rs : List (List Int)} (h : OkT rs) : OkR (rs.headD []) := by
  obtain ⟨ok, _, ne, _⟩ := h
  cases rs with
  | nil => exact absurd rfl ne
  | cons r rs => exact ok r List.mem_cons_self
theorem ok_io {f : Addr} {fd : FuncData} (F : Fun K "in_order" "Tray.in_order" sIO f fd) (B : Bn mg) (T : TrT K C) (mA : mg "Tray" = some (.ref C)) (IT : IniT P w K mg base C CB CF CT) (C1 : Callee P w K mg base (L2.CX P w) 5 "check_order" ["values", "many"] (spCO K CP CW CF)) : FnOk P w K mg base (L2.CX P w) 7 f fd ["self", "pins"] (spIO K C CP CW CF) := by
  obtain ⟨f1, fd1, m1, k1, b1, G1⟩ := C1
  have cl := T.pc.cls
  have nd := scIO.nd
  refine F.okX scIO (fun vs H Q E h => ?_) (fun cdv A outer s H vs Q E hr h => ?_)
  · obtain ⟨a, v, rs, rfl, _⟩ := h
    rfl
  · obtain ⟨a, v, rs, rfl, tf, ok, h⟩ := h
    obtain ⟨dx, t, u, ha, ⟨ts, ht, pr⟩, _⟩ := id tf
    have lt : ts.length = rs.length := Paired.length pr
    refine ⟨_, (pss_cons (ps_expr (pe_callS (E := fun _ => E) G1 (hr.mono (by decide)) rfl m1 k1 b1 (fun σ => passAt (takes_of rfl rfl rfl rfl) σ) (pa_cons (pv 1) (pa_cons (pe_fld (pv 0) rfl) pa_nil)))) (pss_one (ps_ret (pe_mkT (E := E) K mA IT (hr.mono (by decide)) (fun pins σ => passAt (takes_of rfl rfl rfl rfl) σ pins) rfl (pa_cons ((pe_lc (own := [("row", 2)]) (g := gName 2) (tt := tYes) rfl nd (pi_sq K (pe_fld (pv 0) rfl)) (blkOk_by (N := nIO) (sc := defScope sIO) (by decide +kernel)) (fun _ _ _ _ _ => (pg_name (i := 2) nd rfl (Or.inr rfl))) (fun _ _ _ _ _ => pts_nil) (fun _ _ _ _ _ => (pe_lc (own := [("pin", 3)]) (g := gName 3) (tt := tYes) rfl nd (pi_sq K (pv 1)) (blkOk_by (N := nIO) (sc := scIOR) (by decide +kernel)) (fun _ _ _ _ _ => (pg_name (i := 3) nd rfl (Or.inl rfl))) (fun _ _ _ _ _ => pts_nil) (fun _ _ _ _ _ => (pe_ix (r := rIxT K) ix_tupK (pv 2) (pv 3) (fun _ _ => rfl))))))) pa_nil))))), ?_⟩
    refine ⟨_, rfl, _, rfl, a, C, dx, _, .int ((rs.headD []).length : Nat), rfl, ha, cl, T.n1, rfl, ?_⟩
    rcases h with ⟨x, j, r⟩ | ⟨c, ns, rfl, pl, hk, hsh, htw⟩
    · exact ⟨v, _, rfl, .inl ⟨x, j, r⟩⟩
    · refine ⟨.ref c, _, rfl, .inr ⟨c, ns, rfl, pl, fun ndp hle H1 s1 => ?_, hsh, htw⟩⟩
      have l8 := ok.l8
      have ln := nodup_le ndp pl.lt
      have ⟨h3, h7, _⟩ := head_ok ok
      have ha1 := s1 _ _ ha
      have ht1 := s1 _ _ ht
      try dsimp only [tNext, tRet, tCB, tCons, tNil, tNot, tB, tOr, tSeq, tIfS, sFld, tMkT]
      refine lcg (a := t) (xs := ts.map V.ref) (Good := isRowL) (bs := rs.map (pickI ns)) (fun Q' q' => ⟨_, rfl, a, C, dx, _, .ref t, rfl, ha1, cl, T.n2, rfl, q'⟩) (.inr ht1) (by rw [List.length_map, List.length_map, lt]) (by rw [List.length_map]; omega) (fun D i x r' H' hD hx hr' s2 ⟨acc, hacc⟩ T' N t' => ?_) (fun D gs H2 hD s2 hd nm pg => ?_)
      · obtain ⟨g, eg, rfl⟩ := get_map hx
        obtain ⟨r, er, hg⟩ := paired_get pr eg
        obtain ⟨r2, er2, rfl⟩ := get_map hr'
        obtain rfl : r = r2 := Option.some.inj (er.symm.trans er2)
        have lr := alike_eq ok.al r (List.mem_of_getElem? er)
        have hg' : H' g = some (.tup (r.map V.int)) := s2 _ _ (s1 _ _ hg)
        refine ⟨rfl, yes_of ?_⟩
        try dsimp only [tNext, tRet, tCB, tCons, tNil, tNot, tB, tOr, tSeq, tIfS, sFld, tMkT]
        refine lcv (a := c) (xs := nV ns) (ys := (pickI ns r).map V.int) (fun Q' q' => ⟨_, rfl, q'⟩) ((pl.sq.same s1).same s2) (by unfold pickI; rw [List.length_map, List.length_map, nV_len]) (by rw [nV_len]; omega) (fun D2 j x2 y2 H3 hD2 hx2 hy2 s3 T2 N2 t2 => ?_) (fun D2 H3 hD2 s3 hd3 => ?_)
        · obtain ⟨n, en, rfl⟩ := nV_get hx2
          obtain ⟨z, hz, rfl⟩ := get_map hy2
          unfold pickI at hz
          obtain ⟨m, hm, rfl⟩ := get_map hz
          obtain rfl : n = m := Option.some.inj (en.symm.trans hm)
          have ln' : n < r.length := by
            rw [lr]
            exact pl.lt n (List.mem_of_getElem? en)
          refine ⟨rfl, yes_of ?_⟩
          exact ⟨_, rfl, _, rfl, g, _, _, _, rfl, rfl, SqT.of (s3 _ _ hg'), ints_at ln', t2 _ Same.me⟩
        · exact t' D2 _ _ (fun z => by rw [z, hacc] at hD2; cases hD2) s3 hd3 rfl
      · refine ⟨.ref D, rfl, ?_⟩
        have okp := pickI_ok ok pl.lt (by omega) (by omega)
        exact MkT.of (.inl hd) (rows_l pg) okp.ok okp.ne okp.al okp.l8 ((hk ndp hle).same (s1.trans s2))
end
end K19

namespace K19
open PySem PySem.Spec PyProof.Rows L2
/-! ### which of two rows is the greater -/
def neg (ns : List Int) : List Int := ns.map fun n => -n
theorem neg_neg (ns : List Int) : neg (neg ns) = ns := by
  unfold neg
  rw [List.map_map]
  have e : ((fun n : Int => -n) ∘ fun n : Int => -n) = id := by
    funext n
    show - -n = n
    omega
  rw [e, List.map_id]
def ltR (r q : List Int) : Bool := PySem.W.dataLt (enR true r) (enR true q)
theorem toks_inj : ∀ r q : List Int, PySem.W.keyToksAll (r.map PyData.int) = PySem.W.keyToksAll (q.map PyData.int) → r = q
  | [], [], _ => rfl
  | [], m :: q, h => by
    rw [List.map_cons, PySem.W.toks_all_cons, List.map_nil, PySem.W.keyToksAll] at h
    have := (List.cons.inj h).1
    cases this
  | n :: r, [], h => by
    rw [List.map_cons, PySem.W.toks_all_cons, List.map_nil, PySem.W.keyToksAll] at h
    have := (List.cons.inj h).1
    cases this
  | n :: r, m :: q, h => by
    rw [List.map_cons, List.map_cons, PySem.W.toks_all_cons, PySem.W.toks_all_cons, PySem.W.keyToks, PySem.W.keyToks] at h
    have h1 := (List.cons.inj h).2
    have h2 := List.cons.inj h1
    have e1 : n = m := Sum.inl.inj h2.1
    rw [e1, toks_inj r q h2.2]
theorem enR_toks (r : List Int) : PySem.W.keyToks (enR true r) = PySem.W.keyToksAll (r.map PyData.int) := by
  show PySem.W.keyToks (.tuple (r.map PyData.int)) = _
  rw [PySem.W.keyToks]
theorem ltR_irr (r : List Int) : ltR r r = false := lex_irrefl _
theorem ltR_asym {r q : List Int} (h : ltR r q = true) : ltR q r = false := by
  cases e : ltR q r with
  | false => rfl
  | true =>
    have := lex_trans _ _ _ h e
    rw [lex_irrefl] at this
    cases this
theorem ltR_total {r q : List Int} (h : ltR r q = false) (k : ltR q r = false) : r = q := by
  have e := lex_total _ _ h k
  rw [enR_toks, enR_toks] at e
  exact toks_inj r q e
/-- the same row for rows that are kin -/
def either (r : List Int) : List Int := if ltR r (neg r) = true then neg r else r
def kin (r q : List Int) : Prop := r = q ∨ r = neg q
theorem either_or (r : List Int) : either r = r ∨ either r = neg r := by
  unfold either
  split
  · exact .inr rfl
  · exact .inl rfl
theorem either_neg (r : List Int) : either (neg r) = either r := by
  unfold either
  rw [neg_neg]
  cases h : ltR r (neg r) with
  | true =>
    rw [ltR_asym h]
    rfl
  | false =>
    cases k : ltR (neg r) r with
    | true => rfl
    | false =>
      have := ltR_total h k
      rw [if_neg Bool.false_ne_true, if_neg Bool.false_ne_true]
      exact this.symm
theorem either_kin {r q : List Int} : either r = either q ↔ kin r q := by
  constructor
  · intro h
    rcases either_or r with e | e <;> rcases either_or q with k | k <;> rw [e, k] at h
    · exact .inl h
    · exact .inr h
    · refine .inr ?_
      rw [← h, neg_neg]
    · refine .inl ?_
      rw [← neg_neg r, h, neg_neg]
  · rintro (h | h)
    · rw [h]
    · rw [h, either_neg]
theorem int_alike : ∀ r q : List Int, PySem.W.alikeAll (r.map PyData.int) (q.map PyData.int) = true
  | [], _ => by rw [List.map_nil, PySem.W.alikeAll]
  | _ :: _, [] => by rw [List.map_nil, List.map_cons, PySem.W.alikeAll]
  | n :: r, m :: q => by
    rw [List.map_cons, List.map_cons, PySem.W.alikeAll, int_alike r q, PySem.W.alike]
    rfl
theorem enR_alike (r q : List Int) : PySem.W.alike (enR true r) (enR true q) = true := by
  show PySem.W.alike (.tuple (r.map PyData.int)) (.tuple (q.map PyData.int)) = true
  rw [PySem.W.alike]
  exact int_alike r q
/-! ### max(row, row) -/
section
variable {prog : Program} {w : World} {A : Around} {E : Value → Shared → Prop} {s : Shared}
/-- max(a, b), the two compared where a heap stands -/
theorem max_two_at {a b : Value} {Q : Value → Shared → Prop}
    (h : wpAny (model prog w) A.in1 (pyIter (.ref s.heap.objs.size)) (fun it t => ∃ I fp wr G n P St H bt, it = .ref I ∧ WalksS prog w A.in1 I fp wr G n P St ∧ St 0 t ∧ (∀ b ∈ fp, b < t.heap.objs.size) ∧ 0 < n ∧
      (∀ b o, H.get? b = some o → b ∉ wr) ∧ (∀ b o, H.get? b = some o → t.heap.get? b = some o) ∧ PySem.CmpIn prog w A.in1 .Gt H P bt ∧ ∀ v t', P (argBest bt (n - 1)) v → Moved wr G t t' → Q v t') E { s with heap := s.heap.push { cls := .type "tuple", data := .seq #[a, b] } }) :
    wpAny (model prog w) A (call (.builtin "max") [a, b]) Q E s := by
  have nm : (toString "max" ++ toString ".loop" : String) = "max.loop" := by decide
  refine call_function_tree F.kind_max F.plain_max F.entry_max (F.args_max2 a b) ?_
  show wpAny _ A.in1 (Builtin.Builtins.bindParams "max" ["key", "default"] 0 (⟨[], []⟩ : Args) >>= _) _ _ s
  refine wpAny_bind (wpAny_of_eq (rfl : Builtin.Builtins.bindParams "max" ["key", "default"] 0 ⟨[], []⟩ = pure [none, none]) ?_)
  show wpAny _ A.in1 (newTuple [a, b] >>= _) _ E s
  refine wpAny_bind (wpAny_newObj_type (wpAny_bind (wpAny_mono h (fun it t ht => ?_) fun _ _ e => e)))
  obtain ⟨I, fp, wr, G, n, P, St, H, bt, rfl, W, st, below, pos, hw, keep, cmp, fin⟩ := ht
  refine wpAny_bind (wpAny_newObj_type ?_)
  rw [nm]
  have out : t.heap.objs.size ∉ fp := fun z => Nat.lt_irrefl _ (below _ z)
  refine wpAny_pure ⟨plainId_quiet F.plain_max_loop _, PySem.codeAny_max_loop_firstH W H hw bt cmp t.heap.objs.size out (PySem.fresh_in keep) _ pos (fun b o e => Heap.get?_push_of_some _ (keep b o e)) (W.frame 0 t _ t.toks st (Nat.le_refl _) fun b _ o e => Heap.get?_push_of_some _ e) (Heap.get?_push_size _ rfl) fun v t' hv m => ?_⟩
  exact fin v t' hv (Moved.drop_new (tk := t.toks) m (Nat.le_refl _))
theorem max_two_rows {a b : Value} {r q : List Int} {as : List Addr} {Q : Value → Shared → Prop} (hh : A.handled = none) (hr : ReadsAll s.heap [a, b] [enR true r, enR true q] as) (hu : A.units + 3 < cLine)
    (h : ∀ h' tk, (∀ c o, s.heap.get? c = some o → h'.get? c = some o) → Q (if ltR r q = true then b else a) { s with heap := h', toks := tk }) :
    wpAny (model prog w) A (call (.builtin "max") [a, b]) Q E s := by
  have hT : (s.heap.push { cls := .type "tuple", data := .seq #[a, b] }).IsTuple s.heap.objs.size #[a, b] := ⟨_, Heap.get?_push_size _ rfl, rfl, 0, rfl⟩
  have hr1 : ReadsAll (s.heap.push { cls := .type "tuple", data := .seq #[a, b] }) (#[a, b] : Array Value).toList [enR true r, enR true q] as := PyProof.Rows.ReadsAll.keeps (fun b o e => Heap.get?_push_of_some _ e) hr
  have dp : PyData.depthAll [enR true r, enR true q] = 1 := by
    show max (PyData.depth (enR true r)) (max (PyData.depth (enR true q)) 0) = 1
    rw [enR_depth, enR_depth]
    rfl
  have al : PySem.W.AlikeAll [enR true r, enR true q] := by
    constructor
    · intro x hx y hy
      rcases List.mem_cons.mp hx with rfl | hx <;> rcases List.mem_cons.mp hy with rfl | hy
      · exact enR_alike _ _
      · rw [List.mem_singleton.mp hy]
        exact enR_alike _ _
      · rw [List.mem_singleton.mp hx]
        exact enR_alike _ _
      · rw [List.mem_singleton.mp hx, List.mem_singleton.mp hy]
        exact enR_alike _ _
    · intro x hx
      rcases List.mem_cons.mp hx with rfl | hx
      · intro z
        cases z
      · rw [List.mem_singleton.mp hx]
        intro z
        cases z
  refine max_two_at (PySem.W.iter_tupleW (s := { s with heap := s.heap.push { cls := .type "tuple", data := .seq #[a, b] } }) (A := A.in1) hh hT fun t e W st hfp hw hk => ?_)
  refine ⟨_, _, _, _, _, _, _, _, _, rfl, W, st, hfp, Nat.zero_lt_succ 1, hw, hk, PySem.W.cmpIn_gt (s := { s with heap := s.heap.push { cls := .type "tuple", data := .seq #[a, b] } }) (A := A.in1) hr1 al (by rw [dp]; show A.units + 1 + 1 < cLine; omega), fun v t' hv m => ?_⟩
  obtain ⟨h', tk, rfl, hk'⟩ := PySem.W.moved_old e rfl m
  have ev : v = if ltR r q = true then b else a := by
    have e1 : (#[a, b] : Array Value)[(if ltR r q = true then 1 else 0 : Nat)]? = some v := hv
    cases hl : ltR r q with
    | true =>
      rw [hl] at e1
      exact (Option.some.inj e1).symm
    | false =>
      rw [hl] at e1
      exact (Option.some.inj e1).symm
  rw [ev]
  exact h h' tk fun c o z => hk' c o (Heap.get?_push_of_some _ z)
end
/-- the greater of two rows, tuples -/
def rMaxR (K : PySem.W.Frag) : List V → Hp → VK → Prop := fun xs H Q => ∃ (a b : Addr) (r q : List Int), xs = [.ref a, .ref b] ∧ SqT K H a (r.map V.int) ∧ SqT K H b (q.map V.int) ∧ Q (.ref (if ltR r q = true then b else a)) H
theorem call_maxR {X : Cx} {K : PySem.W.Frag} (hc : X.calm = true) (hu : X.A.units + 3 < cLine) (hK : X.K = K := by rfl) : CallR X (.builtin "max") (rMaxR K) := by
  subst hK
  intro pins s σ H xs us Q I rv h
  obtain ⟨a, b, r, q, rfl, ha, hb, k⟩ := h
  obtain ⟨u, w', rfl, ru, rw'⟩ := vals2 rv
  have dp : DpAll X.K H [.ref a, .ref b] [enR true r, enR true q] := .cons (.tup ha (int_dp r)) (.cons (.tup hb (int_dp q)) .nil)
  obtain ⟨as, rd⟩ := Dp.readsAll I _ _ _ dp (.cons ru (.cons rw' .nil))
  refine max_two_rows (I.ok.hd hc) rd hu fun h' tk kk => ⟨_, H, I.kept kk, ?_, k⟩
  cases ltR r q with
  | true => exact rw'
  | false => exact ru
end K19

namespace K19
open PySem PySem.Spec PyProof.Rows L2
/-! ### d.setdefault(key, x), the keys tuples -/
section
variable {X : Cx} {pins : List (Addr × Obj)} {σ : L2.St} {H : Hp} {s : Shared} {a b : Addr} {r : Value} {z : V} {k : List Key} {A : Around} {E : Value → Shared → Prop}
theorem setd_tup {kvs : List (List Key × V)} {Q : Value → Shared → Prop} (hu : A.units + 1 < cLine) (I : Inv X pins σ H s) (e : H a = some (.dT kvs)) (eb : H b = some (.tup (k.map kV))) (rz : RelV z r) (small : kvs.length < sizeLine)
    (there : ∀ v, valV kvs k = some v → ∀ (u : Value) (t : Shared), Inv X pins σ H t → RelV v u → Q u t) (new : valV kvs k = none → ∀ (u : Value) (t : Shared), Inv X pins σ (upd H a (.dT (putK kvs k z))) t → RelV z u → Q u t) :
    wpAny (model X.prog X.w) A (call (.builtin "dict.setdefault") [.ref a, .ref b, r]) Q E s := by
  obtain ⟨lk, sm, xs, rel, dd⟩ := dt_of I.hok e
  have lx : xs.length ≤ sizeLine := by
    rw [← Paired.length rel]
    exact lk
  have val := rel.val k
  refine PySem.call_setdefault_heap (hsz := lx) (tupleKind_room_in1 hu) (key_of I.hok eb) sm dd (fun p hp => ?_) (fun hn h' dd' hs => ?_)
  · rw [hp] at val
    cases q0 : valV kvs k with
    | none =>
      rw [q0] at val
      exact (show False from val).elim
    | some v0 =>
      rw [q0] at val
      exact there v0 q0 _ _ (I.tok _) val
  · rw [hn] at val
    cases q0 : valV kvs k with
    | some v0 =>
      rw [q0] at val
      exact (show False from val).elim
    | none =>
      have l2 : (putK kvs k z).length ≤ sizeLine := Nat.le_trans (length_putK kvs k z) small
      obtain ⟨q, es, ep, hq, h2, h3, h4, _, h5⟩ := dd'
      refine new q0 _ _ (d_write I (by rw [e]; exact True.intro) hs ⟨q, hq⟩ ⟨l2, sm, _, (rel.put k eb rz).keeps fun c ys ec => ?_, q, es, ep, hq, h2, h3, h4, h5⟩) rz
      rw [upd_ne (L2.ne_of ec e (fun z => nomatch z))]
      exact ec
end
def tSetdT (td ty tx : TE) : TE := fun σ H Q => td σ H fun x H1 => ∃ a, x = .ref a ∧ IsD H1 a ∧ ty σ H1 fun y H2 => tx σ H2 fun z H3 => ∃ (kvs : List (List Key × V)) (k : List Key) (b : Addr), H3 a = some (.dT kvs) ∧ y = .ref b ∧ H3 b = some (.tup (k.map kV)) ∧ kvs.length < sizeLine ∧
  (∀ v, valV kvs k = some v → Q v H3) ∧ (valV kvs k = none → Q z (upd H3 a (.dT (putK kvs k z))))
theorem pe_setdT {X : Cx} {o e f : Expr} {td ty tx : TE} {apos cpos : Pos} (hu : X.A.units + 1 < cLine) (ho : PE X o td) (he : PE X e ty) (hf : PE X f tx) (m : M2 X o "setdefault" apos e f cpos) : PE X (.Call (.Attribute o "setdefault" apos) [e, f] [] cpos) (tSetdT td ty tx) := by
  refine ⟨fun pins s σ H Q I h => ?_⟩
  refine wpAny_Call_method m.base m.few m.line PySem.F.plainAttrs_dict PySem.F.slot_dict_setdefault PySem.F.type_dict_setdefault (thn (ho.run pins s σ H _ I h) fun u t ⟨x, H1, I1, rx, a, ex, d, q1⟩ => ?_)
  subst ex
  cases (show u = Value.ref a from rx)
  obtain ⟨i1, i2, _⟩ := isD_at I1 d
  refine ⟨i1, i2, ?_⟩
  rw [m.trees]
  refine Calls.callWith_builtin rfl (Calls.evalArgs_plain (Calls.spliced_cons (thn (he.run pins t σ H1 _ I1 q1) fun iv t2 ⟨y, H2, I2, ry, q2⟩ =>
    Calls.spliced_cons (thn (hf.run pins t2 σ H2 _ I2 q2) fun fv t3 ⟨z, H3, I3, rz, kvs, k, b, ea, ey, eb, hl, q3, q4⟩ => Calls.spliced_nil ?_))))
  subst ey
  cases (show iv = Value.ref b from ry)
  exact setd_tup hu I3 ea eb rz hl (fun v hv w' t4 I4 rw' => ⟨v, _, I4, rw', q3 v hv⟩) (fun hn w' t4 I4 rw' => ⟨z, _, I4, rw', q4 hn⟩)
/-! ### d.values(), the keys tuples, the dict locked -/
def Itdt (d : Addr) (o : Obj) (kvs : List (List Key × V)) : It :=
  ⟨fun i H => H d = some (.frz o (.dT kvs)) ∧ i < kvs.length, fun i H x H' => H' = H ∧ ∃ k, kvs[i]? = some (k, x), fun i H => H d = some (.frz o (.dT kvs)) ∧ kvs.length ≤ i⟩
theorem frz_vals {X : Cx} {pins : List (Addr × Obj)} {σ : L2.St} {H : Hp} {s : Shared} {d : Addr} {o : Obj} {kvs : List (List Key × V)} (I : Inv X pins σ H s) (h : H d = some (.frz o (.dT kvs))) :
    (d == sysModules) = false ∧ ∃ (es : Array DictEntry) (ep : Nat), s.heap.DictRaw d es ep ∧ o.data = .dict es ep ∧ es.size = kvs.length ∧ ∀ (i : Nat) (k : List Key) (v : V), kvs[i]? = some (k, v) → ∃ en, es[i]? = some en ∧ RelV v en.val := by
  obtain ⟨hd, _, sm, xs, pr, o', es, ep, ho, hx, hdt, he, _⟩ := I.hok d _ h
  rw [hd] at ho
  cases ho
  refine ⟨sm, es, ep, ⟨o, hd, hx, hdt⟩, hdt, ?_, fun i k v e => ?_⟩
  · rw [size_of_entries he, ← Paired.length pr]
  · obtain ⟨p, hp, _, _, rv⟩ := L2.paired_get pr e
    have q := entry_at he i
    rw [hp] at q
    exact ⟨_, q, rv⟩
theorem turn_valsT {P : Program} {w : World} {K : PySem.W.Frag} {tg : Expr} {d : Addr} {o : Obj} {es : Array DictEntry} {ep : Nat} {kvs : List (List Key × V)} (it : Addr) (hod : o.data = .dict es ep) : Turn P w K tg (Itdt d o kvs) [it] it (fun i h => h.IsValIter it d i kvs.length ep) where
  mem := List.mem_singleton.mpr rfl
  obj := fun i h st b hb => by
    rw [List.mem_singleton.mp hb]
    obtain ⟨oi, e, c, dd⟩ := st
    exact ⟨oi, e, fun v z => by rw [dd] at z; cases z⟩
  keep := fun i h h' st k => st.at fun oi e => k it (List.mem_singleton.mpr rfl) oi e
  item := by
    intro X eP eW eK hc i pins s σ H E I hf st hg
    subst eP eW eK
    obtain ⟨hd, hi⟩ := hg
    obtain ⟨f0, f1, f2, f3, f4, f5⟩ := hf it (List.mem_singleton.mpr rfl)
    obtain ⟨sm, es', ep', raw, hdt, hsz, ent⟩ := frz_vals I hd
    obtain ⟨rfl, rfl⟩ := dict_ep hod hdt
    obtain ⟨⟨k, v⟩, hkv⟩ : ∃ kv, kvs[i]? = some kv := ⟨_, List.getElem?_eq_getElem hi⟩
    obtain ⟨en, hen, rv⟩ := ent i k v hkv
    obtain ⟨hlt, een⟩ := Array.getElem?_eq_some_iff.mp hen
    rw [← hsz] at st
    refine wpAny_pyNext_values_item_raw st raw hlt fun h' st' sb => ?_
    have I1 : Inv X pins σ H { s with heap := h' } := I.turned (t' := s.toks) (fun c oc hc z => (sb.2 c hc).trans z) f0 f1 f3 f4 f5
    obtain ⟨oi, e, c, dd⟩ := id st'
    refine ⟨es'[i].val, rfl, go_of (s := { s with heap := h' }) e c dd (by decide) ⟨v, H, I1, ?_, ⟨rfl, k, hkv⟩, ?_, fun b hb => (hf b hb).1⟩⟩
    · rw [een]
      exact rv
    · rw [hsz] at st'
      exact st'
  done := by
    intro X eP eW eK hc i pins s σ H E I hf st hg
    subst eP eW eK
    obtain ⟨hd, hi⟩ := hg
    obtain ⟨f0, f1, f2, f3, f4, f5⟩ := hf it (List.mem_singleton.mpr rfl)
    obtain ⟨sm, es', ep', raw, hdt, hsz, ent⟩ := frz_vals I hd
    obtain ⟨rfl, rfl⟩ := dict_ep hod hdt
    rw [← hsz] at st
    exact wpAny_pyNext_values_end_raw (I.ok.hd hc) st raw (by omega) fun h' eb => ⟨rfl, I.turned (t' := s.toks) (fun b ob hb e => eb b ob hb e) f0 f1 f3 f4 f5⟩
  self := fun _ _ _ _ _ st q => wpAny_pyIter_valiter st q
def iValsT (td : TE) : TI := fun σ H R => td σ H fun x H1 => ∃ d o kvs, x = .ref d ∧ H1 d = some (.frz o (.dT kvs)) ∧ R (Itdt d o kvs) H1
theorem pi_valsT {X : Cx} {tg e : Expr} {td : TE} {apos cpos : Pos} (he : PE X e td) (hbase : attributeBase e "values" X.env (eval e X.env) = eval e X.env := by rfl) (hline : (apos.endLine == cpos.line) = true := by rfl) : PI X tg (.Call (.Attribute e "values" apos) [] [] cpos) (iValsT td) := by
  refine ⟨fun pins s σ H R I h => ?_⟩
  refine wpAny_Call_method (T := "dict") (id := "dict.values") hbase rfl hline F.plainAttrs_dict F.slot_dict_values F.type_dict_values (thn (he.run pins s σ H _ I h) fun u t ⟨x, H1, I1, rx, d, o, kvs, ex, hd, q⟩ => ?_)
  subst ex
  cases (show u = Value.ref d from rx)
  obtain ⟨sm, es, ep, raw, hdt, hsz, ent⟩ := frz_vals I1 hd
  obtain ⟨i1, i2, _⟩ := isD_at I1 (.inr ⟨kvs, .inr ⟨o, hd⟩⟩)
  refine ⟨i1, i2, ?_⟩
  have I2 : Inv X pins σ H1 { t with heap := t.heap.push { cls := .type "dict_values", data := .fields #[.ref d] } } := I1.kept (t' := t.toks) fun b ob q => Heap.get?_push_of_some _ q
  have fin : wpAny (model X.prog X.w) X.A (pyIter (.ref t.heap.objs.size)) (PIE X pins σ tg R) X.xe { t with heap := t.heap.push { cls := .type "dict_values", data := .fields #[.ref d] } } := by
    refine wpAny_pyIter_values_raw (d := d) ⟨_, Heap.get?_push_size _ rfl, rfl, rfl⟩ (es := es) (ep := ep) ?_ (pi_one (tk := t.toks) I2 _ (turn_valsT _ hdt) ⟨_, Heap.get?_push_size _ rfl, rfl, ?_⟩ q)
    · obtain ⟨o1, e1, e2, e3⟩ := raw
      exact ⟨o1, Heap.get?_push_of_some _ e1, e2, e3⟩
    · rw [← hsz] <;> rfl
  show wpAny _ _ (callWith cpos (.builtin "dict.values") [.ref d] [] []) _ X.xe t
  exact method_meetsIn F.slot_dict_values F.entry_dict_values rfl (PySem.evalArgs_none ⟨rfl, i1, F.args_dict_values_1 _, _, meets_dict_values_raw (prog := X.prog) (w := X.w) d sm, ⟨⟨es, ep, raw⟩, fin⟩⟩)
end K19

namespace K19
open PySem PySem.Spec PyProof.Rows L2
/-! ### lots, by their first ones -/
abbrev Lots := List (List Int × List Nat)
def addK (k : List Int) (i : Nat) : Lots → Lots
  | [] => [(k, [i])]
  | p :: g => if p.1 = k then (p.1, p.2 ++ [i]) :: g else p :: addK k i g
def grpN (ks : List (List Int)) : Nat → Lots
  | 0 => []
  | i + 1 => addK (ks.getD i []) i (grpN ks i)
/-- a key as the dict keeps it -/
def kI (k : List Int) : List Key := k.map Sum.inl
theorem kI_v (k : List Int) : (kI k).map kV = k.map V.int := by
  unfold kI
  rw [List.map_map]
  rfl
theorem kI_inj {a b : List Int} (h : kI a = kI b) : a = b := by
  unfold kI at h
  induction a generalizing b with
  | nil =>
    cases b with
    | nil => rfl
    | cons _ _ => cases h
  | cons x a ih =>
    cases b with
    | nil => cases h
    | cons y b =>
      rw [List.map_cons, List.map_cons, List.cons.injEq] at h
      rw [Sum.inl.inj h.1, ih h.2]
def kvOf : Lots → List Addr → List (List Key × V)
  | p :: g, l :: ls => (kI p.1, .ref l) :: kvOf g ls
  | _, _ => []
def LotAt (H : Hp) (l : Addr) (p : List Int × List Nat) : Prop := H l = some (.lst (nV p.2))
theorem kv_len : ∀ {g : Lots} {ls : List Addr}, ls.length = g.length → (kvOf g ls).length = g.length
  | [], [], _ => rfl
  | p :: g, l :: ls, h => by
    show (kvOf g ls).length + 1 = g.length + 1
    rw [kv_len (by simpa using h)]
/-- a key that is new, or one that is there -/
theorem kv_look (k : List Int) (i : Nat) : ∀ {g : Lots} {ls : List Addr}, ls.length = g.length →
    (valV (kvOf g ls) (kI k) = none ∧ addK k i g = g ++ [(k, [i])]) ∨ (∃ j l l0, g[j]? = some (k, l0) ∧ ls[j]? = some l ∧ valV (kvOf g ls) (kI k) = some (.ref l) ∧ addK k i g = g.set j (k, l0 ++ [i]) ∧ kvOf (g.set j (k, l0 ++ [i])) ls = kvOf g ls)
  | [], [], _ => .inl ⟨rfl, rfl⟩
  | p :: g, l :: ls, h => by
    obtain ⟨q, l0⟩ := p
    by_cases e : q = k
    · subst e
      refine .inr ⟨0, l, l0, rfl, rfl, valV_pos rfl, ?_, rfl⟩
      show (if q = q then (q, l0 ++ [i]) :: g else _) = _
      rw [if_pos rfl]
      rfl
    · have ne : ¬ ((kI q, V.ref l) : List Key × V).1 = kI k := fun z => e (kI_inj z)
      have ea : addK k i ((q, l0) :: g) = (q, l0) :: addK k i g := by
        show (if q = k then _ else (q, l0) :: addK k i g) = _
        rw [if_neg e]
      rcases kv_look k i (g := g) (ls := ls) (by simpa using h) with ⟨h1, h2⟩ | ⟨j, m, m0, h1, h2, h3, h4, h5⟩
      · refine .inl ⟨?_, ?_⟩
        · show valV ((kI q, V.ref l) :: kvOf g ls) (kI k) = none
          rw [valV_neg ne]
          exact h1
        · rw [ea, h2]
          rfl
      · refine .inr ⟨j + 1, m, m0, h1, h2, ?_, ?_, ?_⟩
        · show valV ((kI q, V.ref l) :: kvOf g ls) (kI k) = _
          rw [valV_neg ne]
          exact h3
        · rw [ea, h4]
          rfl
        · show (kI q, V.ref l) :: kvOf (g.set j (k, m0 ++ [i])) ls = (kI q, V.ref l) :: kvOf g ls
          rw [h5]
theorem kv_snoc (p : List Int × List Nat) (l : Addr) : ∀ {g : Lots} {ls : List Addr}, ls.length = g.length → kvOf (g ++ [p]) (ls ++ [l]) = kvOf g ls ++ [(kI p.1, .ref l)]
  | [], [], _ => rfl
  | q :: g, m :: ls, h => by
    show (kI q.1, V.ref m) :: kvOf (g ++ [p]) (ls ++ [l]) = (kI q.1, V.ref m) :: (kvOf g ls ++ [(kI p.1, .ref l)])
    rw [kv_snoc p l (by simpa using h)]
theorem kv_get2 : ∀ {g : Lots} {ls : List Addr} {i : Nat} {k : List Key} {x : V}, ls.length = g.length → (kvOf g ls)[i]? = some (k, x) → ∃ l, ls[i]? = some l ∧ x = .ref l
  | [], [], _, _, _, _, h => by cases h
  | q :: g, m :: ls, 0, k, x, _, h => by
    have e := Option.some.inj (show some (kI q.1, V.ref m) = some (k, x) from h)
    exact ⟨m, rfl, (congrArg Prod.snd e).symm⟩
  | q :: g, m :: ls, i + 1, k, x, hl, h => kv_get2 (g := g) (ls := ls) (i := i) (k := k) (by simpa using hl) h
theorem lots_keep {H : Hp} {l : Addr} {o : HO} {as : List Addr} {bs : Lots} (p : Paired (LotAt H) as bs) (h : l ∉ as) : Paired (LotAt (upd H l o)) as bs := by
  induction p with
  | nil => exact .nil
  | cons z _ ih =>
    refine .cons ?_ (ih fun m => h (List.mem_cons_of_mem _ m))
    unfold LotAt
    rw [upd_ne (fun q => h (by rw [← q]; exact List.mem_cons_self))]
    exact z
/-- the lot at place j is another -/
theorem lots_upd {H : Hp} {l : Addr} {p' : List Int × List Nat} : ∀ {ls : List Addr} {g : Lots} {j : Nat}, Paired (LotAt H) ls g → ls.Nodup → ls[j]? = some l → Paired (LotAt (upd H l (.lst (nV p'.2)))) ls (g.set j p')
  | _, _, j, .nil, _, e => by simp at e
  | _, _, 0, .cons (l₁ := ls) (l₂ := g) r t, nd, e => by
    have e := Option.some.inj e
    subst e
    exact .cons upd_same (lots_keep t (List.nodup_cons.mp nd).1)
  | _, _, j + 1, .cons (l₁ := ls) (l₂ := g) r t, nd, e => by
    have hm : l ∈ ls := List.mem_of_getElem? (by simpa using e)
    have nm := (List.nodup_cons.mp nd).1
    refine .cons ?_ (lots_upd t (List.nodup_cons.mp nd).2 (by simpa using e))
    unfold LotAt
    rw [upd_ne (fun z => nm (by rw [z]; exact hm))]
    exact r
theorem grp_le (ks : List (List Int)) : ∀ i, (grpN ks i).length ≤ i
  | 0 => Nat.le_refl _
  | i + 1 => by
    have ih := grp_le ks i
    have : ∀ (k : List Int) (n : Nat) (g : Lots), (addK k n g).length ≤ g.length + 1 := fun k n g => by
      induction g with
      | nil => exact Nat.le_refl _
      | cons p g ih =>
        show (if p.1 = k then (p.1, p.2 ++ [n]) :: g else p :: addK k n g).length ≤ _
        split
        · exact Nat.le_succ _
        · exact Nat.succ_le_succ ih
    exact Nat.le_trans (this _ _ _) (Nat.succ_le_succ ih)
theorem lot_le (ks : List (List Int)) : ∀ i, ∀ p ∈ grpN ks i, p.2.length ≤ i
  | 0, p, h => by cases h
  | i + 1, p, h => by
    have ih := lot_le ks i
    have : ∀ (k : List Int) (n : Nat) (g : Lots) (m : Nat), (∀ p ∈ g, p.2.length ≤ m) → ∀ p ∈ addK k n g, p.2.length ≤ m + 1 := fun k n g m => by
      induction g with
      | nil =>
        intro _ p hp
        rw [List.mem_singleton.mp hp]
        exact Nat.succ_le_succ (Nat.zero_le _)
      | cons q g ih =>
        intro hg p hp
        have hq := hg q List.mem_cons_self
        have hp : p ∈ (if q.1 = k then (q.1, q.2 ++ [n]) :: g else q :: addK k n g) := hp
        split at hp
        · rcases List.mem_cons.mp hp with rfl | hp
          · show (q.2 ++ [n]).length ≤ m + 1
            rw [List.length_append]
            exact Nat.succ_le_succ hq
          · exact Nat.le_succ_of_le (hg p (List.mem_cons_of_mem _ hp))
        · rcases List.mem_cons.mp hp with rfl | hp
          · exact Nat.le_succ_of_le hq
          · exact ih (fun r hr => hg r (List.mem_cons_of_mem _ hr)) p hp
    exact this _ _ _ i ih p h
/-- a tuple of tuples of numbers of rows -/
def lotI (l : List Nat) : List Int := l.map fun n => ((n : Nat) : Int)
theorem walk_valsT {d : Addr} {o : Obj} {kvs : List (List Key × V)} : Walk (Itdt d o kvs) kvs.length (fun H => H d = some (.frz o (.dT kvs))) (fun i H x H' => H' = H ∧ ∃ k, kvs[i]? = some (k, x)) :=
  ⟨fun _ _ hi q => ⟨q, hi⟩, fun _ q => ⟨q, Nat.le_refl _⟩, fun _ _ _ _ _ _ y => y⟩
section
variable {P : Program} {w : World} {K : PySem.W.Frag} {mg : Str → Option Value} {base : Heap} {C : Addr}
/-! ### _either_way -/
def spEW : Sp := fun vs H Q _ => ∃ (a : Addr) (r : List Int), vs = [.ref a] ∧ H a = some (.tup (r.map V.int)) ∧ r.length ≤ 100 ∧ ∀ H' b, Same H H' → H' b = some (.tup ((either r).map V.int)) → Q (.ref b) H'
abbrev sEW : Stmt := top 39
abbrev nEW : List Str := ["row", "number"]
theorem scEW : FnScope nEW ["row"] (defScope sEW) := ⟨rfl, rfl, rfl, by decide +kernel, rfl, by decide +kernel, by decide +kernel⟩
theorem ok_ew {f : Addr} {fd : FuncData} (F : Fun K "_either_way" "_either_way" sEW f fd) (B : Bn mg) : FnOk P w K mg base CX0 6 f fd ["row"] spEW := by
  have nd := scEW.nd
  refine F.ok scEW (fun vs H Q E h => ?_) (fun cdv A outer s H vs Q E hr h => ?_)
  · obtain ⟨a, r, rfl, _⟩ := h
    rfl
  · obtain ⟨a, r, rfl, ha, l1, q⟩ := h
    refine ⟨_, pss_one (ps_ret (pe_callB (r := rMaxR K) (call_maxR rfl (Nat.lt_of_le_of_lt (Nat.add_le_add_left (show 3 ≤ 64 by decide) _) hr.units)) (by rfl) B.max (by decide +kernel) (pa_cons (pv 0) (pa_cons ((pe_callTy (T := "tuple") (r := rTu K) call_tuK (by rfl) B.tuple (by decide +kernel) (pa_cons ((pe_lc (own := [("number", 1)]) (g := gName 1) (tt := tYes) rfl nd (pi_sq K (pv 0)) (blkOk_by (N := nEW) (sc := defScope sEW) (by decide +kernel)) (fun _ _ _ _ _ => (pg_name (i := 1) nd rfl (Or.inl rfl))) (fun _ _ _ _ _ => pts_nil) (fun _ _ _ _ _ => pe_un un_neg (pv 1)))) pa_nil))) pa_nil)))), ?_⟩
    refine ⟨_, rfl, ?_⟩
    try dsimp only [tNext, tRet, tCB, tCons, tNil, tNot, tB, tOr, tSeq, tIfS, sFld]
    refine lcv (a := a) (xs := r.map V.int) (ys := (neg r).map V.int) (fun Q' q' => ⟨_, rfl, q'⟩) (.inr ha) (by unfold neg; rw [List.length_map, List.length_map, List.length_map]) (by rw [List.length_map]; omega) (fun D i x y H' hD hx hy s1 T N t => ?_) (fun D H' hD s1 hd => ?_)
    · obtain ⟨n, en, rfl⟩ := get_map hx
      obtain ⟨m, em, rfl⟩ := get_map hy
      unfold neg at em
      obtain ⟨n', en', rfl⟩ := get_map em
      obtain rfl : n = n' := Option.some.inj (en.symm.trans en')
      exact ⟨rfl, yes_of ⟨_, rfl, n, rfl, t _ Same.me⟩⟩
    · refine ⟨D, _, rfl, .inl ⟨SqL.of hd, fun c hc => ?_⟩⟩
      have sc := same_new (o := .tup ((neg r).map V.int)) hc
      have gc : upd H' c (.tup ((neg r).map V.int)) c = some (.tup ((neg r).map V.int)) := upd_same
      generalize upd H' c (.tup ((neg r).map V.int)) = H2 at sc gc ⊢
      have s2 := s1.trans sc
      refine ⟨a, c, r, neg r, rfl, SqT.of (s2 _ _ ha), SqT.of gc, ?_⟩
      cases h : ltR r (neg r) with
      | true =>
        refine q _ c s2 ?_
        unfold either
        rw [h]
        exact gc
      | false =>
        refine q _ a s2 ?_
        unfold either
        rw [h]
        exact s2 _ _ ha
end
end K19

namespace K19
open PySem PySem.Spec PyProof.Rows L2
theorem for_enum {K : PySem.W.Frag} {a : Addr} {xs : List V} {g : TG} {tb : TS} {D : Ends} {σ : L2.St} {H : Hp} (Pv : Nat → L2.St → Hp → Prop) (h0 : Pv 0 σ H) (hl : ∀ i σ H, i ≤ xs.length → Pv i σ H → SqL K H a xs)
    (hs : ∀ i x σ H T, xs[i]? = some x → Pv i σ H → H T = none → g (.ref T) σ (upd H T (.tup [.int (i : Nat), x])) fun σ2 H2 => tb { D with nx := Pv (i + 1), ct := Pv (i + 1), bk := D.nx } σ2 H2) (hd : ∀ σ H, Pv xs.length σ H → D.nx σ H) :
    ∃ W : Nat → Nat → L2.St → Hp → Prop, (∃ m, W 0 m σ H) ∧ ∀ i m σ H, W i m σ H →
      ((Ite K a).stop i H ∧ D.nx σ H) ∨ ((Ite K a).go i H ∧ ∃ N : L2.St → Hp → Prop, (∀ σ' H', N σ' H' → ∃ m', m' < m ∧ W (i + 1) m' σ' H') ∧ ∀ x H', (Ite K a).yld i H x H' → g x σ H' fun σ2 H2 => tb { D with nx := N, ct := N, bk := D.nx } σ2 H2) := by
  refine ⟨fun i m σ H => m = xs.length - i ∧ i ≤ xs.length ∧ Pv i σ H, ⟨xs.length, by simp, Nat.zero_le _, h0⟩, ?_⟩
  rintro i m σ H ⟨rfl, hi, p⟩
  have q := hl i σ H hi p
  by_cases hlt : i < xs.length
  · refine .inr ⟨⟨xs, xs[i], q, by simp [hlt]⟩, Pv (i + 1), fun σ' H' p' => ⟨xs.length - (i + 1), by omega, rfl, hlt, p'⟩, fun x H' y => ?_⟩
    obtain ⟨T, z, rfl, nT, rfl, hz⟩ := y
    exact hs i z σ H T (hz xs q) p nT
  · have e : i = xs.length := by omega
    subst e
    exact .inl ⟨⟨xs, q, Nat.le_refl _⟩, hd σ H p⟩
/-- the lots found so far, in the dict at f -/
def Fnd (H0 H : Hp) (f : Addr) (g : Lots) : Prop := ∃ ls : List Addr, H f = some (.dT (kvOf g ls)) ∧ ls.length = g.length ∧ ls.Nodup ∧ Paired (LotAt H) ls g ∧ ∀ l ∈ ls, H0 l = none
theorem nV_one (l : List Nat) (i : Nat) : nV (l ++ [i]) = nV l ++ [V.int (i : Nat)] := by
  unfold nV
  rw [List.map_append, List.map_append]
  rfl
section
variable {P : Program} {w : World} {K : PySem.W.Frag} {mg : Str → Option Value} {base : Heap} {C : Addr}
/-! ### grouped -/
def spGr : Sp := fun vs H Q _ => ∃ (a : Addr) (ts : List Addr) (ks : List (List Int)), vs = [.ref a] ∧ H a = some (.lst (ts.map V.ref)) ∧ Paired (RowT H) ts ks ∧ ks.length ≤ 100 ∧ ∀ H' b, Same H H' → TRw H' b ((grpN ks ks.length).map fun p => lotI p.2) → Q (.ref b) H'
abbrev sGr : Stmt := top 22
abbrev nGr : List Str := ["keys", "found", "at", "key", "lot"]
theorem scGr : FnScope nGr ["keys"] (defScope sGr) := ⟨rfl, rfl, rfl, by decide +kernel, rfl, by decide +kernel, by decide +kernel⟩
theorem ok_gr {f : Addr} {fd : FuncData} (F : Fun K "grouped" "grouped" sGr f fd) (B : Bn mg) : FnOk P w K mg base CX0 2 f fd ["keys"] spGr := by
  have nd := scGr.nd
  refine F.ok scGr (fun vs H Q E h => ?_) (fun cdv A outer s H vs Q E hr h => ?_)
  · obtain ⟨a, ts, ks, rfl, _⟩ := h
    rfl
  · obtain ⟨a, ts, ks, rfl, ha, pr, l1, q⟩ := h
    have lt : ts.length = ks.length := Paired.length pr
    refine ⟨_, (pss_cons ((ps_set (i := 1) nd rfl (Or.inl rfl) (pe_dnewT))) (pss_cons (ps_for PassesOwn.never rfl (pi_enum rfl B.enumerate (pa_cons (pv 0) pa_nil)) (pg_tup rfl (pgs_cons ((pg_name (i := 2) nd rfl (Or.inl rfl))) (pgs_cons ((pg_name (i := 3) nd rfl (Or.inl rfl))) pgs_nil))) (pss_one (ps_expr (pe_bm PySem.F.plainAttrs_list PySem.F.slot_list_append PySem.F.type_list_append mt_append (pe_setdT (Nat.lt_of_le_of_lt (Nat.add_le_add_left (show 1 ≤ 64 by decide) _) hr.units) (pv 1) (pv 3) (pe_lst pa_nil) ⟨rfl, rfl, rfl, rfl⟩) (pa_cons (pv 2) pa_nil))))) (pss_one (ps_ret (pe_lock (pe_callTy (T := "tuple") (r := rTu K) call_tuK (by rfl) B.tuple (by decide +kernel) (pa_cons ((pe_lc (own := [("lot", 4)]) (g := gName 4) (tt := tYes) rfl nd (pi_valsT (pv 1)) (blkOk_by (N := nGr) (sc := defScope sGr) (by decide +kernel)) (fun _ _ _ _ _ => (pg_name (i := 4) nd rfl (Or.inl rfl))) (fun _ _ _ _ _ => pts_nil) (fun _ _ _ _ _ => (pe_callTy (T := "tuple") (r := rTu K) call_tuK (by rfl) B.tuple (by decide +kernel) (pa_cons (pv 4) pa_nil))))) pa_nil))))))), ?_⟩
    intro f nf
    have s0 := same_new (o := .dT []) nf
    have g0 : upd H f (.dT []) f = some (.dT []) := upd_same
    generalize upd H f (.dT []) = H0 at s0 g0 ⊢
    refine ⟨_, rfl, a, _, rfl, SqL.of (s0 _ _ ha), ?_⟩
    refine for_enum (K := K) (a := a) (xs := ts.map V.ref) (fun i σ H' => Same H H' ∧ (∃ x2 x3 x4 : Option V, σ = [some (.ref a), some (.ref f), x2, x3, x4]) ∧ Fnd H H' f (grpN ks i)) ⟨s0, ⟨_, _, _, rfl⟩, [], g0, rfl, List.nodup_nil, .nil, fun l h => absurd h List.not_mem_nil⟩ (fun i _ H' _ p => SqL.of (p.1 _ _ ha)) (fun i y σ H' T hx p nT => ?_) (fun σ H' p => ?_)
    · obtain ⟨s1, ⟨x2, x3, x4, rfl⟩, ls, hf, ll, nd', pl, fr⟩ := p
      obtain ⟨t, et, rfl⟩ := get_map hx
      obtain ⟨k, ek, ht⟩ := paired_get pr et
      have sT := same_new (o := .tup [V.int (i : Nat), V.ref t]) nT
      have gT : upd H' T (.tup [V.int (i : Nat), V.ref t]) T = some (.tup [V.int (i : Nat), V.ref t]) := upd_same
      generalize upd H' T (.tup [V.int (i : Nat), V.ref t]) = H1 at sT gT ⊢
      have s2 := s1.trans sT
      have hi : i < ks.length := (List.getElem?_eq_some_iff.mp ek).1
      have ht1 : H1 t = some (.tup (k.map V.int)) := s2 _ _ ht
      have hf1 := sT _ _ hf
      have hg := grp_le ks i
      have ea : grpN ks (i + 1) = addK k i (grpN ks i) := by
        show addK (ks.getD i []) i (grpN ks i) = _
        rw [List.getD_eq_getElem?_getD, ek]
        rfl
      refine ⟨T, _, rfl, SqT.of gT, rfl, _, _, rfl, _, _, rfl, rfl, ?_⟩
      refine ⟨_, rfl, f, rfl, .inr ⟨_, .inl hf1⟩, _, rfl, by show 0 ≤ sizeLine; decide, fun c nc => ?_⟩
      have sc := same_new (o := .lst []) nc
      have gc : upd H1 c (.lst []) c = some (.lst []) := upd_same
      generalize upd H1 c (.lst []) = H2 at sc gc ⊢
      have s3 := s2.trans sc
      have hf2 := sc _ _ hf1
      have pl2 : Paired (LotAt H2) ls (grpN ks i) := paired_mono pl fun _ _ z => sc _ _ (sT _ _ z)
      refine ⟨_, kI k, t, hf2, rfl, by rw [kI_v]; exact sc _ _ ht1, by rw [kv_len ll]; exact small1000 (by omega), fun v hv => ?_, fun hv => ?_⟩
      · rcases kv_look k i ll with ⟨h1, _⟩ | ⟨j, l, l0, e1, e2, e3, e4, e5⟩
        · rw [h1] at hv
          cases hv
        · obtain rfl : v = .ref l := Option.some.inj (hv.symm.trans e3)
          obtain ⟨p0, ep, hl0⟩ := paired_get pl2 e2
          obtain rfl : (k, l0) = p0 := Option.some.inj (e1.symm.trans ep)
          have hl0 : H2 l = some (.lst (nV l0)) := hl0
          have l9 : l0.length ≤ i := lot_le ks i _ (List.mem_of_getElem? e1)
          refine ⟨.inl ⟨rfl, _, SqL.of hl0⟩, _, rfl, l, _, _, rfl, rfl, hl0, by rw [nV_len]; exact small1000 (by omega), ?_⟩
          have nfl : f ≠ l := L2.ne_of hf2 hl0 (fun z => nomatch z)
          refine ⟨fun b o eb => ?_, ⟨_, _, _, rfl⟩, ls, ?_, ?_, nd', ?_, fr⟩
          · rw [upd_ne (ne_of_none eb (fr l (List.mem_of_getElem? e2)))]
            exact s3 _ _ eb
          · rw [ea, e4, e5, upd_ne nfl]
            exact hf2
          · rw [ea, e4, List.length_set]
            exact ll
          · rw [ea, e4, ← nV_one]
            exact lots_upd (p' := (k, l0 ++ [i])) pl2 nd' e2
      · rcases kv_look k i ll with ⟨h1, h2⟩ | ⟨j, l, l0, e1, e2, e3, e4, e5⟩
        · have nfc : f ≠ c := ne_of_none hf1 nc
          have hc2 : upd H2 f (.dT (putK (kvOf (grpN ks i) ls) (kI k) (V.ref c))) c = some (.lst []) := by
            rw [upd_ne nfc.symm]
            exact gc
          refine ⟨.inl ⟨rfl, _, SqL.of hc2⟩, _, rfl, c, _, _, rfl, rfl, hc2, by decide, ?_⟩
          have ncl : c ∉ ls := fun m => by
            obtain ⟨jj, ej⟩ := List.getElem?_of_mem m
            obtain ⟨p0, _, hl0⟩ := paired_get pl ej
            have hl0 : H1 c = some (.lst (nV p0.2)) := sT _ _ hl0
            rw [nc] at hl0
            cases hl0
          have nfl : f ∉ ls := fun m => by
            obtain ⟨jj, ej⟩ := List.getElem?_of_mem m
            obtain ⟨p0, _, hl0⟩ := paired_get pl ej
            have hl0 : H' f = some (.lst (nV p0.2)) := hl0
            rw [hf] at hl0
            cases hl0
          refine ⟨fun b o eb => ?_, ⟨_, _, _, rfl⟩, ls ++ [c], ?_, ?_, ?_, ?_, fun x hx => (List.mem_append.mp hx).elim (fr x) fun z => by rw [List.mem_singleton.mp z]; exact s2.free nc⟩
          · rw [upd_ne (ne_of_none (s2 _ _ eb) nc), upd_ne (ne_of_none eb nf)]
            exact s3 _ _ eb
          · rw [upd_ne nfc, upd_same, putK_new _ h1, ea, h2, kv_snoc _ _ ll]
          · rw [ea, h2, List.length_append, List.length_append, ll]
            rfl
          · rw [List.nodup_append]
            exact ⟨nd', List.nodup_cons.mpr ⟨List.not_mem_nil, List.nodup_nil⟩, fun x hx y hy z => ncl (by rw [← List.mem_singleton.mp hy, ← z]; exact hx)⟩
          · rw [ea, h2]
            exact paired_snoc (lots_keep (lots_keep pl2 nfl) ncl) upd_same
        · rw [hv] at e3
          cases e3
    · obtain ⟨s1, ⟨x2, x3, x4, rfl⟩, ls, hf, ll, nd', pl, fr⟩ := p
      rw [List.length_map, lt] at ll pl hf
      generalize eg : grpN ks ks.length = g at ll pl hf q
      have lg : g.length ≤ 100 := by
        rw [← eg]
        exact Nat.le_trans (grp_le ks _) l1
      have lk := kv_len ll
      refine ⟨f, _, hf, True.intro, fun od => ?_⟩
      try dsimp only [tNext, tRet, tCB, tCons, tNil, tNot, tB, tOr, tSeq, tIfS, sFld]
      refine ⟨_, rfl, f, od, _, rfl, upd_same, fun D hD => ?_⟩
      have nDf : D ≠ f := fun z => by
        rw [z, upd_same] at hD
        cases hD
      have nDH : H' D = none := by
        rw [upd_ne nDf] at hD
        exact hD
      refine lc_it walk_valsT (fun i H2 => H2 f = some (.frz od (.dT (kvOf g ls))) ∧ Kp f H' H2 ∧ ∃ ts2 : List Addr, H2 D = some (.lst (ts2.map V.ref)) ∧ Paired (RowT H2) ts2 ((g.take i).map fun p => lotI p.2)) ⟨?_, ?_, [], upd_same, .nil⟩ (fun i H2 _ p => p.1) (fun i x H2 H3 hi p y => ?_) (fun H2 p => ?_)
      · rw [upd_ne nDf.symm, upd_same]
      · exact fun b o nb e => by rw [upd_ne (ne_of_none e nDH), upd_ne nb]; exact e
      · obtain ⟨rfl, kx, hkx⟩ := y
        obtain ⟨l, el, rfl⟩ := kv_get2 ll hkx
        obtain ⟨p0, ep, hl0⟩ := paired_get pl el
        obtain ⟨hf2, kp, ts2, hd2, pr2⟩ := p
        have hl0 : H' l = some (.lst (nV p0.2)) := hl0
        have hl2 : H3 l = some (.lst (nV p0.2)) := kp _ _ (L2.ne_of hl0 hf (fun z => nomatch z)) hl0
        have lts : ts2.length ≤ i := by
          rw [Paired.length pr2, List.length_map, List.length_take]
          exact Nat.min_le_left _ _
        rw [lk] at hi
        refine ⟨rfl, yes_of ?_⟩
        refine ⟨_, rfl, l, _, rfl, .inl ⟨SqL.of hl2, fun t nt => ?_⟩⟩
        have ntD : t ≠ D := fun z => by
          rw [z, hd2] at nt
          cases nt
        have ntf : t ≠ f := fun z => by
          rw [z, hf2] at nt
          cases nt
        refine ⟨_, by rw [upd_ne ntD.symm]; exact hd2, by rw [List.length_map]; exact small1000 (by omega), ?_, fun b o nb e => ?_, ts2 ++ [t], ?_, ?_⟩
        · rw [upd_ne nDf.symm, upd_ne ntf.symm]
          exact hf2
        · have e3 := kp b o nb e
          rw [upd_ne (fun z => by rw [z, nDH] at e; cases e), upd_ne (ne_of_none e3 nt)]
          exact e3
        · rw [upd_same, List.map_append]
          rfl
        · rw [take_more ep, List.map_append]
          have keep : ∀ {r : Addr} {xs : List V}, (upd H3 t (.tup (nV p0.2))) r = some (.tup xs) → upd (upd H3 t (.tup (nV p0.2))) D (.lst (ts2.map V.ref ++ [V.ref t])) r = some (.tup xs) := fun {r xs} e => by
            rw [upd_ne (fun z => by rw [z, upd_ne ntD.symm, hd2] at e; cases e)]
            exact e
          refine paired_snoc (paired_mono pr2 fun r xs z => ?_) (keep upd_same)
          have z : H3 r = some (.tup (xs.map V.int)) := z
          exact keep (by rw [upd_ne (ne_of_none z nt)]; exact z)
      · obtain ⟨hf2, kp, ts2, hd2, pr2⟩ := p
        rw [lk, List.take_length] at pr2
        refine ⟨D, _, rfl, .inl ⟨SqL.of hd2, fun t nt => ?_⟩⟩
        have ntf : t ≠ f := fun z => by
          rw [z, hf2] at nt
          cases nt
        refine ⟨by rw [upd_ne ntf.symm]; exact hf2, q _ t (fun b o e => ?_) ⟨ts2, ?_, paired_mono pr2 fun r xs z => ?_⟩⟩
        · have e2 := s1 _ _ e
          by_cases nb : b = f
          · rw [nb, nf] at e
            cases e
          · have e3 := kp b o nb e2
            rw [upd_ne nb, upd_ne (ne_of_none e3 nt)]
            exact e3
        · rw [upd_ne ntf, upd_same]
        · have z : H2 r = some (.tup (xs.map V.int)) := z
          show upd (upd H2 t _) f _ r = _
          rw [upd_ne (fun y => by rw [y, hf2] at z; cases z), upd_ne (ne_of_none z nt)]
          exact z
end
end K19

namespace K19
open PySem PySem.Spec PyProof.Rows L2
theorem either_len (r : List Int) : (either r).length = r.length := by
  rcases either_or r with e | e <;> rw [e]
  unfold neg
  rw [List.length_map]
/-- the lots of rows that are kin -/
def kinLots (ss : List (List Int)) : List (List Int) := (grpN (ss.map either) (ss.map either).length).map fun p => lotI p.2
section
variable {P : Program} {w : World} {K : PySem.W.Frag} {mg : Str → Option Value} {base : Heap} {C : Addr}
/-! ### Tray.kin_rows -/
def spKR (C : Addr) : Sp := fun vs H Q _ => ∃ (a : Addr) (rs : List (List Int)), vs = [.ref a] ∧ TrF H C a rs ∧ OkT rs ∧ ∀ H' b, Same H H' → TRw H' b (kinLots (rs.map stp)) → Q (.ref b) H'
abbrev sKR : Stmt := inClass (top 38) 8
abbrev nKR : List Str := ["self", "row"]
theorem scKR : FnScope nKR ["self"] (defScope sKR) := ⟨rfl, rfl, rfl, by decide +kernel, rfl, by decide +kernel, by decide +kernel⟩
theorem ok_kr {f : Addr} {fd : FuncData} (F : Fun K "kin_rows" "Tray.kin_rows" sKR f fd) (T : TrT K C) (C1 : Callee P w K mg base CX0 2 "grouped" ["keys"] spGr) (C2 : Callee P w K mg base CX0 6 "_either_way" ["row"] spEW) : FnOk P w K mg base CX0 7 f fd ["self"] (spKR C) := by
  obtain ⟨f1, fd1, m1, k1, b1, G1⟩ := C1
  obtain ⟨f2, fd2, m2, k2, b2, G2⟩ := C2
  have cl := T.pc.cls
  have nd := scKR.nd
  refine F.ok scKR (fun vs H Q E h => ?_) (fun cdv A outer s H vs Q E hr h => ?_)
  · obtain ⟨a, rs, rfl, _⟩ := h
    rfl
  · obtain ⟨a, rs, rfl, tf, ok, q⟩ := h
    obtain ⟨dx, t, u, ha, _, ⟨us, hu, pu⟩⟩ := id tf
    have lu : us.length = rs.length := by rw [Paired.length pu, List.length_map]
    have l8 := ok.l8
    refine ⟨_, pss_one (ps_ret (pe_call G1 (hr.mono (by decide)) rfl m1 k1 b1 .nil pass0 (pa_cons ((pe_lc (own := [("row", 1)]) (g := gName 1) (tt := tYes) rfl nd (pi_sq K (pe_fld (pv 0) rfl)) (blkOk_by (N := nKR) (sc := defScope sKR) (by decide +kernel)) (fun _ _ _ _ _ => (pg_name (i := 1) nd rfl (Or.inl rfl))) (fun _ _ _ _ _ => pts_nil) (fun _ _ _ _ _ => (pe_call G2 (hr.mono (by decide)) rfl m2 k2 b2 .nil pass0 (pa_cons (pv 1) pa_nil))))) pa_nil))), ?_⟩
    dsimp only [tRet, tCall, tCons, tNil]
    refine lcg (a := u) (xs := us.map V.ref) (Good := isRowT) (bs := (rs.map stp).map either) (fun Q' q' => ⟨_, rfl, a, C, dx, _, .ref u, rfl, ha, cl, T.n3, rfl, q'⟩) (.inr hu) (by rw [List.length_map, List.length_map, List.length_map, lu]) (by rw [List.length_map]; omega) (fun D i x r' H' hD hx hr' s2 ⟨acc, hacc⟩ T' N t' => ?_) (fun D gs H2 hD s2 hd nm pg => ?_)
    · obtain ⟨g, eg, rfl⟩ := get_map hx
      obtain ⟨st, es, hg⟩ := paired_get pu eg
      obtain ⟨st2, es2, rfl⟩ := get_map hr'
      obtain rfl : st = st2 := Option.some.inj (es.symm.trans es2)
      obtain ⟨r, er, rfl⟩ := get_map es
      have okr := ok.ok r (List.mem_of_getElem? er)
      have hg' : H' g = some (.tup ((stp r).map V.int)) := s2 _ _ hg
      refine ⟨rfl, yes_of ?_⟩
      refine ⟨_, rfl, g, stp r, rfl, hg', by rw [stp_len]; have := okr.2.1; omega, fun H3 b s3 hb => ?_⟩
      exact t' b _ _ (fun z => by rw [z, s3 _ _ hacc] at hb; cases hb) s3 hb rfl
    · exact ⟨D, gs, (rs.map stp).map either, rfl, hd, paired_mono pg (fun _ _ ⟨o, h, gd⟩ => by unfold isRowT at gd; subst gd; exact h), by rw [List.length_map, List.length_map]; omega, fun H3 b s3 tt => q H3 b (s2.trans s3) tt⟩
end
end K19

namespace K19
open PySem PySem.Spec PyProof.Rows L2
/-! ### numbers written -/
abbrev Cd := List Nat
def dgs (a : Cd) : Cd := if a.head? = some 45 then a.drop 1 else a
def isDg (c : Nat) : Bool := decide (48 ≤ c) && decide (c ≤ 57)
def wrt (a : Cd) : Bool := decide (1 ≤ (dgs a).length) && decide ((dgs a).length ≤ 60) && (dgs a).all isDg && (decide (a = [48]) || decide ((dgs a).head? ≠ some 48))
def vlu (a : Cd) : Int := if a.head? = some 45 then -((NumText.digitsVal (dgs a) : Nat) : Int) else ((NumText.digitsVal (dgs a) : Nat) : Int)
def num (a : Cd) : Option Int := if (wrt a && decide (-G9 ≤ vlu a) && decide (vlu a ≤ G9)) = true then some (vlu a) else none
/-- a number's signs -/
def shL (n : Int) : Cd := if n < 0 then 45 :: TL.numL n.natAbs else TL.numL n.natAbs
theorem all_dg {a : Cd} (h : a.all isDg = true) : NumText.AllDigits a := fun c hc => by
  have := List.all_eq_true.mp h c hc
  unfold isDg at this
  rw [Bool.and_eq_true, decide_eq_true_iff, decide_eq_true_iff] at this
  exact this
theorem dg_all {a : Cd} (h : NumText.AllDigits a) : a.all isDg = true := List.all_eq_true.mpr fun c hc => by
  unfold isDg
  rw [decide_eq_true (h c hc).1, decide_eq_true (h c hc).2]
  rfl
structure Wr (a : Cd) : Prop where
  l1 : 1 ≤ (dgs a).length
  l2 : (dgs a).length ≤ 60
  d : NumText.AllDigits (dgs a)
  z : a = [48] ∨ (dgs a).head? ≠ some 48
theorem wr_of {a : Cd} (h : wrt a = true) : Wr a := by
  unfold wrt at h
  simp only [Bool.and_eq_true, Bool.or_eq_true, decide_eq_true_eq] at h
  exact ⟨h.1.1.1, h.1.1.2, all_dg h.1.2, h.2⟩
theorem of_wr {a : Cd} (h : Wr a) : wrt a = true := by
  unfold wrt
  rw [decide_eq_true h.l1, decide_eq_true h.l2, dg_all h.d, Bool.true_and, Bool.true_and, Bool.true_and, Bool.or_eq_true, decide_eq_true_iff, decide_eq_true_iff]
  exact h.z
theorem dgs_len (a : Cd) : a.length ≤ (dgs a).length + 1 := by
  unfold dgs
  split
  · rw [List.length_drop]
    omega
  · omega
/-- int of it -/
theorem int_wr {a : Cd} (h : Wr a) : PySem.intText? (SX.S a) = some (vlu a) ∧ (SX.S a).length ≤ 640 := by
  have le := dgs_len a
  have l2 := h.l2
  refine ⟨?_, by rw [SX.S_len]; omega⟩
  by_cases e : a.head? = some 45
  · have ev : vlu a = -((NumText.digitsVal (dgs a) : Nat) : Int) := if_pos e
    have ea : a = 45 :: dgs a := by
      unfold dgs
      rw [if_pos e]
      cases a with
      | nil => cases e
      | cons c r =>
        have : c = 45 := Option.some.inj e
        subst this
        rfl
    rw [ev]
    refine PySem.intText_neg (cs := dgs a) ?_ h.d (fun z => ?_) (by rw [SX.S_len]; omega)
    · show a = _
      exact ea
    · have := h.l1
      rw [z] at this
      exact absurd this (by decide)
  · have ev : vlu a = ((NumText.digitsVal (dgs a) : Nat) : Int) := if_neg e
    have ea : dgs a = a := if_neg e
    rw [ev]
    have := PySem.intText_digits (x := SX.S a) (by show NumText.AllDigits a; rw [← ea]; exact h.d) (by
      show a ≠ []
      intro z
      have := h.l1
      rw [ea, z] at this
      exact absurd this (by decide)) (by rw [SX.S_len]; omega)
    rw [this, ea]
/-! ### written so, and so alone -/
theorem val_snoc (e : Cd) (c : Nat) : NumText.digitsVal (e ++ [c]) = NumText.digitsVal e * 10 + (c - 48) := by
  unfold NumText.digitsVal
  rw [List.foldl_append]
  rfl
theorem snoc_of {a : Cd} (h : a ≠ []) : ∃ e c, a = e ++ [c] := ⟨a.dropLast, a.getLast h, (List.dropLast_concat_getLast h).symm⟩
theorem val_pos : ∀ (n : Nat) {a : Cd}, a.length ≤ n → NumText.AllDigits a → a ≠ [] → a.head? ≠ some 48 → 1 ≤ NumText.digitsVal a := by
  intro n
  induction n with
  | zero =>
    intro a l _ hn _
    exact absurd (List.length_eq_zero_iff.mp (Nat.le_zero.mp l)) hn
  | succ n ih =>
    intro a l d hn z
    obtain ⟨e, c, rfl⟩ := snoc_of hn
    rw [val_snoc]
    by_cases he : e = []
    · subst he
      have hc := d c (by simp)
      have : c ≠ 48 := fun k => z (by rw [k]; rfl)
      omega
    · have := ih (a := e) (by rw [List.length_append] at l; show e.length ≤ n; have : e.length + 1 ≤ n + 1 := l; omega) (fun x hx => d x (List.mem_append_left _ hx)) he (fun k => z (by rw [List.head?_append, k]; rfl))
      omega
theorem canon : ∀ (n : Nat) {a : Cd}, a.length ≤ n → NumText.AllDigits a → a ≠ [] → a.head? ≠ some 48 → TL.numL (NumText.digitsVal a) = a := by
  intro n
  induction n with
  | zero =>
    intro a l _ hn _
    exact absurd (List.length_eq_zero_iff.mp (Nat.le_zero.mp l)) hn
  | succ n ih =>
    intro a l d hn z
    obtain ⟨e, c, rfl⟩ := snoc_of hn
    have hc := d c (by simp)
    by_cases he : e = []
    · subst he
      have ev : NumText.digitsVal ([] ++ [c]) = c - 48 := by
        rw [val_snoc]
        show 0 * 10 + (c - 48) = c - 48
        omega
      rw [ev, TL.numL_lt (by omega)]
      show [48 + (c - 48)] = [c]
      rw [show 48 + (c - 48) = c by omega]
    · have le : e.length ≤ n := by
        rw [List.length_append] at l
        have : e.length + 1 ≤ n + 1 := l
        omega
      have de : NumText.AllDigits e := fun x hx => d x (List.mem_append_left _ hx)
      have ze : e.head? ≠ some 48 := fun k => z (by rw [List.head?_append, k]; rfl)
      have p := val_pos n le de he ze
      have i := ih le de he ze
      have ev : NumText.digitsVal (e ++ [c]) = NumText.digitsVal e * 10 + (c - 48) := val_snoc e c
      rw [ev, TL.numL_step (by omega), show (NumText.digitsVal e * 10 + (c - 48)) / 10 = NumText.digitsVal e by omega, show (NumText.digitsVal e * 10 + (c - 48)) % 10 = c - 48 by omega, i, show 48 + (c - 48) = c by omega]
theorem numL_head {n : Nat} (h : n ≠ 0) : (TL.numL n).head? ≠ some 48 := by
  have : ∀ k n : Nat, n ≤ k → n ≠ 0 → (TL.numL n).head? ≠ some 48 := by
    intro k
    induction k with
    | zero => exact fun n l z => absurd (Nat.le_zero.mp l) z
    | succ k ih =>
      intro n l z
      by_cases h : n < 10
      · rw [TL.numL_lt h]
        intro e
        have : 48 + n = 48 := Option.some.inj e
        omega
      · have s := TL.numL_step (show 10 ≤ n by omega)
        have i := ih (n / 10) (by omega) (by omega)
        rw [s, List.head?_append]
        have ne := TL.numL_ne (n / 10)
        cases e : TL.numL (n / 10) with
        | nil => exact absurd e ne
        | cons c r =>
          rw [e] at i
          exact i
  exact this n n (Nat.le_refl n) h
theorem dgs_sh (n : Int) : dgs (shL n) = TL.numL n.natAbs := by
  unfold dgs shL
  split
  · exact if_pos rfl
  · refine if_neg ?_
    intro e
    cases h : TL.numL n.natAbs with
    | nil => rw [h] at e; cases e
    | cons c r =>
      rw [h] at e
      have ec : c = 45 := Option.some.inj e
      have := TL.numL_digits n.natAbs c (by rw [h]; exact List.mem_cons_self)
      omega
theorem head_sh (n : Int) : (shL n).head? = some 45 ↔ n < 0 := by
  unfold shL
  split
  · rename_i h
    exact ⟨fun _ => h, fun _ => rfl⟩
  · rename_i h
    refine ⟨fun e => ?_, fun z => absurd z h⟩
    cases k : TL.numL n.natAbs with
    | nil => rw [k] at e; cases e
    | cons c r =>
      rw [k] at e
      have ec : c = 45 := Option.some.inj e
      have := TL.numL_digits n.natAbs c (by rw [k]; exact List.mem_cons_self)
      omega
theorem vlu_sh (n : Int) : vlu (shL n) = n := by
  unfold vlu
  rw [dgs_sh, TL.numL_val]
  by_cases h : n < 0
  · rw [if_pos ((head_sh n).mpr h)]
    omega
  · rw [if_neg (fun e => h ((head_sh n).mp e))]
    omega
theorem num_sh {n : Int} (h1 : -G9 ≤ n) (h2 : n ≤ G9) : num (shL n) = some n := by
  have G : G9 = 1000000000 := rfl
  have w : Wr (shL n) := by
    refine ⟨?_, ?_, ?_, ?_⟩
    · rw [dgs_sh]
      exact Nat.succ_le_of_lt (List.length_pos_iff.mpr (TL.numL_ne _))
    · rw [dgs_sh]
      exact Nat.le_trans (TL.numL_len (k := 10) (by decide) (by omega)) (by decide)
    · rw [dgs_sh]
      exact TL.numL_digits _
    · by_cases z : n = 0
      · subst z
        exact .inl (by decide +kernel)
      · refine .inr ?_
        rw [dgs_sh]
        exact numL_head (by omega)
  unfold num
  rw [of_wr w, vlu_sh, decide_eq_true h1, decide_eq_true h2]
  rfl
theorem sh_num {a : Cd} {n : Int} (h : num a = some n) : a = shL n ∧ -G9 ≤ n ∧ n ≤ G9 ∧ Wr a ∧ vlu a = n := by
  unfold num at h
  split at h
  · rename_i k
    have e : vlu a = n := Option.some.inj h
    simp only [Bool.and_eq_true, decide_eq_true_eq] at k
    obtain ⟨⟨k1, k2⟩, k3⟩ := k
    have w := wr_of k1
    rw [e] at k2 k3
    refine ⟨?_, k2, k3, w, e⟩
    have ne : dgs a ≠ [] := fun z => by
      have := w.l1
      rw [z] at this
      exact absurd this (by decide)
    by_cases hd : a.head? = some 45
    · have ea : a = 45 :: dgs a := by
        unfold dgs
        rw [if_pos hd]
        cases a with
        | nil => cases hd
        | cons c r =>
          have : c = 45 := Option.some.inj hd
          subst this
          rfl
      have z : (dgs a).head? ≠ some 48 := by
        rcases w.z with z | z
        · rw [z] at hd
          cases hd
        · exact z
      have p := val_pos _ (Nat.le_refl _) w.d ne z
      have c := canon _ (Nat.le_refl _) w.d ne z
      have ev : vlu a = -((NumText.digitsVal (dgs a) : Nat) : Int) := if_pos hd
      rw [ev] at e
      unfold shL
      rw [if_pos (by omega), show n.natAbs = NumText.digitsVal (dgs a) by omega, c]
      exact ea
    · have ea : dgs a = a := if_neg hd
      have ev : vlu a = ((NumText.digitsVal (dgs a) : Nat) : Int) := if_neg hd
      rw [ev] at e
      unfold shL
      rw [if_neg (by omega), show n.natAbs = NumText.digitsVal (dgs a) by omega]
      rcases w.z with z | z
      · rw [z]
        decide +kernel
      · rw [canon _ (Nat.le_refl _) w.d ne z, ea]
  · cases h
theorem shN_S (n : Int) : shN n = SX.S (shL n) := by
  unfold shN shL
  by_cases h : n < 0
  · rw [if_pos h]
    obtain ⟨m, rfl⟩ : ∃ m : Nat, n = Int.negSucc m := by
      cases n with
      | ofNat m => exact absurd h (by simp)
      | negSucc m => exact ⟨m, rfl⟩
    have e : Str.ofString (toString (Int.negSucc m)) = Str.ofString ("-" ++ toString ((m + 1 : Nat) : Int)) := rfl
    rw [e]
    refine TL.ext_tl ?_
    rw [TL.tl_ofString, String.toList_append, List.map_append, ← TL.tl_ofString (toString ((m + 1 : Nat) : Int)), TL.tl_num]
    rfl
  · rw [if_neg h]
    obtain ⟨m, rfl⟩ := Int.eq_ofNat_of_zero_le (show 0 ≤ n by omega)
    exact SX.num_S m
end K19

namespace K19
open PySem PySem.Spec PyProof.Rows L2
abbrev Its := List Cd
abbrev slC : Cd := [47]
def nAt (its : Its) (i : Nat) : Option Int := its[i]?.bind num
def fin (its ends : Its) (i : Nat) : Bool := decide (i = its.length) || (match its[i]? with
  | some a => decide (a ∈ ends)
  | none => false)
/-! ### texts of items -/
theorem pre_one (c : Nat) (r : Cd) : TL.pre [32] (c :: r) = decide (c = 32) := by
  show ([c] == [32]) = _
  by_cases h : c = 32
  · subst h
    rfl
  · rw [decide_eq_false h]
    exact beq_eq_false_iff_ne.mpr fun z => h (List.cons.inj z).1
theorem spl_ne : ∀ (l acc : Cd), TL.spl [32] 0 acc l ≠ []
  | [], acc => by rw [TL.spl_nil]; simp
  | c :: r, acc => by
    by_cases h : c = 32
    · rw [TL.spl_hit (by rw [pre_one, decide_eq_true h])]
      simp
    · rw [TL.spl_miss (by rw [pre_one, decide_eq_false h])]
      exact spl_ne r _
theorem joinL_cons (s p : Cd) {r : Its} (h : r ≠ []) : TL.joinL s (p :: r) = p ++ (s ++ TL.joinL s r) := by
  cases r with
  | nil => exact absurd rfl h
  | cons a b => rfl
theorem join_spl : ∀ (l acc : Cd), TL.joinL [32] (TL.spl [32] 0 acc l) = acc ++ l
  | [], acc => by
    rw [TL.spl_nil, List.append_nil]
    rfl
  | c :: r, acc => by
    by_cases h : c = 32
    · rw [TL.spl_hit (by rw [pre_one, decide_eq_true h])]
      show TL.joinL [32] (acc :: TL.spl [32] 0 [] r) = _
      rw [joinL_cons _ _ (spl_ne r []), join_spl r [], h]
      rfl
    · rw [TL.spl_miss (by rw [pre_one, decide_eq_false h]), join_spl r (acc ++ [c]), List.append_assoc]
      rfl
theorem joinL_app (s : Cd) : ∀ {a b : Its}, a ≠ [] → b ≠ [] → TL.joinL s (a ++ b) = TL.joinL s a ++ (s ++ TL.joinL s b)
  | [], _, h, _ => absurd rfl h
  | [p], b, _, hb => joinL_cons s p hb
  | p :: q :: r, b, _, hb => by
    have ih := joinL_app s (a := q :: r) (b := b) (by simp) hb
    show TL.joinL s (p :: ((q :: r) ++ b)) = _
    rw [joinL_cons s p (by simp), ih, joinL_cons s p (by simp)]
    simp
/-- no blank stands in a written number -/
theorem sh_free (n : Int) : (32 : Nat) ∉ shL n := by
  unfold shL
  have f := TL.numL_free (n := n.natAbs) (s := 32) (.inl (by decide))
  split
  · intro h
    rcases List.mem_cons.mp h with z | z
    · cases z
    · exact f z
  · exact f
/-- the text of items without blanks is cut into these -/
theorem split_items {its : Its} (h : its ≠ []) (f : ∀ a ∈ its, (32 : Nat) ∉ a) : TL.spl [32] 0 [] (TL.joinL [32] its) = its := SX.spl_join h f
end K19

namespace K19
open PySem PySem.Spec PyProof.Rows L2
/-! ### texts of code lists -/
theorem str_S {s : String} {a : Cd} (h : (PySem.Str.ofString s).cps.toList = a) : PySem.Str.ofString s = SX.S a := TL.ext_tl h
theorem dec_S {a b : Cd} : decide (V.str (SX.S a) = V.str (SX.S b)) = decide (a = b) := by
  by_cases h : a = b
  · rw [h, decide_eq_true rfl, decide_eq_true rfl]
  · rw [decide_eq_false h, decide_eq_false fun z => h (SX.S_inj (V.str.inj z))]
theorem dg_uni : ∀ c, c < 128 → Unicode.isDigit c = isDg c := by decide +kernel
theorem dg_lt {c : Nat} (h : isDg c = true) : c < 128 := by
  unfold isDg at h
  rw [Bool.and_eq_true, decide_eq_true_iff, decide_eq_true_iff] at h
  omega
theorem asc_S (a : Cd) : Txt.isascii (SX.S a) = a.all fun c => decide (c < 128) := by
  unfold Txt.isascii
  rw [← Array.all_toList]
theorem dig_S {a : Cd} (h : 1 ≤ a.length) : Txt.isdigit (SX.S a) = a.all Unicode.isDigit := by
  unfold Txt.isdigit
  rw [← Array.all_toList, SX.S_len, decide_eq_true (show a.length > 0 from h), Bool.true_and]
theorem all_two : ∀ a : Cd, ((a.all fun c => decide (c < 128)) && a.all Unicode.isDigit) = a.all isDg
  | [] => rfl
  | c :: r => by
    have ih := all_two r
    rw [List.all_cons, List.all_cons, List.all_cons, ← ih]
    by_cases h : c < 128
    · rw [decide_eq_true h, dg_uni c h]
      cases isDg c <;> simp
    · rw [decide_eq_false h]
      have : isDg c = false := by
        cases e : isDg c with
        | false => rfl
        | true => exact absurd (dg_lt e) h
      rw [this]
      rfl
theorem sw_neg (a : Cd) : Txt.startswith (SX.S a) (SX.S [45]) = decide (a.head? = some 45) := by
  unfold Txt.startswith
  rw [PySem.StrLaws.subAt_eq, SX.S_len, SX.S_len]
  cases a with
  | nil => rfl
  | cons c r =>
    rw [decide_eq_true (show 0 + ([45] : Cd).length ≤ (c :: r).length by simp), Bool.true_and]
    show ([c] == [45]) = decide (some c = some 45)
    by_cases h : c = 45
    · subst h
      rfl
    · rw [decide_eq_false fun z => h (Option.some.inj z)]
      exact beq_eq_false_iff_ne.mpr fun z => h (List.cons.inj z).1
theorem cut1_S {a : Cd} : Txt.slice (SX.S a) (some 1) none = SX.S (a.drop 1) := SX.slice_from (by decide)
theorem tIf_key {tA : TT} {ta tb : TE} {σ : L2.St} {H : Hp} {Q : VK} (G : V → Hp → Prop) (h : ∀ Q : VK, (∀ v H', G v H' → Q v H') → tIf tA ta tb σ H Q) (k : ∀ v H', G v H' → Q v H') : tIf tA ta tb σ H Q := h Q k
section
variable {P : Program} {w : World} {K : PySem.W.Frag} {mg : Str → Option Value} {base : Heap} {CX : Addr}
/-! ### _is_written -/
def spWr : Sp := fun vs H Q _ => ∃ a : Cd, vs = [.str (SX.S a)] ∧ a.length ≤ sizeLine ∧ Q (.bl (wrt a)) H
abbrev sWr : Stmt := top 29
abbrev nWr : List Str := ["item", "digits"]
theorem scWr : FnScope nWr ["item"] (defScope sWr) := ⟨rfl, rfl, rfl, by decide +kernel, rfl, by decide +kernel, by decide +kernel⟩
theorem ok_wr {f : Addr} {fd : FuncData} (F : Fun K "_is_written" "_is_written" sWr f fd) (B : Bn mg) (M60 : ∃ t, mg "MOST_DIGITS" = some (.int 60 t)) : FnOk P w K mg base CX0 1 f fd ["item"] spWr := by
  obtain ⟨t60, m60⟩ := M60
  refine F.ok scWr (fun vs H Q E h => ?_) (fun cdv A outer s H vs Q E hr h => ?_)
  · obtain ⟨a, rfl, _⟩ := h
    rfl
  · obtain ⟨a, rfl, hz, q⟩ := h
    have nd := scWr.nd
    refine ⟨_, (pss_cons ((ps_set (i := 1) nd rfl (Or.inl rfl) (pe_ifExp (pt_val (pe_m1 PySem.F.slot_str_startswith PySem.F.type_str_startswith mt_startswith (pv 0) pe_str)) (pe_slice C8.sl_txt (pv 0) (po_some pe_int) po_none) (pv 0)))) (pss_cons (ps_if (PW.pt (pw_or (pt_not (pt_chain op_le op_le pe_int (pe_callB call_len_str (by rfl) B.len PySem.boot_len (pa_cons (pv 1) pa_nil)) (pe_glob (v := .int 60) rfl m60 ⟨_, rfl⟩))) (pw_or1 (pt_not (PW.pt (pw_and (pt_val (pe_m0 PySem.F.slot_str_isascii PySem.F.type_str_isascii mt_isascii (pv 1))) (pw_and1 (pt_val (pe_m0 PySem.F.slot_str_isdigit PySem.F.type_str_isdigit mt_isdigit (pv 1))))))))))
        (pss_one (ps_ret pe_bl)) pss_nil) (pss_one (ps_ret (pe_or (pe_cmpR op_eq (pv 0) pe_str (nomark _)) (pe_one (pe_cmpR op_ne (pe_ix ix_seq (pv 1) (pe_int) (fun _ _ => rfl)) pe_str (nomark _)))))))), ?_⟩
    have e45 : PySem.Str.ofString "-" = SX.S [45] := str_S rfl
    have e48 : PySem.Str.ofString "0" = SX.S [48] := str_S rfl
    refine ⟨_, rfl, ⟨_, rfl⟩, _, _, rfl, rfl, _, rfl, ?_⟩
    rw [e45, sw_neg]
    dsimp only [gName, tSeq, tAsg]
    have e1 : (PySem.Str.ofString "-") = SX.S [45] := e45
    refine tIf_key (tA := fun σ H Q => Q (decide (a.head? = some 45)) H) (ta := tSl C8.rSlX (tVar 0) (tPart (tC (V.int 1))) tNoPart) (tb := tVar 0) (σ := L2.start nWr [V.str (SX.S a)]) (H := H) (fun v H' => v = .str (SX.S (dgs a)) ∧ H' = H) (fun Q hQ => ?_) (fun v H' hG => ?_)
    · show if decide (a.head? = some 45) = true then _ else _
      unfold dgs at hQ
      by_cases c : a.head? = some 45
      · rw [decide_eq_true c]
        rw [if_pos c] at hQ
        exact iteT ⟨_, rfl, 1, rfl, _, rfl, by rw [SX.S_len]; exact hz, hQ _ _ ⟨by rw [cut1_S], rfl⟩⟩
      · rw [decide_eq_false c]
        rw [if_neg c] at hQ
        exact iteF ⟨_, rfl, hQ _ _ ⟨rfl, rfl⟩⟩
    · obtain ⟨rfl, rfl⟩ := hG
      have ld : (dgs a).length ≤ a.length := by
        unfold dgs
        split
        · rw [List.length_drop]
          omega
        · exact Nat.le_refl _
      unfold wrt at q
      generalize dgs a = d at ld q ⊢
      have hd : (SX.S d).length ≤ sizeLine := by rw [SX.S_len]; omega
      refine ⟨_, rfl, _, rfl, hd, _, _, rfl, rfl, _, rfl, ?_⟩
      rw [SX.S_len]
      by_cases h1 : 1 ≤ d.length
      · rw [decide_eq_true (show (1 : Int) ≤ (d.length : Nat) by omega)]
        rw [decide_eq_true h1, Bool.true_and] at q
        refine iteT ⟨_, _, rfl, rfl, _, rfl, ?_⟩
        by_cases h2 : d.length ≤ 60
        · rw [decide_eq_true (show ((d.length : Nat) : Int) ≤ 60 by omega)]
          rw [decide_eq_true h2, Bool.true_and] at q
          refine iteF ?_
          refine ⟨_, rfl, ⟨_, rfl⟩, _, rfl, rfl, trivial, _, rfl, ?_⟩
          rw [asc_S]
          have e2 := all_two d
          cases hA : d.all fun c => decide (c < 128) with
          | false =>
            rw [hA, Bool.false_and] at e2
            rw [← e2, Bool.false_and] at q
            exact iteF (iteT q)
          | true =>
            rw [hA, Bool.true_and] at e2
            refine iteT ⟨_, rfl, ⟨_, rfl⟩, _, rfl, rfl, trivial, _, rfl, ?_⟩
            rw [dig_S h1, e2]
            cases hB : d.all isDg with
            | false =>
              rw [hB, Bool.false_and] at q
              exact iteT q
            | true =>
              rw [hB, Bool.true_and] at q
              refine iteF ?_
              refine ⟨_, rfl, rfl, ?_⟩
              rw [e48, dec_S]
              refine ⟨_, rfl, ?_⟩
              by_cases h0 : a = [48]
              · rw [decide_eq_true h0, Bool.true_or] at q
                rw [decide_eq_true h0]
                exact iteT q
              · rw [decide_eq_false h0, Bool.false_or] at q
                rw [decide_eq_false h0]
                refine iteF ?_
                cases d with
                | nil => exact absurd h1 (by decide)
                | cons c r =>
                  refine ⟨_, rfl, .inr (.inr ⟨_, 0, c, rfl, rfl, hd, atI_nat (j := 0) rfl, ?_⟩)⟩
                  have e4 : (!decide ([c] = ([48] : Cd))) = decide ((c :: r).head? ≠ some 48) := by
                    by_cases z : c = 48
                    · rw [z]
                      rfl
                    · rw [decide_eq_false fun w => z (List.cons.inj w).1, show decide ((c :: r).head? ≠ some 48) = true from decide_eq_true fun w => z (Option.some.inj w)]
                      rfl
                  refine ⟨rfl, ?_⟩
                  show Q (.bl (!decide (V.str (SX.S [c]) = V.str (SX.S [48])))) _
                  rw [dec_S, e4]
                  exact q
        · rw [decide_eq_false (show ¬ ((d.length : Nat) : Int) ≤ 60 by omega)]
          rw [decide_eq_false h2, Bool.false_and, Bool.false_and] at q
          exact iteT q
      · rw [decide_eq_false (show ¬ (1 : Int) ≤ (d.length : Nat) by omega)]
        rw [decide_eq_false h1, Bool.false_and, Bool.false_and, Bool.false_and] at q
        exact iteF ⟨_, rfl, iteT q⟩
end
end K19

namespace K19
open PySem PySem.Spec PyProof.Rows L2
/-- what the top has written of BadText -/
structure TxT (K : PySem.W.Frag) (mg : Str → Option Value) (C fI : Addr) : Prop where
  oex : OexC K C
  mgC : mg "BadText" = some (.ref C)
  no1 : PySem.W.findIn K (.ref C) "line" = some none
  no2 : PySem.W.findIn K (.ref C) "item" = some none
  iC : PySem.W.findIn K (.ref C) "__init__" = some (some (.ref fI))
  tI : PySem.W.typeIn K (.ref fI) = some (.type "function")
/-- the fields of a text that cannot stand -/
def bt (i : Nat) : List (Str × V) := [("item", .int (i : Nat)), ("line", .int 0)]
abbrev iV (a : Cd) : V := .str (SX.S a)
/-- items at b -/
structure Itm (H : Hp) (b : Addr) (its : Its) : Prop where
  at_ : H b = some (.lst (its.map iV))
  len : ∀ a ∈ its, a.length ≤ 16000000
  few : its.length ≤ 16000000
theorem Itm.same {H H' : Hp} {b : Addr} {its : Its} (h : Itm H b its) (s : Same H H') : Itm H' b its := ⟨s _ _ h.1, h.2, h.3⟩
theorem spl_le : ∀ (l acc : Cd), (TL.spl [32] 0 acc l).length ≤ l.length + 1 ∧ ∀ x ∈ TL.spl [32] 0 acc l, x.length ≤ acc.length + l.length
  | [], acc => by
    rw [TL.spl_nil]
    exact ⟨Nat.le_refl _, fun x hx => by rw [List.mem_singleton.mp hx]; exact Nat.le_refl _⟩
  | c :: r, acc => by
    by_cases h : c = 32
    · rw [TL.spl_hit (by rw [pre_one, decide_eq_true h])]
      obtain ⟨i1, i2⟩ := spl_le r []
      refine ⟨by simp only [List.length_cons]; exact Nat.succ_le_succ i1, fun x hx => ?_⟩
      rcases List.mem_cons.mp hx with z | z
      · rw [z]
        omega
      · have := i2 x z
        simp only [List.length_cons, List.length_nil] at this ⊢
        omega
    · rw [TL.spl_miss (by rw [pre_one, decide_eq_false h])]
      obtain ⟨i1, i2⟩ := spl_le r (acc ++ [c])
      refine ⟨Nat.le_trans i1 (by simp only [List.length_cons]; omega), fun x hx => ?_⟩
      have := i2 x hx
      simp only [List.length_append, List.length_cons, List.length_nil] at this ⊢
      omega
theorem it_get {its : Its} {i : Nat} {a : Cd} (h : its[i]? = some a) : (its.map iV)[i]? = some (iV a) := by rw [List.getElem?_map, h]; rfl
section
variable {P : Program} {w : World} {K : PySem.W.Frag} {mg : Str → Option Value} {base : Heap} {C fT : Addr}
abbrev sTX : Stmt := inClass (top 9) 0
theorem scTX : FnScope ["self", "line", "item"] ["self", "line", "item"] (defScope sTX) := ⟨rfl, rfl, rfl, by decide +kernel, rfl, by decide +kernel, by decide +kernel⟩
theorem ok_tx {f : Addr} {fd : FuncData} (F : Fun K "__init__" "BadText.__init__" sTX f fd) : FnOk P w K mg base CX0 1 f fd ["self", "line", "item"] (spIn2 K "line" "item") := by
  refine F.ok scTX (fun vs H Q E h => ?_) (fun cdv A outer s H vs Q E hr h => ?_)
  · obtain ⟨a, C, v, u, rfl, _⟩ := h
    rfl
  · obtain ⟨a, C, v, u, rfl, T, no1, no2, ha, q⟩ := h
    refine ⟨_, pss_cons (ps_ost (pv 0) (pv 1)) (pss_one (ps_ost (pv 0) (pv 2))), _, rfl, _, rfl, a, C, rfl, T, no1, .inl ⟨ha, fun dx n ne => ?_⟩⟩
    exact ⟨_, rfl, _, rfl, a, C, rfl, T, no2, .inr ⟨dx, _, upd_same, by rw [upd_ne ne]; exact upd_same, (by show 1 ≤ 900; decide), two_fields q dx n ne⟩⟩
/-! ### items_of -/
def spIof (K : PySem.W.Frag) (C : Addr) : Sp := fun vs H Q E => ∃ v, vs = [v] ∧
  ((∃ t, TyX K H v t ∧ PySem.W.kitOne K t (.type "str") = some false ∧ RzF C (bt 0) H E) ∨
   (∃ a : Cd, v = .str (SX.S a) ∧ a.length ≤ 8000000 ∧ ∀ p H', Same H H' → H p = none → Itm H' p (TL.spl [32] 0 [] a) → Q (.ref p) H'))
abbrev sIof : Stmt := top 28
theorem scIof : FnScope ["text"] ["text"] (defScope sIof) := ⟨rfl, rfl, rfl, by decide +kernel, rfl, by decide +kernel, by decide +kernel⟩
theorem ok_iof {f : Addr} {fd fdT : FuncData} (F : Fun K "items_of" "items_of" sIof f fd) (B : Bn mg) (TT : TxT K mg C fT) (FT : Fun K "__init__" "BadText.__init__" sTX fT fdT) : FnOk P w K mg base (L2.CX P w) 3 f fd ["text"] (spIof K C) := by
  have GT : FnOk P w K mg base CX0 1 fT fdT ["self", "line", "item"] (spIn2 K "line" "item") := ok_tx FT
  have bT : Binds K fdT ["self", "line", "item"] [] := FT.binds (ps := ["self", "line", "item"]) fun _ _ _ _ _ _ us hl => match us, hl with | [_, _, _], _ => rfl
  have nd := scIof.nd
  refine F.okX scIof (fun vs H Q E h => ?_) (fun cdv A outer s H vs Q E hr h => ?_)
  · obtain ⟨v, rfl, _⟩ := h
    rfl
  · obtain ⟨v, rfl, h⟩ := h
    refine ⟨_, (pss_cons (ps_if (pt_not (pt_val (pe_callB (r := rIsi K) call_isi (by rfl) B.isinstance boot_isinstance (pa_cons (pv 0) (pa_cons (pe_bltn (v := .ty "str") (by rfl) B.str (by decide +kernel) rfl) pa_nil))))) (pss_one (ps_raise rfl (takes_of rfl rfl rfl rfl) (pmk_oex TT.oex TT.iC TT.tI GT (hr.mono (by decide)) bT .nil pass0 rfl TT.mgC (pa_cons (pe_int) (pa_cons (pe_int) pa_nil))))) pss_nil) (pss_one (ps_ret (pe_split (pv 0) pe_str)))), ?_⟩
    have e32 : PySem.Str.ofString " " = SX.S [32] := str_S rfl
    rcases h with ⟨t, ty, kk, r⟩ | ⟨a, rfl, ha, q⟩
    · refine ⟨_, rfl, _, _, _, _, false, rfl, .ty _, ty, kk, _, rfl, ?_⟩
      refine iteT ⟨by show 2 ≤ 1000; decide, fun e na => ?_⟩
      refine ⟨e, C, _, _, rfl, TT.oex, TT.no1, TT.no2, upd_same, fun H4 k ⟨d, nd, ne, h1, h2⟩ => ⟨rfl, d, _, h1, h2, ?_, rzf_of (r) na k nd ne⟩⟩
      rw [upd_ne ne] at nd
      exact nd
    · refine ⟨_, rfl, _, _, _, _, true, rfl, .ty _, .base (.str _), by first | kernel_rfl | k_is | rfl, _, rfl, iteF ?_⟩
      have hs : Txt.split (SX.S a) (PySem.Str.ofString " ") = (TL.spl [32] 0 [] a).map SX.S := by
        rw [e32]
        exact SX.split_S (by decide) (by decide)
      refine ⟨_, rfl, ⟨_, rfl⟩, _, _, rfl, rfl, rfl, ?_, fun p hp => ?_⟩
      · rw [SX.S_len]
        show a.length + 2 ≤ 2 ^ 24
        omega
      · rw [hs, List.map_map]
        refine q p _ (same_new hp) hp ⟨upd_same, fun x hx => ?_, ?_⟩
        · have := (spl_le a []).2 x hx
          have e0 : ([] : Cd).length = 0 := rfl
          omega
        · have := (spl_le a []).1
          omega
/-! ### number_at -/
def spNa (C : Addr) : Sp := fun vs H Q E => ∃ (b : Addr) (its : Its) (i : Nat), vs = [.ref b, .int i, .int (-G9), .int G9] ∧ Itm H b its ∧ i ≤ 100000000 ∧ (∀ x, nAt its i = some x → Q (.int x) H) ∧ (nAt its i = none → RzF C (bt i) H E)
abbrev sNa : Stmt := top 30
abbrev nNa : List Str := ["items", "at", "least", "most", "number"]
theorem scNa : FnScope nNa ["items", "at", "least", "most"] (defScope sNa) := ⟨rfl, rfl, rfl, by decide +kernel, rfl, by decide +kernel, by decide +kernel⟩
theorem ok_na {f : Addr} {fd fdT : FuncData} (F : Fun K "number_at" "number_at" sNa f fd) (B : Bn mg) (TT : TxT K mg C fT) (FT : Fun K "__init__" "BadText.__init__" sTX fT fdT) (C1 : Callee P w K mg base CX0 1 "_is_written" ["item"] spWr) (C2 : Callee P w K mg base CX0 2 "is_within" ["value", "least", "most"] (spWithin K)) : FnOk P w K mg base (L2.CX P w) 3 f fd ["items", "at", "least", "most"] (spNa C) := by
  have GT : FnOk P w K mg base CX0 1 fT fdT ["self", "line", "item"] (spIn2 K "line" "item") := ok_tx FT
  have bT : Binds K fdT ["self", "line", "item"] [] := FT.binds (ps := ["self", "line", "item"]) fun _ _ _ _ _ _ us hl => match us, hl with | [_, _, _], _ => rfl
  obtain ⟨f1, fd1, m1, k1, b1, G1⟩ := C1
  obtain ⟨f2, fd2, m2, k2, b2, G2⟩ := C2
  have nd := scNa.nd
  refine F.okX scNa (fun vs H Q E h => ?_) (fun cdv A outer s H vs Q E hr h => ?_)
  · obtain ⟨b, its, i, rfl, _⟩ := h
    rfl
  · obtain ⟨b, its, i, rfl, hI, hi, qy, qn⟩ := h
    refine ⟨_, (pss_cons (ps_if (PW.pt (pw_or (pt_cmpR op_ge (pv 1) (pe_callB call_len_seq (by rfl) B.len PySem.boot_len (pa_cons (pv 0) pa_nil)) (nomark _)) (pw_or1 (pt_not (pt_val (pe_call G1 (hr.mono (by decide)) rfl m1 k1 b1 .nil pass0 (pa_cons ((pe_ix ix_list (pv 0) (pv 1) (fun _ _ => rfl))) pa_nil))))))) (pss_one (ps_raise rfl (takes_of rfl rfl rfl rfl) (pmk_oex TT.oex TT.iC TT.tI GT (hr.mono (by decide)) bT .nil pass0 rfl TT.mgC (pa_cons (pe_int) (pa_cons (pv 1) pa_nil))))) pss_nil) (pss_cons ((ps_set (i := 4) nd rfl (Or.inl rfl) (pe_callTy call_int_str (by rfl) B.int boot_int (pa_cons ((pe_ix ix_list (pv 0) (pv 1) (fun _ _ => rfl))) pa_nil)))) (pss_cons (ps_if (pt_not (pt_val (pe_call G2 (hr.mono (by decide)) rfl m2 k2 b2 .nil pass0 (pa_cons (pv 4) (pa_cons (pv 2) (pa_cons (pv 3) pa_nil)))))) (pss_one (ps_raise rfl (takes_of rfl rfl rfl rfl) (pmk_oex TT.oex TT.iC TT.tI GT (hr.mono (by decide)) bT .nil pass0 rfl TT.mgC (pa_cons (pe_int) (pa_cons (pv 1) pa_nil))))) pss_nil) (pss_one (ps_ret (pv 4)))))), ?_⟩
    have hb := hI.at_
    refine ⟨_, rfl, _, rfl, b, _, rfl, .inl (SqL.of hb), _, _, rfl, rfl, _, rfl, ?_⟩
    rw [List.length_map]
    by_cases hlt : i < its.length
    · rw [decide_eq_false (show ¬ (((its.length : Nat) : Int) ≤ (i : Nat)) by omega)]
      obtain ⟨a, ea⟩ : ∃ a, its[i]? = some a := ⟨_, List.getElem?_eq_getElem hlt⟩
      have la := hI.len a (List.mem_of_getElem? ea)
      have en : nAt its i = num a := by
        unfold nAt
        rw [ea]
        rfl
      rw [en] at qy qn
      refine iteF ?_
      refine ⟨_, rfl, _, rfl, b, _, (i : Nat), iV a, rfl, rfl, SqL.of hb, atI_nat (it_get ea), a, rfl, ?_, _, rfl, ?_⟩
      · show a.length ≤ 2 ^ 24
        omega
      cases hw : wrt a with
      | false =>
        have r := qn (by unfold num; rw [hw]; rfl)
        refine iteT ⟨_, rfl, by show 2 ≤ 1000; decide, fun e na => ?_⟩
        refine ⟨e, C, _, _, rfl, TT.oex, TT.no1, TT.no2, upd_same, fun H4 k ⟨d, nd, ne, h1, h2⟩ => ⟨rfl, d, _, h1, h2, ?_, rzf_of (r) na k nd ne⟩⟩
        rw [upd_ne ne] at nd
        exact nd
      | true =>
        obtain ⟨iv, il⟩ := int_wr (wr_of hw)
        refine iteF ?_
        refine ⟨_, rfl, _, rfl, b, _, (i : Nat), iV a, rfl, rfl, SqL.of hb, atI_nat (it_get ea), _, _, rfl, iv, il, ?_⟩
        refine ⟨_, rfl, _, rfl, _, rfl, .int (vlu a), false, -G9, G9, rfl, .int _, _, rfl, ?_⟩
        have ew : within (.int (vlu a)) (-G9) G9 = (decide (-G9 ≤ vlu a) && decide (vlu a ≤ G9)) := rfl
        rw [ew]
        cases hg : (decide (-G9 ≤ vlu a) && decide (vlu a ≤ G9)) with
        | false =>
          have r := qn (by unfold num; rw [hw, Bool.true_and, hg]; rfl)
          refine iteT ⟨_, rfl, by show 2 ≤ 1000; decide, fun e na => ?_⟩
          refine ⟨e, C, _, _, rfl, TT.oex, TT.no1, TT.no2, upd_same, fun H4 k ⟨d, nd, ne, h1, h2⟩ => ⟨rfl, d, _, h1, h2, ?_, rzf_of (r) na k nd ne⟩⟩
          rw [upd_ne ne] at nd
          exact nd
        | true =>
          exact iteF ⟨_, rfl, qy _ (by unfold num; rw [hw, Bool.true_and, hg]; rfl)⟩
    · rw [decide_eq_true (show ((its.length : Nat) : Int) ≤ (i : Nat) by omega)]
      have r := qn (by unfold nAt; rw [List.getElem?_eq_none (by omega)]; rfl)
      refine iteT ⟨_, rfl, by show 2 ≤ 1000; decide, fun e na => ?_⟩
      refine ⟨e, C, _, _, rfl, TT.oex, TT.no1, TT.no2, upd_same, fun H4 k ⟨d, nd, ne, h1, h2⟩ => ⟨rfl, d, _, h1, h2, ?_, rzf_of (r) na k nd ne⟩⟩
      rw [upd_ne ne] at nd
      exact nd
/-! ### _ends_at -/
def spEn : Sp := fun vs H Q _ => ∃ (b e : Addr) (its ends : Its) (i : Nat), vs = [.ref b, .int i, .ref e] ∧ Itm H b its ∧ H e = some (.tup (ends.map iV)) ∧ i ≤ its.length ∧ Q (.bl (fin its ends i)) H
abbrev sEn : Stmt := top 31
theorem scEn : FnScope ["items", "at", "ends"] ["items", "at", "ends"] (defScope sEn) := ⟨rfl, rfl, rfl, by decide +kernel, rfl, by decide +kernel, by decide +kernel⟩
theorem ok_en {f : Addr} {fd : FuncData} (F : Fun K "_ends_at" "_ends_at" sEn f fd) (B : Bn mg) : FnOk P w K mg base CX0 1 f fd ["items", "at", "ends"] spEn := by
  refine F.ok scEn (fun vs H Q E h => ?_) (fun cdv A outer s H vs Q E hr h => ?_)
  · obtain ⟨b, e, its, ends, i, rfl, _⟩ := h
    rfl
  · obtain ⟨b, e, its, ends, i, rfl, hI, he, hi, q⟩ := h
    refine ⟨_, pss_one (ps_ret (pe_or (pe_cmpR op_eq (pv 1) (pe_callB call_len_seq (by rfl) B.len PySem.boot_len (pa_cons (pv 0) pa_nil)) (nomark _)) (pe_one (pe_cmpR op_in_seq (pe_ix ix_list (pv 0) (pv 1) (fun _ _ => rfl)) (pv 2) rfl)))), ?_⟩
    have hb := hI.at_
    refine ⟨_, rfl, _, rfl, b, _, rfl, .inl (SqL.of hb), rfl, _, rfl, ?_⟩
    rw [List.length_map]
    unfold fin at q
    by_cases hlt : i = its.length
    · rw [decide_eq_true (show V.int ((i : Nat) : Int) = V.int ((its.length : Nat) : Int) by rw [hlt])]
      rw [decide_eq_true hlt, Bool.true_or] at q
      exact iteT q
    · rw [decide_eq_false (show ¬ V.int ((i : Nat) : Int) = V.int ((its.length : Nat) : Int) from fun z => hlt (by have := V.int.inj z; omega))]
      rw [decide_eq_false hlt, Bool.false_or] at q
      obtain ⟨a, ea⟩ : ∃ a, its[i]? = some a := ⟨_, List.getElem?_eq_getElem (by omega)⟩
      rw [ea] at q
      refine iteF ⟨_, rfl, _, rfl, b, _, (i : Nat), iV a, rfl, rfl, SqL.of hb, atI_nat (it_get ea), _, rfl, e, _, rfl, .inr (SqT.of he), rfl, ?_, ?_⟩
      · rw [List.all_map]
        exact List.all_eq_true.mpr fun _ _ => rfl
      · show Q (.bl (inV (iV a) (ends.map iV))) H
        have : inV (iV a) (ends.map iV) = decide (a ∈ ends) := by
          unfold inV
          rw [List.any_map]
          clear q he
          induction ends with
          | nil => rfl
          | cons x xs ih =>
            rw [List.any_cons, ih]
            have e5 : ((fun y => eqV y (iV a)) ∘ iV) x = decide (a = x) := by
              show (SX.S x == SX.S a) = _
              rw [SX.S_beq_eq]
              by_cases z : a = x
              · rw [decide_eq_true z, decide_eq_true z.symm]
              · rw [decide_eq_false z, decide_eq_false fun y => z y.symm]
            rw [e5]
            by_cases z : a = x
            · simp [z]
            · simp [z]
        rw [this]
        exact q
end
end K19

namespace K19
open PySem PySem.Spec PyProof.Rows L2
theorem tt_key {t : TT} {σ : L2.St} {H : Hp} {Q : Bool → Hp → Prop} (v : Bool) (h : ∀ Q : Bool → Hp → Prop, Q v H → t σ H Q) (k : Q v H) : t σ H Q := h Q k
/-- a row from there on: refused at an item, or read, and where it ends -/
def rA (its ends : Its) (few most : Nat) : Nat → Nat → List Int → Sum Nat (List Int × Nat)
  | 0, i, _ => .inl i
  | f + 1, i, acc => if (decide (few ≤ acc.length) && fin its ends i) = true then .inr (acc, i) else if acc.length = most then .inl i else
    match nAt its i with
    | none => .inl i
    | some x => rA its ends few most f (i + 1) (acc ++ [x])
def rowA (its ends : Its) (few most i : Nat) : Sum Nat (List Int × Nat) := rA its ends few most (most + 1) i []
section
variable {its ends : Its} {few most f i : Nat} {acc : List Int}
theorem rA_end (h : few ≤ acc.length) (hf : fin its ends i = true) : rA its ends few most (f + 1) i acc = .inr (acc, i) := by
  unfold rA
  rw [decide_eq_true h, hf]
  rfl
theorem rA_full (h : (decide (acc.length < few) || !fin its ends i) = true) (hm : acc.length = most) : rA its ends few most (f + 1) i acc = .inl i := by
  unfold rA
  have e : (decide (few ≤ acc.length) && fin its ends i) = false := by
    rcases Bool.or_eq_true_iff.mp h with z | z
    · rw [decide_eq_false (show ¬ few ≤ acc.length by have := of_decide_eq_true z; omega)]
      rfl
    · cases k : fin its ends i with
      | false => rw [Bool.and_false]
      | true => rw [k] at z; cases z
  rw [e, if_neg Bool.false_ne_true, if_pos hm]
theorem rA_step (h : (decide (acc.length < few) || !fin its ends i) = true) (hm : acc.length ≠ most) : rA its ends few most (f + 1) i acc = (match nAt its i with
    | none => .inl i
    | some x => rA its ends few most f (i + 1) (acc ++ [x])) := by
  rw [rA]
  have e : (decide (few ≤ acc.length) && fin its ends i) = false := by
    rcases Bool.or_eq_true_iff.mp h with z | z
    · rw [decide_eq_false (show ¬ few ≤ acc.length by have := of_decide_eq_true z; omega)]
      rfl
    · cases k : fin its ends i with
      | false => rw [Bool.and_false]
      | true => rw [k] at z; cases z
  rw [e, if_neg Bool.false_ne_true, if_neg hm]
end
theorem nat_lt {its : Its} {i : Nat} {x : Int} (h : nAt its i = some x) : i < its.length := by
  unfold nAt at h
  rcases Nat.lt_or_ge i its.length with z | z
  · exact z
  · rw [List.getElem?_eq_none z] at h
    cases h
section
variable {P : Program} {w : World} {K : PySem.W.Frag} {mg : Str → Option Value} {base : Heap} {C fT : Addr}
/-! ### row_at -/
def spRA (C : Addr) : Sp := fun vs H Q E => ∃ (b e : Addr) (its ends : Its) (i few most : Nat), vs = [.ref b, .int i, .int few, .int most, .ref e] ∧ Itm H b its ∧ H e = some (.tup (ends.map iV)) ∧ i ≤ its.length ∧ few ≤ most ∧ most ≤ 7 ∧
  (∀ j, rowA its ends few most i = .inl j → RzF C (bt j) H E) ∧
  (∀ r j, rowA its ends few most i = .inr (r, j) → ∀ H' t d, Same H H' → H' d = some (.lst (r.map V.int)) → H' t = some (.tup [.ref d, .int (j : Nat)]) → Q (.ref t) H')
abbrev sRA : Stmt := top 32
abbrev nRA : List Str := ["items", "at", "fewest", "most", "ends", "row"]
theorem scRA : FnScope nRA ["items", "at", "fewest", "most", "ends"] (defScope sRA) := ⟨rfl, rfl, rfl, by decide +kernel, rfl, by decide +kernel, by decide +kernel⟩
theorem ok_ra {f : Addr} {fd fdT : FuncData} (F : Fun K "row_at" "row_at" sRA f fd) (B : Bn mg) (TX : TxT K mg C fT) (FT : Fun K "__init__" "BadText.__init__" sTX fT fdT) (L : ∃ t, mg "LIMIT" = some (.int 1000000000 t)) (C1 : Callee P w K mg base CX0 1 "_ends_at" ["items", "at", "ends"] spEn) (C2 : Callee P w K mg base (L2.CX P w) 3 "number_at" ["items", "at", "least", "most"] (spNa C)) :
    FnOk P w K mg base (L2.CX P w) 4 f fd ["items", "at", "fewest", "most", "ends"] (spRA C) := by
  obtain ⟨f1, fd1, m1, k1, b1, G1⟩ := C1
  obtain ⟨f2, fd2, m2, k2, b2, G2⟩ := C2
  obtain ⟨tL, mL⟩ := L
  have GT : FnOk P w K mg base CX0 1 fT fdT ["self", "line", "item"] (spIn2 K "line" "item") := ok_tx FT
  have bT : Binds K fdT ["self", "line", "item"] [] := FT.binds (ps := ["self", "line", "item"]) fun _ _ _ _ _ _ us hl => match us, hl with | [_, _, _], _ => rfl
  have nd := scRA.nd
  refine F.okX scRA (fun vs H Q E h => ?_) (fun cdv A outer s H vs Q E hr h => ?_)
  · obtain ⟨b, e, its, ends, i, few, most, rfl, _⟩ := h
    rfl
  · obtain ⟨b, e, its, ends, i, few, most, rfl, hI, he, hi, fm, m7, rn, qy⟩ := h
    refine ⟨_, (pss_cons ((ps_set (i := 5) nd rfl (Or.inl rfl) (pe_lst pa_nil))) (pss_cons (ps_while (passes_of rfl) (PW.pt (pw_or (pt_cmpR op_lt (pe_callB call_len_seq (by rfl) B.len PySem.boot_len (pa_cons (pv 5) pa_nil)) (pv 2) (nomark _)) (pw_or1 (pt_not (pt_val (pe_call G1 (hr.mono (by decide)) rfl m1 k1 b1 .nil pass0 (pa_cons (pv 0) (pa_cons (pv 1) (pa_cons (pv 4) pa_nil)))))))))
        (pss_cons (ps_if (pt_cmpR op_eq ((pe_callB call_len_seq (by rfl) B.len PySem.boot_len (pa_cons (pv 5) pa_nil))) (pv 3) (nomark _)) (pss_one (ps_raise rfl (takes_of rfl rfl rfl rfl) (pmk_oex TX.oex TX.iC TX.tI GT (hr.mono (by decide)) bT .nil pass0 rfl TX.mgC (pa_cons (pe_int) (pa_cons (pv 1) pa_nil))))) pss_nil) (pss_cons (ps_expr (pe_bm PySem.F.plainAttrs_list PySem.F.slot_list_append PySem.F.type_list_append mt_append (pv 5) (pa_cons ((pe_callS (E := fun _ => E) G2 (hr.mono (by decide)) rfl m2 k2 b2 (fun σ => passAt (takes_of rfl rfl rfl rfl) σ) (pa_cons (pv 0) (pa_cons (pv 1) (pa_cons (pe_un un_neg (pe_glob (v := .int 1000000000) rfl mL ⟨_, rfl⟩)) (pa_cons (pe_glob (v := .int 1000000000) rfl mL ⟨_, rfl⟩) pa_nil)))))) pa_nil))) (pss_one (ps_aug (i := 1) nd rfl (Or.inl rfl) pe_int ip_add))))) (pss_one (ps_ret (pe_tup (pa_cons (pv 5) (pa_cons (pv 1) pa_nil))))))), ?_⟩
    refine ⟨by show 0 ≤ sizeLine; decide, fun d nd0 => ?_⟩
    unfold rowA at rn qy
    generalize hR : rA its ends few most (most + 1) i [] = R at rn qy
    refine ⟨fun m σ H' => ∃ (i : Nat) (acc : List Int), m = most + 1 - acc.length ∧ σ = [some (.ref b), some (.int (i : Nat)), some (.int (few : Nat)), some (.int (most : Nat)), some (.ref e), some (.ref d)] ∧ Same H H' ∧ H' d = some (.lst (acc.map V.int)) ∧ i ≤ its.length ∧ acc.length ≤ most ∧ rA its ends few most (most + 1 - acc.length) i acc = R,
      ⟨_, i, [], rfl, rfl, same_new nd0, upd_same, hi, Nat.zero_le _, hR⟩, ?_⟩
    clear hi hR
    rintro _ _ H1 ⟨i, acc, rfl, rfl, s1, hd, hi, hl, hR⟩
    have hI1 := hI.same s1
    have he1 := s1 _ _ he
    obtain ⟨f, ef⟩ : ∃ f, most + 1 - acc.length = f + 1 := ⟨most - acc.length, by omega⟩
    rw [ef] at hR
    refine tt_key (decide (acc.length < few) || !fin its ends i) (fun Q q => ?_) ?_
    · refine ⟨_, rfl, d, _, rfl, .inl (SqL.of hd), _, rfl, _, _, rfl, rfl, _, rfl, ?_⟩
      rw [List.length_map]
      by_cases hl2 : acc.length < few
      · rw [decide_eq_true (show ((acc.length : Nat) : Int) < (few : Nat) by omega)]
        rw [decide_eq_true hl2, Bool.true_or] at q
        exact iteT q
      · rw [decide_eq_false (show ¬ ((acc.length : Nat) : Int) < (few : Nat) by omega)]
        rw [decide_eq_false hl2, Bool.false_or] at q
        exact iteF ⟨_, rfl, _, rfl, _, rfl, b, e, its, ends, i, rfl, hI1, he1, hi, _, rfl, q⟩
    · cases htt : (decide (acc.length < few) || !fin its ends i) with
      | true =>
        refine iteT ⟨_, fun _ _ z => z, ?_⟩
        refine ⟨_, rfl, d, _, rfl, .inl (SqL.of hd), _, rfl, rfl, _, rfl, ?_⟩
        rw [List.length_map]
        by_cases hm : acc.length = most
        · rw [rA_full htt hm] at hR
          rw [decide_eq_true (show V.int ((acc.length : Nat) : Int) = V.int ((most : Nat) : Int) by rw [hm])]
          exact iteT ⟨_, rfl, ⟨by show 2 ≤ 1000; decide, fun e na => ⟨e, _, _, _, rfl, TX.oex, TX.no1, TX.no2, upd_same, fun H5 k ⟨d, nd, ne, h1, h2⟩ => ⟨rfl, d, _, h1, h2, by rw [upd_ne ne] at nd; exact nd, rzf_of (fun d' H' s' hx => rn i hR.symm d' H' (s1.trans s') hx) na k nd ne⟩⟩⟩⟩
        · rw [rA_step htt hm] at hR
          rw [decide_eq_false (show ¬ V.int ((acc.length : Nat) : Int) = V.int ((most : Nat) : Int) from fun z => hm (by have := V.int.inj z; omega))]
          refine iteF ?_
          refine ⟨_, rfl, .inl ⟨rfl, _, SqL.of hd⟩, _, rfl, _, rfl, _, rfl, b, its, i, rfl, hI1, by have := hI.few; omega, fun x ex => ?_, fun ex => ?_⟩
          · rw [ex] at hR
            have li := nat_lt ex
            refine ⟨d, _, _, rfl, rfl, hd, ?_, ?_⟩
            · rw [List.length_map]
              exact small1000 (by omega)
            · refine ⟨_, rfl, _, _, rfl, rfl, ?_⟩
              refine ⟨most + 1 - (acc ++ [x]).length, by rw [List.length_append]; show most + 1 - (acc.length + 1) < _; omega, i + 1, acc ++ [x], rfl, rfl, fun z o ez => ?_, by rw [upd_same, List.map_append]; rfl, li, by rw [List.length_append]; show acc.length + 1 ≤ most; omega, ?_⟩
              · rw [upd_ne (ne_of_none ez nd0)]
                exact s1 _ _ ez
              · have e1 : most + 1 - (acc ++ [x]).length = f := by
                  rw [List.length_append]
                  show most + 1 - (acc.length + 1) = f
                  omega
                rw [e1]
                exact hR
          · rw [ex] at hR
            exact (rn i hR.symm).same s1
      | false =>
        refine iteF ?_
        have h1 : few ≤ acc.length := by
          rcases Nat.lt_or_ge acc.length few with z | z
          · rw [decide_eq_true z] at htt
            cases htt
          · exact z
        have h2 : fin its ends i = true := by
          cases k : fin its ends i with
          | true => rfl
          | false =>
            rw [k, Bool.or_comm] at htt
            cases htt
        rw [rA_end h1 h2] at hR
        refine ⟨_, rfl, _, rfl, by show 2 ≤ sizeLine; decide, fun t ht2 => ?_⟩
        have sg := same_new (o := .tup [V.ref d, V.int (i : Nat)]) ht2
        exact qy acc i hR.symm _ t d (s1.trans sg) (sg _ _ hd) upd_same
end
end K19

namespace K19
open PySem PySem.Spec PyProof.Rows L2
theorem nat_at {its : Its} {i : Nat} {x : Int} (h : nAt its i = some x) : its[i]? = some (shL x) ∧ -G9 ≤ x ∧ x ≤ G9 := by
  unfold nAt at h
  cases e : its[i]? with
  | none => rw [e] at h; cases h
  | some a =>
    rw [e] at h
    obtain ⟨ea, h1, h2, _⟩ := sh_num (show num a = some x from h)
    exact ⟨congrArg some ea, h1, h2⟩
theorem drop_at {its : Its} {i : Nat} {a : Cd} (h : its[i]? = some a) : its.drop i = a :: its.drop (i + 1) := by
  obtain ⟨hl, e⟩ := List.getElem?_eq_some_iff.mp h
  rw [List.drop_eq_getElem_cons hl, e]
theorem rA_ok {its ends : Its} {few most : Nat} : ∀ (f i : Nat) (acc r : List Int) (j : Nat), rA its ends few most f i acc = .inr (r, j) → acc.length ≤ most → i ≤ its.length →
    ∃ ms, r = acc ++ ms ∧ j = i + ms.length ∧ (∀ n ∈ ms, -G9 ≤ n ∧ n ≤ G9) ∧ its.drop i = ms.map shL ++ its.drop j ∧ few ≤ r.length ∧ fin its ends j = true ∧ r.length ≤ most ∧ j ≤ its.length
  | 0, i, acc, r, j, h, _, _ => by cases h
  | f + 1, i, acc, r, j, h, hm, hi => by
    unfold rA at h
    split at h
    · rename_i c
      rw [Bool.and_eq_true, decide_eq_true_iff] at c
      have e := Sum.inr.inj h
      have e1 : acc = r := congrArg Prod.fst e
      have e2 : i = j := congrArg Prod.snd e
      subst e1 e2
      exact ⟨[], (List.append_nil _).symm, rfl, fun n hn => absurd hn List.not_mem_nil, rfl, c.1, c.2, hm, hi⟩
    · split at h
      · cases h
      · rename_i hne
        split at h
        · cases h
        · rename_i x ex
          obtain ⟨at_, b1, b2⟩ := nat_at ex
          have li := nat_lt ex
          obtain ⟨ms, e1, e2, e3, e4, e5, e6, e7, e8⟩ := rA_ok f (i + 1) (acc ++ [x]) r j h (by rw [List.length_append]; show acc.length + 1 ≤ most; omega) li
          refine ⟨x :: ms, by rw [e1, List.append_assoc]; rfl, by rw [e2, List.length_cons]; omega, fun n hn => ?_, ?_, e5, e6, e7, e8⟩
          · rcases List.mem_cons.mp hn with rfl | hn
            · exact ⟨b1, b2⟩
            · exact e3 n hn
          · rw [drop_at at_, e4]
            rfl
theorem rowA_ok {its ends : Its} {few most i j : Nat} {r : List Int} (h : rowA its ends few most i = .inr (r, j)) (hi : i ≤ its.length) :
    few ≤ r.length ∧ r.length ≤ most ∧ (∀ n ∈ r, -G9 ≤ n ∧ n ≤ G9) ∧ j = i + r.length ∧ j ≤ its.length ∧ fin its ends j = true ∧ its.drop i = r.map shL ++ its.drop j := by
  obtain ⟨ms, e1, e2, e3, e4, e5, e6, e7, e8⟩ := rA_ok _ _ _ _ _ h (Nat.zero_le _) hi
  rw [List.nil_append] at e1
  subst e1
  exact ⟨e5, e7, e3, e2, e8, e6, e4⟩
/-- what may end a row behind so many others -/
def endT (n : Nat) : Its := if n + 1 < 8 then [slC] else []
def trR (its : Its) (k : Nat) : Nat → Nat → List (List Int) → Sum Nat (List (List Int))
  | 0, _, rs => .inr rs
  | f + 1, i, rs => if i < its.length then (match rowA its (endT rs.length) k k (i + 1) with
      | .inl j => .inl j
      | .inr (r, j) => trR its k f j (rs ++ [r])) else .inr rs
/-- a tray of items: refused at an item, or these rows -/
def readT (its : Its) : Sum Nat (List (List Int)) := match rowA its [slC] 3 7 0 with
  | .inl j => .inl j
  | .inr (r, j) => trR its r.length 8 j [r]
theorem readT_no {its : Its} {j : Nat} (h : rowA its [slC] 3 7 0 = .inl j) : readT its = .inl j := by
  unfold readT
  rw [h]
theorem readT_yes {its : Its} {r : List Int} {j : Nat} (h : rowA its [slC] 3 7 0 = .inr (r, j)) : readT its = trR its r.length 8 j [r] := by
  unfold readT
  rw [h]
theorem trR_no {its : Its} {k f i j : Nat} {rs : List (List Int)} (hi : i < its.length) (h : rowA its (endT rs.length) k k (i + 1) = .inl j) : trR its k (f + 1) i rs = .inl j := by
  unfold trR
  rw [if_pos hi, h]
theorem trR_yes {its : Its} {k f i j : Nat} {rs : List (List Int)} {r : List Int} (hi : i < its.length) (h : rowA its (endT rs.length) k k (i + 1) = .inr (r, j)) : trR its k (f + 1) i rs = trR its k f j (rs ++ [r]) := by
  rw [trR, if_pos hi, h]
theorem trR_end {its : Its} {k f i : Nat} {rs : List (List Int)} (hi : ¬ i < its.length) : trR its k (f + 1) i rs = .inr rs := by
  rw [trR, if_neg hi]
theorem fin_endT {its : Its} {n j : Nat} (h : fin its (endT n) j = true) : j = its.length ∨ (its[j]? = some slC ∧ n + 1 < 8) := by
  unfold fin at h
  rcases Bool.or_eq_true_iff.mp h with z | z
  · exact .inl (of_decide_eq_true z)
  · unfold endT at z
    cases e : its[j]? with
    | none => rw [e] at z; cases z
    | some a =>
      rw [e] at z
      have z := of_decide_eq_true z
      split at z
      · rename_i h8
        exact .inr ⟨by rw [List.mem_singleton.mp z], h8⟩
      · cases z
section
variable {P : Program} {w : World} {K : PySem.W.Frag} {mg : Str → Option Value} {base : Heap} {C CB CF CT CX fT : Addr}
/-! ### Tray.read -/
def RowL (H : Hp) (c : Addr) (q : List Int) : Prop := H c = some (.lst (q.map V.int))
def spRd (K : PySem.W.Frag) (C CX : Addr) : Sp := fun vs H Q E => ∃ v, vs = [v] ∧ ((∃ t, TyX K H v t ∧ PySem.W.kitOne K t (.type "str") = some false ∧ RzF CX (bt 0) H E) ∨
  (∃ a : Cd, v = .str (SX.S a) ∧ a.length ≤ 8000000 ∧ (∀ j, readT (TL.spl [32] 0 [] a) = .inl j → RzF CX (bt j) H E) ∧
    (∀ rs, readT (TL.spl [32] 0 [] a) = .inr rs → NewT C H Q rs)))
abbrev sRd : Stmt := inClass (top 38) 4
abbrev nRd : List Str := ["text", "items", "row", "at", "rows", "many", "ends"]
theorem scRd : FnScope nRd ["text"] (defScope sRd) := ⟨rfl, rfl, rfl, by decide +kernel, rfl, by decide +kernel, by decide +kernel⟩
theorem ok_rd {f : Addr} {fd : FuncData} (F : Fun K "read" "Tray.read" sRd f fd) (B : Bn mg) (T : TrT K C) (mA : mg "Tray" = some (.ref C)) (IT : IniT P w K mg base C CB CF CT) (F3 : ∃ t, mg "FEWEST_PINS" = some (.int 3 t)) (M7 : ∃ t, mg "MOST_PINS" = some (.int 7 t)) (L8 : ∃ t, mg "MOST_ROWS" = some (.int 8 t))
    (C1 : Callee P w K mg base (L2.CX P w) 3 "items_of" ["text"] (spIof K CX)) (C2 : Callee P w K mg base (L2.CX P w) 4 "row_at" ["items", "at", "fewest", "most", "ends"] (spRA CX)) :
    FnOk P w K mg base (L2.CX P w) 7 f fd ["text"] (spRd K C CX) := by
  obtain ⟨f1, fd1, m1, k1, b1, G1⟩ := C1
  obtain ⟨f2, fd2, m2, k2, b2, G2⟩ := C2
  obtain ⟨t3, m3⟩ := F3
  obtain ⟨t7, m7⟩ := M7
  obtain ⟨t8, m8⟩ := L8
  have nd := scRd.nd
  refine F.okX scRd (fun vs H Q E h => ?_) (fun cdv A outer s H vs Q E hr h => ?_)
  · obtain ⟨v, rfl, _⟩ := h
    rfl
  · obtain ⟨v, rfl, h⟩ := h
    refine ⟨_, (pss_cons ((ps_set (i := 1) nd rfl (Or.inl rfl) ((pe_callS (E := fun _ => E) G1 (hr.mono (by decide)) rfl m1 k1 b1 (fun σ => passAt (takes_of rfl rfl rfl rfl) σ) (pa_cons (pv 0) pa_nil))))) (pss_cons (ps_asg (pe_callS (E := fun _ => E) G2 (hr.mono (by decide)) rfl m2 k2 b2 (fun σ => passAt (takes_of rfl rfl rfl rfl) σ) (pa_cons (pv 1) (pa_cons (pe_int) (pa_cons (pe_glob (v := .int 3) rfl m3 ⟨_, rfl⟩) (pa_cons (pe_glob (v := .int 7) rfl m7 ⟨_, rfl⟩) (pa_cons (pe_tup (pa_cons (pe_str) pa_nil)) pa_nil)))))) (pg_tup rfl (pgs_cons ((pg_name (i := 2) nd rfl (Or.inl rfl))) (pgs_cons ((pg_name (i := 3) nd rfl (Or.inl rfl))) pgs_nil)))) (pss_cons (ps_par (i := 4) (j := 5) rfl nd rfl rfl (by decide) rfl rfl (pa_cons (pe_lst (pa_cons (pv 2) pa_nil)) (pa_cons ((pe_callB call_len_seq (by rfl) B.len PySem.boot_len (pa_cons (pv 2) pa_nil))) pa_nil)) (by rfl)) (pss_cons (ps_while (passes_of rfl) (pt_cmpR op_lt (pv 3) (pe_callB call_len_seq (by rfl) B.len PySem.boot_len (pa_cons (pv 1) pa_nil)) (nomark _))
        (pss_cons ((ps_set (i := 6) nd rfl (Or.inl rfl) (pe_ifExp (pt_cmpR op_lt (pe_op op_add (pe_callB call_len_seq (by rfl) B.len PySem.boot_len (pa_cons (pv 4) pa_nil)) pe_int) (pe_glob (v := .int 8) rfl m8 ⟨_, rfl⟩) (nomark _)) (pe_tup (pa_cons (pe_str) pa_nil)) (pe_tup pa_nil)))) (pss_cons (ps_asg (pe_callS (E := fun _ => E) G2 (hr.mono (by decide)) rfl m2 k2 b2 (fun σ => passAt (takes_of rfl rfl rfl rfl) σ) (pa_cons (pv 1) (pa_cons (pe_op op_add (pv 3) pe_int) (pa_cons (pv 5) (pa_cons (pv 5) (pa_cons (pv 6) pa_nil)))))) (pg_tup rfl (pgs_cons ((pg_name (i := 2) nd rfl (Or.inl rfl))) (pgs_cons ((pg_name (i := 3) nd rfl (Or.inl rfl))) pgs_nil)))) (pss_one (ps_expr (pe_bm PySem.F.plainAttrs_list PySem.F.slot_list_append PySem.F.type_list_append mt_append (pv 4) (pa_cons (pv 2) pa_nil))))))) (pss_one (ps_ret (pe_mkT (E := E) K mA IT (hr.mono (by decide)) (fun pins σ => passAt (takes_of rfl rfl rfl rfl) σ pins) rfl (pa_cons (pv 4) pa_nil)))))))), ?_⟩
    have e47 : PySem.Str.ofString "/" = SX.S [47] := str_S rfl
    rcases h with ⟨t, ty, kk, r⟩ | ⟨a, rfl, ha, rn, qy⟩
    · exact ⟨_, rfl, _, rfl, .inl ⟨t, ty, kk, r⟩⟩
    refine ⟨_, rfl, _, rfl, .inr ⟨a, rfl, ha, fun b H1 s1 n1 hI => ?_⟩⟩
    generalize TL.spl [32] 0 [] a = its at rn qy hI
    refine ⟨_, rfl, by show 1 ≤ sizeLine; decide, fun e he => ?_⟩
    rw [e47]
    have se := same_new (o := .tup [V.str (SX.S [47])]) he
    have ge : upd H1 e (.tup [V.str (SX.S [47])]) e = some (.tup ([slC].map iV)) := upd_same
    generalize upd H1 e (.tup [V.str (SX.S [47])]) = H2 at se ge ⊢
    refine ⟨b, e, its, [slC], 0, 3, 7, rfl, hI.same se, ge, Nat.zero_le _, by decide, by decide, fun j hj => (rn j (readT_no hj)).same (s1.trans se), fun r j hj H3 t d s3 hd ht => ?_⟩
    rw [readT_yes hj] at rn qy
    obtain ⟨k3, k7, bd, _, lj, fj, _⟩ := rowA_ok hj (Nat.zero_le _)
    clear hj
    refine ⟨t, _, rfl, SqT.of ht, rfl, _, _, rfl, _, _, rfl, rfl, ?_⟩
    refine ⟨_, rfl, by show 1 ≤ sizeLine; decide, fun g hg => ?_⟩
    have sg := same_new (o := .lst [V.ref d]) hg
    have gg : upd H3 g (.lst [V.ref d]) g = some (.lst [V.ref d]) := upd_same
    generalize upd H3 g (.lst [V.ref d]) = H5 at sg gg ⊢
    have s15 := (se.trans s3).trans sg
    have ng1 : H1 g = none := (se.trans s3).free hg
    refine ⟨_, rfl, d, _, rfl, .inl (SqL.of (sg _ _ hd)), _, _, rfl, ?_⟩
    rw [List.length_map]
    generalize hR : trR its r.length 8 j [r] = R at rn qy
    refine ⟨fun m σ H' => ∃ (j : Nat) (rs : List (List Int)) (cs : List Addr) (dd x6 : Option V), m = its.length - j ∧ σ = [some (.str (SX.S a)), some (.ref b), dd, some (.int (j : Nat)), some (.ref g), some (.int (r.length : Nat)), x6] ∧ Same H1 H' ∧ H' g = some (.lst (cs.map V.ref)) ∧ g ∉ cs ∧ Paired (RowL H') cs rs ∧ j ≤ its.length ∧ rs ≠ [] ∧ rs.length ≤ 8 ∧ (∀ q ∈ rs, q.length = r.length ∧ OkR q) ∧ (j = its.length ∨ (its[j]? = some slC ∧ rs.length < 8)) ∧ trR its r.length (9 - rs.length) j rs = R,
      ⟨_, j, [r], [d], _, _, rfl, rfl, s15, gg, (fun z => by rw [List.mem_singleton.mp z, hd] at hg; cases hg), .cons (sg _ _ hd) .nil, lj, by simp, by show 1 ≤ 8; decide, fun q hq => by rw [List.mem_singleton.mp hq]; exact ⟨rfl, k3, k7, bd⟩, (fin_endT (n := 0) fj).imp id fun z => ⟨z.1, by show 1 < 8; decide⟩, hR⟩, ?_⟩
    clear hR fj lj
    rintro _ _ H6 ⟨j, rs, cs, dd, x6, rfl, rfl, s16, hg6, nm6, hp6, lj, tne, t8, hok, hj, hR⟩
    have hI6 := hI.same s16
    have lcs : cs.length = rs.length := Paired.length hp6
    refine ⟨_, rfl, _, rfl, b, _, rfl, .inl (SqL.of hI6.at_), _, _, rfl, rfl, _, rfl, ?_⟩
    rw [List.length_map]
    by_cases hlt : j < its.length
    · rw [decide_eq_true (show ((j : Nat) : Int) < (its.length : Nat) by omega)]
      obtain ⟨hsc, h8⟩ : its[j]? = some slC ∧ rs.length < 8 := by
        rcases hj with z | z
        · omega
        · exact z
      refine iteT ⟨_, fun _ _ z => z, ?_⟩
      dsimp only [gName, tSeq, tAsg]
      refine tIf_key (fun v H' => ∃ e, v = .ref e ∧ Same H6 H' ∧ H' e = some (.tup ((endT rs.length).map iV))) (fun Q hQ => ?_) (fun v H7 hG => ?_)
      · refine ⟨_, rfl, g, _, rfl, .inl (SqL.of hg6), _, _, rfl, rfl, _, _, rfl, rfl, _, rfl, ?_⟩
        rw [List.length_map, lcs]
        unfold endT at hQ
        by_cases h7 : rs.length + 1 < 8
        · rw [decide_eq_true (show ((rs.length : Nat) : Int) + 1 < 8 by omega)]
          rw [if_pos h7] at hQ
          refine iteT ⟨by show 1 ≤ sizeLine; decide, fun e he => ?_⟩
          exact hQ _ _ ⟨e, rfl, same_new he, upd_same⟩
        · rw [decide_eq_false (show ¬ ((rs.length : Nat) : Int) + 1 < 8 by omega)]
          rw [if_neg h7] at hQ
          exact iteF ⟨by show 0 ≤ sizeLine; decide, fun e he => hQ _ _ ⟨e, rfl, same_new he, upd_same⟩⟩
      · obtain ⟨e, rfl, s67, ge7⟩ := hG
        have s17 := s16.trans s67
        have ef : 9 - rs.length = (8 - rs.length) + 1 := by omega
        rw [ef] at hR
        refine ⟨_, rfl, _, rfl, _, _, rfl, rfl, _, rfl, _, rfl, _, rfl, b, e, its, endT rs.length, j + 1, r.length, r.length, rfl, hI.same s17, ge7, by omega, Nat.le_refl _, k7, fun x hx => ?_, fun l2 j2 h2 H8 t2 d2 s78 hd2 ht2 => ?_⟩
        · rw [trR_no hlt hx] at hR
          exact (rn _ hR.symm).same (s1.trans s17)
        · rw [trR_yes hlt h2] at hR
          obtain ⟨l1, l2', bd2, ej2, lj2, fj2, _⟩ := rowA_ok h2 (by omega)
          refine ⟨t2, _, rfl, SqT.of ht2, rfl, _, _, rfl, _, _, rfl, rfl, ?_⟩
          have s68 := s67.trans s78
          have hg8 := s68 _ _ hg6
          have nd2 : d2 ≠ g := fun z => by
            rw [z, hg8] at hd2
            have e2 := HO.lst.inj (Option.some.inj hd2)
            cases l2 with
            | nil => exact absurd l1 (by show ¬ r.length ≤ 0; omega)
            | cons x l2 =>
              cases cs with
              | nil => exact tne (List.length_eq_zero_iff.mp lcs.symm)
              | cons c cs => cases (List.cons.inj e2).1
          have keep : ∀ {c : Addr} {q : List Int}, c ≠ g → H8 c = some (.lst (q.map V.int)) → RowL (upd H8 g (.lst (cs.map V.ref ++ [V.ref d2]))) c q := fun {c q} n e => by
            unfold RowL
            rw [upd_ne n]
            exact e
          refine ⟨_, rfl, .inl ⟨rfl, _, SqL.of hg8⟩, _, rfl, g, _, _, rfl, rfl, hg8, ?_, ?_⟩
          · rw [List.length_map, lcs]
            exact small1000 (by omega)
          · have ll : l2.length = r.length := Nat.le_antisymm l2' l1
            refine ⟨its.length - j2, by omega, j2, rs ++ [l2], cs ++ [d2], _, _, rfl, rfl, fun z o ez => ?_, by rw [upd_same, List.map_append]; rfl, ?_, ?_, lj2, by simp, by rw [List.length_append]; exact h8, fun q hq => ?_, ?_, ?_⟩
            · rw [upd_ne (ne_of_none ez ng1)]
              exact s68 _ _ (s16 _ _ ez)
            · intro z
              rcases List.mem_append.mp z with z | z
              · exact nm6 z
              · exact nd2 (List.mem_singleton.mp z).symm
            · have all : ∀ {as : List Addr} {qs : List (List Int)}, g ∉ as → Paired (RowL H6) as qs → Paired (RowL (upd H8 g (.lst (cs.map V.ref ++ [V.ref d2])))) as qs := fun {as qs} n p => by
                induction p with
                | nil => exact .nil
                | cons z _ ih => exact .cons (keep (fun y => n (by rw [← y]; exact List.mem_cons_self)) (s68 _ _ z)) (ih fun m => n (List.mem_cons_of_mem _ m))
              exact paired_snoc (all nm6 hp6) (keep nd2 hd2)
            · rcases List.mem_append.mp hq with z | z
              · exact hok q z
              · rw [List.mem_singleton.mp z]
                exact ⟨ll, by omega, by omega, bd2⟩
            · rw [List.length_append]
              exact fin_endT fj2
            · rw [List.length_append]
              have e9 : 9 - (rs.length + [l2].length) = 8 - rs.length := by
                show 9 - (rs.length + 1) = _
                omega
              rw [e9]
              exact hR
    · rw [decide_eq_false (show ¬ ((j : Nat) : Int) < (its.length : Nat) by omega)]
      obtain ⟨f, ef⟩ : ∃ f, 9 - rs.length = f + 1 := ⟨8 - rs.length, by omega⟩
      rw [ef, trR_end hlt] at hR
      refine iteF ⟨_, rfl, .ref g, rfl, MkT.of (.inl hg6) ?_ (fun q hq => (hok q hq).2) tne (alike_of fun q hq => (hok q hq).1) t8 ((qy rs hR.symm).same (s1.trans s16))⟩
      have all : ∀ {as : List Addr} {qs : List (List Int)}, Paired (RowL H6) as qs → Paired (Row H6) (as.map V.ref) qs := fun {as qs} p => by
        induction p with
        | nil => exact .nil
        | cons z _ ih => exact .cons ⟨_, rfl, .inl z⟩ ih
      exact all hp6
end
end K19

namespace K19
open PySem PySem.Spec PyProof.Rows L2
theorem Lens.not_none {H : Hp} {p a : Addr} {n : Nat} (v : Lens H p n) (h : H a = none) : a ≠ p := by
  obtain ⟨c, x, y, e⟩ := v.at
  exact (ne_of_none e h).symm
theorem Lens.not_tup {H : Hp} {p a : Addr} {n : Nat} {xs : List V} (v : Lens H p n) (h : H a = some (.tup xs)) : a ≠ p := by
  obtain ⟨c, x, y, e⟩ := v.at
  exact L2.ne_of h e (by intro z; cases z)
theorem Lens.not_ints {H : Hp} {p a : Addr} {n : Nat} {ns : List Int} (v : Lens H p n) (h : H a = some (.lst (ns.map V.int))) : a ≠ p := fun z => by
  obtain ⟨c, x, y, e⟩ := v.at
  rw [z, e] at h
  have := HO.lst.inj (Option.some.inj h)
  cases ns with
  | nil => cases this
  | cons n ns => cases (List.cons.inj this).1
theorem Lens.not_refs {H : Hp} {p a : Addr} {n : Nat} {ds : List Addr} (v : Lens H p n) (h : H a = some (.lst (ds.map V.ref))) : a ≠ p := fun z => by
  obtain ⟨c, x, y, e⟩ := v.at
  rw [z, e] at h
  have := HO.lst.inj (Option.some.inj h)
  match ds, this with
  | [], e => cases e
  | [_], e => cases e
  | _ :: _ :: _, e => cases (List.cons.inj (List.cons.inj e).2).1
theorem SB.upd {H4 H : Hp} {p D : Addr} {o : HO} {n : Nat} (v4 : Lens H4 p n) (s : SB p H4 H) (hD : H4 D = none) : SB p H4 (upd H D o) := ⟨fun b o n h => by
  rw [upd_ne (ne_of_none h hD)]
  exact s.1 _ _ n h, fun c x y h => by
  obtain ⟨x', y', e⟩ := s.2 c x y h
  exact ⟨x', y', by rw [upd_ne (ne_of_none h hD)]; exact e⟩⟩
theorem SB.free {H H' : Hp} {p b : Addr} {n : Nat} (v : Lens H p n) (s : SB p H H') (h : H' b = none) : H b = none := by
  cases e : H b with
  | none => rfl
  | some o =>
    by_cases hb : b = p
    · obtain ⟨c, x, y, e0⟩ := v.at
      obtain ⟨x', y', e1⟩ := s.2 c (.int x) (.int y) e0
      rw [hb, e1] at h
      cases h
    · have := s.1 b o hb e
      rw [this] at h
      cases h
/-- a list of lists of numbers -/
def LLr (H : Hp) (a : Addr) (ds : List Addr) (rs : List (List Int)) : Prop := H a = some (.lst (ds.map V.ref)) ∧ Paired (RowL H) ds rs
theorem LLr.same {H H' : Hp} {a : Addr} {ds : List Addr} {rs : List (List Int)} (h : LLr H a ds rs) (s : Same H H') : LLr H' a ds rs := ⟨s _ _ h.1, paired_mono h.2 fun _ _ z => s _ _ z⟩
theorem rowl_sb {H H' : Hp} {p : Addr} {n : Nat} {ds : List Addr} {rs : List (List Int)} (h : Paired (RowL H) ds rs) (v : Lens H p n) (s : SB p H H') : Paired (RowL H') ds rs := paired_mono h fun _ _ z => s.1 _ _ (v.not_ints z) z
theorem LLr.sb {H H' : Hp} {p a : Addr} {n : Nat} {ds : List Addr} {rs : List (List Int)} (h : LLr H a ds rs) (v : Lens H p n) (s : SB p H H') : LLr H' a ds rs := ⟨s.1 _ _ (v.not_refs h.1) h.1, rowl_sb h.2 v s⟩
theorem LLr.rows {H : Hp} {a : Addr} {ds : List Addr} {rs : List (List Int)} (h : LLr H a ds rs) : Paired (Row H) (ds.map V.ref) rs := by
  have all : ∀ {as : List Addr} {qs : List (List Int)}, Paired (RowL H) as qs → Paired (Row H) (as.map V.ref) qs := fun {as qs} p => by
    induction p with
    | nil => exact .nil
    | cons z _ ih => exact .cons ⟨_, rfl, .inl z⟩ ih
  exact all h.2
theorem LLr.len {H : Hp} {a : Addr} {ds : List Addr} {rs : List (List Int)} (h : LLr H a ds rs) : ds.length = rs.length := Paired.length h.2
section
variable {P : Program} {w : World} {K : PySem.W.Frag} {mg : Str → Option Value} {base : Heap}
/-! ### _law_steps -/
def spSt : Sp := fun vs H Q _ => ∃ (a : Addr) (ns : List Int), vs = [.ref a] ∧ H a = some (.lst (ns.map V.int)) ∧ ns ≠ [] ∧ ns.length ≤ 100 ∧ ∀ H' D, Same H H' → H D = none → H' D = some (.lst ((stp ns).map V.int)) → Q (.ref D) H'
abbrev sSt : Stmt := top 44
abbrev nSt : List Str := ["_law_places_here", "_law_place_here"]
theorem scSt : FnScope nSt ["_law_places_here"] (defScope sSt) := ⟨rfl, rfl, rfl, by decide +kernel, rfl, by decide +kernel, by decide +kernel⟩
theorem ok_st {f : Addr} {fd : FuncData} (F : Fun K "_law_steps" "_law_steps" sSt f fd) : FnOk P w K mg base CX0 1 f fd ["_law_places_here"] spSt := by
  have nd := scSt.nd
  refine F.ok scSt (fun vs H Q E h => ?_) (fun cdv A outer s H vs Q E hr h => ?_)
  · obtain ⟨a, ns, rfl, _⟩ := h
    rfl
  · obtain ⟨a, ns, rfl, ha, ne, l1, q⟩ := h
    have lp : 1 ≤ ns.length := List.length_pos_iff.mpr ne
    refine ⟨_, pss_one (ps_ret (pe_lc (own := [("_law_place_here", 1)]) (g := gName 1) (tt := tYes) rfl nd (pi_listK K (pe_slice (r := rSlL K) sl_listK (pv 0) (po_some pe_int) (po_none))) (blkOk_by (N := nSt) (sc := defScope sSt) (by decide +kernel)) (fun _ _ _ _ _ => (pg_name (i := 1) nd rfl (Or.inl rfl))) (fun _ _ _ _ _ => pts_nil) (fun _ _ _ _ _ => pe_op op_sub (pv 1) (pe_ix (r := rIxL K) ix_listK (pv 0) (pe_int) (fun _ _ => rfl))))), ?_⟩
    dsimp only [tRet]
    refine lcvL (xs := (ns.map V.int).drop 1) (ys := (stp ns).map V.int) (fun Q' k => ⟨_, rfl, _, rfl, a, _, rfl, SqL.of ha, fun c hc => k _ c (same_new hc) ?_⟩) (by rw [List.length_map, stp_len, List.length_drop, List.length_map]) (by rw [List.length_drop, List.length_map]; omega) (fun D i x y H1 H3 s1 hD hx hy s3 T N t => ?_) (fun D H1 H3 s1 hD s3 hd => q _ D (s1.trans s3) (s1.free hD) hd)
    · rw [cut1 (by rw [List.length_map]; omega)]
      exact upd_same
    · refine ⟨rfl, yes_of ?_⟩
      rw [← List.map_drop] at hx
      obtain ⟨n, hn, rfl⟩ := get_map hx
      obtain ⟨z, hz, rfl⟩ := get_map hy
      unfold stp at hz
      obtain ⟨n', hn', rfl⟩ := get_map hz
      obtain rfl : n = n' := Option.some.inj (hn.symm.trans hn')
      have h0 : atI (ns.map V.int) 0 = some (.int (ns.headD 0)) := atI_nat (j := 0) (by
        cases ns with
        | nil => exact absurd rfl ne
        | cons a b => rfl)
      exact ⟨_, rfl, _, rfl, a, _, _, _, rfl, rfl, SqL.of (s3 _ _ (s1 _ _ ha)), h0, _, _, rfl, rfl, t _ Same.me⟩
/-! ### _law_are_kin -/
def kinB (r q : List Int) : Bool := decide (r = q) || decide (r = neg q)
theorem kinB_e {r q : List Int} : kinB r q = decide (either r = either q) := by
  unfold kinB
  rw [Bool.eq_iff_iff, Bool.or_eq_true, decide_eq_true_iff, decide_eq_true_iff, decide_eq_true_iff]
  exact either_kin.symm
def spKi : Sp := fun vs H Q _ => ∃ (a b : Addr) (r q : List Int), vs = [.ref a, .ref b] ∧ H a = some (.lst (r.map V.int)) ∧ H b = some (.lst (q.map V.int)) ∧ r.length ≤ 100 ∧ q.length ≤ 100 ∧ ∀ H', Same H H' → Q (.bl (kinB r q)) H'
abbrev sKi : Stmt := top 45
abbrev nKi : List Str := ["_law_one", "_law_other", "_law_number_here"]
theorem scKi : FnScope nKi ["_law_one", "_law_other"] (defScope sKi) := ⟨rfl, rfl, rfl, by decide +kernel, rfl, by decide +kernel, by decide +kernel⟩
theorem ok_ki {f : Addr} {fd : FuncData} (F : Fun K "_law_are_kin" "_law_are_kin" sKi f fd) (B : Bn mg) : FnOk P w K mg base CX0 1 f fd ["_law_one", "_law_other"] spKi := by
  have nd := scKi.nd
  refine F.ok scKi (fun vs H Q E h => ?_) (fun cdv A outer s H vs Q E hr h => ?_)
  · obtain ⟨a, b, r, q, rfl, _⟩ := h
    rfl
  · obtain ⟨a, b, r, q, rfl, ha, hb, l1, l2, k⟩ := h
    refine ⟨_, pss_one (ps_ret (pe_or (pe_cmpR (op_eqD hr.units) ((pe_callTy (T := "list") (r := rLi K) call_liK (by rfl) B.list (by decide +kernel) (pa_cons (pv 0) pa_nil))) ((pe_callTy (T := "list") (r := rLi K) call_liK (by rfl) B.list (by decide +kernel) (pa_cons (pv 1) pa_nil))) (nomark _)) (pe_one (pe_cmpR (op_eqD hr.units) ((pe_callTy (T := "list") (r := rLi K) call_liK (by rfl) B.list (by decide +kernel) (pa_cons (pv 0) pa_nil))) ((pe_lc (own := [("_law_number_here", 2)]) (g := gName 2) (tt := tYes) rfl nd (pi_sq K (pv 1)) (blkOk_by (N := nKi) (sc := defScope sKi) (by decide +kernel)) (fun _ _ _ _ _ => (pg_name (i := 2) nd rfl (Or.inl rfl))) (fun _ _ _ _ _ => pts_nil) (fun _ _ _ _ _ => pe_un un_neg (pv 2)))) (nomark _))))), ?_⟩
    refine ⟨_, rfl, a, _, rfl, .inl (SqL.of ha), fun l hl => ?_⟩
    have s1 := same_new (o := .lst (r.map V.int)) hl
    have h1 : upd H l (.lst (r.map V.int)) l = some (.lst (r.map V.int)) := upd_same
    generalize upd H l (.lst (r.map V.int)) = H1 at s1 h1 ⊢
    refine ⟨_, rfl, b, _, rfl, .inl (SqL.of (s1 _ _ hb)), fun m hm => ?_⟩
    have s2 := same_new (o := .lst (q.map V.int)) hm
    have h2 : upd H1 m (.lst (q.map V.int)) m = some (.lst (q.map V.int)) := upd_same
    generalize upd H1 m (.lst (q.map V.int)) = H2 at s2 h2 ⊢
    refine ⟨_, _, .lst (SqL.of (s2 _ _ h1)) (int_dp r), .lst (SqL.of h2) (int_dp q), enR_shaped false r, enR_shaped false q, ?_⟩
    have e1 : PyData.eqv (PyData.list (r.map PyData.int)) (PyData.list (q.map PyData.int)) = decide (r = q) := enR_eqv false r q
    refine ⟨_, rfl, ?_⟩
    rw [e1]
    by_cases h : r = q
    · rw [decide_eq_true h]
      refine iteT ?_
      have := k _ (s1.trans s2)
      unfold kinB at this
      rw [decide_eq_true h, Bool.true_or] at this
      exact this
    · rw [decide_eq_false h]
      have s12 := s1.trans s2
      refine iteF ⟨_, rfl, a, _, rfl, .inl (SqL.of (s12 _ _ ha)), fun l2 hl2 => ?_⟩
      have s3 := same_new (o := .lst (r.map V.int)) hl2
      have h3 : upd H2 l2 (.lst (r.map V.int)) l2 = some (.lst (r.map V.int)) := upd_same
      generalize upd H2 l2 (.lst (r.map V.int)) = H3 at s3 h3 ⊢
      have s13 := s12.trans s3
      try dsimp only
      refine lcv (a := b) (xs := q.map V.int) (ys := (neg q).map V.int) (fun Q' q' => ⟨_, rfl, q'⟩) (.inl (s13 _ _ hb)) (by unfold neg; rw [List.length_map, List.length_map, List.length_map]) (by rw [List.length_map]; omega) (fun D i x y H' hD hx hy s4 T N t => ?_) (fun D H' hD s4 hd => ?_)
      · obtain ⟨n, en, rfl⟩ := get_map hx
        obtain ⟨z, ez, rfl⟩ := get_map hy
        unfold neg at ez
        obtain ⟨n', en', rfl⟩ := get_map ez
        obtain rfl : n = n' := Option.some.inj (en.symm.trans en')
        exact ⟨rfl, yes_of ⟨_, rfl, n, rfl, t _ Same.me⟩⟩
      · refine ⟨_, _, .lst (SqL.of (s4 _ _ h3)) (int_dp r), .lst (SqL.of hd) (int_dp (neg q)), enR_shaped false r, enR_shaped false (neg q), ?_⟩
        have e2 : PyData.eqv (PyData.list (r.map PyData.int)) (PyData.list ((neg q).map PyData.int)) = decide (r = neg q) := enR_eqv false r (neg q)
        rw [e2]
        have := k _ (s13.trans s4)
        unfold kinB at this
        rw [decide_eq_false h, Bool.false_or] at this
        exact this
end
end K19

namespace K19
open PySem PySem.Spec PyProof.Rows L2
def Gi (p D : Addr) (H0 : Hp) (n m i : Nat) (H : Hp) : Prop := SB p H0 H ∧ Lens H p (n + m * i) ∧ ∃ ns : List Int, ns.length = i ∧ H D = some (.lst (ns.map V.int)) ∧ ∀ x ∈ ns, -G9 ≤ x ∧ x ≤ G9
theorem gi_nil {p D : Addr} {H0 : Hp} {n m : Nat} (v : Lens H0 p n) (hD : H0 D = none) : Gi p D H0 n m 0 (upd H0 D (.lst [])) := ⟨SB.of (same_new hD), (v.same (same_new hD)).le (Nat.le_add_right _ _), [], rfl, upd_same, fun x h => absurd h List.not_mem_nil⟩
theorem gi_step {p D : Addr} {H0 H' H2 : Hp} {n m i k : Nat} {a : Int} {ns : List Int} (v0 : Lens H0 p k) (hD : H0 D = none) (s : SB p H0 H') (l : ns.length = i) (hd : H' D = some (.lst (ns.map V.int))) (bd : ∀ x ∈ ns, -G9 ≤ x ∧ x ≤ G9) (hi : i < 8)
    (s2 : SB p H' H2) (v2 : Lens H2 p (n + m * i + m)) (h1 : -G9 ≤ a) (h2 : a ≤ G9) :
    ∃ acc, H2 D = some (.lst acc) ∧ acc.length < sizeLine ∧ Gi p D H0 n m (i + 1) (upd H2 D (.lst (acc ++ [V.int a]))) := by
  have nD : D ≠ p := v0.not_none hD
  refine ⟨_, s2.1 _ _ nD hd, by rw [List.length_map, l]; exact small1000 (by omega), (s.trans s2).upd v0 hD, (v2.upd v0 (s.trans s2) hD).le (by rw [Nat.mul_add]; omega), ns ++ [a], by rw [List.length_append, l]; rfl, by rw [upd_same, List.map_append]; rfl, fun x hx => ?_⟩
  rcases List.mem_append.mp hx with e | e
  · exact bd x e
  · rw [List.mem_singleton.mp e]
    exact ⟨h1, h2⟩
theorem rep_one (a : Int) (n : Nat) : (List.replicate n [V.int a]).flatten = (List.replicate n a).map V.int := by
  induction n with
  | zero => rfl
  | succ n ih =>
    rw [List.replicate_succ, List.replicate_succ, List.flatten_cons, ih, List.map_cons]
    rfl
section
variable {P : Program} {w : World} {K : PySem.W.Frag} {mg : Str → Option Value} {base : Heap}
/-! ### _law_places -/
def spPlc : Sp := fun vs H Q _ => ∃ (p : Addr) (n k : Nat), vs = [.ref p, .int k] ∧ Lens H p n ∧ n + 100 < 60000 ∧ 1 ≤ k ∧ k ≤ 7 ∧ ∀ (H' : Hp) (a : Addr) (ns : List Int), SB p H H' → Lens H' p (n + 16) → H a = none → H' a = some (.lst (ns.map V.int)) → ns.length = k → (∀ x ∈ ns, -G9 ≤ x ∧ x ≤ G9) → Q (.ref a) H'
abbrev sPlc : Stmt := top 46
abbrev nPlc : List Str := ["_law_cask_here", "_law_pins", "_law_way", "_law_pin"]
theorem scPlc : FnScope nPlc ["_law_cask_here", "_law_pins"] (defScope sPlc) := ⟨rfl, rfl, rfl, by decide +kernel, rfl, by decide +kernel, by decide +kernel⟩
theorem ok_plc {f : Addr} {fd : FuncData} (F : Fun K "_law_places" "_law_places" sPlc f fd) (B : Bn mg) (C1 : Callee P w K mg base CX0 1 "_law_draw" ["_law_cask_here", "_law_many"] spShot) : FnOk P w K mg base CX0 2 f fd ["_law_cask_here", "_law_pins"] spPlc := by
  obtain ⟨f1, fd1, m1, k1, b1, G1⟩ := C1
  have nd := scPlc.nd
  have eG : G9 = 1000000000 := rfl
  refine F.ok scPlc (fun vs H Q E h => ?_) (fun cdv A outer s H vs Q E hr h => ?_)
  · obtain ⟨p, n, k, rfl, _⟩ := h
    rfl
  · obtain ⟨p, n, k, rfl, hv, hn, k1', k7, q⟩ := h
    refine ⟨_, (pss_cons ((ps_set (i := 2) nd rfl (Or.inl rfl) ((pe_call G1 (hr.mono (by decide)) rfl m1 k1 b1 .nil pass0 (pa_cons (pv 0) (pa_cons (pe_int) pa_nil)))))) (pss_cons (ps_if (pt_cmpR op_eq (pv 2) (pe_int) (nomark _)) (pss_one (ps_ret (pe_lc (own := [("_law_pin", 3)]) (g := gName 3) (tt := tYes) rfl nd ((pi_range1 rfl B.range (pa_cons (pv 1) pa_nil))) (blkOk_by (N := nPlc) (sc := defScope sPlc) (by decide +kernel)) (fun _ _ _ _ _ => (pg_name (i := 3) nd rfl (Or.inl rfl))) (fun _ _ _ _ _ => pts_nil) (fun _ _ _ _ _ => pe_op op_mul (pe_op op_sub (pe_op op_mul (pe_call G1 (hr.mono (by decide)) rfl m1 k1 b1 .nil pass0 (pa_cons (pv 0) (pa_cons (pe_int) pa_nil))) pe_int) pe_int) (pe_op op_sub (pe_op op_pow pe_int pe_int) (pe_call G1 (hr.mono (by decide)) rfl m1 k1 b1 .nil pass0 (pa_cons (pv 0) (pa_cons (pe_int) pa_nil)))))))) pss_nil) (pss_cons (ps_if (pt_cmpR op_eq (pv 2) (pe_int) (nomark _)) (pss_one (ps_ret (pe_op op_rep (pe_lst (pa_cons (pe_op op_sub (pe_call G1 (hr.mono (by decide)) rfl m1 k1 b1 .nil pass0 (pa_cons (pv 0) (pa_cons (pe_int) pa_nil))) pe_int) pa_nil)) (pv 1)))) pss_nil) (pss_one (ps_ret (pe_lc (own := [("_law_pin", 3)]) (g := gName 3) (tt := tYes) rfl nd ((pi_range1 rfl B.range (pa_cons (pv 1) pa_nil))) (blkOk_by (N := nPlc) (sc := defScope sPlc) (by decide +kernel)) (fun _ _ _ _ _ => (pg_name (i := 3) nd rfl (Or.inl rfl))) (fun _ _ _ _ _ => pts_nil) (fun _ _ _ _ _ => pe_op op_sub (pe_call G1 (hr.mono (by decide)) rfl m1 k1 b1 .nil pass0 (pa_cons (pv 0) (pa_cons (pe_int) pa_nil))) pe_int))))))), ?_⟩
    refine ⟨_, rfl, p, 5, n, rfl, hv, by omega, by decide, by decide, fun H1 d s1 v1 d0 d7 => ?_⟩
    refine ⟨_, rfl, rfl, _, rfl, ?_⟩
    by_cases h0 : d = 0
    · rw [decide_eq_true (show V.int d = V.int 0 by rw [h0])]
      refine iteT ⟨_, rfl, (k : Int), rfl, by omega, by omega, fun D hD => ?_⟩
      rw [Int.toNat_natCast]
      refine lc_range (lo := 0) (n := k) (Gi p D H1 (n + 1) 2) (gi_nil v1 hD) (fun i H' hi pv => ?_) (fun H6 pv => ?_)
      · obtain ⟨s, v, ns, l, hd, bd⟩ := pv
        refine ⟨rfl, yes_of ?_⟩
        refine ⟨_, rfl, p, 2, _, rfl, v, by omega, by decide, by decide, fun H2 y s2 v2 y0 y9 => ?_⟩
        refine ⟨_, _, rfl, rfl, .inl ⟨by omega, by omega⟩, _, _, rfl, rfl, _, _, rfl, rfl, ⟨by decide, by decide, by decide⟩, _, rfl, p, 3, _, rfl, v2, by omega, by decide, by decide, fun H3 z s3 v3 z0 z9 => ?_⟩
        refine ⟨_, _, rfl, rfl, _, _, rfl, rfl, .inl ⟨by omega, by omega⟩, ?_⟩
        have e9 : (10 : Int) ^ (Int.toNat 9) = 1000000000 := by decide
        rw [e9]
        have hy : y = 0 ∨ y = 1 := by omega
        refine gi_step v1 hD s l hd bd (by omega) (s2.trans s3) (v3.le (by omega)) ?_ ?_
        · rcases hy with rfl | rfl <;> omega
        · rcases hy with rfl | rfl <;> omega
      · obtain ⟨s, v, ns, l, hd, bd⟩ := pv
        exact q _ D ns (s1.trans s) (v.le (by omega)) (s1.free hv hD) hd l bd
    rw [decide_eq_false (show ¬ V.int d = V.int 0 from fun z => h0 (V.int.inj z))]
    refine iteF ⟨_, rfl, rfl, _, rfl, ?_⟩
    by_cases h1 : d = 1
    · rw [decide_eq_true (show V.int d = V.int 1 by rw [h1])]
      refine iteT ⟨_, rfl, p, 9, _, rfl, v1, by omega, by decide, by decide, fun H2 y s2 v2 y0 y9 => ⟨_, _, rfl, rfl, ?_⟩⟩
      refine ⟨by show 1 ≤ sizeLine; decide, fun c hc => ⟨_, rfl, c, (k : Int), _, rfl, rfl, upd_same, by omega, by omega, ?_, fun g hg => ?_⟩⟩
      · rw [Int.toNat_natCast]
        show 1 * k ≤ sizeLine
        rw [Nat.one_mul]
        exact Nat.le_of_lt (small1000 (by omega))
      · rw [Int.toNat_natCast, rep_one]
        have sc := same_new (o := .lst [V.int (y - 4)]) hc
        have s12 := s1.trans s2
        have s3 := s12.trans (SB.of sc)
        have nc : H c = none := s12.free hv hc
        refine q _ g _ (s3.trans (SB.of (same_new hg))) (((v2.same sc).same (same_new hg)).le (by omega)) (s3.free hv hg) upd_same (by rw [List.length_replicate]) (fun x hx => ?_)
        rw [List.eq_of_mem_replicate hx]
        exact ⟨by omega, by omega⟩
    rw [decide_eq_false (show ¬ V.int d = V.int 1 from fun z => h1 (V.int.inj z))]
    refine iteF ⟨_, rfl, (k : Int), rfl, by omega, by omega, fun D hD => ?_⟩
    rw [Int.toNat_natCast]
    refine lc_range (lo := 0) (n := k) (Gi p D H1 (n + 1) 2) (gi_nil v1 hD) (fun i H' hi pv => ?_) (fun H6 pv => ?_)
    · obtain ⟨s, v, ns, l, hd, bd⟩ := pv
      refine ⟨rfl, yes_of ?_⟩
      refine ⟨_, rfl, p, 9, _, rfl, v, by omega, by decide, by decide, fun H2 y s2 v2 y0 y9 => ?_⟩
      refine ⟨_, _, rfl, rfl, ?_⟩
      exact gi_step v1 hD s l hd bd (by omega) s2 (v2.le (by omega)) (by omega) (by omega)
    · obtain ⟨s, v, ns, l, hd, bd⟩ := pv
      exact q _ D ns (s1.trans s) (v.le (by omega)) (s1.free hv hD) hd l bd
end
end K19

namespace K19
open PySem PySem.Spec PyProof.Rows L2
/-! ### lists of lists as data -/
def encLL (rs : List (List Int)) : PyData := .list (rs.map (enR false))
theorem encLL_shaped (rs : List (List Int)) : SeqAt.shaped (encLL rs) = true := by
  show (PyData.canLayAll0 (rs.map (enR false)) && decide (PyData.depthAll (rs.map (enR false)) + 1 ≤ 64)) = true
  rw [rows_lay, Bool.true_and, decide_eq_true_iff]
  have := rows_depth false rs
  omega
theorem encLL_eqv (rs qs : List (List Int)) : PyData.eqv (encLL rs) (encLL qs) = decide (rs = qs) := rows_eqv false rs qs
theorem LLr.dp {K : PySem.W.Frag} {H : Hp} {a : Addr} {ds : List Addr} {rs : List (List Int)} (h : LLr H a ds rs) : Dp K H (.ref a) (encLL rs) := by
  obtain ⟨e, p⟩ := h
  refine .lst (SqL.of e) ?_
  clear e
  induction p with
  | nil => exact .nil
  | cons z _ ih => exact .cons (.lst (SqL.of z) (int_dp _)) ih
theorem rowl_ne {H : Hp} {d g : Addr} {r : List Int} {ds : List Addr} (h : RowL H d r) (hn : r ≠ []) (hg : H g = some (.lst (ds.map V.ref))) : d ≠ g := fun z => by
  unfold RowL at h
  rw [z, hg] at h
  have e := HO.lst.inj (Option.some.inj h)
  cases r with
  | nil => exact hn rfl
  | cons x r =>
    cases ds with
    | nil => cases e
    | cons d ds => cases (List.cons.inj e).1
/-- a list of rows that grows -/
theorem LLr.snoc {H : Hp} {g D : Addr} {ds : List Addr} {rs : List (List Int)} {r : List Int} (h : LLr H g ds rs) (hr : RowL H D r) (ne : ∀ q ∈ rs, q ≠ []) (hn : r ≠ []) : LLr (upd H g (.lst (ds.map V.ref ++ [V.ref D]))) g (ds ++ [D]) (rs ++ [r]) := by
  obtain ⟨e, p⟩ := h
  have keep : ∀ {d : Addr} {q : List Int}, RowL H d q → q ≠ [] → RowL (upd H g (.lst (ds.map V.ref ++ [V.ref D]))) d q := fun {d q} z n => by
    unfold RowL
    rw [upd_ne (rowl_ne z n e)]
    exact z
  refine ⟨by rw [upd_same, List.map_append]; rfl, paired_snoc ?_ (keep hr hn)⟩
  have all : ∀ {as : List Addr} {qs : List (List Int)}, (∀ q ∈ qs, q ≠ []) → Paired (RowL H) as qs → Paired (RowL (upd H g (.lst (ds.map V.ref ++ [V.ref D])))) as qs := fun {as qs} n k => by
    induction k with
    | nil => exact .nil
    | cons z _ ih => exact .cons (keep z (n _ List.mem_cons_self)) (ih fun q hq => n q (List.mem_cons_of_mem _ hq))
  exact all ne p
/-- rows of so many places each, in reach -/
def OkL (k : Nat) (rs : List (List Int)) : Prop := ∀ r ∈ rs, r.length = k ∧ ∀ x ∈ r, -G9 ≤ x ∧ x ≤ G9
theorem OkL.ne {k : Nat} {rs : List (List Int)} (h : OkL k rs) (hk : 1 ≤ k) : ∀ q ∈ rs, q ≠ [] := fun q hq z => by
  have := (h q hq).1
  rw [z] at this
  exact absurd this.symm (by show ¬ k = 0; omega)
theorem OkL.okT {k : Nat} {rs : List (List Int)} (h : OkL k rs) (h3 : 3 ≤ k) (h7 : k ≤ 7) (ne : rs ≠ []) (l8 : rs.length ≤ 8) : OkT rs :=
  ⟨fun r hr => ⟨by rw [(h r hr).1]; exact h3, by rw [(h r hr).1]; exact h7, (h r hr).2⟩, alike_of fun r hr => (h r hr).1, ne, l8⟩
theorem if_join {tA : TT} {t u v : TS} {D : Ends} {σ : L2.St} {H : Hp} (P : L2.St → Hp → Prop) (hv : ∀ σ' H', P σ' H' → v D σ' H') (h : (∀ σ' H', P σ' H' → v D σ' H') → tIfS tA t u { D with nx := v D } σ H) : tSeq (tIfS tA t u) v D σ H := h hv
section
variable {P : Program} {w : World} {K : PySem.W.Frag} {mg : Str → Option Value} {base : Heap}
/-! ### _law_rows -/
def spRs : Sp := fun vs H Q _ => ∃ (p : Addr) (n : Nat), vs = [.ref p] ∧ Lens H p n ∧ n + 300 < 60000 ∧ ∀ (H' : Hp) (a : Addr) (ds : List Addr) (rs : List (List Int)) (k : Nat), SB p H H' → Lens H' p (n + 160) → H a = none → LLr H' a ds rs → 3 ≤ k → k ≤ 7 → OkL k rs → rs ≠ [] → rs.length ≤ 8 → Q (.ref a) H'
abbrev sRs : Stmt := top 47
abbrev nRs : List Str := ["_law_cask_here", "_law_pins", "_law_found", "_law_turn", "_law_way", "_law_far", "_law_place_here"]
theorem scRs : FnScope nRs ["_law_cask_here"] (defScope sRs) := ⟨rfl, rfl, rfl, by decide +kernel, rfl, by decide +kernel, by decide +kernel⟩
theorem ok_rs {f : Addr} {fd : FuncData} (F : Fun K "_law_rows" "_law_rows" sRs f fd) (B : Bn mg) (C1 : Callee P w K mg base CX0 1 "_law_draw" ["_law_cask_here", "_law_many"] spShot) (C2 : Callee P w K mg base CX0 2 "_law_of" ["_law_cask_here", "_law_some"] spPick) (C3 : Callee P w K mg base CX0 2 "_law_places" ["_law_cask_here", "_law_pins"] spPlc) : FnOk P w K mg base CX0 3 f fd ["_law_cask_here"] spRs := by
  obtain ⟨f1, fd1, m1, k1, b1, G1⟩ := C1
  obtain ⟨f2, fd2, m2, k2, b2, G2⟩ := C2
  obtain ⟨f3, fd3, m3, k3, b3, G3⟩ := C3
  have nd := scRs.nd
  have eG : G9 = 1000000000 := rfl
  refine F.ok scRs (fun vs H Q E h => ?_) (fun cdv A outer s H vs Q E hr h => ?_)
  · obtain ⟨p, n, rfl, _⟩ := h
    rfl
  · obtain ⟨p, n, rfl, hv, hn, q⟩ := h
    refine ⟨_, (pss_cons (ps_par (i := 1) (j := 2) rfl nd rfl rfl (by decide) rfl rfl (pa_cons (pe_op op_add pe_int (pe_call G1 (hr.mono (by decide)) rfl m1 k1 b1 .nil pass0 (pa_cons (pv 0) (pa_cons (pe_int) pa_nil)))) (pa_cons (pe_lst pa_nil) pa_nil)) (by rfl)) (pss_cons (ps_for PassesOwn.never rfl (pi_range1 rfl B.range (pa_cons (pe_op op_add pe_int (pe_call G1 (hr.mono (by decide)) rfl m1 k1 b1 .nil pass0 (pa_cons (pv 0) (pa_cons (pe_int) pa_nil)))) pa_nil)) (pg_name (i := 3) nd rfl (Or.inl rfl))
        (pss_cons ((ps_set (i := 4) nd rfl (Or.inl rfl) ((pe_call G1 (hr.mono (by decide)) rfl m1 k1 b1 .nil pass0 (pa_cons (pv 0) (pa_cons (pe_int) pa_nil)))))) (pss_one (ps_if (PW.pt (pw_and ((pt_cmpR op_eq (pv 4) (pe_int) (nomark _))) (pw_and1 ((pt_cmpR (op_neD hr.units) (pv 2) (pe_lst pa_nil) (nomark _))))))
            (pss_cons ((ps_set (i := 5) nd rfl (Or.inl rfl) ((pe_call G2 (hr.mono (by decide)) rfl m2 k2 b2 .nil pass0 (pa_cons (pv 0) (pa_cons (pv 2) pa_nil)))))) (pss_one (ps_expr (pe_bm PySem.F.plainAttrs_list PySem.F.slot_list_append PySem.F.type_list_append mt_append (pv 2) (pa_cons (pe_ifExp (pt_cmpR op_eq ((pe_call G1 (hr.mono (by decide)) rfl m1 k1 b1 .nil pass0 (pa_cons (pv 0) (pa_cons (pe_int) pa_nil)))) (pe_int) (nomark _)) (pe_lc (own := [("_law_place_here", 6)]) (g := gName 6) (tt := tYes) rfl nd (pi_sq K (pv 5)) (blkOk_by (N := nRs) (sc := defScope sRs) (by decide +kernel)) (fun _ _ _ _ _ => (pg_name (i := 6) nd rfl (Or.inl rfl))) (fun _ _ _ _ _ => pts_nil) (fun _ _ _ _ _ => pe_un un_neg (pv 6))) (pe_lc (own := [("_law_place_here", 6)]) (g := gName 6) (tt := tYes) rfl nd (pi_sq K (pv 5)) (blkOk_by (N := nRs) (sc := defScope sRs) (by decide +kernel)) (fun _ _ _ _ _ => (pg_name (i := 6) nd rfl (Or.inl rfl))) (fun _ _ _ _ _ => pts_nil) (fun _ _ _ _ _ => pe_callB (call_min2 rfl) (by rfl) B.min (by decide +kernel) (pa_cons (pe_op op_add (pv 6) pe_int) (pa_cons (pe_op op_pow pe_int pe_int) pa_nil))))) pa_nil)))))
            (pss_one (ps_expr (pe_bm PySem.F.plainAttrs_list PySem.F.slot_list_append PySem.F.type_list_append mt_append (pv 2) (pa_cons ((pe_call G3 (hr.mono (by decide)) rfl m3 k3 b3 .nil pass0 (pa_cons (pv 0) (pa_cons (pv 1) pa_nil)))) pa_nil)))))))) (pss_one (ps_ret (pv 2))))), ?_⟩
    refine ⟨_, rfl, p, 5, n, rfl, hv, by omega, by decide, by decide, fun H1 d s1 v1 d0 d5 => ?_⟩
    refine ⟨_, _, rfl, rfl, by show 0 ≤ sizeLine; decide, fun g hg => ⟨_, _, rfl, ?_⟩⟩
    have hk : (3 : Int) + d = (((3 + d).toNat : Nat) : Int) := by omega
    dsimp only
    rw [hk]
    have hk3 : 3 ≤ (3 + d).toNat := by omega
    have hk7 : (3 + d).toNat ≤ 7 := by omega
    generalize (3 + d).toNat = k at hk3 hk7
    have sg := same_new (o := .lst []) hg
    have gg : upd H1 g (.lst []) g = some (.lst []) := upd_same
    have v2 := v1.same sg
    generalize upd H1 g (.lst []) = H2 at sg gg v2 ⊢
    have s2 := s1.trans (SB.of sg)
    have ngH : H g = none := s1.free hv hg
    refine ⟨_, rfl, p, 8, _, rfl, v2, by omega, by decide, by decide, fun H3 m s3 v3 m0 m8 => ?_⟩
    refine ⟨_, _, rfl, rfl, _, rfl, by omega, by omega, ?_⟩
    have hm : ((1 : Int) + m).toNat ≤ 8 := by omega
    have hm1 : 1 ≤ ((1 : Int) + m).toNat := by omega
    generalize ((1 : Int) + m).toNat = mm at hm hm1
    have s03 := s2.trans s3
    refine for_range (lo := 0) (n := mm) (fun i σ H' => SB p H H' ∧ Lens H' p (n + 2 + 18 * i) ∧ (∃ x3 x4 x5 x6 : Option V, σ = [some (.ref p), some (.int (k : Nat)), some (.ref g), x3, x4, x5, x6]) ∧ ∃ ds rs, LLr H' g ds rs ∧ rs.length = i ∧ OkL k rs) ⟨s03, v3, ⟨_, _, _, _, rfl⟩, [], [], ⟨s3.1 _ _ (v1.not_none hg) gg, .nil⟩, rfl, fun r hr => absurd hr List.not_mem_nil⟩ (fun i σ H' hi pv => ?_) (fun σ H' pv => ?_)
    · obtain ⟨s4, v4, ⟨x3, x4, x5, x6, rfl⟩, ds, rs, ll, li, okl⟩ := pv
      have lds : ds.length = i := by rw [ll.len, li]
      have fin : ∀ (H2 : Hp) (D : Addr) (r : List Int) (y3 y4 y5 y6 : Option V), SB p H' H2 → Lens H2 p (n + 2 + 18 * i + 18) → RowL H2 D r → r.length = k → (∀ x ∈ r, -G9 ≤ x ∧ x ≤ G9) →
          LLr H2 g ds rs ∧ ((ds.map V.ref).length < sizeLine) ∧ (SB p H (upd H2 g (.lst (ds.map V.ref ++ [V.ref D]))) ∧ Lens (upd H2 g (.lst (ds.map V.ref ++ [V.ref D]))) p (n + 2 + 18 * (i + 1)) ∧ (∃ x3 x4 x5 x6 : Option V, [some (V.ref p), some (V.int (k : Nat)), some (V.ref g), y3, y4, y5, y6] = [some (.ref p), some (.int (k : Nat)), some (.ref g), x3, x4, x5, x6]) ∧ ∃ ds' rs', LLr (upd H2 g (.lst (ds.map V.ref ++ [V.ref D]))) g ds' rs' ∧ rs'.length = i + 1 ∧ OkL k rs') := fun H2 D r y3 y4 y5 y6 s5 v5 hD lr bd => by
        have ll2 := ll.sb v4 s5
        have nr : r ≠ [] := fun z => by rw [z] at lr; exact absurd lr.symm (by show ¬ k = 0; omega)
        refine ⟨ll2, by rw [List.length_map]; exact small1000 (by omega), (s4.trans s5).upd hv ngH, (v5.upd hv (s4.trans s5) ngH).le (by omega), ⟨_, _, _, _, rfl⟩, _, _, ll2.snoc hD (okl.ne (by omega)) nr, by rw [List.length_append, li]; rfl, fun q hq => ?_⟩
        rcases List.mem_append.mp hq with z | z
        · exact okl q z
        · rw [List.mem_singleton.mp z]
          exact ⟨lr, bd⟩
      refine ⟨_, rfl, p, 4, _, rfl, v4, by omega, by decide, by decide, fun H5 d5 s5 v5 d0' d4' => ?_⟩
      have llen : rs.length ≤ 8 := by omega
      refine ⟨_, rfl, rfl, _, rfl, ?_⟩
      by_cases h0 : d5 = 0
      · rw [decide_eq_true (show V.int d5 = V.int 0 by rw [h0])]
        refine iteT ⟨_, rfl, by show 0 ≤ sizeLine; decide, fun c hc => ?_⟩
        have sc := same_new (o := .lst []) hc
        have gc : upd H5 c (.lst []) c = some (.lst []) := upd_same
        generalize upd H5 c (.lst []) = H6 at sc gc ⊢
        have s46 := s5.trans (SB.of sc)
        have v6 := v5.same sc
        have ll6 := ll.sb v4 s46
        have lc0 : LLr H6 c [] [] := ⟨gc, .nil⟩
        refine ⟨_, _, ll6.dp, lc0.dp, encLL_shaped _, encLL_shaped _, _, rfl, ?_⟩
        rw [encLL_eqv]
        by_cases hne : rs = []
        · rw [decide_eq_true hne]
          refine iteF ⟨_, rfl, .inl ⟨rfl, _, SqL.of ll6.1⟩, _, rfl, _, rfl, p, _, k, rfl, v6, by omega, by omega, hk7, fun H8 a ns s8 v8 na hD lr bd => ?_⟩
          obtain ⟨f1, f2, f3⟩ := fin H8 a ns _ _ _ _ (s46.trans s8) (v8.le (by omega)) hD lr bd
          exact ⟨g, _, _, rfl, rfl, f1.1, f2, f3⟩
        · rw [decide_eq_false hne]
          refine iteT ⟨_, rfl, _, rfl, p, g, _, _, rfl, v6, by omega, ll6.1, v6.not_refs ll6.1, by rw [List.length_map, lds]; have := List.length_pos_iff.mpr hne; omega, by rw [List.length_map, lds]; omega, fun H7 x s7 v7 hx => ?_⟩
          obtain ⟨dd, hdd, rfl⟩ := List.mem_map.mp hx
          obtain ⟨jj, ej⟩ := List.getElem?_of_mem hdd
          have s47 := s46.trans s7
          have ll7 := ll.sb v4 s47
          obtain ⟨r, er, hr⟩ := paired_get ll7.2 ej
          have hr : H7 dd = some (.lst (r.map V.int)) := hr
          obtain ⟨lr, bd⟩ := okl r (List.mem_of_getElem? er)
          refine ⟨_, rfl, .inl ⟨rfl, _, SqL.of ll7.1⟩, ?_⟩
          dsimp only [tCons, tNil]
          refine tIf_key (fun v H9 => ∃ D q', v = .ref D ∧ SB p H7 H9 ∧ Lens H9 p (n + 2 + 18 * i + 3) ∧ RowL H9 D q' ∧ q'.length = k ∧ ∀ x ∈ q', -G9 ≤ x ∧ x ≤ G9) (fun Q' hQ => ?_) (fun v H9 hG => ?_)
          · refine ⟨_, rfl, p, 2, _, rfl, v7, by omega, by decide, by decide, fun H8 y s8 v8 y0 y9 => ?_⟩
            have hr8 : H8 dd = some (.lst (r.map V.int)) := s8.1 _ _ (v7.not_ints hr) hr
            refine ⟨rfl, _, rfl, ?_⟩
            by_cases hy : y = 0
            · rw [decide_eq_true (show V.int y = V.int 0 by rw [hy])]
              refine iteT (lcv (a := dd) (xs := r.map V.int) (ys := (neg r).map V.int) (fun Q' q' => ⟨_, rfl, q'⟩) (.inl hr8) (by unfold neg; rw [List.length_map, List.length_map, List.length_map]) (by rw [List.length_map]; omega) (fun D ii x y2 H' hD hx2 hy2 s9 T N t => ?_) (fun D H9 hD s9 hd => ?_))
              · obtain ⟨e, ee, rfl⟩ := get_map hx2
                obtain ⟨z, ez, rfl⟩ := get_map hy2
                unfold neg at ez
                obtain ⟨e', ee', rfl⟩ := get_map ez
                obtain rfl : e = e' := Option.some.inj (ee.symm.trans ee')
                exact ⟨rfl, yes_of ⟨_, rfl, e, rfl, t _ Same.me⟩⟩
              · refine hQ _ _ ⟨D, neg r, rfl, s8.trans (SB.of s9), (v8.same s9).le (by omega), hd, by unfold neg; rw [List.length_map]; exact lr, fun x hx => ?_⟩
                unfold neg at hx
                obtain ⟨e, he, rfl⟩ := List.mem_map.mp hx
                have := bd e he
                exact ⟨by omega, by omega⟩
            · rw [decide_eq_false (show ¬ V.int y = V.int 0 from fun z => hy (V.int.inj z))]
              have e9 : (10 : Int) ^ (Int.toNat 9) = 1000000000 := by decide
              refine iteF (lcv (a := dd) (xs := r.map V.int) (ys := (r.map fun e => if (1000000000 : Int) < e + 5 then 1000000000 else e + 5).map V.int) (fun Q' q' => ⟨_, rfl, q'⟩) (.inl hr8) (by rw [List.length_map, List.length_map, List.length_map]) (by rw [List.length_map]; omega) (fun D ii x y2 H' hD hx2 hy2 s9 T N t => ?_) (fun D H9 hD s9 hd => ?_))
              · obtain ⟨e, ee, rfl⟩ := get_map hx2
                obtain ⟨z, ez, rfl⟩ := get_map hy2
                obtain ⟨e', ee', rfl⟩ := get_map ez
                obtain rfl : e = e' := Option.some.inj (ee.symm.trans ee')
                refine ⟨rfl, yes_of ⟨_, rfl, _, _, rfl, rfl, _, _, rfl, rfl, ⟨by decide, by decide, by decide⟩, _, _, rfl, ?_⟩⟩
                rw [e9]
                exact t _ Same.me
              · refine hQ _ _ ⟨D, _, rfl, s8.trans (SB.of s9), (v8.same s9).le (by omega), hd, by rw [List.length_map]; exact lr, fun x hx => ?_⟩
                obtain ⟨e, he, rfl⟩ := List.mem_map.mp hx
                have := bd e he
                split <;> omega
          · obtain ⟨D, q', rfl, s79, v9, hD, lr', bd'⟩ := hG
            obtain ⟨f1, f2, f3⟩ := fin H9 D q' _ _ _ _ (s47.trans s79) (v9.le (by omega)) hD lr' bd'
            exact ⟨g, _, _, rfl, rfl, f1.1, f2, f3⟩
      · rw [decide_eq_false (show ¬ V.int d5 = V.int 0 from fun z => h0 (V.int.inj z))]
        have ll5 := ll.sb v4 s5
        refine iteF (iteF ⟨_, rfl, .inl ⟨rfl, _, SqL.of ll5.1⟩, _, rfl, _, rfl, p, _, k, rfl, v5, by omega, by omega, hk7, fun H8 a ns s8 v8 na hD lr bd => ?_⟩)
        obtain ⟨f1, f2, f3⟩ := fin H8 a ns _ _ _ _ (s5.trans s8) (v8.le (by omega)) hD lr bd
        exact ⟨g, _, _, rfl, rfl, f1.1, f2, f3⟩
    · obtain ⟨s4, v4, ⟨x3, x4, x5, x6, rfl⟩, ds, rs, ll, li, okl⟩ := pv
      refine ⟨_, rfl, q _ g ds rs k s4 (v4.le (by omega)) ngH ll hk3 hk7 okl (fun z => ?_) (by omega)⟩
      rw [z] at li
      exact absurd li (by show ¬ 0 = mm; omega)
end
end K19

namespace K19
open PySem PySem.Spec PyProof.Rows L2
/-! ### the lots, as the law finds them -/
/-- the places of the lots of this key -/
def ownN (k : List Int) (g : Lots) : List Nat := (List.range g.length).filter fun j => decide ((g.getD j ([], [])).1 = k)
theorem ownN_cons (k : List Int) (p : List Int × List Nat) (g : Lots) : ownN k (p :: g) = (if p.1 = k then [0] else []) ++ (ownN k g).map (· + 1) := by
  unfold ownN
  have e : List.range (p :: g).length = 0 :: (List.range g.length).map (· + 1) := List.range_succ_eq_map
  rw [e, List.filter_cons, List.filter_map]
  have e2 : ((fun j => decide ((((p :: g).getD j ([], [])).1) = k)) ∘ fun x => x + 1) = fun j => decide ((g.getD j ([], [])).1 = k) := by
    funext j
    rfl
  rw [e2]
  show (if decide (p.1 = k) = true then _ else _) = _
  by_cases h : p.1 = k
  · rw [if_pos (decide_eq_true h), if_pos h]
    rfl
  · rw [if_neg (fun z => h (of_decide_eq_true z)), if_neg h]
    rfl
theorem own_look (k : List Int) (i : Nat) : ∀ g : Lots, (ownN k g = [] ∧ addK k i g = g ++ [(k, [i])]) ∨ (∃ j rest l0, ownN k g = j :: rest ∧ g[j]? = some (k, l0) ∧ addK k i g = g.take j ++ [(k, l0 ++ [i])] ++ g.drop (j + 1))
  | [] => .inl ⟨rfl, rfl⟩
  | p :: g => by
    obtain ⟨q, l0⟩ := p
    rw [ownN_cons]
    by_cases h : q = k
    · subst h
      refine .inr ⟨0, (ownN q g).map (· + 1), l0, by rw [if_pos rfl]; rfl, rfl, ?_⟩
      show (if q = q then (q, l0 ++ [i]) :: g else _) = _
      rw [if_pos rfl]
      rfl
    · have ea : addK k i ((q, l0) :: g) = (q, l0) :: addK k i g := by
        show (if q = k then _ else (q, l0) :: addK k i g) = _
        rw [if_neg h]
      rw [if_neg (show ¬ (q, l0).1 = k from h), List.nil_append, ea]
      rcases own_look k i g with ⟨h1, h2⟩ | ⟨j, rest, l1, h1, h2, h3⟩
      · exact .inl ⟨by rw [h1]; rfl, by rw [h2]; rfl⟩
      · exact .inr ⟨j + 1, rest.map (· + 1), l1, by rw [h1]; rfl, h2, by rw [h3]; rfl⟩
/-- each lot begins with a row of its key -/
def HeadK (ks : List (List Int)) (i : Nat) (g : Lots) : Prop := ∀ p ∈ g, ∃ m t, p.2 = m :: t ∧ m < i ∧ ks[m]? = some p.1
theorem headK (ks : List (List Int)) : ∀ i, i ≤ ks.length → HeadK ks i (grpN ks i)
  | 0, _ => fun p h => by cases h
  | i + 1, hi => by
    have ih := headK ks i (by omega)
    have ek : ks[i]? = some (ks.getD i []) := by
      rw [List.getD_eq_getElem?_getD, List.getElem?_eq_getElem (show i < ks.length by omega)]
      rfl
    have : ∀ g : Lots, HeadK ks i g → HeadK ks (i + 1) (addK (ks.getD i []) i g) := fun g => by
      induction g with
      | nil =>
        intro _ p hp
        rw [List.mem_singleton.mp hp]
        exact ⟨i, [], rfl, Nat.lt_succ_self _, ek⟩
      | cons q g ih2 =>
        intro hg p hp
        have hp : p ∈ (if q.1 = ks.getD i [] then (q.1, q.2 ++ [i]) :: g else q :: addK (ks.getD i []) i g) := hp
        split at hp
        · rcases List.mem_cons.mp hp with rfl | hp
          · obtain ⟨m, t, e1, e2, e3⟩ := hg q List.mem_cons_self
            exact ⟨m, t ++ [i], by rw [e1]; rfl, by omega, e3⟩
          · obtain ⟨m, t, e1, e2, e3⟩ := hg p (List.mem_cons_of_mem _ hp)
            exact ⟨m, t, e1, by omega, e3⟩
        · rcases List.mem_cons.mp hp with rfl | hp
          · obtain ⟨m, t, e1, e2, e3⟩ := hg p List.mem_cons_self
            exact ⟨m, t, e1, by omega, e3⟩
          · exact ih2 (fun r hr => hg r (List.mem_cons_of_mem _ hr)) p hp
    exact this _ ih
theorem lots_same {H H' : Hp} {ls : List Addr} {g : Lots} (h : Paired (LotAt H) ls g) (s : Same H H') : Paired (LotAt H') ls g := paired_mono h fun _ _ z => s _ _ z
theorem drop_paired {α β : Type} {R : α → β → Prop} {xs : List α} {ys : List β} (h : Paired R xs ys) (n : Nat) : Paired R (xs.drop n) (ys.drop n) := (paired_take h n).2
section
variable {P : Program} {w : World} {K : PySem.W.Frag} {mg : Str → Option Value} {base : Heap}
/-! ### _law_lots -/
def spLo : Sp := fun vs H Q _ => ∃ (a : Addr) (ds : List Addr) (rs : List (List Int)) (k : Nat), vs = [.ref a] ∧ LLr H a ds rs ∧ OkL k rs ∧ 1 ≤ k ∧ k ≤ 7 ∧ rs.length ≤ 8 ∧ ∀ H' b, Same H H' → TRw H' b (kinLots (rs.map stp)) → Q (.ref b) H'
abbrev sLo : Stmt := top 48
abbrev nLo : List Str := ["_law_rows_here", "_law_steps_here", "_law_found", "_law_number_here", "_law_row", "_law_own", "_law_at", "_law_lot", "_law_places_here"]
theorem scLo : FnScope nLo ["_law_rows_here"] (defScope sLo) := ⟨rfl, rfl, rfl, by decide +kernel, rfl, by decide +kernel, by decide +kernel⟩
theorem ok_lo {f : Addr} {fd : FuncData} (F : Fun K "_law_lots" "_law_lots" sLo f fd) (B : Bn mg) (C1 : Callee P w K mg base CX0 1 "_law_steps" ["_law_places_here"] spSt) (C2 : Callee P w K mg base CX0 1 "_law_are_kin" ["_law_one", "_law_other"] spKi) : FnOk P w K mg base CX0 2 f fd ["_law_rows_here"] spLo := by
  obtain ⟨f1, fd1, m1, k1, b1, G1⟩ := C1
  obtain ⟨f2, fd2, m2, k2, b2, G2⟩ := C2
  have nd := scLo.nd
  refine F.ok scLo (fun vs H Q E h => ?_) (fun cdv A outer s H vs Q E hr h => ?_)
  · obtain ⟨a, ds, rs, k, rfl, _⟩ := h
    rfl
  · obtain ⟨a, ds, rs, k, rfl, ll, okl, hk1, hk7, l8, q⟩ := h
    refine ⟨_, (pss_cons (ps_asg (pe_tup (pa_cons ((pe_lc (own := [("_law_places_here", 8)]) (g := gName 8) (tt := tYes) rfl nd (pi_sq K (pv 0)) (blkOk_by (N := nLo) (sc := defScope sLo) (by decide +kernel)) (fun _ _ _ _ _ => (pg_name (i := 8) nd rfl (Or.inl rfl))) (fun _ _ _ _ _ => pts_nil) (fun _ _ _ _ _ => (pe_call G1 (hr.mono (by decide)) rfl m1 k1 b1 .nil pass0 (pa_cons (pv 8) pa_nil))))) (pa_cons (pe_lst pa_nil) pa_nil))) (pg_tup rfl (pgs_cons ((pg_name (i := 1) nd rfl (Or.inr rfl))) (pgs_cons ((pg_name (i := 2) nd rfl (Or.inr rfl))) pgs_nil)))) (pss_cons (ps_for PassesOwn.never rfl (pi_enum rfl B.enumerate (pa_cons (pv 1) pa_nil)) (pg_tup rfl (pgs_cons ((pg_name (i := 3) nd rfl (Or.inl rfl))) (pgs_cons ((pg_name (i := 4) nd rfl (Or.inr rfl))) pgs_nil)))
        (pss_cons (ps_setLc (i := 5) (own := [("_law_at", 6)]) (g := gName 6) rfl nd rfl rfl (sw_true rfl rfl rfl (by decide +kernel)) (pi_range1 rfl B.range (pa_cons ((pe_callB call_len_seq (by rfl) B.len PySem.boot_len (pa_cons (pv 2) pa_nil))) pa_nil)) (blkOk_by (N := nLo) (sc := defScope sLo) (by decide +kernel)) (fun _ _ _ _ _ => (pg_name (i := 6) nd rfl (Or.inl rfl))) (fun _ _ _ _ _ => pts_one (pt_val (pe_call G2 (hr.mono (by decide)) rfl m2 k2 b2 .nil pass0 (pa_cons ((pe_ix (r := rIxL K) ix_listK (pv 1) ((pe_ix (r := rIxL K) ix_listK ((pe_ix (r := rIxL K) ix_listK (pv 2) (pv 6) (fun _ _ => rfl))) (pe_int) (fun _ _ => rfl))) (fun _ _ => rfl))) (pa_cons (pv 4) pa_nil))))) (fun _ _ _ _ _ => pv 6)) (pss_one ((ps_set (i := 2) nd rfl (Or.inr rfl) (pe_ifExp (pt_cmpR (op_neD hr.units) (pv 5) (pe_lst pa_nil) (nomark _)) (pe_op op_cat (pe_op op_cat (pe_slice (r := rSlL K) sl_listK (pv 2) (po_none) (po_some (pe_ix ix_list (pv 5) (pe_int) (fun _ _ => rfl)))) (pe_lst (pa_cons (pe_op op_cat (pe_ix ix_list (pv 2) ((pe_ix ix_list (pv 5) (pe_int) (fun _ _ => rfl))) (fun _ _ => rfl)) (pe_lst (pa_cons (pv 3) pa_nil))) pa_nil))) (pe_slice (r := rSlL K) sl_listK (pv 2) (po_some (pe_op op_add (pe_ix ix_list (pv 5) (pe_int) (fun _ _ => rfl)) pe_int)) (po_none))) (pe_op op_cat (pv 2) (pe_lst (pa_cons (pe_lst (pa_cons (pv 3) pa_nil)) pa_nil))))))))) (pss_one (ps_ret (pe_callTy (T := "tuple") (r := rTu K) call_tuK (by rfl) B.tuple (by decide +kernel) (pa_cons ((pe_lc (own := [("_law_lot", 7)]) (g := gName 7) (tt := tYes) rfl nd (pi_sq K (pv 2)) (blkOk_by (N := nLo) (sc := defScope sLo) (by decide +kernel)) (fun _ _ _ _ _ => (pg_name (i := 7) nd rfl (Or.inl rfl))) (fun _ _ _ _ _ => pts_nil) (fun _ _ _ _ _ => (pe_callTy (T := "tuple") (r := rTu K) call_tuK (by rfl) B.tuple (by decide +kernel) (pa_cons (pv 7) pa_nil))))) pa_nil)))))), ?_⟩
    have lds : ds.length = rs.length := ll.len
    dsimp only [tSeq, tAsg, tTup, tCons]
    refine lcg (a := a) (xs := ds.map V.ref) (Good := isRowL) (bs := rs.map stp) (fun Q' q' => ⟨_, rfl, q'⟩) (.inl ll.1) (by rw [List.length_map, List.length_map, lds]) (by rw [List.length_map]; omega) (fun D i x r' H' hD hx hr' s2 ⟨acc, hacc⟩ T' N t' => ?_) (fun S gs H1 hS s1 hs nm pg => ?_)
    · obtain ⟨d, ed, rfl⟩ := get_map hx
      obtain ⟨r, er, hr⟩ := paired_get ll.2 ed
      obtain ⟨r2, er2, rfl⟩ := get_map hr'
      obtain rfl : r = r2 := Option.some.inj (er.symm.trans er2)
      have okr := okl r (List.mem_of_getElem? er)
      refine ⟨rfl, yes_of ?_⟩
      refine ⟨_, rfl, d, r, rfl, s2 _ _ hr, okl.ne hk1 r (List.mem_of_getElem? er), by rw [okr.1]; omega, fun H3 D3 s3 n3 h3 => ?_⟩
      exact t' D3 _ _ (fun z => by rw [z, hacc] at n3; cases n3) s3 h3 rfl
    have hsl : LLr H1 S gs (rs.map stp) := ⟨hs, paired_mono pg fun _ _ ⟨o, h, gd⟩ => by unfold isRowL at gd; subst gd; exact h⟩
    have lgs : gs.length = rs.length := by rw [hsl.len, List.length_map]
    refine ⟨by show 0 ≤ sizeLine; decide, fun F nF => ?_⟩
    have sF := same_new (o := .lst []) nF
    have gF : upd H1 F (.lst []) F = some (.lst []) := upd_same
    generalize upd H1 F (.lst []) = H2 at sF gF ⊢
    refine ⟨by show 2 ≤ sizeLine; decide, fun T nT => ?_⟩
    have sT := same_new (o := .tup [V.ref S, V.ref F]) nT
    have gT : upd H2 T (.tup [V.ref S, V.ref F]) T = some (.tup [V.ref S, V.ref F]) := upd_same
    generalize upd H2 T (.tup [V.ref S, V.ref F]) = H3 at sT gT ⊢
    refine ⟨T, _, rfl, SqT.of gT, rfl, _, _, rfl, _, _, rfl, rfl, ?_⟩
    have s13 := sF.trans sT
    have hs3 := hsl.same s13
    have s03 := s1.trans s13
    refine ⟨_, rfl, S, _, rfl, SqL.of hs3.1, ?_⟩
    generalize hss : rs.map stp = ss at hs3 q
    have lss : ss.length = rs.length := by rw [← hss, List.length_map]
    have lss7 : ∀ r ∈ ss, r.length ≤ 7 := fun r hr => by
      rw [← hss] at hr
      obtain ⟨r0, h0, rfl⟩ := List.mem_map.mp hr
      rw [stp_len, (okl r0 h0).1]
      omega
    generalize hks : ss.map either = ks
    have lks : ks.length = rs.length := by rw [← hks, List.length_map, lss]
    refine for_enum (K := K) (a := S) (xs := gs.map V.ref) (fun i σ H' => Same H3 H' ∧ (∃ (F' : Addr) (x3 x4 x5 x6 x7 x8 : Option V) (ls : List Addr), σ = [some (.ref a), some (.ref S), some (.ref F'), x3, x4, x5, x6, x7, x8] ∧ H' F' = some (.lst (ls.map V.ref)) ∧ Paired (LotAt H') ls (grpN ks i))) ⟨Same.me, F, _, _, _, _, _, _, [], rfl, sT _ _ gF, .nil⟩ (fun i _ H' _ p => SqL.of (p.1 _ _ hs3.1)) (fun i y σ H' T2 hx p nT2 => ?_) (fun σ H' p => ?_)
    · obtain ⟨s4, ⟨F', x3, x4, x5, x6, x7, x8, ls, rfl, hF, pl⟩⟩ := p
      obtain ⟨t, et, rfl⟩ := get_map hx
      obtain ⟨r, er, hr⟩ := paired_get hs3.2 et
      have hr : H3 t = some (.lst (r.map V.int)) := hr
      have hi : i < ss.length := (List.getElem?_eq_some_iff.mp er).1
      have s5 := same_new (o := .tup [V.int (i : Nat), V.ref t]) nT2; have gT2 : upd H' T2 (.tup [V.int (i : Nat), V.ref t]) T2 = some (.tup [V.int (i : Nat), V.ref t]) := upd_same; generalize upd H' T2 (.tup [V.int (i : Nat), V.ref t]) = H5 at s5 gT2 ⊢
      have s35 := s4.trans s5
      have hF5 := s5 _ _ hF
      have pl5 := lots_same pl s5
      have hr5 := s35 _ _ hr
      have hS5 := s35 _ _ hs3.1
      have lls : ls.length = (grpN ks i).length := Paired.length pl
      have gle := grp_le ks i
      have hk := headK ks i (by omega)
      have hle := lot_le ks i
      have eki : ks.getD i [] = either r := by
        rw [← hks, List.getD_eq_getElem?_getD, List.getElem?_map, er]
        rfl
      have ega : grpN ks (i + 1) = addK (either r) i (grpN ks i) := by
        show addK (ks.getD i []) i (grpN ks i) = _
        rw [eki]
      generalize eg : grpN ks i = g at pl5 lls gle hk hle ega
      refine ⟨T2, _, rfl, SqT.of gT2, rfl, _, _, rfl, _, _, rfl, rfl, ?_⟩
      refine ⟨_, rfl, F', _, rfl, .inl (SqL.of hF5), _, rfl, by omega, by rw [List.length_map]; omega, fun D hD => ?_⟩
      rw [Int.toNat_natCast, List.length_map]
      refine lc_range (lo := 0) (n := ls.length) (fun j H6 => At H5 D (nV ((List.range j).filter fun x => decide ((g.getD x ([], [])).1 = either r))) H6) ⟨same_new hD, upd_same⟩ (fun j H6 hj p6 => ?_) (fun H6 p6 => ?_)
      · have hjg : j < g.length := by omega
        obtain ⟨l, el, hl⟩ := paired_of pl5 (List.getElem?_eq_getElem hjg)
        have hl : H5 l = some (.lst (nV g[j].2)) := hl
        obtain ⟨m, tt, em, hmi, ekm⟩ := hk g[j] (List.getElem_mem _)
        have hms : m < ss.length := by omega
        obtain ⟨e, ee, he⟩ := paired_of hs3.2 (List.getElem?_eq_getElem hms)
        have he : H3 e = some (.lst (ss[m].map V.int)) := he
        have eq1 : either ss[m] = g[j].1 := by
          rw [← hks, List.getElem?_map, List.getElem?_eq_getElem hms] at ekm
          exact Option.some.inj ekm
        have eP : decide ((g.getD j ([], [])).1 = either r) = kinB ss[m] r := by
          rw [kinB_e, eq1, getD_at ([], []) hjg]
        refine ⟨rfl, ?_⟩
        have em0 : atI (nV g[j].2) 0 = some (.int (m : Nat)) := by
          rw [em]
          exact atI_nat (j := 0) rfl
        refine ⟨_, rfl, _, rfl, _, rfl, F', _, _, _, rfl, rfl, SqL.of (p6.1 _ _ hF5), atI_nat (by rw [Nat.zero_add, List.getElem?_map, el]; rfl), l, _, _, _, rfl, rfl, SqL.of (p6.1 _ _ hl), em0, S, _, _, _, rfl, rfl, SqL.of (p6.1 _ _ hS5), atI_nat (by rw [List.getElem?_map, ee]; rfl), _, rfl, ?_⟩
        refine ⟨e, t, ss[m], r, rfl, p6.1 _ _ (s35 _ _ he), p6.1 _ _ hr5, by have := lss7 _ (List.getElem_mem hms); omega, by have := lss7 _ (List.mem_of_getElem? er); omega, fun H7 s7 => ⟨_, rfl, ?_⟩⟩
        have er2 : (List.range (j + 1)).filter (fun x => decide ((g.getD x ([], [])).1 = either r)) = (List.range j).filter (fun x => decide ((g.getD x ([], [])).1 = either r)) ++ (if kinB ss[m] r = true then [j] else []) := by
          rw [List.range_succ, List.filter_append]
          congr 1
          rw [List.filter_cons, eP]
          rfl
        cases hkb : kinB ss[m] r with
        | true =>
          rw [hkb, if_pos rfl] at er2
          refine iteT ⟨_, rfl, _, s7 _ _ p6.2, ?_, p6.step hD s7 ?_⟩
          · rw [nV_len]
            exact small1000 (Nat.le_trans (List.length_filter_le _ _) (by rw [List.length_range]; omega))
          · rw [er2, nV_one, Int.zero_add]
        | false =>
          rw [hkb, if_neg Bool.false_ne_true, List.append_nil] at er2
          rw [er2]
          exact iteF ⟨p6.1.trans s7, s7 _ _ p6.2⟩
      · have e6 : (List.range ls.length).filter (fun x => decide ((g.getD x ([], [])).1 = either r)) = ownN (either r) g := by
          unfold ownN
          rw [lls]
        rw [e6] at p6
        obtain ⟨s56, hD6⟩ := p6
        have hF6 := s56 _ _ hF5
        have pl6 := lots_same pl5 s56
        dsimp only [gName, tSeq, tAsg]
        refine tIf_key (fun v H9 => ∃ (F2 : Addr) (ls2 : List Addr), v = .ref F2 ∧ Same H6 H9 ∧ H9 F2 = some (.lst (ls2.map V.ref)) ∧ Paired (LotAt H9) ls2 (addK (either r) i g)) (fun Q' hQ => ?_) (fun v H9 hG => ?_)
        · refine ⟨_, rfl, by show 0 ≤ sizeLine; decide, fun c nc => ?_⟩
          have s67 := same_new (o := .lst []) nc; have gc : upd H6 c (.lst []) c = some (.lst []) := upd_same; generalize upd H6 c (.lst []) = H7 at s67 gc ⊢
          have hD7 := s67 _ _ hD6
          have hF7 := s67 _ _ hF6
          have pl7 := lots_same pl6 s67
          have d1 : Dp K H7 (.ref D) (PyData.list (((ownN (either r) g).map fun n => ((n : Nat) : Int)).map PyData.int)) := .lst (SqL.of hD7) (int_dp _)
          have d2 : Dp K H7 (.ref c) (PyData.list (([] : List Int).map PyData.int)) := .lst (SqL.of gc) .nil
          refine ⟨_, _, d1, d2, enR_shaped false _, enR_shaped false [], ?_⟩
          have ev : PyData.eqv (PyData.list (((ownN (either r) g).map fun n => ((n : Nat) : Int)).map PyData.int)) (PyData.list (([] : List Int).map PyData.int)) = decide (((ownN (either r) g).map fun n => ((n : Nat) : Int)) = []) := enR_eqv false _ []
          refine ⟨_, rfl, ?_⟩
          rw [ev]
          rcases own_look (either r) i g with ⟨o1, o2⟩ | ⟨j, rest, l0, o1, o2, o3⟩
          · rw [o1, decide_eq_true (show ([] : List Nat).map (fun n => ((n : Nat) : Int)) = [] from rfl)]
            refine iteF ⟨_, rfl, _, rfl, by show 1 ≤ sizeLine; decide, fun c1 n1 => ?_⟩
            have s78 := same_new (o := .lst [V.int (i : Nat)]) n1; have g1 : upd H7 c1 (.lst [V.int (i : Nat)]) c1 = some (.lst [V.int (i : Nat)]) := upd_same; generalize upd H7 c1 (.lst [V.int (i : Nat)]) = H8 at s78 g1 ⊢
            refine ⟨by show 1 ≤ sizeLine; decide, fun c2 n2 => ?_⟩
            have s8a := same_new (o := .lst [V.ref c1]) n2; have g2 : upd H8 c2 (.lst [V.ref c1]) c2 = some (.lst [V.ref c1]) := upd_same; generalize upd H8 c2 (.lst [V.ref c1]) = Ha at s8a g2 ⊢
            have s7a := s78.trans s8a
            refine ⟨F', c2, _, _, rfl, rfl, s7a _ _ hF7, g2, by rw [List.length_map]; exact Nat.le_of_lt (small1000 (by show ls.length + 1 ≤ 1000; omega)), fun c3 n3 => ?_⟩
            have s9 := same_new (o := .lst (ls.map V.ref ++ [V.ref c1])) n3
            refine hQ _ _ ⟨c3, ls ++ [c1], rfl, (s67.trans s7a).trans s9, by rw [upd_same, List.map_append]; rfl, ?_⟩
            rw [o2]
            exact paired_snoc (lots_same pl7 (s7a.trans s9)) (s9 _ _ (s8a _ _ g1))
          · have jg : j < g.length := (List.getElem?_eq_some_iff.mp o2).1
            have hj : atI (nV (ownN (either r) g)) 0 = some (.int (j : Nat)) := by
              rw [o1]
              exact atI_nat (j := 0) rfl
            obtain ⟨l, el, hl⟩ := paired_of pl7 o2
            have hl : H7 l = some (.lst (nV l0)) := hl
            have l9 : l0.length ≤ 8 := by
              have := hle (either r, l0) (List.mem_of_getElem? o2)
              exact Nat.le_trans this (by omega)
            have hjl : atI (ls.map V.ref) (j : Int) = some (.ref l) := atI_nat (by rw [List.getElem?_map, el]; rfl)
            rw [decide_eq_false (show ¬ (ownN (either r) g).map (fun n => ((n : Nat) : Int)) = [] from fun z => by rw [o1] at z; cases z)]
            refine iteT ⟨_, rfl, _, rfl, D, _, _, _, rfl, rfl, SqL.of hD7, hj, _, rfl, F', _, rfl, SqL.of hF7, fun c1 n1 => ?_⟩
            rw [cut_to (by rw [List.length_map]; omega)]
            have s78 := same_new (o := .lst ((ls.map V.ref).take j)) n1; have g1 : upd H7 c1 (.lst ((ls.map V.ref).take j)) c1 = some (.lst ((ls.map V.ref).take j)) := upd_same; generalize upd H7 c1 (.lst ((ls.map V.ref).take j)) = H8 at s78 g1 ⊢
            have s7 := s78
            refine ⟨_, rfl, _, rfl, D, _, _, _, rfl, rfl, SqL.of (s7 _ _ hD7), hj, F', _, _, _, rfl, rfl, SqL.of (s7 _ _ hF7), hjl, _, rfl, by show 1 ≤ sizeLine; decide, fun c2 n2 => ?_⟩
            have s8a := same_new (o := .lst [V.int (i : Nat)]) n2; have g2 : upd H8 c2 (.lst [V.int (i : Nat)]) c2 = some (.lst [V.int (i : Nat)]) := upd_same; generalize upd H8 c2 (.lst [V.int (i : Nat)]) = Ha at s8a g2 ⊢
            have s7a := s7.trans s8a
            refine ⟨l, c2, _, _, rfl, rfl, s7a _ _ hl, g2, by rw [nV_len]; exact Nat.le_of_lt (small1000 (by show l0.length + 1 ≤ 1000; omega)), fun c3 n3 => ?_⟩
            rw [← nV_one]
            have sab := same_new (o := .lst (nV (l0 ++ [i]))) n3; have g3 : upd Ha c3 (.lst (nV (l0 ++ [i]))) c3 = some (.lst (nV (l0 ++ [i]))) := upd_same; generalize upd Ha c3 (.lst (nV (l0 ++ [i]))) = Hb at sab g3 ⊢
            refine ⟨by show 1 ≤ sizeLine; decide, fun c4 n4 => ?_⟩
            have sbc := same_new (o := .lst [V.ref c3]) n4; have g4 : upd Hb c4 (.lst [V.ref c3]) c4 = some (.lst [V.ref c3]) := upd_same; generalize upd Hb c4 (.lst [V.ref c3]) = Hc at sbc g4 ⊢
            have s8c := (s8a.trans sab).trans sbc
            refine ⟨c1, c4, _, _, rfl, rfl, s8c _ _ g1, g4, by rw [List.length_take, List.length_map]; exact Nat.le_of_lt (small1000 (by show min j ls.length + 1 ≤ 1000; omega)), fun c5 n5 => ?_⟩
            have scd := same_new (o := .lst ((ls.map V.ref).take j ++ [V.ref c3])) n5; have g5 : upd Hc c5 (.lst ((ls.map V.ref).take j ++ [V.ref c3])) c5 = some (.lst ((ls.map V.ref).take j ++ [V.ref c3])) := upd_same; generalize upd Hc c5 (.lst ((ls.map V.ref).take j ++ [V.ref c3])) = Hd at scd g5 ⊢
            have s7d := (s7.trans s8c).trans scd
            refine ⟨_, rfl, _, rfl, D, _, _, _, rfl, rfl, SqL.of (s7d _ _ hD7), hj, _, _, rfl, rfl, _, rfl, F', _, rfl, SqL.of (s7d _ _ hF7), fun c6 n6 => ?_⟩
            have ej1 : ((j : Nat) : Int) + 1 = ((j + 1 : Nat) : Int) := by omega
            rw [ej1, cut_from (by rw [List.length_map]; omega)]
            have sde := same_new (o := .lst ((ls.map V.ref).drop (j + 1))) n6; have g6 : upd Hd c6 (.lst ((ls.map V.ref).drop (j + 1))) c6 = some (.lst ((ls.map V.ref).drop (j + 1))) := upd_same; generalize upd Hd c6 (.lst ((ls.map V.ref).drop (j + 1))) = He at sde g6 ⊢
            refine ⟨c5, c6, _, _, rfl, rfl, sde _ _ g5, g6, by rw [List.length_append, List.length_take, List.length_drop, List.length_map]; exact Nat.le_of_lt (small1000 (by show min j ls.length + 1 + (ls.length - (j + 1)) ≤ 1000; omega)), fun c7 n7 => ?_⟩
            have s9 := same_new (o := .lst ((ls.map V.ref).take j ++ [V.ref c3] ++ (ls.map V.ref).drop (j + 1))) n7
            have s7e := (s7d.trans sde).trans s9
            refine hQ _ _ ⟨c7, ls.take j ++ [c3] ++ ls.drop (j + 1), rfl, s67.trans s7e, by rw [upd_same, List.map_append, List.map_append, List.map_take, List.map_drop]; rfl, ?_⟩
            rw [o3]
            have p7 := lots_same pl7 s7e
            exact paired_app (paired_app (paired_take p7 j).1 (.cons (((sbc.trans scd).trans (sde.trans s9)) _ _ g3) .nil)) (paired_take p7 (j + 1)).2
        · obtain ⟨F2, ls2, rfl, s69, hF9, pl9⟩ := hG
          refine ⟨(s35.trans s56).trans s69, F2, _, _, _, _, _, _, ls2, rfl, hF9, ?_⟩
          rw [ega]
          exact pl9
    · obtain ⟨s4, F', x3, x4, x5, x6, x7, x8, ls, rfl, hF, pl⟩ := p
      have ell : (gs.map V.ref).length = ks.length := by rw [List.length_map, lgs, lks]
      rw [ell] at pl
      have lls : ls.length = (grpN ks ks.length).length := Paired.length pl
      have gle := grp_le ks ks.length
      try dsimp only [tNext, tRet, tCB, tCons, tNil, tNot, tB, tOr, tSeq, tIfS, sFld]
      refine lcg (a := F') (xs := ls.map V.ref) (Good := fun o p => o = .tup (nV p.2)) (bs := grpN ks ks.length) (fun Q' q' => ⟨_, rfl, q'⟩) (.inl hF) (by rw [List.length_map, lls]) (by rw [List.length_map]; omega) (fun D i x p0 H5 hD hx hp s5 ⟨acc, hacc⟩ T' N t' => ?_) (fun D us H5 hD s5 hd nm5 pu => ?_)
      · obtain ⟨l, el, rfl⟩ := get_map hx
        obtain ⟨p1, ep1, hl⟩ := paired_get pl el
        obtain rfl : p1 = p0 := Option.some.inj (ep1.symm.trans hp)
        have hl : H' l = some (.lst (nV p1.2)) := hl
        refine ⟨rfl, yes_of ?_⟩
        exact ⟨_, rfl, l, _, rfl, .inl ⟨SqL.of (s5 _ _ hl), fun c hc => t' c _ _ (fun z => by rw [z, hacc] at hc; cases hc) (same_new hc) upd_same rfl⟩⟩
      · refine ⟨D, _, rfl, .inl ⟨SqL.of hd, fun t nt => ?_⟩⟩
        have st := same_new (o := .tup (us.map V.ref)) nt
        refine q _ t (((s03.trans s4).trans s5).trans st) ?_
        unfold kinLots
        rw [hks]
        refine ⟨us, upd_same, ?_⟩
        have all : ∀ {as : List Addr} {bs : Lots}, Paired (fun r b => ∃ o, H5 r = some o ∧ o = .tup (nV b.2)) as bs → Paired (RowT (upd H5 t (.tup (us.map V.ref)))) as (bs.map fun p => lotI p.2) := fun {as bs} p => by
          induction p with
          | nil => exact .nil
          | cons z _ ih =>
            obtain ⟨o, e1, e2⟩ := z
            subst e2
            exact .cons (st _ _ e1) ih
        exact all pu
end
end K19

namespace K19
open PySem PySem.Spec PyProof.Rows L2
def chS (c : Nat) : V := .str ⟨#[c]⟩
theorem lc_str {z : Str} {g : TG} {tt : TT} {te : TE} {vs : List Nat} {σ : L2.St} {H1 : Hp} {D : Addr} {Qd : Hp → Prop} (Pv : Nat → Hp → Prop) (h0 : Pv 0 (upd H1 D (.lst [])))
    (hs : ∀ i c H, z.cps.toList[i]? = some c → Pv i H → g (chS c) (wipe σ vs) H fun σ2 H2 => wipe σ2 vs = wipe σ vs ∧ tt σ2 H2 fun b H3 =>
      if b = true then te σ2 H3 fun y H4 => ∃ acc, H4 D = some (.lst acc) ∧ acc.length < sizeLine ∧ Pv (i + 1) (upd H4 D (.lst (acc ++ [y]))) else Pv (i + 1) H3) (hd : ∀ H, Pv z.cps.toList.length H → Qd H) :
    ∃ W : Nat → Nat → Hp → Prop, (∃ m, W 0 m (upd H1 D (.lst []))) ∧ ∀ i m H, W i m H →
      ((L2.Its z).stop i H ∧ Qd H) ∨ ((L2.Its z).go i H ∧ ∃ Nx : Hp → Prop, (∀ H', Nx H' → ∃ m', m' < m ∧ W (i + 1) m' H') ∧ ∀ x H', (L2.Its z).yld i H x H' → g x (wipe σ vs) H' fun σ2 H2 => wipe σ2 vs = wipe σ vs ∧ tt σ2 H2 fun b H3 =>
        if b = true then te σ2 H3 fun y H4 => ∃ acc, H4 D = some (.lst acc) ∧ acc.length < sizeLine ∧ Nx (upd H4 D (.lst (acc ++ [y]))) else Nx H3) := by
  have el : z.cps.toList.length = z.cps.size := Array.length_toList
  refine ⟨fun i m H => m = z.cps.size - i ∧ i ≤ z.cps.size ∧ Pv i H, ⟨z.cps.size, by simp, Nat.zero_le _, h0⟩, ?_⟩
  rintro i m H ⟨rfl, hi, p⟩
  by_cases hlt : i < z.cps.size
  · refine .inr ⟨hlt, Pv (i + 1), fun H' p' => ⟨z.cps.size - (i + 1), by omega, rfl, hlt, p'⟩, fun x H' y => ?_⟩
    obtain ⟨rfl, c, hc, rfl⟩ := y
    exact hs i c _ (by rw [Array.getElem?_toList]; exact hc) p
  · have e : i = z.cps.size := by omega
    subst e
    exact .inl ⟨Nat.le_refl _, hd H (by rw [el]; exact p)⟩
theorem dig_mem (c : Nat) : decide (c ∈ (PySem.Str.ofString "0123456789").cps.toList) = isDg c := by
  have e : (PySem.Str.ofString "0123456789").cps.toList = [48, 49, 50, 51, 52, 53, 54, 55, 56, 57] := rfl
  rw [e]
  unfold isDg
  rw [Bool.eq_iff_iff, decide_eq_true_iff, Bool.and_eq_true, decide_eq_true_iff, decide_eq_true_iff]
  simp only [List.mem_cons, List.not_mem_nil, or_false]
  omega
def chD (c : Nat) : PyData := .str ⟨#[c]⟩
theorem dp_ch {K : PySem.W.Frag} {H : Hp} : ∀ l : List Nat, DpAll K H (l.map chS) (l.map chD)
  | [] => .nil
  | _ :: l => .cons (.str _) (dp_ch l)
def Cks (its : Its) : Prop := ∀ a ∈ its, ∀ c ∈ a, c < 1114112
theorem ch_lay : ∀ l : List Nat, (∀ c ∈ l, c < 1114112) → PyData.canLayAll0 (l.map chD) = true ∧ PyData.depthAll (l.map chD) ≤ 1
  | [], _ => ⟨rfl, by decide⟩
  | c :: l, h => by
    obtain ⟨h1, h2⟩ := ch_lay l fun z hz => h z (List.mem_cons_of_mem _ hz)
    refine ⟨?_, ?_⟩
    · show (PyData.canLay0 (chD c) && PyData.canLayAll0 (l.map chD)) = true
      rw [h1, Bool.and_true]
      show (#[c] : Array Nat).all (fun z => decide (z < 1114112)) = true
      have := h c List.mem_cons_self
      simp [this]
    · show max (PyData.depth (chD c)) (PyData.depthAll (l.map chD)) ≤ 1
      exact Nat.max_le.mpr ⟨by show 0 ≤ 1; decide, h2⟩
theorem ch_sh (l : List Nat) (h : ∀ c ∈ l, c < 1114112) : SeqAt.shaped (.list (l.map chD)) = true := by
  obtain ⟨h1, h2⟩ := ch_lay l h
  show (PyData.canLayAll0 (l.map chD) && decide (PyData.depthAll (l.map chD) + 1 ≤ 64)) = true
  rw [h1, Bool.true_and, decide_eq_true_iff]
  omega
theorem dgs_sub {a : Cd} {c : Nat} (h : c ∈ dgs a) : c ∈ a := by
  unfold dgs at h
  split at h
  · exact List.mem_of_mem_drop h
  · exact h
theorem filter_all : ∀ l : List Nat, decide ((l.filter fun c => !isDg c) = []) = l.all isDg
  | [] => rfl
  | c :: l => by
    have ih := filter_all l
    rw [List.all_cons, ← ih]
    cases h : isDg c <;> simp [h]
theorem chk_lt {a : Cd} (h : ∀ c ∈ a, c < 1114112) : ∀ c ∈ (dgs a).filter (fun c => !isDg c), c < 1114112 := fun c hc => h c (dgs_sub (List.mem_filter.mp hc).1)
/-- the number or None -/
def rvO : Option Int → V
  | none => .non
  | some n => .int n
section
variable {P : Program} {w : World} {K : PySem.W.Frag} {mg : Str → Option Value} {base : Heap}
/-! ### _law_number -/
def spNuL : Sp := fun vs H Q _ => ∃ a : Cd, vs = [.str (SX.S a)] ∧ a.length ≤ 16000000 ∧ (∀ c ∈ a, c < 1114112) ∧ ∀ H', Same H H' → Q (rvO (num a)) H'
abbrev sNuL : Stmt := top 52
abbrev nNuL : List Str := ["_law_item", "_law_plain", "_law_sign"]
theorem scNuL : FnScope nNuL ["_law_item"] (defScope sNuL) := ⟨rfl, rfl, rfl, by decide +kernel, rfl, by decide +kernel, by decide +kernel⟩
theorem ok_nul {f : Addr} {fd : FuncData} (F : Fun K "_law_number" "_law_number" sNuL f fd) (B : Bn mg) : FnOk P w K mg base CX0 1 f fd ["_law_item"] spNuL := by
  have nd := scNuL.nd
  refine F.ok scNuL (fun vs H Q E h => ?_) (fun cdv A outer s H vs Q E hr h => ?_)
  · obtain ⟨a, rfl, _⟩ := h
    rfl
  · obtain ⟨a, rfl, la, hC, q⟩ := h
    refine ⟨_, (pss_cons ((ps_set (i := 1) nd rfl (Or.inl rfl) (pe_ifExp (pt_cmpR op_eq (pe_slice C8.sl_txt (pv 0) po_none (po_some pe_int)) pe_str (nomark _)) (pe_slice C8.sl_txt (pv 0) (po_some pe_int) po_none) (pv 0)))) (pss_cons (ps_if (PW.pt (pw_or ((pt_cmpR op_eq (pv 1) (pe_str) (nomark _))) (pw_or (pt_cmpR op_gt (pe_callB call_len_str (by rfl) B.len PySem.boot_len (pa_cons (pv 1) pa_nil)) pe_int (nomark _)) (pw_or (pt_cmpR (op_neD hr.units) (pe_lc (own := [("_law_sign", 2)]) (g := gName 2) (tt := tTest (tOp (fun x y H Q => ∃ (c : Nat) (z : Str), x = .str ⟨#[c]⟩ ∧ y = .str z ∧ Q (.bl (!decide (c ∈ z.cps.toList))) H) (tVar 2) (tC (.str (PySem.Str.ofString "0123456789"))))) rfl nd (pi_str (pv 1)) (blkOk_by (N := nNuL) (sc := defScope sNuL) (by decide +kernel)) (fun _ _ _ _ _ => (pg_name (i := 2) nd rfl (Or.inl rfl))) (fun _ _ _ _ _ => pts_one (pt_cmpR op_notIn_sign (pv 2) pe_str rfl)) (fun _ _ _ _ _ => pv 2)) (pe_lst pa_nil) (nomark _)) (pw_or1 ((PW.pt (pw_and ((pt_cmpR op_eq ((pe_ix ix_seq (pv 1) (pe_int) (fun _ _ => rfl))) (pe_str) (nomark _))) (pw_and1 ((pt_cmpR op_ne (pv 0) (pe_str) (nomark _))))))))))))
        (pss_one (ps_ret pe_non)) pss_nil) (pss_one (ps_ret (pe_ifExp (pt_cmpR op_le (pe_callB call_abs (by rfl) B.abs (by decide +kernel) (pa_cons (pe_callTy call_int_str (by rfl) B.int boot_int (pa_cons (pv 0) pa_nil)) pa_nil)) (pe_op op_pow pe_int pe_int) (nomark _)) (pe_callTy call_int_str (by rfl) B.int boot_int (pa_cons (pv 0) pa_nil)) pe_non))))), ?_⟩
    have e45 : PySem.Str.ofString "-" = SX.S [45] := str_S rfl
    have e48 : PySem.Str.ofString "0" = SX.S [48] := str_S rfl
    have e00 : PySem.Str.ofString "" = SX.S [] := str_S rfl
    have lz : (SX.S a).length ≤ sizeLine := by
      rw [SX.S_len]
      show a.length ≤ 2 ^ 24
      omega
    dsimp only [gName, tSeq, tAsg]
    refine tIf_key (fun v H' => v = .str (SX.S (dgs a)) ∧ H' = H) (fun Q hQ => ?_) (fun v H' hG => ?_)
    · refine ⟨_, rfl, 1, rfl, _, rfl, lz, rfl, _, rfl, ?_⟩
      rw [SX.slice_to (by decide), e45, dec_S]
      have e1 : decide (a.take (Int.toNat 1) = [45]) = decide (a.head? = some 45) := by
        cases a with
        | nil => rfl
        | cons c r =>
          show decide ([c] = [45]) = decide (some c = some 45)
          by_cases z : c = 45
          · rw [z]; rfl
          · rw [decide_eq_false fun w => z (List.cons.inj w).1, decide_eq_false fun w => z (Option.some.inj w)]
      rw [e1]
      unfold dgs at hQ
      by_cases c : a.head? = some 45
      · rw [decide_eq_true c]
        rw [if_pos c] at hQ
        exact iteT ⟨_, rfl, 1, rfl, _, rfl, lz, hQ _ _ ⟨by rw [cut1_S], rfl⟩⟩
      · rw [decide_eq_false c]
        rw [if_neg c] at hQ
        exact iteF ⟨_, rfl, hQ _ _ ⟨rfl, rfl⟩⟩
    · obtain ⟨rfl, rfl⟩ := hG
      have ld : (dgs a).length ≤ a.length := by
        unfold dgs
        split
        · rw [List.length_drop]
          omega
        · exact Nat.le_refl _
      have hd : (SX.S (dgs a)).length ≤ sizeLine := by
        rw [SX.S_len]
        show _ ≤ 2 ^ 24
        omega
      have nf : wrt a = false → num a = none := fun z => by
        unfold num
        rw [z]
        rfl
      have no : ∀ H1, Same H' H1 → wrt a = false → Q .non H1 := fun H1 s1 z => by
        have := q H1 s1
        rw [nf z] at this
        exact this
      refine ⟨_, rfl, rfl, _, rfl, ?_⟩
      rw [e00, dec_S]
      by_cases h0 : dgs a = []
      · rw [decide_eq_true h0]
        exact iteT (iteT (no _ Same.me (by unfold wrt; rw [h0]; rfl)))
      rw [decide_eq_false h0]
      have h1 : 1 ≤ (dgs a).length := List.length_pos_iff.mpr h0
      refine iteF ⟨_, rfl, _, rfl, hd, _, _, rfl, rfl, _, rfl, ?_⟩
      rw [SX.S_len]
      by_cases h2 : (dgs a).length ≤ 60
      · rw [decide_eq_false (show ¬ (60 : Int) < (((dgs a).length : Nat) : Int) by omega)]
        refine iteF ⟨_, rfl, _, rfl, fun D hD => ?_⟩
        refine lc_str (z := SX.S (dgs a)) (fun i H1 => Same H' H1 ∧ H1 D = some (.lst ((((dgs a).take i).filter fun c => !isDg c).map chS))) ⟨same_new hD, upd_same⟩ (fun j c H1 hc p => ?_) (fun H1 p => ?_)
        · have hc : (dgs a)[j]? = some c := hc
          refine ⟨rfl, _, rfl, c, _, rfl, rfl, _, rfl, ?_⟩
          rw [dig_mem]
          have et : ((dgs a).take (j + 1)).filter (fun c => !isDg c) = ((dgs a).take j).filter (fun c => !isDg c) ++ [c].filter fun c => !isDg c := by rw [take_more hc, List.filter_append]
          cases hg : isDg c with
          | true =>
            have e0 : [c].filter (fun c => !isDg c) = [] := by simp [hg]
            rw [e0, List.append_nil] at et
            exact iteF ⟨p.1, by rw [et]; exact p.2⟩
          | false =>
            have e0 : [c].filter (fun c => !isDg c) = [c] := by simp [hg]
            rw [e0] at et
            refine iteT ⟨_, rfl, _, p.2, ?_, fun z o e => ?_, ?_⟩
            · rw [List.length_map]
              have := List.length_filter_le (fun c => !isDg c) ((dgs a).take j)
              rw [List.length_take] at this
              show _ < 2 ^ 24
              omega
            · rw [upd_ne (ne_of_none e hD)]
              exact p.1 _ _ e
            · rw [upd_same, et, List.map_append]
              rfl
        · have e1 : (SX.S (dgs a)).cps.toList.length = (dgs a).length := rfl
          rw [e1, List.take_length] at p
          obtain ⟨s1, g1⟩ := p
          refine ⟨by show 0 ≤ sizeLine; decide, fun e he => ?_⟩
          have s2 := same_new (o := .lst []) he
          refine ⟨_, _, .lst (SqL.of (s2 _ _ g1)) (dp_ch _), .lst (SqL.of upd_same) .nil, ch_sh _ (chk_lt hC), by decide, _, rfl, ?_⟩
          have eN : PyData.eqv (.list (((dgs a).filter fun c => !isDg c).map chD)) (.list []) = (dgs a).all isDg := by
            rw [← filter_all]
            cases (dgs a).filter fun c => !isDg c with
            | nil => rfl
            | cons _ _ => rfl
          rw [eN]
          have s12 := s1.trans s2
          cases hB : (dgs a).all isDg with
          | false => exact iteT (iteT (no _ s12 (by unfold wrt; rw [hB]; simp)))
          | true =>
            refine iteF ?_
            obtain ⟨c, r, ed⟩ : ∃ c r, dgs a = c :: r := by
              cases hd' : dgs a with
              | nil => exact absurd hd' h0
              | cons c r => exact ⟨c, r, rfl⟩
            refine ⟨_, rfl, .inr (.inr ⟨_, 0, c, rfl, rfl, hd, atI_nat (j := 0) (by rw [ed]; rfl), ?_⟩)⟩
            refine ⟨rfl, _, rfl, ?_⟩
            have e3 : (⟨#[c]⟩ : Str) = SX.S [c] := rfl
            rw [e48, e3, dec_S]
            have e4 : decide ([c] = ([48] : Cd)) = !decide ((dgs a).head? ≠ some 48) := by
              rw [ed]
              by_cases z : c = 48
              · rw [z]
                rfl
              · rw [decide_eq_false fun w => z (List.cons.inj w).1, show decide ((c :: r).head? ≠ some 48) = true from decide_eq_true fun w => z (Option.some.inj w)]
                rfl
            rw [e4]
            have ew : wrt a = (decide (a = [48]) || decide ((dgs a).head? ≠ some 48)) := by
              unfold wrt
              rw [decide_eq_true h1, decide_eq_true h2, hB]
              rfl
            have e9 : (10 : Int) ^ (Int.toNat 9) = 1000000000 := by decide
            have eG : G9 = 1000000000 := rfl
            have nt : wrt a = true → (-G9 ≤ vlu a ∧ vlu a ≤ G9) → num a = some (vlu a) := fun hw hb => by
              unfold num
              rw [hw, decide_eq_true hb.1, decide_eq_true hb.2]
              rfl
            have nn : wrt a = true → ¬ (-G9 ≤ vlu a ∧ vlu a ≤ G9) → num a = none := fun hw hb => by
              unfold num
              rw [if_neg fun z => hb ?_]
              simp only [Bool.and_eq_true, decide_eq_true_eq] at z
              exact ⟨z.1.2, z.2⟩
            cases hz : decide ((dgs a).head? ≠ some 48) with
            | true =>
              have hw : wrt a = true := by rw [ew, hz, Bool.or_true]
              refine iteF (iteF ?_)
              obtain ⟨iv, il⟩ := int_wr (wr_of hw)
              refine ⟨_, rfl, _, _, rfl, iv, il, _, rfl, _, _, rfl, rfl, ⟨by decide, by decide, by decide⟩, _, _, rfl, rfl, _, rfl, ?_⟩
              rw [e9]
              by_cases hle : -G9 ≤ vlu a ∧ vlu a ≤ G9
              · rw [decide_eq_true (show (if vlu a < 0 then -vlu a else vlu a) ≤ 1000000000 by split <;> omega)]
                refine iteT ⟨_, rfl, _, _, rfl, iv, il, ?_⟩
                have := q _ s12
                rw [nt hw hle] at this
                exact this
              · rw [decide_eq_false (show ¬ (if vlu a < 0 then -vlu a else vlu a) ≤ 1000000000 by split <;> omega)]
                refine iteF ?_
                have := q _ s12
                rw [nn hw hle] at this
                exact this
            | false =>
              refine iteT ⟨_, rfl, rfl, _, rfl, ?_⟩
              rw [dec_S]
              by_cases z : a = [48]
              · have hw : wrt a = true := by rw [ew, decide_eq_true z, Bool.true_or]
                rw [decide_eq_true z]
                refine iteF ?_
                obtain ⟨iv, il⟩ := int_wr (wr_of hw)
                refine ⟨_, rfl, _, _, rfl, iv, il, _, rfl, _, _, rfl, rfl, ⟨by decide, by decide, by decide⟩, _, _, rfl, rfl, _, rfl, ?_⟩
                rw [e9]
                by_cases hle : -G9 ≤ vlu a ∧ vlu a ≤ G9
                · rw [decide_eq_true (show (if vlu a < 0 then -vlu a else vlu a) ≤ 1000000000 by split <;> omega)]
                  refine iteT ⟨_, rfl, _, _, rfl, iv, il, ?_⟩
                  have := q _ s12
                  rw [nt hw hle] at this
                  exact this
                · rw [decide_eq_false (show ¬ (if vlu a < 0 then -vlu a else vlu a) ≤ 1000000000 by split <;> omega)]
                  refine iteF ?_
                  have := q _ s12
                  rw [nn hw hle] at this
                  exact this
              · rw [decide_eq_false z]
                exact iteT (no _ s12 (by rw [ew, decide_eq_false z, hz]; rfl))
      · rw [decide_eq_true (show (60 : Int) < (((dgs a).length : Nat) : Int) by omega)]
        exact iteT (iteT (no _ Same.me (by unfold wrt; rw [decide_eq_false h2]; simp)))
end
end K19

namespace K19
open PySem PySem.Spec PyProof.Rows L2
theorem seq_join {t v : TS} {D : Ends} {σ : L2.St} {H : Hp} (P : L2.St → Hp → Prop) (hv : ∀ σ' H', P σ' H' → v D σ' H') (h : (∀ σ' H', P σ' H' → v D σ' H') → t { D with nx := v D } σ H) : tSeq t v D σ H := h hv
theorem asg_c {v : V} {i : Nat} {u : TS} {D : Ends} {σ : L2.St} {H : Hp} (h : u D (σ.set i (some v)) H) : tSeq (tAsg (tC v) (gName i)) u D σ H := h
/-- what is read of a row, and then of the rest -/
def contT (its : Its) (i : Nat) (rs : List (List Int)) : Sum Nat (List Int × Nat) → Sum Nat (List (List Int))
  | .inl j => .inl j
  | .inr (r, j) => trR its r.length (8 - i) j (rs ++ [r])
/-- the item that cannot stand, None if all can -/
def plV : Sum Nat (List (List Int)) → V
  | .inl j => .int (j : Nat)
  | .inr _ => .non
theorem readT_cont (its : Its) : readT its = contT its 0 [] (rowA its (endT 0) 3 7 0) := by
  unfold readT contT
  rfl
theorem trR_cont {its : Its} {k i j : Nat} {rs : List (List Int)} (hi : i < 7) (hj : j < its.length) (hl : rs.length = i + 1) : trR its k (8 - i) j rs = contT its (i + 1) rs (rowA its (endT (i + 1)) k k (j + 1)) := by
  have e : 8 - i = (7 - i) + 1 := by omega
  have e2 : 8 - (i + 1) = 7 - i := by omega
  rw [e, trR, if_pos hj, hl]
  unfold contT
  rw [e2]
  cases h : rowA its (endT (i + 1)) k k (j + 1) with
  | inl x => rfl
  | inr p =>
    obtain ⟨r, j2⟩ := p
    obtain ⟨h1, h2, _⟩ := rowA_ok h hj
    have er : r.length = k := Nat.le_antisymm h2 h1
    show trR its k (7 - i) j2 (rs ++ [r]) = trR its r.length (7 - i) j2 (rs ++ [r])
    rw [er]
/-- how many places a row has, as it is told -/
def PinC (v : V) (few most : Nat) : Prop := (v = .non ∧ few = 3 ∧ most = 7) ∨ (v = .int (few : Nat) ∧ few = most ∧ 3 ≤ few ∧ few ≤ 7)
theorem fin_at {its : Its} {n j : Nat} (h : j < its.length) : fin its (endT n) j = (decide (its[j]? = some slC) && decide (n + 1 < 8)) := by
  unfold fin endT
  rw [decide_eq_false (show ¬ j = its.length by omega), Bool.false_or, List.getElem?_eq_getElem h]
  show decide (its[j] ∈ _) = _
  by_cases h8 : n + 1 < 8
  · rw [if_pos h8, decide_eq_true h8, Bool.and_true, Bool.eq_iff_iff, decide_eq_true_iff, decide_eq_true_iff, List.mem_singleton]
    exact ⟨fun z => by rw [z], fun z => Option.some.inj z⟩
  · rw [if_neg h8, decide_eq_false h8, Bool.and_false, decide_eq_false List.not_mem_nil]
section
variable {P : Program} {w : World} {K : PySem.W.Frag} {mg : Str → Option Value} {base : Heap}
/-! ### _law_place -/
def spPL : Sp := fun vs H Q _ => ∃ (b : Addr) (its : Its), vs = [.ref b] ∧ Itm H b its ∧ Cks its ∧ ∀ H', Same H H' → Q (plV (readT its)) H'
abbrev sPL : Stmt := top 53
abbrev nPL : List Str := ["_law_items", "_law_at", "_law_pins", "_law_row", "_law_many", "_law_turn"]
theorem scPL : FnScope nPL ["_law_items"] (defScope sPL) := ⟨rfl, rfl, rfl, by decide +kernel, rfl, by decide +kernel, by decide +kernel⟩
theorem ok_pll {f : Addr} {fd : FuncData} (F : Fun K "_law_place" "_law_place" sPL f fd) (B : Bn mg) (C1 : Callee P w K mg base CX0 1 "_law_number" ["_law_item"] spNuL) : FnOk P w K mg base CX0 2 f fd ["_law_items"] spPL := by
  obtain ⟨f1, fd1, m1, k1, b1, G1⟩ := C1
  have nd := scPL.nd
  refine F.ok scPL (fun vs H Q E h => ?_) (fun cdv A outer s H vs Q E hr h => ?_)
  · obtain ⟨b, its, rfl, _⟩ := h
    rfl
  · obtain ⟨b, its, rfl, hI, hC, q⟩ := h
    refine ⟨_, (pss_cons (ps_asg (pe_tup (pa_cons (pe_int) (pa_cons (pe_non) pa_nil))) (pg_tup rfl (pgs_cons ((pg_name (i := 1) nd rfl (Or.inl rfl))) (pgs_cons ((pg_name (i := 2) nd rfl (Or.inl rfl))) pgs_nil)))) (pss_cons (ps_for PassesOwn.never rfl (pi_range1 rfl B.range (pa_cons pe_int pa_nil)) (pg_name (i := 3) nd rfl (Or.inl rfl))
        (pss_cons ((ps_set (i := 4) nd rfl (Or.inl rfl) (pe_int))) (pss_cons (ps_for PassesOwn.never rfl (pi_range1 rfl B.range (pa_cons (pe_ifExp (pt_cmpR op_isN (pv 2) pe_non (nomark _)) pe_int (pv 2)) pa_nil)) (pg_name (i := 5) nd rfl (Or.inl rfl))
            (pss_cons (ps_if (PW.pt (pw_and (pt_cmpR op_isN (pv 2) pe_non (nomark _)) (pw_and (pt_cmpR op_gt (pv 4) pe_int (nomark _)) (pw_and1 ((PW.pt (pw_or ((pt_cmpR op_eq (pv 1) ((pe_callB call_len_seq (by rfl) B.len PySem.boot_len (pa_cons (pv 0) pa_nil))) (nomark _))) (pw_or1 ((pt_cmpR op_eq ((pe_ix ix_list (pv 0) (pv 1) (fun _ _ => rfl))) (pe_str) (nomark _))))))))))) (pss_one ps_break) pss_nil) (pss_cons (ps_if (PW.pt (pw_or ((pt_cmpR op_eq (pv 1) ((pe_callB call_len_seq (by rfl) B.len PySem.boot_len (pa_cons (pv 0) pa_nil))) (nomark _))) (pw_or1 (pt_cmpR op_isN (pe_call G1 (hr.mono (by decide)) rfl m1 k1 b1 .nil pass0 (pa_cons ((pe_ix ix_list (pv 0) (pv 1) (fun _ _ => rfl))) pa_nil)) pe_non (nomark _))))) (pss_one (ps_ret (pv 1))) pss_nil) (pss_one (ps_par (i := 1) (j := 4) rfl nd rfl rfl (by decide) rfl rfl (pa_cons (pe_op op_add (pv 1) pe_int) (pa_cons (pe_op op_add (pv 4) pe_int) pa_nil)) (by rfl)))))) (pss_cons ((ps_set (i := 2) nd rfl (Or.inl rfl) (pv 4))) (pss_cons (ps_if (pt_cmpR op_eq (pv 1) ((pe_callB call_len_seq (by rfl) B.len PySem.boot_len (pa_cons (pv 0) pa_nil))) (nomark _)) (pss_one (ps_ret pe_non)) pss_nil) (pss_cons (ps_if (PW.pt (pw_or ((pt_cmpR op_ne ((pe_ix ix_list (pv 0) (pv 1) (fun _ _ => rfl))) (pe_str) (nomark _))) (pw_or1 ((pt_cmpR op_eq (pv 3) (pe_int) (nomark _)))))) (pss_one (ps_ret (pv 1))) pss_nil) (pss_one ((ps_set (i := 1) nd rfl (Or.inl rfl) (pe_op op_add (pv 1) pe_int)))))))))) (pss_one (ps_ret (pv 1))))), ?_⟩
    have e47 : PySem.Str.ofString "/" = SX.S [47] := str_S rfl
    generalize hR : readT its = R at q
    refine ⟨by show 2 ≤ sizeLine; decide, fun T nT => ?_⟩
    have s0 := same_new (o := .tup [V.int 0, V.non]) nT; have gT : upd H T (.tup [V.int 0, V.non]) T = some (.tup [V.int 0, V.non]) := upd_same; generalize upd H T (.tup [V.int 0, V.non]) = H0 at s0 gT ⊢
    refine ⟨T, _, rfl, SqT.of gT, rfl, _, _, rfl, _, _, rfl, rfl, ?_⟩
    refine ⟨_, rfl, by decide, by decide, ?_⟩
    refine for_range (lo := 0) (n := 8) (fun i σ H' => Same H H' ∧ i < 8 ∧ ∃ (a0 few most : Nat) (rs : List (List Int)) (vp : V) (x3 x4 x5 : Option V), σ = [some (.ref b), some (.int (a0 : Nat)), some vp, x3, x4, x5] ∧ a0 ≤ its.length ∧ rs.length = i ∧ (vp = .non → i = 0) ∧ PinC vp few most ∧ R = contT its i rs (rowA its (endT i) few most a0)) ⟨s0, by decide, 0, 3, 7, [], _, _, _, _, rfl, Nat.zero_le _, rfl, fun _ => rfl, .inl ⟨rfl, rfl, rfl⟩, by rw [← hR]; exact readT_cont its⟩ (fun i σ H' hi pv => ?_) (fun σ H' pv => absurd pv.2.1 (by decide))
    obtain ⟨s1, _, a0, few, most, rs, vp, x3, x4, x5, rfl, ha0, hrs, hn0, hpc, hRc⟩ := pv
    have hb := (hI.same s1).at_
    dsimp only [gName]
    rw [Int.zero_add]
    refine asg_c (seq_join (P := fun σ2 H2 => Same H H2 ∧ ∃ (t : Nat) (acc : List Int) (x5 : Option V), σ2 = [some (.ref b), some (.int ((a0 + t : Nat) : Int)), some vp, some (.int (i : Nat)), some (.int (t : Nat)), x5] ∧ a0 + t ≤ its.length ∧ acc.length = t ∧ 3 ≤ t ∧ t ≤ 7 ∧ rowA its (endT i) few most a0 = (if fin its (endT i) (a0 + t) = true then .inr (acc, a0 + t) else .inl (a0 + t))) (fun σ2 H2 hp => ?_) (fun rest => ?_))
    · obtain ⟨s2, t, acc, x5', rfl, hat, hacc, h3, h7, hX⟩ := hp
      have hb2 := (hI.same s2).at_
      rw [hX] at hRc
      refine ⟨_, rfl, ?_⟩
      refine ⟨_, rfl, _, rfl, b, _, rfl, .inl (SqL.of hb2), rfl, _, rfl, ?_⟩
      rw [List.length_map]
      by_cases hlen : a0 + t = its.length
      · rw [decide_eq_true (show V.int ((a0 + t : Nat) : Int) = V.int ((its.length : Nat) : Int) by rw [hlen])]
        have hf : fin its (endT i) (a0 + t) = true := by
          unfold fin
          rw [decide_eq_true hlen, Bool.true_or]
        rw [hf, if_pos rfl] at hRc
        have e : contT its i rs (.inr (acc, a0 + t)) = .inr (rs ++ [acc]) := by
          unfold contT
          have e8 : 8 - i = (7 - i) + 1 := by omega
          show trR its acc.length (8 - i) (a0 + t) (rs ++ [acc]) = _
          rw [e8, trR_end (by omega)]
        rw [e] at hRc
        have := q _ s2
        rw [hRc] at this
        exact iteT this
      · rw [decide_eq_false (show ¬ V.int ((a0 + t : Nat) : Int) = V.int ((its.length : Nat) : Int) from fun z => hlen (by have := V.int.inj z; omega))]
        have hlt : a0 + t < its.length := by omega
        have eit : its[a0 + t]? = some its[a0 + t] := List.getElem?_eq_getElem hlt
        refine iteF ⟨_, rfl, _, rfl, b, _, _, iV its[a0 + t], rfl, rfl, SqL.of hb2, atI_nat (it_get eit), rfl, _, rfl, ?_⟩
        rw [e47, dec_S]
        have hfin := fin_at (n := i) hlt
        have out : fin its (endT i) (a0 + t) = false → Q (.int ((a0 + t : Nat) : Int)) H2 := fun z => by
          rw [z, if_neg Bool.false_ne_true] at hRc
          have := q _ s2
          rw [hRc] at this
          exact this
        by_cases hsl : its[a0 + t] = [47]
        · rw [decide_eq_true hsl]
          refine iteF ⟨_, rfl, rfl, _, rfl, ?_⟩
          by_cases h7' : i = 7
          · rw [decide_eq_true (show V.int ((i : Nat) : Int) = V.int 7 by rw [h7']; rfl)]
            refine iteT ⟨_, rfl, out ?_⟩
            rw [hfin, decide_eq_false (show ¬ i + 1 < 8 by omega), Bool.and_false]
          · rw [decide_eq_false (show ¬ V.int ((i : Nat) : Int) = V.int 7 from fun z => h7' (by have := V.int.inj z; omega))]
            refine iteF ⟨_, rfl, _, _, rfl, rfl, ?_⟩
            have hf : fin its (endT i) (a0 + t) = true := by
              rw [hfin, eit, decide_eq_true (show i + 1 < 8 by omega), hsl]
              rfl
            rw [hf, if_pos rfl] at hRc
            refine ⟨s2, by omega, a0 + t + 1, t, t, rs ++ [acc], .int (t : Nat), _, _, _, rfl, hlt, by rw [List.length_append, hrs]; rfl, (fun z => by cases z), .inr ⟨rfl, rfl, h3, h7⟩, ?_⟩
            rw [hRc]
            unfold contT
            show trR its acc.length (8 - i) (a0 + t) (rs ++ [acc]) = _
            rw [hacc]
            exact trR_cont (by omega) hlt (by rw [List.length_append, hrs]; rfl)
        · rw [decide_eq_false hsl]
          refine iteT ⟨_, rfl, out ?_⟩
          rw [hfin, eit, decide_eq_false (show ¬ some its[a0 + t] = some slC from fun z => hsl (Option.some.inj z)), Bool.false_and]
    · have hfm : 3 ≤ few ∧ few ≤ most ∧ most ≤ 7 := by
        rcases hpc with ⟨_, rfl, rfl⟩ | ⟨_, rfl, h3, h7⟩
        · decide
        · exact ⟨h3, Nat.le_refl _, h7⟩
      dsimp only [tFor, iRng1, tCons, tNil]
      refine tIf_key (fun v H2 => v = .int (most : Nat) ∧ H2 = H') (fun Q' hQ => ?_) (fun v H2 hG => ?_)
      · refine ⟨_, rfl, rfl, _, rfl, ?_⟩
        rcases hpc with ⟨rfl, rfl, rfl⟩ | ⟨rfl, rfl, h3, h7⟩
        · rw [decide_eq_true rfl]
          exact iteT (hQ _ _ ⟨rfl, rfl⟩)
        · rw [decide_eq_false (fun z => nomatch z)]
          exact iteF ⟨_, rfl, hQ _ _ ⟨rfl, rfl⟩⟩
      · obtain ⟨rfl, rfl⟩ := hG
        refine ⟨_, rfl, by omega, by omega, ?_⟩
        rw [Int.toNat_natCast]
        refine for_range (D := ⟨_, _, fun _ _ => True, fun _ _ => True⟩) (lo := 0) (n := most) (fun t σ H3 => Same H H3 ∧ ∃ (acc : List Int) (x5 : Option V), σ = [some (.ref b), some (.int ((a0 + t : Nat) : Int)), some vp, some (.int (i : Nat)), some (.int (t : Nat)), x5] ∧ a0 + t ≤ its.length ∧ acc.length = t ∧ rA its (endT i) few most (most + 1 - t) (a0 + t) acc = rowA its (endT i) few most a0) ⟨s1, [], x5, rfl, ha0, rfl, rfl⟩ (fun t σ H3 ht pv => ?_) (fun σ H3 pv => ?_)
        · obtain ⟨s3, acc, y5, rfl, hat, hacc, hrA⟩ := pv
          have hb3 := (hI.same s3).at_
          have ef : most + 1 - t = (most - t) + 1 := by omega
          rw [ef] at hrA
          dsimp only [gName]
          have hfin : ∀ h : a0 + t < its.length, i + 1 < 8 → fin its (endT i) (a0 + t) = decide (its[a0 + t] = [47]) := fun h h8 => by
            rw [fin_at h, List.getElem?_eq_getElem h, decide_eq_true h8, Bool.and_true, Bool.eq_iff_iff, decide_eq_true_iff, decide_eq_true_iff]
            exact ⟨fun z => Option.some.inj z, fun z => congrArg some z⟩
          refine (show tSeq (tIfS _ _ _) _ _ _ _ from ?_)
          refine tt_key (decide (vp = .non) && (decide (2 < t) && fin its (endT i) (a0 + t))) (fun Q' q' => ?_) ?_
          · refine ⟨_, rfl, rfl, _, rfl, ?_⟩
            by_cases hv : vp = .non
            · rw [decide_eq_true hv] at q' ⊢
              rw [Bool.true_and] at q'
              have hi0 := hn0 hv
              refine iteT ⟨_, rfl, _, _, rfl, rfl, _, rfl, ?_⟩
              by_cases h2 : 2 < t
              · rw [decide_eq_true h2, Bool.true_and] at q'
                rw [decide_eq_true (show (2 : Int) < ((t : Nat) : Int) by omega)]
                refine iteT ⟨_, rfl, _, rfl, b, _, rfl, .inl (SqL.of hb3), rfl, _, rfl, ?_⟩
                rw [List.length_map]
                by_cases hlen : a0 + t = its.length
                · rw [decide_eq_true (show V.int ((a0 + t : Nat) : Int) = V.int ((its.length : Nat) : Int) by rw [hlen])]
                  have hf : fin its (endT i) (a0 + t) = true := by
                    unfold fin
                    rw [decide_eq_true hlen, Bool.true_or]
                  rw [hf] at q'
                  exact iteT q'
                · rw [decide_eq_false (show ¬ V.int ((a0 + t : Nat) : Int) = V.int ((its.length : Nat) : Int) from fun z => hlen (by have := V.int.inj z; omega))]
                  have hlt : a0 + t < its.length := by omega
                  rw [hfin hlt (by omega)] at q'
                  refine iteF ⟨_, rfl, _, rfl, b, _, _, iV its[a0 + t], rfl, rfl, SqL.of hb3, atI_nat (it_get (List.getElem?_eq_getElem hlt)), rfl, _, rfl, ?_⟩
                  rw [e47, dec_S]
                  exact q'
              · rw [decide_eq_false h2, Bool.false_and] at q'
                rw [decide_eq_false (show ¬ (2 : Int) < ((t : Nat) : Int) by omega)]
                exact iteF q'
            · rw [decide_eq_false hv] at q' ⊢
              rw [Bool.false_and] at q'
              exact iteF q'
          · cases hbr : (decide (vp = .non) && (decide (2 < t) && fin its (endT i) (a0 + t))) with
            | true =>
              refine iteT ?_
              rw [Bool.and_eq_true, Bool.and_eq_true, decide_eq_true_iff, decide_eq_true_iff] at hbr
              obtain ⟨hv, h2, hf⟩ := hbr
              have hfew : few = 3 := by
                rcases hpc with ⟨_, h, _⟩ | ⟨h, _⟩
                · exact h
                · rw [h] at hv
                  cases hv
              refine rest _ _ ⟨s3, t, acc, _, rfl, hat, hacc, by omega, by omega, ?_⟩
              rw [← hrA, rA_end (by omega) hf, if_pos hf]
            | false =>
              refine iteF ?_
              have htt : (decide (acc.length < few) || !fin its (endT i) (a0 + t)) = true := by
                rcases hpc with ⟨hv, hfew, _⟩ | ⟨_, hfew, _⟩
                · rw [decide_eq_true hv, Bool.true_and] at hbr
                  by_cases h2 : 2 < t
                  · rw [decide_eq_true h2, Bool.true_and] at hbr
                    rw [hbr]
                    simp
                  · rw [decide_eq_true (show acc.length < few by omega)]
                    rfl
                · rw [decide_eq_true (show acc.length < few by omega)]
                  rfl
              have hne : acc.length ≠ most := by omega
              rw [rA_step htt hne] at hrA
              have out : ∀ Hx, Same H Hx → nAt its (a0 + t) = none → Q (.int ((a0 + t : Nat) : Int)) Hx := fun Hx sx hn => by
                rw [hn] at hrA
                have e : contT its i rs (rowA its (endT i) few most a0) = .inl (a0 + t) := by
                  rw [← hrA]
                  rfl
                rw [e] at hRc
                have := q _ sx
                rw [hRc] at this
                exact this
              refine ⟨_, rfl, _, rfl, b, _, rfl, .inl (SqL.of hb3), rfl, _, rfl, ?_⟩
              rw [List.length_map]
              by_cases hlen : a0 + t = its.length
              · rw [decide_eq_true (show V.int ((a0 + t : Nat) : Int) = V.int ((its.length : Nat) : Int) by rw [hlen])]
                refine iteT (iteT ⟨_, rfl, out _ s3 ?_⟩)
                unfold nAt
                rw [List.getElem?_eq_none (by omega)]
                rfl
              · rw [decide_eq_false (show ¬ V.int ((a0 + t : Nat) : Int) = V.int ((its.length : Nat) : Int) from fun z => hlen (by have := V.int.inj z; omega))]
                have hlt : a0 + t < its.length := by omega
                have eit : its[a0 + t]? = some its[a0 + t] := List.getElem?_eq_getElem hlt
                have enA : nAt its (a0 + t) = num its[a0 + t] := by
                  unfold nAt
                  rw [eit]
                  rfl
                refine iteF ⟨_, rfl, _, rfl, b, _, _, iV its[a0 + t], rfl, rfl, SqL.of hb3, atI_nat (it_get eit), its[a0 + t], rfl, hI.len _ (List.getElem_mem _), hC _ (List.getElem_mem _), fun H4 s4 => ⟨rfl, _, rfl, ?_⟩⟩
                have s34 := s3.trans s4
                cases hx : num its[a0 + t] with
                | none =>
                  refine iteT ⟨_, rfl, out _ s34 (by rw [enA, hx])⟩
                | some x =>
                  rw [enA, hx] at hrA
                  refine iteF ⟨_, rfl, _, _, rfl, rfl, _, rfl, _, _, rfl, rfl, _, _, rfl, ?_⟩
                  refine ⟨s34, acc ++ [x], _, rfl, hlt, by rw [List.length_append, hacc]; rfl, ?_⟩
                  have e2 : most + 1 - (t + 1) = most - t := by omega
                  rw [e2, ← hrA]
                  rfl
        · obtain ⟨s3, acc, y5, rfl, hat, hacc, hrA⟩ := pv
          have e1 : most + 1 - most = 0 + 1 := by omega
          rw [e1] at hrA
          refine rest _ _ ⟨s3, most, acc, y5, rfl, hat, hacc, by omega, by omega, ?_⟩
          rw [← hrA]
          cases hf : fin its (endT i) (a0 + most) with
          | true => rw [rA_end (by omega) hf, if_pos rfl]
          | false => rw [rA_full (by rw [hf]; simp) hacc, if_neg Bool.false_ne_true]
end
end K19

namespace GG
open PySem PySem.Spec PyProof.Rows L2
/-! ### defs that are called while nothing is being shown: the text of a value hangs on it -/
/-- no text of a list, a tuple, a dict is being made -/
def Shy (A : Around) : Prop := A.guards = some []
theorem Shy.deeper {A : Around} (h : Shy A) (env : Env) : Shy (A.deeper env) := h
/-- as FnOk, for calls while nothing is being shown -/
def FnG (P : Program) (w : World) (K : PySem.W.Frag) (mg : Str → Option Value) (base : Heap) (CX : CXT) (k : Nat) (f : Addr) (fd : FuncData) (ps : List Str) (sp : Sp) : Prop :=
  (∀ (xs : List V) (H : Hp) (Q : VK) (E : XK), sp xs H Q E → xs.length = ps.length) ∧
  ∀ (A : Around) (out : List Env) (z : Shared) (H : Hp) (g : Args) (us : List Value) (xs : List V) (Q : VK) (E : XK), Shy A → Room k A → Env0 P w K mg base A out z H → BindsTo z fd g (ps.zip us) → Vals xs us → sp xs H Q E →
    codeAny (model P w) A (.call (.ref f) g) (CR CX out P w H z Q E) z
section
variable {P : Program} {w : World} {K : PySem.W.Frag} {mg : Str → Option Value} {base : Heap} {CX : CXT} {k : Nat} {f : Addr} {fd : FuncData} {ps : List Str} {sp : Sp}
theorem FnG.of (F : FnOk P w K mg base CX k f fd ps sp) : FnG P w K mg base CX k f fd ps sp := ⟨F.len, fun A out z H g us xs Q E _ => F.run A out z H g us xs Q E⟩
theorem fn_g {x q : Str} {pr : Arguments} {bd : List Stmt} {sc : Scope} {dV kV dc pm cd ct oc : Value} {an od : Option Addr} {sl : Array (Option Value)} {N : List Str}
    (lk : K.lookup f = some ⟨oc, od, .func (PySem.W.fnOf x q pr bd sc dV kV dc pm an cd ct), sl⟩) (hc : PySem.W.codeIn K cd q = true) (S : FnScope N ps sc) (ln : ∀ (xs : List V) (H : Hp) (Q : VK) (E : XK), sp xs H Q E → xs.length = ps.length)
    (go : ∀ (A : Around) (out : List Env) (z : Shared) (H : Hp) (xs : List V) (Q : VK) (E : XK), Shy A → Room k (A.deeper (envOfC q sc z.heap.objs.size f cd)) → sp xs H Q E →
      ∃ t, PSs (cxOf CX P w K mg base N q sc f cd A out z H E) bd t ∧ t { nx := fun _ H' => Q .non H', rt := Q } (start N xs) H) :
    FnG P w K mg base CX (k + 1) f (PySem.W.fnOf x q pr bd sc dV kV dc pm an cd ct) ps sp := by
  refine ⟨ln, fun A out z H g us xs Q E sh hr e0 hb r h => ?_⟩
  have up : ∀ (b : Addr) (o : Obj), base.get? b = some o → z.heap.get? b = some o := fun b o e => (e0.bs b o e).1
  have kIn : K.In z.heap := e0.mod.kin.keeps up
  have kinds : ∀ y ∈ ps.zip us, sc.names.lookup y.1 = some .local ∨ (sc.names.lookup y.1 = some .cell ∧ ((cellsFrom (z.heap.objs.size + 1) sc.names []).lookup y.1).isSome = true) := by
    rintro ⟨n, v⟩ hy
    exact (S.par n (List.of_mem_zip hy).1).imp id fun e => ⟨e, PySem.W.cellsFrom_some _ _ _ (.inl e)⟩
  refine codeAny_call_function hr.depth (kIn _ _ lk) rfl S.co S.gen rfl (PySem.W.codeRec_of kIn hc) (hb _ _ _ _ (wpAny_newFunctionEnv_cells S.kind kinds fun e he s1 x => ?_))
  subst he
  refine ⟨(e0.mod.nolimit.keeps up).keeps x.toInCall.keep, codeAny_func ?_⟩
  obtain ⟨t, ht, hq⟩ := go A out z H xs Q E sh (hr.deeper _) h
  refine wpAny_mono (ht.run [] s1 (start N xs) H _ (inv_start S hr.hd e0 (ln _ _ _ _ h) r x) hq) (fun fl s' e => ?_) fun _ _ e => e
  cases fl with
  | ret u =>
    obtain ⟨v, σ, H', J, rv, qv⟩ := e
    exact ⟨v, H', J.os, J.bare, J.base, J.hok, rv, qv⟩
  | next =>
    obtain ⟨σ, H', J, qv⟩ := e
    exact ⟨V.non, H', J.os, J.bare, J.base, J.hok, rfl, qv⟩
  | brk =>
    obtain ⟨_, _, _, no⟩ := e
    exact no.elim
  | cont =>
    obtain ⟨_, _, _, no⟩ := e
    exact no.elim
end
section
variable {X : Cx} {CX : CXT} {k : Nat} {f : Addr} {fd : FuncData} {ps : List Str} {sp : Sp} {ds : List Value} {dvs : List V} {E : XK} {x : Str} {p pos : Pos} {e : Expr} {es : List Expr} {t : TA}
/-- f(e, ..) where nothing is being shown -/
theorem pe_cg (F : FnG X.prog X.w X.K X.mg X.base CX k f fd ps sp) (sh : Shy X.A) (hr : Room k X.A) (gl : Gl X x) (hm : X.mg x = some (.ref f)) (kp : PySem.W.keepIn X.K (.ref f) = true) (hb : Binds X.K fd ps ds) (hd : Vals dvs ds) (hx : Passes CX X E)
    (ha : PA X (e :: es) t) (nb : (x == ("__debug__" : Str)) = false := by decide) (st : starEach (e :: es) X.env = (false, eval e X.env) :: starEach es X.env := by rfl) (np : (backTo pos (starEach es X.env)).any (·.1) = false := by rfl) :
    PE X (.Call (.Name x p) (e :: es) [] pos) (tCall sp dvs E t) := by
  refine ⟨fun pins s σ H Q I h => wpAny_Call_Name_kw (ld_glob I gl hm ?_ nb)⟩
  refine PySem.W.callWith_K (h₀ := X.base) I.ok.mod.kin kp (thn (ha.run pos pins s σ H _ I h) ?_) st np
  rintro us s1 ⟨vs, H1, I1, r, q⟩
  have rr : Vals (vs ++ dvs) (us ++ ds) := r.append hd
  refine ⟨I1.kIn, wpAny_call (codeAny_mono (F.2 X.A X.stack s1 H1 ⟨us, []⟩ (us ++ ds) (vs ++ dvs) Q E sh hr I1.env0 (hb s1 us I1.kIn (by rw [← rr.length]; exact F.1 _ _ _ _ q)) rr q) ?_)⟩
  intro r' s2 hq
  cases r' with
  | error a => exact hx pins σ H1 s1 a s2 I1 hq
  | ok fl => cases fl with
    | ret u => exact I1.after hq
    | next => exact hq.elim
    | brk => exact hq.elim
    | cont => exact hq.elim
end
end GG

namespace GG
open PySem PySem.Spec PyProof.Rows L2
/-! ### repr(v) where nothing is being shown -/
/-- a dict from integers to integers -/
def dI (ms : List (Int × Int)) : PyData := .dict (ms.map fun m => (.int m.1, .int m.2))
/-- what is shown of v -/
def Rp (K : PySem.W.Frag) (H : Hp) (v : V) (d : PyData) : Prop := (Dp K H v d ∧ d.hasDict = false) ∨ ∃ (a : Addr) (ms : List (Int × Int)), v = .ref a ∧ H a = some (.dK (ms.map fun m => (Sum.inl m.1, V.int m.2))) ∧ d = dI ms
def rRep (K : PySem.W.Frag) : List V → Hp → VK → Prop := fun xs H Q => ∃ (v : V) (d : PyData), xs = [v] ∧ Rp K H v d ∧ d.showable = true ∧ d.shown.length ≤ sizeLine ∧ d.depth ≤ 10 ∧ Q (.str d.shown) H
section
variable {P : Program} {w : World} {h : Heap}
theorem reads_ints {es : List DictEntry} {kvs : List (Key × Value)} (p : Pairs (mixKind P w) es kvs) : ∀ {ms : List (Int × Int)}, KV (ms.map fun m => ((Sum.inl m.1 : Key), V.int m.2)) kvs → ReadsAll h (es.map (·.key)) (ms.map fun m => PyData.int m.1) [] ∧ ReadsAll h (es.map (·.val)) (ms.map fun m => PyData.int m.2) [] := by
  induction p with
  | nil =>
    intro ms r
    cases ms with
    | nil => exact ⟨.nil, .nil⟩
    | cons _ _ => cases r
  | @cons e kv es kvs h1 h2 _ ih =>
    intro ms r
    cases ms with
    | nil => cases r
    | cons m ms =>
      cases r with
      | cons r0 r1 =>
        obtain ⟨a, b⟩ := ih r1
        obtain ⟨k, v⟩ := kv
        obtain ⟨z1, z2⟩ := r0
        have z1 : Sum.inl m.1 = k := z1
        subst z1
        obtain ⟨t, rfl⟩ := z2
        rcases keyIs_shape (k := Sum.inl m.1) (v := e.key) h1 with ⟨i, u, q1, q2⟩ | ⟨_, _, q1, _⟩
        · cases q1
          refine ⟨?_, ?_⟩
          · show ReadsAll h (e.key :: _) _ ([] ++ [])
            rw [q2]
            exact .cons (.int _ _) a
          · show ReadsAll h (e.val :: _) _ ([] ++ [])
            rw [h2]
            exact .cons (.int _ _) b
        · cases q1
end
section
variable {X : Cx}
theorem call_repr (sh : Shy X.A) (hu : X.A.units + 40 < cLine) : CallR X (.builtin "repr") (rRep X.K) := by
  intro pins s σ H xs us Q I r h
  obtain ⟨v, d, rfl, rp, sw, sz, dp, q⟩ := h
  obtain ⟨u, rfl, ru⟩ := vals1 r
  have fin : ∀ (h' : Heap) (t tk : Tok), (∀ b o, s.heap.get? b = some o → h'.get? b = some o) → EP X pins σ Q (.str d.shown t) { s with heap := h', toks := tk } := fun h' t tk k => ⟨.str d.shown, H, I.kept k, ⟨t, rfl⟩, q⟩
  have fin0 : EP X pins σ Q (.str d.shown s.toks) { s with toks := s.toks + 1 } := fin s.heap s.toks _ fun _ _ e => e
  rcases rp with ⟨hd, nd⟩ | ⟨a, ms, rfl, ha, rfl⟩
  · obtain ⟨as, rd⟩ := Dp.reads I d v u hd ru
    cases rd with
    | none => exact PySem.P.repr_of_none fin0
    | bool b => exact PySem.P.repr_of_bool fin0
    | int i t => exact PySem.P.repr_of_int (by simpa [PyData.showable] using sw) fin0
    | str x t => exact PySem.P.repr_of_str fin0 sz
    | list h1 h2 h3 h4 => exact repr_of_reads' (.list h1 h2 h3 h4) sw (fun z => by rw [nd] at z; cases z) sh (by omega) (fun _ _ e => e) fin sz
    | tuple h1 h2 h3 h4 => exact repr_of_reads' (.tuple h1 h2 h3 h4) sw (fun z => by rw [nd] at z; cases z) sh (by omega) (fun _ _ e => e) fin sz
    | dict _ _ _ _ _ => cases hd
  · obtain rfl : u = Value.ref a := ru
    obtain ⟨_, low, vs, kv, o, es, ep, h1, h2, h3, _, pr, _⟩ := dk_of I.hok ha
    obtain ⟨rk, rv⟩ := reads_ints (h := s.heap) pr kv
    have rd : Reads s.heap (.ref a) (dI ms) (a :: [] ++ []) := .dict h1 h2.1 h3 (by rw [List.map_map]; exact rk) (by rw [List.map_map]; exact rv)
    exact repr_of_reads' rd sw (fun _ z => by
      rw [List.append_nil, List.mem_singleton] at z
      rw [z] at low
      simp at low) sh (by omega) (fun _ _ e => e) fin sz
end
end GG

namespace GG
open PySem PySem.Spec PyProof.Rows L2
/-! ### the end, for a law that is such a def -/
/-- what is tracked at the start: the script, unless it is written, and tables -/
structure Begun (K : PySem.W.Frag) (h : Heap) (a : Addr) (vs : List Value) (ns : List Int) (cs : List (Addr × Addr)) (H : Hp) : Prop where
  tb : ∀ p ∈ cs, H p.2 = some (.tbl #[])
  al : ∀ b u, H b = some u → (u = .tbl #[] ∧ h.get? b = some { cls := .none, data := .fields #[] } ∧ K.lookup b = none ∧ b ∈ cs.map (·.2)) ∨ (b = a ∧ u = .frz { cls := .type "list", data := .seq vs.toArray } (.lst (ns.map V.int)) ∧ K.lookup a = none)
  sq : SqL K H a (ns.map V.int)
section
variable {P : Program} {w : World} {K : PySem.W.Frag} {a : Addr} {vs : List Value} {ns : List Int} {cs : List (Addr × Addr)} {H : Hp} {h : Heap}
theorem begun (KX : K.In h) (hT : ∀ p ∈ cs, h.get? p.2 = some { cls := .none, data := .fields #[] }) (nT : ∀ p ∈ cs, K.lookup p.2 = none) (ha : h.get? a = some { cls := .type "list", data := .seq vs.toArray }) (rv : Vals (ns.map V.int) vs) (hl : ns.length ≤ sizeLine) : ∃ H, Begun K h a vs ns cs H := by
  classical
  have isT : ∀ b, b ∈ cs.map (·.2) → h.get? b = some { cls := .none, data := .fields #[] } ∧ K.lookup b = none := fun b hb => by
    obtain ⟨p, hp, rfl⟩ := List.mem_map.mp hb
    exact ⟨hT p hp, nT p hp⟩
  have na : a ∉ cs.map (·.2) := fun z => by
    have q := (isT a z).1
    rw [ha] at q
    exact absurd (congrArg Obj.data (Option.some.inj q)) (by intro z; cases z)
  have mem : ∀ p ∈ cs, p.2 ∈ cs.map (·.2) := fun p hp => List.mem_map_of_mem hp
  have lv : vs.length = ns.length := by
    rw [← rv.length, List.length_map]
  cases e : K.lookup a with
  | none =>
    refine ⟨fun b => if b ∈ cs.map (·.2) then some (.tbl #[]) else if b = a then some (.frz { cls := .type "list", data := .seq vs.toArray } (.lst (ns.map V.int))) else none, fun p hp => if_pos (mem p hp), fun b u hb => ?_, .inl (.inr ⟨{ cls := .type "list", data := .seq vs.toArray }, ?_⟩)⟩
    · by_cases m : b ∈ cs.map (·.2)
      · rw [if_pos m] at hb
        exact .inl ⟨(Option.some.inj hb).symm, (isT b m).1, (isT b m).2, m⟩
      · rw [if_neg m] at hb
        by_cases eb : b = a
        · rw [if_pos eb] at hb
          exact .inr ⟨eb, (Option.some.inj hb).symm, e⟩
        · rw [if_neg eb] at hb
          cases hb
    · show (if a ∈ cs.map (·.2) then _ else _) = _
      rw [if_neg na, if_pos rfl]
  | some o =>
    have eo : o = { cls := .type "list", data := .seq vs.toArray } := by
      have q := KX a o e
      rw [ha] at q
      exact (Option.some.inj q).symm
    subst eo
    refine ⟨fun b => if b ∈ cs.map (·.2) then some (.tbl #[]) else none, fun p hp => if_pos (mem p hp), fun b u hb => ?_, .inr ⟨_, vs.toArray, _, e, rfl, rfl, rfl, by rw [List.size_toArray, lv]; exact hl, by simpa using rv⟩⟩
    by_cases m : b ∈ cs.map (·.2)
    · rw [if_pos m] at hb
      exact .inl ⟨(Option.some.inj hb).symm, (isT b m).1, (isT b m).2, m⟩
    · rw [if_neg m] at hb
      cases hb
variable {b : Addr} {o : Obj}
/-- what is neither a list nor an empty table is not tracked -/
theorem Begun.off (B : Begun K h a vs ns cs H) (ha : h.get? a = some { cls := .type "list", data := .seq vs.toArray }) (e : h.get? b = some o) (n1 : ∀ us n, o.data ≠ .seq us n) (n2 : o.data ≠ .fields #[]) : H b = none := by
  cases q : H b with
  | none => rfl
  | some u =>
    rcases B.al b u q with ⟨_, g, _⟩ | ⟨rfl, _⟩
    · rw [e] at g
      cases g
      exact absurd rfl n2
    · rw [e] at ha
      cases ha
      exact absurd rfl (n1 _ _)
theorem Begun.get (B : Begun K h a vs ns cs H) (ha : h.get? a = some { cls := .type "list", data := .seq vs.toArray }) (e : h.get? b = some o) (n1 : ∀ us n, o.data ≠ .seq us n) (n2 : o.data ≠ .fields #[]) : (hidT h H).get? b = some o := hidT_get e (B.off ha e n1 n2)
theorem Begun.nsp (B : Begun K h a vs ns cs H) (ha : h.get? a = some { cls := .type "list", data := .seq vs.toArray }) {m : Str → Option Value} (n : h.Ns b m) : (hidT h H).Ns b m := by
  obtain ⟨o, es, ep, e, d, r⟩ := n
  exact ⟨o, es, ep, B.get ha e (by rw [d]; intro _ _ z; cases z) (by rw [d]; intro z; cases z), d, r⟩
theorem Begun.kin (B : Begun K h a vs ns cs H) (KX : K.In h) : K.In (hidT h H) := fun b o e => hidT_get (KX b o e) (by
  cases q : H b with
  | none => rfl
  | some u =>
    rcases B.al b u q with ⟨_, _, g, _⟩ | ⟨rfl, _, g⟩
    · rw [e] at g
      cases g
    · rw [e] at g
      cases g)
theorem Begun.hok (B : Begun K h a vs ns cs H) (ha : h.get? a = some { cls := .type "list", data := .seq vs.toArray }) (rv : Vals (ns.map V.int) vs) (hl : ns.length ≤ sizeLine) : HOk P w H h := fun b u q => by
  rcases B.al b u q with ⟨rfl, g, _⟩ | ⟨rfl, rfl, _⟩
  · exact g
  · exact ⟨ha, by rw [List.length_map]; exact hl, vs, _, rv, ha⟩
end
theorem top_g {P : Program} {w : World} {K : PySem.W.Frag} {mg mb : Str → Option Value} {CX : CXT} {k : Nat} {fa a : Addr} {cs : List (Addr × Addr)} {fd : FuncData} {x : Str} {sp : Sp} {s : Shared} {vs : List Value} {ns : List Int}
    (KX : K.In s.heap) (gn : s.heap.Ns mainGlobals mg) (bn : s.heap.Ns builtinsNs mb) (bb : ∀ y : Str, y ≠ "__name__" → mb y = bootBuiltins y) (nl : s.heap.NoLimit) (ge : s.gens = #[])
    (hT : ∀ p ∈ cs, s.heap.get? p.2 = some { cls := .none, data := .fields #[] }) (nT : ∀ p ∈ cs, K.lookup p.2 = none) (hC : ∀ p ∈ cs, PySem.W.CodeHd s.heap p.1 p.2)
    (hM : ∃ (m : Addr) (om : Obj), mg "__builtins__" = some (.ref m) ∧ m ≠ builtinsNs ∧ s.heap.get? m = some om ∧ om.cls = .type "module" ∧ om.dict = some builtinsNs ∧ om.data = .plain)
    (ha : s.heap.get? a = some { cls := .type "list", data := .seq vs.toArray }) (hi : IntsAre vs ns) (hl : ns.length ≤ sizeLine) (hr : Room k callerA)
    (F : ∀ bs : Heap, K.In bs → bs.Ns mainGlobals mg → (∀ p ∈ cs, LamX.TabB bs mg p.1 p.2) → FnG P w K mg bs CX k fa fd [x] sp) (bi : ∀ (z : Shared) (u : Value), BindsTo z fd ⟨[u], []⟩ [(x, u)])
    (hs : ∀ H : Hp, (∀ p ∈ cs, H p.2 = some (.tbl #[])) → SqL K H a (ns.map V.int) → sp [.ref a] H (fun v _ => v = .bl true) fun _ _ _ => False)
    (hX : ∀ H e z, CX [] H s (fun _ _ _ => False) e z → False) :
    codeAny (model P w) callerA (.call (.ref fa) ⟨[.ref a], []⟩) (fun r z => r = .ok (.ret (.bool true)) ∧ OldK s.heap z.heap ∧ z.os = s.os ∧ AllBare z.gens) s := by
  have rv := vals_ints hi
  obtain ⟨H, B⟩ := begun KX hT nT ha rv hl
  have md : L2.Mod K mg (hidT s.heap H) := ⟨B.kin KX, B.nsp ha gn, ⟨mb, B.nsp ha bn, bb⟩, let ⟨mc, h1, h2⟩ := nl; ⟨mc, B.nsp ha h1, h2⟩⟩
  have tabs : ∀ p ∈ cs, LamX.TabB (hidT s.heap H) mg p.1 p.2 := fun p hp => by
    have tp := hT p hp
    obtain ⟨m, om, b1, b2, b3, b4, b5, b6⟩ := hM
    refine ⟨?_, ⟨m, om, b1, b2, fun q => ?_, fun q => ?_, B.get ha b3 (by rw [b6]; intro _ _ z; cases z) (by rw [b6]; intro z; cases z), b4, b5, b6⟩, fun q => ?_⟩
    · obtain ⟨o, us, fl, tf, fg, tg, iF, tx, tt, e1, r1, r2, r3, rest⟩ := hC p hp
      refine ⟨o, us, fl, tf, fg, tg, iF, tx, tt, B.get ha e1 (by rw [r2]; intro _ _ z; cases z) (fun z => ?_), r1, r2, r3, rest⟩
      rw [r2] at z
      cases z
      simp at r3
    · obtain ⟨o, es, ep, e, hd, _⟩ := gn
      rw [q, e] at b3
      cases b3
      rw [hd] at b6
      cases b6
    · rw [q, tp] at b3
      cases b3
      cases b6
    · obtain ⟨o, es, ep, e, hd, _⟩ := gn
      rw [q, tp] at e
      cases e
      cases hd
  have e0 : Env0 P w K mg (hidT s.heap H) callerA [] s H := ⟨rfl, md, fun b o e => of_hidT e, Nat.le_of_eq (hidT_size _ _), trivial, (fun b hb => absurd hb List.not_mem_nil), B.hok ha rv hl, AllBare.of_eq ge⟩
  refine codeAny_mono ((F _ md.kin md.glob tabs).2 callerA [] s H ⟨[.ref a], []⟩ [.ref a] [.ref a] _ _ rfl hr e0 (bi s (.ref a)) (.cons rfl .nil) (hs H B.tb B.sq)) ?_
  intro r z hz
  cases r with
  | error e => exact (hX H e z hz).elim
  | ok fl => cases fl with
    | next => exact hz.elim
    | brk => exact hz.elim
    | cont => exact hz.elim
    | ret u =>
      obtain ⟨v, H', os, bare, un, hok, rvu, qv⟩ := hz
      have qv : v = .bl true := qv
      subst qv
      obtain rfl : u = Value.bool true := rvu
      have stays : ∀ (b : Addr) (o : Obj), (∀ u, H b = some u → ¬ (u = .tbl #[])) → s.heap.get? b = some o → z.heap.get? b = some o := fun b o nt e => by
        cases q : H b with
        | none => exact un.keep b o e q (fun z => nomatch z) (fun z => nomatch z)
        | some u =>
          rcases B.al b u q with ⟨t, _⟩ | ⟨rfl, rfl, _⟩
          · exact absurd t (nt u q)
          · rw [ha] at e
            cases e
            exact (hok b _ (un.frzs b _ _ q)).1
      have grows : ∀ p ∈ cs, ∃ more : Array Value, z.heap.get? p.2 = some { cls := .none, data := .fields more } := fun p hp => by
        obtain ⟨more, q⟩ := un.tbls p.2 #[] (B.tb p hp)
        exact ⟨_, hok p.2 _ q⟩
      have one : ∀ (b : Addr) (o : Obj), s.heap.get? b = some o → z.heap.get? b = some o ∨ ∃ p ∈ cs, b = p.2 := fun b o e => by
        by_cases t : H b = some (.tbl #[])
        · rcases B.al b _ t with ⟨_, _, _, m⟩ | ⟨_, y, _⟩
          · obtain ⟨p, hp, ep⟩ := List.mem_map.mp m
            exact .inr ⟨p, hp, ep.symm⟩
          · cases y
        · exact .inl (stays b o (fun u q t2 => t (by rw [q, t2])) e)
      refine ⟨rfl, ⟨fun b o e => ?_, fun b o e => ?_⟩, os, bare⟩
      · rcases one b o e with g | ⟨p, hp, rfl⟩
        · exact .inl g
        · obtain ⟨more, g⟩ := grows p hp
          rw [hT p hp] at e
          cases e
          exact .inr (.inl ⟨((hC p hp).tab (hT p hp)).isCodeTable, rfl, #[], more, rfl, by rw [Array.empty_append]; exact g⟩)
      · rcases one b o e with g | ⟨p, hp, rfl⟩
        · exact ⟨o, g⟩
        · obtain ⟨more, g⟩ := grows p hp
          exact ⟨_, g⟩
/-- what is known of the law's promise at the head's heap -/
def LawG (l : PySem.W.OpenLaw) (w : World) (K : PySem.W.Frag) (CX : CXT) (k n : Nat) (x : Str) (mg : Str → Option Value) (fa : Addr) (h : Heap) : Prop :=
  ∃ (fd : FuncData) (cs : List (Addr × Addr)) (sp : Sp), ((∀ p ∈ cs, h.get? p.2 = some { cls := .none, data := .fields #[] }) ∧ (∀ p ∈ cs, K.lookup p.2 = none) ∧ (∀ p ∈ cs, PySem.W.CodeHd h p.1 p.2)) ∧ (∀ (z : Shared) (u : Value), BindsTo z fd ⟨[u], []⟩ [(x, u)]) ∧
    (∀ (H : Hp) (a : Addr) (ns : List Int), ns.length ≤ n → (∀ i ∈ ns, Builtin.Int.intBits i ≤ 1048576) → (∀ p ∈ cs, H p.2 = some (.tbl #[])) → SqL K H a (ns.map V.int) → sp [.ref a] H (fun v _ => v = .bl true) fun _ _ _ => False) ∧
    ∀ bs : Heap, K.In bs → bs.Ns mainGlobals mg → (∀ p ∈ cs, LamX.TabB bs mg p.1 p.2) → FnG l.prog w K mg bs CX k fa fd [x] sp
theorem walk_g {l : PySem.W.OpenLaw} {n k : Nat} {q : Program} {loose : List Str} {XP : (Str → Option Value) → Heap → Prop} {YP : World → Heap → Prop} {d : DefRec} {K : Params → PySem.W.Frag} {CX : World → CXT} {x : Str}
    (hn : l.most = some n) (n2 : n ≤ sizeLine) (df : d.params.defaults = []) (hr : Room k callerA) (hY : ∀ (w : World) (h : Heap), YP w h → (K w.params).In h)
    (F : ∀ (w : World) (mg : Str → Option Value) (fa : Addr) (h : Heap), YP w h → (K w.params).In h → h.Ns mainGlobals mg → mg d.name = some (.ref fa) → LawG l w (K w.params) (CX w) k n x mg fa h)
    (hX : ∀ (w : World) (H : Hp) (s : Shared) (e : Value) (z : Shared), CX w [] H s (fun _ _ _ => False) e z → False) :
    PySem.W.WalkO q loose XP YP l.row.toRowW d [] (fun f vs => PySem.call f vs) := by
  refine Att.attach_callB hn df ?_
  intro w s0 s mg mb fa o pm cd dc a vs ns G Y _ _ _ hm hob his hle hbi hge
  obtain ⟨fd, cs, sp, ⟨hT, nT, hC⟩, bi, hs, hF⟩ := F w mg fa _ Y (hY w _ Y) G.T.g hm
  exact top_g (hY w _ Y) G.T.g G.T.b G.T.builtins G.T.nolimit hge hT nT hC G.T.bmain hob his (Nat.le_trans hle n2) hr hF bi (fun H t q => hs H a ns hle hbi t q) fun H e z => hX w H s e z
end GG

namespace GG
open PySem PySem.Spec PyProof.Rows L2 LamX NdefX
/-! ### a lambda with parameters, kept as a value -/
/-- f is the lambda of F's words, its body e -/
def LamO (f : Addr) (F : NF) (e : Expr) : HO := .ext fun h => ∃ u v : Value, h.get? f = some (PySem.W.kla_obj "<lambda>" F.qual F.params e F.scope F.cl u F.c v)
theorem lamO_at {P : Program} {w : World} {H : Hp} {h : Heap} {f : Addr} {F : NF} {e : Expr} (hok : HOk P w H h) (z : H f = some (LamO f F e)) : ∃ u v : Value, h.get? f = some (PySem.W.kla_obj "<lambda>" F.qual F.params e F.scope F.cl u F.c v) := (hok f _ z).1
theorem lamO_no {f : Addr} {F : NF} {e : Expr} {o : HO} (h : ∀ φ, o ≠ .ext φ) : LamO f F e ≠ o := fun z => h _ z.symm
/-- the words of such a lambda -/
abbrev lamF (X : Cx) (ar : Arguments) (sc : Scope) (c' : Addr) : NF := ⟨"<lambda>", X.env.qual ++ "<lambda>", ar, [], sc, cloFrom X.env.cells sc.names [], c'⟩
abbrev tbUp (H : Hp) (P c' : Addr) (ps : Array Value) (z : Pos) (q : Str) : Hp := upd (upd H P (.tbl (ps ++ #[rawInt z.line, rawInt z.col, .ref c']))) c' (CodeO c' q)
section
variable {T : List (Addr × Str)} {H : Hp} {P c' : Addr} {q : Str} {ps : Array Value} {z : Pos}
theorem ext_more (hP : H P = some (.tbl ps)) (nC : H c' = none) : ExtN H (tbUp H P c' ps z q) := fun b o e n => by
  have n1 : b ≠ c' := ne_of_none e nC
  have n2 : b ≠ P := fun y => n ps (by rw [y, hP] at e; exact (Option.some.inj e).symm)
  show upd (upd H P _) c' _ b = _
  rw [upd_ne n1, upd_ne n2, e]
theorem tabs_more (hT : Tabs T H) (hP : H P = some (.tbl ps)) (nC : H c' = none) (hu : ∀ p ∈ T, p.1 = P → p.2 = q) : Tabs T (tbUp H P c' ps z q) := by
  intro p hp
  have st := ext_more (z := z) (q := q) hP nC
  have nPc : P ≠ c' := ne_of_none hP nC
  obtain ⟨qs, g1, g2, g3⟩ := hT p hp
  by_cases y : p.1 = P
  · rw [y, hP] at g1
    cases g1
    have eL : (ps ++ #[rawInt z.line, rawInt z.col, Value.ref c']).toList = ps.toList ++ [rawInt z.line, rawInt z.col, Value.ref c'] := by simp
    refine ⟨_, by rw [y]; exact (upd_ne nPc).trans upd_same, by rw [eL]; exact PySem.TriplesOk_snoc _ _ _ _ g2, fun pos cv hcv => ?_⟩
    rw [eL] at hcv
    refine (among_app _ g2 hcv).elim (fun k => ?_) fun k => ⟨c', k, by rw [hu p hp y]; exact upd_same⟩
    obtain ⟨c0, e1, e2⟩ := g3 pos cv k
    exact ⟨c0, e1, st _ _ e2 codeO_ne⟩
  · refine ⟨qs, (upd_ne (ne_of_none g1 nC)).trans ((upd_ne y).trans g1), g2, fun pos cv hcv => ?_⟩
    obtain ⟨c0, e1, e2⟩ := g3 pos cv hcv
    exact ⟨c0, e1, st _ _ e2 codeO_ne⟩
end
section
variable {X : Cx} {pins : List (Addr × Obj)} {σ : L2.St} {H : Hp} {s : Shared}
/-- a lambda's object is laid behind all else -/
theorem inv_lam {F : NF} {e : Expr} {h : Heap} {t : Nat} {u v : Value} (I : Inv X pins σ H { s with heap := h, toks := t }) :
    Inv X pins σ (upd H h.objs.size (LamO h.objs.size F e)) { s with heap := h.push (PySem.W.kla_obj "<lambda>" F.qual F.params e F.scope F.cl u F.c v), toks := t } := by
  refine I.laid (a := h.objs.size) (fun b o z => Heap.get?_push_of_some _ z) (Nat.le_refl _) ?_
  have k : (h.push (PySem.W.kla_obj "<lambda>" F.qual F.params e F.scope F.cl u F.c v)).get? h.objs.size = some (PySem.W.kla_obj "<lambda>" F.qual F.params e F.scope F.cl u F.c v) := Heap.get?_push_size _ rfl
  exact ⟨⟨u, v, k⟩, ⟨_, k⟩, fun h1 h2 ⟨x, y, z⟩ st => ⟨x, y, st _ z⟩⟩
/-- the reading of a lambda that is kept -/
def tLamV (T : List (Addr × Str)) (mk : Addr → NF) (e : Expr) : TE := fun _ H Q => Tabs T H ∧ ∀ (f c' : Addr) (H1 : Hp), ExtN H H1 → Tabs T H1 → H f = none → H1 f = some (LamO f (mk c') e) → H1 c' = some (CodeO c' (mk c').qual) → Q (.ref f) H1
theorem pe_lamv {T : List (Addr × Str)} {c P : Addr} {ar : Arguments} {e : Expr} {sc : Scope} {z : Pos} (TB : TabB X.base X.mg c P) (hcode : X.env.code = .ref c) (hm : (P, X.env.qual ++ "<lambda>") ∈ T) (hu : ∀ p ∈ T, p.1 = P → p.2 = X.env.qual ++ "<lambda>")
    (hdef : defaultsOf ar X.env = ([], [])) (hfree : ∀ y ∈ sc.names, y.2 = .free → X.env.scope.names.lookup y.1 = some .cell ∨ X.env.scope.names.lookup y.1 = some .free) : PE X (.Lambda ar e sc z) (tLamV T (lamF X ar sc) e) := by
  refine ⟨fun pins s σ H Q I h => PySem.W.kla_eval hdef ?_⟩
  obtain ⟨hT, h⟩ := h
  have hf : ∀ y ∈ sc.names, y.2 = .free → ∃ c, X.env.cells.lookup y.1 = some c := fun y hy k => (hfree y hy k).elim (fun z => I.ok.has _ (.inl z)) fun z => I.ok.has _ (.inr z)
  obtain ⟨ps, hP, ht, ha⟩ := hT _ hm
  have bP : s.heap.BuiltinsAt X.mg P := TB.bm.keeps I.bk
  have gP : s.heap.get? P = some { cls := .none, data := .fields ps } := I.hok P _ hP
  cases hc : codeAmong z ps.toList with
  | some cv =>
    obtain ⟨c', k, hco⟩ := ha z cv hc
    subst k
    refine PySem.W.kla_makeFunctionHit (ps := ps) (mg := X.mg) (P := P) (c := c) (closure_ok hf) I.ok.glob (I.mod.glob.keeps I.bk) hcode (TB.code.keeps I.bk) gP ht hc bP fun v h' t hx hsz => ?_
    have I1 : Inv X pins σ H { s with heap := h', toks := t } := I.kept hx
    have nF : H h'.objs.size = none := I1.hok.fresh (Nat.le_refl _)
    have sm : ∀ b o, H b = some o → upd H h'.objs.size (LamO h'.objs.size (lamF X ar sc c') e) b = some o := fun b o k => by
      rw [upd_ne (ne_of_none k nF)]
      exact k
    exact ⟨.ref h'.objs.size, _, inv_lam (F := lamF X ar sc c') I1, rfl, h _ c' _ (ExtN.of sm) (hT.ext sm) nF upd_same (sm _ _ hco)⟩
  | none =>
    refine PySem.W.kla_makeFunction (ps := ps) (mg := X.mg) (P := P) (c := c) (closure_ok hf) I.ok.glob (I.mod.glob.keeps I.bk) hcode (TB.code.keeps I.bk) gP ht hc TB.gP bP fun c' v h' t hx hge hlt hrec htb => ?_
    obtain ⟨c2, oc, vs, tq, k, hoc, hd, hv⟩ := hrec
    cases k
    have I1 := inv_table (h' := h') (t' := t) (more := #[rawInt z.line, rawInt z.col, .ref c']) I hP (fun b o hb k => hx b o hb k) htb hge ⟨oc, vs, tq, hoc, hd, hv⟩
    have nC : H c' = none := I.hok.fresh hge
    have nF := I1.hok.fresh (a := h'.objs.size) (Nat.le_refl _)
    have sm : ∀ b o, tbUp H P c' ps z (X.env.qual ++ "<lambda>") b = some o → upd (tbUp H P c' ps z (X.env.qual ++ "<lambda>")) h'.objs.size (LamO h'.objs.size (lamF X ar sc c') e) b = some o := fun b o k => by
      rw [upd_ne (ne_of_none k nF)]
      exact k
    refine ⟨.ref h'.objs.size, _, inv_lam (F := lamF X ar sc c') I1, rfl, h _ c' _ ((ext_more hP nC).trans (ExtN.of sm)) ((tabs_more hT hP nC hu).ext sm) (I.hok.fresh (Nat.le_trans hge (Nat.le_of_lt hlt))) upd_same (sm _ _ upd_same)⟩
end
/-! ### it is called -/
theorem cells_un {cl : List (Str × Addr)} {fr : List Str} {ws : List (Option V)} {h h' : Heap} {H H' : Hp} {fs : List Addr} (C : CellsAt cl fr ws h H) (u : Un fs [] H H' h h') : CellsAt cl fr ws h' H' := by
  have kp : ∀ {c : Addr} {v : Option Value}, H c = none → h.IsCell c v → h'.IsCell c v ∧ H' c = none := fun {c v} n ⟨o, ho, hd⟩ => by
    obtain ⟨sl, k⟩ := u.any ho n (by simp)
    exact ⟨⟨_, k, hd⟩, u.free c o ho n (by simp)⟩
  refine ⟨C.len, fun y c e => ?_, C.inj, fun i y e => ?_⟩
  · obtain ⟨n, v, z⟩ := C.all y c e
    exact ⟨(kp n z).2, v, (kp n z).1⟩
  · obtain ⟨c, hc, hv⟩ := C.has i y e
    refine ⟨c, hc, fun v ev => ?_⟩
    obtain ⟨u, r, z⟩ := hv v ev
    exact ⟨u, r, (kp (C.all y c hc).1 z).1⟩
section
variable {CX : CXT} {P : Program} {w : World} {K : PySem.W.Frag} {mg : Str → Option Value} {base : Heap} {N ps fr : List Str} {F : NF} {e : Expr} {f : Addr} {tb : TE} {k : Nat} {A : Around} {outer : List Env} {s : Shared} {H : Hp} {us : List Value} {vs : List V} {ws : List (Option V)} {Q : VK} {E : XK}
theorem run_lam (S : NScope N ps fr F.scope) (hb : ∀ (u v : Value) (us : List Value), us.length = ps.length → bindArgs (PySem.W.kla_fn "<lambda>" F.qual F.params e F.scope F.cl u (.ref F.c) v) ⟨us, []⟩ = pure (ps.zip us)) (hr : Room (k + 1) A) (e0 : Env0 P w K mg base A outer s H)
    (hf : H f = some (LamO f F e)) (hc : H F.c = some (CodeO F.c F.qual)) (C : CellsAt F.cl fr ws s.heap H) (r : Vals vs us) (hl : vs.length = ps.length) (hbody : Room k (A.deeper (envF F f s.heap.objs.size)) → PE (ncx CX P w K mg base N F f A outer s H E) e tb) (q : tb (startF N vs ws) H Q) :
    codeAny (model P w) A (.call (.ref f) ⟨us, []⟩) (CR CX outer P w H s Q E) s := by
  obtain ⟨u, v, ho⟩ := lamO_at e0.hok hf
  have lim : s.heap.NoLimit := e0.mod.nolimit.keeps fun b o z => (e0.bs b o z).1
  refine PySem.W.kla_callFunE hr.depth ho rfl S.co S.gen rfl (codeO_at e0.hok hc) ?_
  rw [hb u v us (by rw [← r.length]; exact hl)]
  refine wpAny_pure (wpAny_newFunctionEnv S.nocell (fun ⟨n, _⟩ hy => S.par n (List.of_mem_zip hy).1) (fun h₁ hns hsb => ⟨lim.fresh _ hsb, ?_⟩) S.kind)
  have I : Inv (ncx CX P w K mg base N F f A outer s H E) [] (startF N vs ws) H { s with heap := h₁, toks := s.toks + (ps.zip us).length } := inv_startN S hr.hd e0 hl r C hns fun b o z => hsb.extBut b o (Nat.ne_of_lt (Heap.lt_size z)) (Heap.get?_push_of_some _ z)
  show codeAny (model P w) A (.expr e (envF F f s.heap.objs.size)) _ _
  refine PySem.W.kla_codeExpr (wpAny_mono ((hbody (hr.deeper _)).run [] _ _ H Q I q) (fun x s' hq => ?_) fun x s' hq => hq)
  obtain ⟨y, H', J, rv, q'⟩ := hq
  exact ⟨y, H', J.os, J.bare, J.base, J.hok, rv, q'⟩
end
/-- x(..), x a name that holds one of such lambdas; ws: what each has captured -/
def tCallV {ι : Type} (mk : ι → Addr → NF) (e : ι → Expr) (i : Nat) (N : ι → List Str) (n : Nat) (ws : List (Option V)) (tb : ι → TE) (t : TA) : TE := fun σ H Q => ∃ (b : ι) (f c' : Addr), σ[i]? = some (some (.ref f)) ∧ H f = some (LamO f (mk b c') (e b)) ∧ t σ H fun vs H1 => vs.length = n ∧ H1 f = some (LamO f (mk b c') (e b)) ∧ H1 (mk b c').c = some (CodeO (mk b c').c (mk b c').qual) ∧ tb b (startF (N b) vs ws) H1 Q
section
variable {ι : Type} {X : Cx} {CX : CXT} {mk : ι → Addr → NF} {e : ι → Expr} {cl : List (Str × Addr)} {N ps : ι → List Str} {fr : List Str} {i k m : Nat} {ws : List (Option V)} {x : Str} {E : XK} {t : TA} {tb : ι → TE} {a : Expr} {as : List Expr} {p pos : Pos}
theorem lamAt {pins : List (Addr × Obj)} {σ : L2.St} {H : Hp} {s : Shared} {f : Addr} {F : NF} {e : Expr} (I : Inv X pins σ H s) (z : H f = some (LamO f F e)) : PySem.W.FnAt f s.heap := by
  obtain ⟨u, v, ho⟩ := lamO_at I.hok z
  exact ⟨_, _, _, _, ho⟩
theorem pe_callv (C0 : CellsAt cl fr ws X.s_0.heap X.H_0) (hex : X.ex = []) (hcl : ∀ b c', (mk b c').cl = cl) (hm : ∀ b, (ps b).length = m) (S : ∀ b c', NScope (N b) (ps b) fr (mk b c').scope)
    (hb : ∀ (b : ι) (c' : Addr) (u v : Value) (us : List Value), us.length = (ps b).length → bindArgs (PySem.W.kla_fn "<lambda>" (mk b c').qual (mk b c').params (e b) (mk b c').scope (mk b c').cl u (.ref (mk b c').c) v) ⟨us, []⟩ = pure ((ps b).zip us)) (hr : Room (k + 1) X.A) (hx : Passes CX X E) (hN : X.N[i]? = some x) (hv : Vis X.env.scope x) (ha : PA X (a :: as) t)
    (hbody : ∀ (b : ι) (c' f : Addr) (s : Shared) (H : Hp), Room k (X.A.deeper (envF (mk b c') f s.heap.objs.size)) → PE (ncx CX X.prog X.w X.K X.mg X.base (N b) (mk b c') f X.A X.stack s H E) (e b) (tb b))
    (hd : (x == ("__debug__" : Str)) = false := by decide) (hcd : (x == ("__classdict__" : Str)) = false := by decide)
    (he : starEach (a :: as) X.env = (false, eval a X.env) :: starEach as X.env := by rfl) (hpl : (backTo pos (starEach as X.env)).any (·.1) = false := by rfl) :
    PE X (.Call (.Name x p) (a :: as) [] pos) (tCallV mk e i N m ws tb t) := by
  refine ⟨fun pins s σ H Q I h => ?_⟩
  obtain ⟨b, f, c', hs, hf, ht⟩ := h
  refine wpAny_Call_Name_kw (thn ((pe_var (i := i) (pos := p) hN hv hd hcd).run pins s σ H (fun v H1 => v = .ref f ∧ H1 = H) I ⟨.ref f, hs, rfl, rfl⟩) fun u s1 ⟨v, H1, I1, r1, ev, eH⟩ => ?_)
  subst ev
  rw [eH] at I1
  cases (show u = Value.ref f from r1)
  refine PySem.W.callWith_F (first := []) (lamAt I1 hf) (thn (ha.run pos pins s1 σ H _ I1 ht) fun us s2 ⟨vs, H2, I2, r, hl, h1, h2, q⟩ => ⟨lamAt I2 h1, ?_⟩) he hpl
  have un : Un X.fs [] X.H_0 H2 X.s_0.heap s2.heap := by
    have := I2.base
    rw [hex] at this
    exact this
  have C2 : CellsAt (mk b c').cl fr ws s2.heap H2 := by
    rw [hcl]
    exact cells_un C0 un
  refine wpAny_call (codeAny_mono (run_lam (N := N b) (ps := ps b) (S b c') (hb b c') hr I2.env0 h1 h2 C2 r (hl.trans (hm b).symm) (fun hr2 => hbody b c' f s2 H2 hr2) q) fun y s' hq => ?_)
  match y, hq with
  | .error er, hq => exact hx pins σ H2 s2 er s' I2 hq
  | .ok (.ret u), hq => exact I2.after hq
  | .ok .next, hq => exact False.elim hq
  | .ok .brk, hq => exact False.elim hq
  | .ok .cont, hq => exact False.elim hq
end
/-! ### a lambda without parameters that calls it, handed to a def -/
section
variable {X : Cx} {pins : List (Addr × Obj)} {σ : L2.St} {H : Hp} {s : Shared}
theorem act_v {CXg : CXT} {Eg : XK} {Ng : List Str} {qg : Str} {sg : Scope} {g f c' : Addr} {cdg pm ctv : Value} {ar : Arguments} {e : Expr} {sc : Scope} {k i : Nat} {x : Str} {pn : List (Addr × Obj)} {xe : Value → Shared → Prop} {W : WX} {E : XK} {tb : TE} {p1 p2 : Pos} {cl : List (Str × Addr)} {fr : List Str} {ws : List (Option V)}
    (C0 : CellsAt cl fr ws s.heap H) (I : Inv X pins σ H s) (L : LamS X.env.scope sc) (hf : s.heap.get? f = some (PySem.W.kla_obj "<lambda>" (X.env.qual ++ "<lambda>") ar e sc (cloFrom X.env.cells sc.names []) pm c' ctv)) (hfn : H f = none) (hfr : f ∉ frs X.stack)
    (hbind : bindArgs (PySem.W.kla_fn "<lambda>" (X.env.qual ++ "<lambda>") ar e sc (cloFrom X.env.cells sc.names []) pm (.ref c') ctv) ⟨[], []⟩ = pure [])
    (tk : Takes ((cxOf CXg X.prog X.w X.K X.mg X.base Ng qg sg g cdg X.A X.stack s H Eg).tr pn xe) W) (hW : ∀ cls d σ' H', E cls d H' → W cls d σ' H') (hr : Room (k + 1) (X.A.deeper (envOfC qg sg s.heap.objs.size g cdg)))
    (hbody : ∀ (A : Around) (outer : List Env) (s : Shared) (H : Hp), CellsAt cl fr ws s.heap H → Room k (A.deeper (lamEnv X sc s.heap.objs.size f c')) → PE (lamCx X A outer s H E sc f c') e tb)
    (hN : Ng[i]? = some x) (hv : Vis sg x) (hd : (x == ("__debug__" : Str)) = false) (hcd : (x == ("__classdict__" : Str)) = false) :
    PE ((cxOf CXg X.prog X.w X.K X.mg X.base Ng qg sg g cdg X.A X.stack s H Eg).tr pn xe) (.Call (.Name x p1) [] [] p2) (fun τ HZ Q => τ[i]? = some (some (.ref f)) ∧ HZ c' = some (CodeO c' (X.env.qual ++ "<lambda>")) ∧ tb σ HZ Q) := by
  refine ⟨fun pz sz τ HZ Q IZ ⟨hs, hc, ht⟩ => ?_⟩
  refine wpAny_Call_Name_kw (thn ((pe_var (i := i) (pos := p1) hN hv hd hcd).run pz sz τ HZ (fun v H1 => v = .ref f ∧ H1 = HZ) IZ ⟨.ref f, hs, rfl, rfl⟩) fun u s1 ⟨v, H1, I1, r1, ev, eH⟩ => ?_)
  subst ev
  rw [eH] at I1
  cases (show u = Value.ref f from r1)
  have un : Un (frs X.stack) [] H HZ s.heap s1.heap := I1.base
  have of1 := un.keep f _ hf hfn hfr (fun z => nomatch z)
  have hx : Passes (L2.CX X.prog X.w) ((cxOf CXg X.prog X.w X.K X.mg X.base Ng qg sg g cdg X.A X.stack s H Eg).tr pn xe) E := passes_call tk hW
  refine PySem.W.callWith_F0 ⟨_, _, _, _, of1⟩ (wpAny_call (codeAny_mono (R := CR (L2.CX X.prog X.w) (envOfC qg sg s.heap.objs.size g cdg :: X.stack) X.prog X.w HZ s1 Q E) ?_ fun y s' hq => ?_))
  · refine PySem.W.kla_callFunE hr.depth of1 rfl L.co L.gen rfl (codeO_at I1.hok hc) ?_
    show wpAny _ _ (bindArgs _ ⟨[], []⟩) _ _ _
    rw [hbind]
    refine wpAny_pure (wpAny_newFunctionEnv (fun y hy => (L.own y hy).2) (fun y hy => absurd hy (by simp)) (fun h₁ hns hsb => ⟨I1.nolimit.fresh _ hsb, ?_⟩) L.kind)
    have J : Inv (lamCx X (X.A.deeper (envOfC qg sg s.heap.objs.size g cdg)) (envOfC qg sg s.heap.objs.size g cdg :: X.stack) s1 HZ E sc f c') [] σ HZ { s1 with heap := h₁, toks := s1.toks + ([] : List (Str × Value)).length } :=
      lam_start2 I L I1.env0 hr.hd un hns fun b o z => hsb.extBut b o (Nat.ne_of_lt (Heap.lt_size z)) (Heap.get?_push_of_some _ z)
    show codeAny _ _ (.expr e (lamEnv X sc s1.heap.objs.size f c')) _ _
    refine PySem.W.kla_codeExpr (wpAny_mono ((hbody _ _ s1 HZ (cells_un C0 un) (hr.deeper _)).run [] _ _ HZ Q J ht) (fun v s' hq => ?_) fun v s' hq => hq)
    obtain ⟨y, H', J', rv, q⟩ := hq
    exact ⟨y, H', J'.os, J'.bare, J'.base, J'.hok, rv, q⟩
  · match y, hq with
    | .error er, hq => exact hx pz τ HZ s1 er s' I1 hq
    | .ok (.ret u), hq => exact I1.after hq
    | .ok .next, hq => exact False.elim hq
    | .ok .brk, hq => exact False.elim hq
    | .ok .cont, hq => exact False.elim hq
/-- x(lambda: e), e asks what such a lambda has captured -/
theorem pe_lamcallv {T : List (Addr × Str)} {TT : (XK → Hp → VK → Prop) → Hp → VK → Prop} {x a : Str} {g c P : Addr} {k : Nat} {pg : Arguments} {bg : List Stmt} {sg : Scope} {dV kV doc pm cdv ct oc : Value} {an od : Option Addr} {osl : Array (Option Value)} {Ng : List Str}
    {ar : Arguments} {e : Expr} {sc : Scope} {t : List (Option V) → XK → TE} {p lpos pos : Pos} {cl : List (Str × Addr)} {fr : List Str} {js : List Nat} (cp : X.Ok → Caps X cl fr js) (hg : Gl X x) (hm : X.mg x = some (.ref g)) (hk : PySem.W.keepIn X.K (.ref g) = true)
    (lk : X.K.lookup g = some ⟨oc, od, .func (PySem.W.fnOf x x pg bg sg dV kV doc pm an cdv ct), osl⟩) (hcg : PySem.W.codeIn X.K cdv x = true) (hb : L2.Binds X.K (PySem.W.fnOf x x pg bg sg dV kV doc pm an cdv ct) [a] []) (Sg : FnScope Ng [a] sg) (hNg : Ng[0]? = some a) (hva : Vis sg a)
    (hG : GivesTo X Ng x sg g cdv bg a (X.env.qual ++ "<lambda>") TT) (TB : TabB X.base X.mg c P) (hcode : X.env.code = .ref c) (hmT : (P, X.env.qual ++ "<lambda>") ∈ T) (hu : ∀ p ∈ T, p.1 = P → p.2 = X.env.qual ++ "<lambda>") (hr : Room (k + 2) X.A) (L : LamS X.env.scope sc) (hdef : defaultsOf ar X.env = ([], []))
    (hbind : ∀ (q : Str) (cl : List (Str × Addr)) (pm cv ctv : Value), bindArgs (PySem.W.kla_fn "<lambda>" q ar e sc cl pm cv ctv) ⟨[], []⟩ = pure [])
    (hbody : ∀ (ws : List (Option V)) (A : Around) (outer : List Env) (s : Shared) (H : Hp) (E : XK) (f c' : Addr), CellsAt cl fr ws s.heap H → Room k (A.deeper (lamEnv X sc s.heap.objs.size f c')) → PE (lamCx X A outer s H E sc f c') e (t ws E))
    (hdb : (x == ("__debug__" : Str)) = false := by decide) (hd : (a == ("__debug__" : Str)) = false := by decide) (hcd : (a == ("__classdict__" : Str)) = false := by decide) :
    PE X (.Call (.Name x p) [.Lambda ar e sc lpos] [] pos) (fun σ => tLam T TT (fun E => t (js.map (slotAt σ)) E) σ) := by
  refine ⟨fun pins s σ H Q I h => ?_⟩
  obtain ⟨hT, h⟩ := h
  refine wpAny_Call_Name_kw (ld_glob I hg hm ?_ hdb)
  refine PySem.W.callWith_K (h₀ := X.base) I.ok.mod.kin hk ?_ (by rfl) (by rfl)
  show wpAny _ _ (spliced ((false, eval (.Lambda ar e sc lpos) X.env) :: backTo pos (starEach [] X.env))) _ _ s
  refine Calls.spliced_cons (lam_make2 I TB hcode hmT hu hT hdef (L.has I.ok) fun f c' pm' ctv H1 s' I1 eN T1 hf hfn hfr hco => Calls.spliced_nil ⟨I1.kIn, ?_⟩)
  refine wpAny_call (codeAny_mono (R := CR C8.CX0 X.stack X.prog X.w H1 s' Q C8.E0) ?_ fun r s2 hq => ?_)
  · refine run_ofS (N := Ng) (ps := [a]) (us := [.ref f]) (vs := [.ref f]) lk hcg Sg hr I1.env0 (hb s' [.ref f] I1.kIn rfl) (.cons rfl .nil) rfl fun hr' => ?_
    obtain ⟨t', ht', hq'⟩ := hG f c' s' H1 Q (fun E H' Q' => t (js.map (slotAt σ)) E σ H' Q') (fun W pn xe E p1 p2 tk hW => act_v (i := 0) (cells_of I1 (cp I1.ok)) I1 L hf hfn hfr (hbind _ _ _ _ _) tk hW hr' (fun A outer s H hC hr2 => hbody _ A outer s H E f c' hC hr2) hNg hva hd hcd) hco (h H1 eN T1)
    exact ⟨t', ht'.nox, hq'⟩
  · match r, hq with
    | .error er, hq => exact (show False from hq).elim
    | .ok (.ret u), hq => exact I1.after hq
    | .ok .next, hq => exact False.elim hq
    | .ok .brk, hq => exact False.elim hq
    | .ok .cont, hq => exact False.elim hq
end
end GG

namespace K19
open PySem PySem.Spec PyProof.Rows L2
/-! ### an exception that was caught and is kept by a name -/
/-- the exception object at a, of the class cls, its own dict d -/
def Held (cls : Value) (d : Option Addr) (a : Addr) : HO := .ext fun h => ∃ (ob : Obj) (fv : Array Value), h.get? a = some ob ∧ Zc cls d ob ∧ ob.data = .fields fv
section
variable {X : Cx} {pins : List (Addr × Obj)} {σ : L2.St} {H : Hp} {s : Shared} {a : Addr} {ob : Obj} {fv : Array Value} {cls : Value} {d : Option Addr}
/-- a pinned exception that is newer than the frame is tracked from here on -/
theorem track (I : Inv X ((a, ob) :: pins) σ H s) (hz : Zc cls d ob) (hd : ob.data = .fields fv) (n0 : X.s_0.heap.get? a = none) (np : ∀ p ∈ X.pn ++ pins, p.1 ≠ a) : Inv X pins σ (upd H a (Held cls d a)) s := by
  obtain ⟨ha, hn, hL, hF, _⟩ := I.pin (a, ob) (List.mem_append_right _ List.mem_cons_self)
  have ha : s.heap.get? a = some ob := ha
  have hn : H a = none := hn
  have hL : a ≠ X.env.locals := hL
  have new : ObjOk X.prog X.w (upd H a (Held cls d a)) s.heap a (Held cls d a) := ⟨⟨ob, fv, ha, hz, hd⟩, ⟨ob, ha⟩, fun _ _ ⟨o, v, e, r⟩ k => ⟨o, v, k o e, r⟩⟩
  have old : ∀ b o, X.s_0.heap.get? b = some o → b ≠ a := fun b o e z => by
    rw [z, n0] at e
    cases e
  have tr : ∀ b o, H b = some o → upd H a (Held cls d a) b = some o := fun b o e => by
    rw [upd_ne (ne_of_none e hn)]
    exact e
  have B := I.base
  refine ⟨I.ok, I.os, I.bare, ⟨B.keep, B.slot, fun b o e n x => ?_, B.there, fun b xs e => tr _ _ (B.tups b xs e), fun b o u e => tr _ _ (B.frzs b o u e), fun b ps e => ?_⟩, I.loc, I.cell, ?_, fun x c e => ?_, fun p hp => ?_, HOk.laidN I.hok (fun _ _ q => q) hn new, I.len⟩
  · rw [upd_ne (old b o e)]
    exact B.free b o e n x
  · obtain ⟨m, q⟩ := B.tbls b ps e
    exact ⟨m, tr _ _ q⟩
  · rw [upd_ne hL.symm]
    exact I.free
  · have nc : c ≠ a := fun z => by
      obtain ⟨v, o, q, q2⟩ := I.cell x c e
      rw [z, ha] at q
      cases q
      rw [hd] at q2
      cases q2
    rw [upd_ne nc]
    exact I.freeC x c e
  · have hp2 : p ∈ X.pn ++ ((a, ob) :: pins) := by
      rcases List.mem_append.mp hp with z | z
      · exact List.mem_append_left _ z
      · exact List.mem_append_right _ (List.mem_cons_of_mem _ z)
    obtain ⟨e1, e2, e3⟩ := I.pin p hp2
    exact ⟨e1, by rw [upd_ne (np p hp)]; exact e2, e3⟩
/-- isinstance(e, C) of a kept exception of just this class, and its field -/
theorem held_at (I : Inv X pins σ H s) (e : H a = some (Held cls d a)) : ∃ ob fv, s.heap.get? a = some ob ∧ Zc cls d ob ∧ ob.data = .fields fv := by
  have z : ObjOk X.prog X.w H s.heap a (.ext fun h => ∃ (ob : Obj) (fv : Array Value), h.get? a = some ob ∧ Zc cls d ob ∧ ob.data = .fields fv) := I.hok a _ e
  exact z.1
end
/-! ### try: .. except C as n: y = n -/
/-- what the clause wishes of what its body raises: it is C's, and behind it y (slot j) keeps it -/
def wKeep (K : PySem.W.Frag) (c : Value) (i j m : Nat) (D : Ends) : WX := fun cls d σ H =>
  PySem.W.exmOne K cls c = some true ∧ ∀ a, H a = none → σ.length = m → D.nx (((σ.set i (some (.ref a))).set j (some (.ref a))).set i none) (upd H a (Held cls d a))
section
variable {X : Cx} {x n y : Str} {c : Value} {i j : Nat} {body : List Stmt} {np px py ap hp tp : Pos} {tb : WX → TS}
theorem ps_try_keep (stk : X.stack = X.env :: X.outer) (fra : X.env.frame = some X.env.locals) (noex : X.ex = []) (nod : X.N.Nodup) (atI : X.N[i]? = some n) (atJ : X.N[j]? = some y) (kn : X.env.kindOf n = some .local) (ly : Loc X.env.scope y) (fy : X.fn y = true ∨ X.env.scope.names.lookup y = some .local) (nm : Names X x c)
    (hi : i < X.N.length) (d1 : (n == ("__debug__" : Str)) = false) (d2 : (n == ("__classdict__" : Str)) = false)
    (run : ∀ (W : WX) (pn : List (Addr × Obj)) (xe : Value → Shared → Prop), Takes (X.tr pn xe) W → PassesOwn (model X.prog X.w) X.A X.env xe → PSs (X.tr pn xe) body (tb W)) :
    L2.PS X (.Try body [.ExceptHandler (some (.Name x np)) (some n) [.Assign [.Name y py] (.Name n px) ap] hp] [] [] tp) (fun D σ H => tb (wKeep X.K c i j X.N.length D) D σ H) := by
  refine ⟨fun pins s σ H D I wish => ?_⟩
  have good := I.ok
  have lone : Loc X.env.scope n := .inl kn
  have frames : X.A.frames = some (X.env :: X.outer) := by rw [good.frames, stk]
  refine wpAny_Try_except (wpAny_mono ((run (wKeep X.K c i j X.N.length D) (X.pn ++ pins) (fun e z => wpAny (model X.prog X.w) X.A (noteFrame e X.env) (fun _ z2 => wpAny (model X.prog X.w) X.A (setFlight e none)
      (fun _ z3 => wpAny (model X.prog X.w) X.A (handleBy e X.env [.ExceptHandler (some (.Name x np)) (some n) [.Assign [.Name y py] (.Name n px) ap] hp]) (SP X pins D) X.xe z3) X.xe z2) X.xe z) (fun u sT air => ?_) PassesOwn.looking).run [] s σ H D (I.toTry _) wish) (fun fl sE hE => ?_) (fun _ _ z => z))
  · obtain ⟨a, B, sG, pG, σG, HG, cls, d, rfl, JG, ground, slots, sky, free, hos, bare, ematch, keep⟩ := air
    have J : Inv X pins σG HG sG := JG.ofTry good
    rw [show (X.tr (X.pn ++ pins) _).stack = X.env :: X.outer from stk] at sky
    show wpAny (model X.prog X.w) X.A (noteFrame (.ref a) X.env) _ _ _
    refine Sky.land Zc.steady frames fra sky fun hA flA upA => ?_
    have JA : Inv X pins σG HG { sT with heap := hA } := J.landed ground flA.1 (slots.trans upA) hos bare
    obtain ⟨oA, vA, gA, zA, dA⟩ := flA.there
    have away : a ∉ frs (X.env :: X.outer) := fun hm => by
      obtain ⟨_, oz, ez, nf⟩ := flA.2.2.1.mem hm
      rw [gA] at ez
      cases ez
      exact nf _ dA
    have noL : a ≠ X.env.locals := fun z => away (List.mem_filterMap.mpr ⟨X.env, List.mem_cons_self, by rw [fra, z]⟩)
    have noF : a ∉ X.fs := fun hm => by
      obtain ⟨e, he, q⟩ := List.mem_filterMap.mp hm
      exact away (List.mem_filterMap.mpr ⟨e, List.mem_cons_of_mem _ he, q⟩)
    have SA := JA.suite gA dA free noL noF
    have Bnone : B.get? a = none := flA.2.1
    have offB : ∀ b o, sG.heap.get? b = some o → b ∉ frs X.stack → b ≠ a := fun b o e nf z => by
      have q := ground b o e nf
      rw [z, Bnone] at q
      cases q
    have off0 : X.s_0.heap.get? a = none := by
      cases e : X.s_0.heap.get? a with
      | none => rfl
      | some o =>
        obtain ⟨o2, q⟩ := J.base.there a o e (by rw [noex]; exact fun z => nomatch z)
        exact absurd rfl (offB a o2 q (by rw [stk]; exact away))
    have offP : ∀ p ∈ X.pn ++ pins, p.1 ≠ a := fun p hp => by
      obtain ⟨q, _, nl, nf, _⟩ := J.pin p hp
      refine offB p.1 _ q fun hm => ?_
      rw [stk] at hm
      obtain ⟨e, he, qe⟩ := List.mem_filterMap.mp hm
      rcases List.mem_cons.mp he with z | z
      · rw [z, fra] at qe
        exact nl (Option.some.inj qe).symm
      · exact nf (List.mem_filterMap.mpr ⟨e, z, qe⟩)
    -- the clause takes it
    refine wpAny_handleBy_cons (codeAny_handlers_test ?_) (by intro q; cases q)
    have look : PySem.W.Looks (model X.prog X.w) hA (typeOf (.ref a)) cls := fun _ _ _ _ k q => wpAny_typeOf_ref (k _ _ gA) (by rw [zA.1]; exact q)
    have answer := PySem.W.exm_one (M := model X.prog X.w) JA.kIn look ematch
    have named : ∀ {Q E : Value → Shared → Prop}, Q c { sT with heap := hA } → wpAny (model X.prog X.w) (X.A.mark (some (.ref a))) (eval (.Name x np) X.env) Q E { sT with heap := hA } := fun {Q E} q => by
      obtain ⟨g1, g2, g3 | ⟨g3, g4, g5⟩⟩ := nm
      · exact ld_glob (X := X.suite a ((a, oA) :: (X.pn ++ pins))) SA g1 g3 q g2
      · exact ld_blt (X := X.suite a ((a, oA) :: (X.pn ++ pins))) SA g1 g3 g4 q g5 g2
    refine named (answer.here ?_)
    refine codeAny_handlers_suite_as (HandSPX.lands_againZ flA fun hB flB upB => ?_)
    have JB : Inv X pins σG HG { sT with heap := hB } := J.landed ground flB.1 ((slots.trans upA).trans upB) hos bare
    obtain ⟨oB, vB, gB, zB, dB⟩ := flB.there
    have SB' := JB.suite gB dB free noL noF
    refine store_ok (X := X.suite a ((a, oB) :: (X.pn ++ pins))) (v := .ref a) SB' nod atI lone rfl (fun s5 S5 => ?_) (.inr kn)
    have vis : Vis X.env.scope n := .inl kn
    have suite : PSs (X.suite a ((a, oB) :: (X.pn ++ pins))) [.Assign [.Name y py] (.Name n px) ap] (tAsg (tVar i) (gName j)) := pss_one (ps_set nod atJ ly (pe_var atI vis d1 d2) rfl fy)
    have inI : (σG.set i (some (V.ref a)))[i]? = some (some (V.ref a)) := List.getElem?_set_self (by rw [J.len]; exact hi)
    refine wpAny_mono (suite.run [] s5 _ HG { nx := fun σ' H' => σ' = (σG.set i (some (V.ref a))).set j (some (V.ref a)) ∧ H' = HG, rt := fun _ _ => False } S5 ⟨_, inI, rfl, rfl⟩) (fun fl s6 h6 => ?_) (fun _ _ z => False.elim z)
    cases fl with
    | next =>
      obtain ⟨σ6, H6, S6, e1, e2⟩ := h6
      rw [e1, e2] at S6
      have K6 : Inv X ((a, oB) :: pins) ((σG.set i (some (V.ref a))).set j (some (V.ref a))) HG s6 := ⟨good, S6.os, S6.bare, S6.base, S6.loc, S6.cell, S6.free, S6.freeC, fun p hp => S6.pin p (by
        rw [List.append_nil]
        rcases List.mem_append.mp hp with z | z
        · exact List.mem_cons_of_mem _ (List.mem_append_left _ z)
        · rcases List.mem_cons.mp z with z | z
          · rw [z]
            exact List.mem_cons_self
          · exact List.mem_cons_of_mem _ (List.mem_append_right _ z)), S6.hok, S6.len⟩
      exact gone_ok K6 nod atI kn fun s7 K7 => ⟨_, _, track K7 zB dB off0 offP, keep a free J.len⟩
    | brk =>
      obtain ⟨_, _, _, z⟩ := h6
      exact z.elim
    | cont =>
      obtain ⟨_, _, _, z⟩ := h6
      exact z.elim
    | ret u =>
      obtain ⟨_, _, _, _, _, z⟩ := h6
      exact z.elim
  · cases fl with
    | next =>
      obtain ⟨_, _, J, q⟩ := hE
      exact wpAny_execs_nil ⟨_, _, J.ofTry good, q⟩
    | brk =>
      obtain ⟨_, _, J, q⟩ := hE
      exact ⟨_, _, J.ofTry good, q⟩
    | cont =>
      obtain ⟨_, _, J, q⟩ := hE
      exact ⟨_, _, J.ofTry good, q⟩
    | ret u =>
      obtain ⟨_, _, _, J, r, q⟩ := hE
      exact ⟨_, _, _, J.ofTry good, r, q⟩
end
theorem any_cls {K : PySem.W.Frag} {C : Addr} (h : PySem.W.hasDictIn K C = true) : (PySem.W.clsIn K C).isSome = true := by
  unfold PySem.W.hasDictIn at h
  cases e : PySem.W.clsIn K C with
  | some c => rfl
  | none =>
    rw [e] at h
    cases h
section
variable {X : Cx} {C : Addr}
/-- a kept exception of the class at C, with its fields -/
def Kept (C : Addr) (fs : List (Str × V)) (a : Addr) (H : Hp) : Prop := ∃ dd : Addr, H a = some (Held (.ref C) (some dd) a) ∧ H dd = some (.xd fs)
theorem kept_inst {pins : List (Addr × Obj)} {σ : L2.St} {H : Hp} {s : Shared} {a : Addr} {fs : List (Str × V)} (I : Inv X pins σ H s) (k : Kept C fs a H) :
    ∃ (ob : Obj) (mA : Str → Option Value) (od : Obj), PySem.W.InstAt s.heap a ob C (some od) ∧ (∀ f, RelO (fs.lookup f) (mA f)) ∧ ∀ n, PySem.W.lookIn n od = some (mA n) := by
  obtain ⟨dd, h1, h2⟩ := k
  obtain ⟨ob, fv, g, z, dt⟩ := held_at I h1
  have q : ObjOk X.prog X.w H s.heap dd (.xd fs) := I.hok dd _ h2
  obtain ⟨mA, ns, rel⟩ := q
  obtain ⟨od, go, lo⟩ := lookIn_ns ns
  exact ⟨ob, mA, od, ⟨g, z.1, by unfold PySem.W.notCls; rw [dt] <;> rfl, by rw [z.2]; exact go⟩, rel, lo⟩
def rIsH (C : Addr) : List V → Hp → VK → Prop := fun xs H Q => ∃ (a : Addr) (fs : List (Str × V)), xs = [.ref a, .ref C] ∧ Kept C fs a H ∧ Q (.bl true) H
theorem call_isH (E : ExcC X.K C) : CallR X (.builtin "isinstance") (rIsH C) := by
  intro pins s σ H xs us Q I r h
  obtain ⟨a, fs, rfl, k, q⟩ := h
  obtain ⟨u1, u2, rfl, r1, r2⟩ := vals2 r
  obtain rfl : u1 = Value.ref a := r1
  obtain rfl : u2 = Value.ref C := r2
  obtain ⟨ob, mA, od, J, _⟩ := kept_inst I k
  have one : PySem.W.kitOne X.K (.ref C) (.ref C) = some true := by
    unfold PySem.W.kitOne
    rw [if_pos (beq_self_eq_true _)]
  exact PySem.W.kia_one (PySem.W.kitx_exc (any_cls E.hd) E.hg E.hk E.hs E.ha E.hn E.ht E.hm) I.kIn J one (fun z => nomatch z) fun tk => ⟨.bl true, H, I.tok tk, rfl, q⟩
def tHf (C : Addr) (f : Str) (te : TE) : TE := fun σ H Q => te σ H fun x H1 => ∃ (a : Addr) (fs : List (Str × V)) (v : V), x = .ref a ∧ Kept C fs a H1 ∧ fs.lookup f = some v ∧ Q v H1
theorem pe_hf {e : Expr} {te : TE} {pos : Pos} {n : Str} (T : XfC X.K C) (no : PySem.W.findIn X.K (.ref C) n = some none) (he : PE X e te) (hb : attributeBase e n X.env (eval e X.env) = eval e X.env := by rfl) : PE X (.Attribute e n pos) (tHf C n te) := by
  refine ⟨fun pins s σ H Q I h => attr_of hb (thn (he.run pins s σ H _ I h) fun u s1 hh => ?_)⟩
  obtain ⟨x, H1, I1, rx, a, fs, v, rfl, k, l, q⟩ := hh
  obtain rfl : u = Value.ref a := rx
  obtain ⟨ob, mA, od, J, rel, lo⟩ := kept_inst I1 k
  obtain ⟨w, hw, rw'⟩ := RelO.some_of (v := v) (o := mA n) (by rw [← l]; exact rel n)
  exact HandSPX.exc_get I1.kIn J T.ga T.gg T.exC (PySem.W.findObj_own T.hdC no rfl (by rw [lo, hw])) (handed_of rw') ⟨v, H1, I1.tok _, rw', q⟩
end

/-! ### isinstance of a kept exception, any answer -/
def rIsK (K : PySem.W.Frag) (D : Addr) : List V → Hp → VK → Prop := fun xs H Q => ∃ (a C : Addr) (fs : List (Str × V)) (b : Bool), xs = [.ref a, .ref D] ∧ Kept C fs a H ∧ ExcC K C ∧ PySem.W.kitOne K (.ref C) (.ref D) = some b ∧ Q (.bl b) H
section
variable {X : Cx} {C D : Addr}
theorem call_isK : CallR X (.builtin "isinstance") (rIsK X.K D) := by
  intro pins s σ H xs us Q I r h
  obtain ⟨a, C, fs, b, rfl, k, E, one, q⟩ := h
  obtain ⟨u1, u2, rfl, r1, r2⟩ := vals2 r
  obtain rfl : u1 = Value.ref a := r1
  obtain rfl : u2 = Value.ref D := r2
  obtain ⟨ob, mA, od, J, _⟩ := kept_inst I k
  exact PySem.W.kia_one (PySem.W.kitx_exc (any_cls E.hd) E.hg E.hk E.hs E.ha E.hn E.ht E.hm) I.kIn J one (fun z => nomatch z) fun tk => ⟨.bl b, H, I.tok tk, rfl, q⟩
end
/-! ### a kept exception's field, its class told by the promise -/
def tHg (K : PySem.W.Frag) (f : Str) (te : TE) : TE := fun σ H Q => te σ H fun x H1 => ∃ (a C : Addr) (fs : List (Str × V)) (v : V), x = .ref a ∧ Kept C fs a H1 ∧ XfC K C ∧ PySem.W.findIn K (.ref C) f = some none ∧ fs.lookup f = some v ∧ Q v H1
section
variable {X : Cx}
theorem pe_hg {e : Expr} {te : TE} {pos : Pos} {n : Str} (he : PE X e te) (hb : attributeBase e n X.env (eval e X.env) = eval e X.env := by rfl) : PE X (.Attribute e n pos) (tHg X.K n te) := by
  refine ⟨fun pins s σ H Q I h => attr_of hb (thn (he.run pins s σ H _ I h) fun u s1 hh => ?_)⟩
  obtain ⟨x, H1, I1, rx, a, C, fs, v, rfl, k, T, no, l, q⟩ := hh
  obtain rfl : u = Value.ref a := rx
  obtain ⟨ob, mA, od, J, rel, lo⟩ := kept_inst I1 k
  obtain ⟨w, hw, rw'⟩ := RelO.some_of (v := v) (o := mA n) (by rw [← l]; exact rel n)
  exact HandSPX.exc_get I1.kIn J T.ga T.gg T.exC (PySem.W.findObj_own T.hdC no rfl (by rw [lo, hw])) (handed_of rw') ⟨v, H1, I1.tok _, rw', q⟩
end
/-! ### o.m(k = v, ..) -/
def tMethK (C : Addr) (m : Str) (nk : Nat) (sp : Sp) (gV : List V → List V → List V) (E : XK) (ta : TE) (tk : TA) : TE := fun σ H Q => ta σ H fun x H1 => ∃ a dx fs, x = .ref a ∧ H1 a = some (.ins C dx fs) ∧ fs.lookup m = none ∧ tk σ H1 fun zs H2 => zs.length = nk ∧ sp (gV [x] zs) H2 Q E
section
variable {X : Cx} {CX : CXT} {k : Nat} {f C : Addr} {fd : FuncData} {ps ks : List Str} {sp : Sp} {E : XK} {m : Str} {pos apos : Pos} {o : Expr} {kws : List Keyword} {ta : TE} {tk : TA} {g : List Value → List Value → List Value} {gV : List V → List V → List V}
theorem pe_methK0 {pl : Sem Bool} (he : PE X o ta) (c : Cls X.K C) (hm : Meth X.K C m f) (F : FnOk X.prog X.w X.K X.mg X.base CX k f fd ps sp) (hr : Room k X.A) (hb : KBn X.K fd ps 1 ks g gV) (hx : Passes CX X E) (hkw : PK X kws tk)
    (hall : (backToKw pos (keywordEach kws X.env)).all (·.1.isSome) = true := by rfl) (hks : (backToKw pos (keywordEach kws X.env)).filterMap (·.1) = ks := by rfl)
    (hpl : ((backTo pos (starEach [] X.env)).any (·.1) || (backToKw pos (keywordEach kws X.env)).any (·.1.isNone)) = false := by rfl)
    (ht : eval (.Call (.Attribute o m apos) [] kws pos) X.env = (do
      let ov ← eval o X.env
      standAt apos.atName
      let (f, first) ← holding [ov] (getMethod ov m pl)
      callWith pos f first (backTo pos (starEach [] X.env)) (backToKw pos (keywordEach kws X.env))) := by rfl) :
    PE X (.Call (.Attribute o m apos) [] kws pos) (tMethK C m ks.length sp gV E ta tk) := by
  refine ⟨fun pins s σ H Q I h => ?_⟩
  refine PySem.W.methodCall_KW (pl := pl) (thn (he.run pins s σ H _ I h) fun u s1 ⟨x, H1, I1, rx, a, dx, fs, ex, ea, l, q⟩ => ?_) ht
  subst ex
  obtain rfl : u = Value.ref a := rx
  refine getmeth_ok I1 ea c hm l ?_
  refine PySem.W.callWith_KW0 (first := [.ref a]) (h₀ := X.base) I1.ok.mod.kin hm.kp hall ?_ hpl
  refine thn (hkw.run pos pins s1 σ H1 _ I1 q) fun ws s2 ⟨zs, H2, I2, rz, l2, q2⟩ => ⟨I2.kIn, ?_⟩
  rw [hks]
  exact run_fnN (us := [.ref a]) (vs := [.ref a]) F hr hb hx I2 (.cons rfl .nil) rz rfl l2 q2
end
end K19

namespace K19
open PySem PySem.Spec PyProof.Rows L2
/-! ### isinstance of what is kept: nothing, or an exception -/
inductive Cau (K : PySem.W.Frag) (H : Hp) : V → Value → Prop
  | non : Cau K H .non (.type "NoneType")
  | ex {a C : Addr} {fs : List (Str × V)} (k : Kept C fs a H) (E : ExcC K C) : Cau K H (.ref a) (.ref C)
def rCau (K : PySem.W.Frag) : List V → Hp → VK → Prop := fun xs H Q => ∃ (x : V) (D : Addr) (t : Value) (b : Bool), xs = [x, .ref D] ∧ Cau K H x t ∧ PySem.W.kitOne K t (.ref D) = some b ∧ Q (.bl b) H
def rCauT (K : PySem.W.Frag) : List V → Hp → VK → Prop := fun xs H Q => ∃ (x : V) (tp : Addr) (Ds : List Addr) (t : Value) (b : Bool), xs = [x, .ref tp] ∧ H tp = some (.tup (Ds.map V.ref)) ∧ Cau K H x t ∧ PySem.W.kitAny K t (Ds.map Value.ref) = some b ∧ Q (.bl b) H
section
variable {X : Cx}
theorem cau_kit {pins : List (Addr × Obj)} {σ : L2.St} {H : Hp} {s : Shared} {x : V} {u t : Value} (I : Inv X pins σ H s) (c : Cau X.K H x t) (r : RelV x u) : ∃ P : Heap → Prop, PySem.W.KitX X.K u t P ∧ P s.heap ∧ u ≠ .builtin "__main__.__loader__#opaque" := by
  cases c with
  | non => exact kit_of I r (.base .non)
  | ex k E =>
    rename_i a C fs
    obtain rfl : u = Value.ref a := r
    obtain ⟨ob, mA, od, J, _⟩ := kept_inst I k
    exact ⟨_, PySem.W.kitx_exc (any_cls E.hd) E.hg E.hk E.hs E.ha E.hn E.ht E.hm, J, fun z => nomatch z⟩
theorem call_cau : CallR X (.builtin "isinstance") (rCau X.K) := by
  intro pins s σ H xs us Q I r h
  obtain ⟨x, D, t, b, rfl, c, e, q⟩ := h
  obtain ⟨u1, u2, rfl, r1, r2⟩ := vals2 r
  obtain rfl : u2 = Value.ref D := r2
  obtain ⟨P, Z, p, hx⟩ := cau_kit I c r1
  exact PySem.W.kia_one Z I.kIn p e hx fun tk => ⟨.bl b, H, I.tok tk, rfl, q⟩
theorem refs_vals {Ds : List Addr} {its : List Value} (h : Vals (Ds.map V.ref) its) : its = Ds.map Value.ref := by
  induction Ds generalizing its with
  | nil => cases h; rfl
  | cons d ds ih =>
    cases h with
    | cons r t =>
      rename_i u us
      obtain rfl : u = Value.ref d := r
      rw [ih t]
      rfl
theorem call_cauT : CallR X (.builtin "isinstance") (rCauT X.K) := by
  intro pins s σ H xs us Q I r h
  obtain ⟨x, tp, Ds, t, b, rfl, hT, c, e, q⟩ := h
  obtain ⟨u1, u2, rfl, r1, r2⟩ := vals2 r
  cases (show u2 = Value.ref tp from r2)
  obtain ⟨P, Z, p, hx⟩ := cau_kit I c r1
  obtain ⟨_, its, rv, o, h1, h2, n, h3⟩ := (show ObjOk X.prog X.w H s.heap tp (.tup (Ds.map V.ref)) from I.hok tp _ hT)
  have ei := refs_vals rv
  subst ei
  obtain ⟨oc, od', dt, sl⟩ := o
  simp only at h2 h3
  subst h2 h3
  exact PySem.W.kia_tup Z I.kIn p h1 e hx fun tk => ⟨.bl b, H, I.tok tk, rfl, q⟩
end
end K19

namespace K19
open PySem PySem.Spec PyProof.Rows L2
/-! ### C.m(..), m a static method -/
structure SMet (K : PySem.W.Frag) (C : Addr) (m : Str) (g : Addr) : Prop where
  rd : ClX.CRead K C (.type "type")
  at_ : ∃ p, PySem.W.findCls K (.ref C) (.type "type") m = some (.get (.builtin "staticmethod.__get__") (.ref p) .none (.ref C)) ∧ ∃ rest, PySem.W.recIn K p "staticmethod" = some (.ref g :: rest)
  kp : PySem.W.keepIn K (.ref g) = true
section
variable {X : Cx} {pins : List (Addr × Obj)} {σ : L2.St} {H : Hp} {s : Shared} {C g : Addr} {m : Str} {A : Around} {E : Value → Shared → Prop}
theorem getsm_ok {pl : Sem Bool} {Q : Value × List Value → Shared → Prop} (I : Inv X pins σ H s) (k : SMet X.K C m g) (h : ∀ s', Inv X pins σ H s' → Q (.ref g, []) s') : wpAny (model X.prog X.w) A (getMethod (.ref C) m pl) Q E s := by
  obtain ⟨p, ha, rest, hp⟩ := k.at_
  refine PySem.W.method_cls I.kIn k.rd.ga ?_
  refine PySem.W.cls_bind I.kIn k.rd.rd ha ?_
  exact wpAny_call (PySem.W.sm_get (s := { s with toks := s.toks + 1 }) I.kIn hp (PySem.W.handed_on rfl (h _ (I.tok _))))
end
def tSMeth (C : Addr) (sp : Sp) (E : XK) (ta : TE) (t : TA) : TE := fun σ H Q => ta σ H fun x H1 => x = .ref C ∧ t σ H1 fun vs H2 => sp vs H2 Q E
def tSMethK (C : Addr) (nk : Nat) (sp : Sp) (gV : List V → List V → List V) (E : XK) (ta : TE) (tk : TA) : TE := fun σ H Q => ta σ H fun x H1 => x = .ref C ∧ tk σ H1 fun zs H2 => zs.length = nk ∧ sp (gV [] zs) H2 Q E
section
variable {X : Cx} {CX : CXT} {k : Nat} {C f : Addr} {fd : FuncData} {ps ks : List Str} {sp : Sp} {E : XK} {o e : Expr} {es : List Expr} {kws : List Keyword} {m : Str} {pos apos : Pos} {ta : TE} {t tk : TA} {g : List Value → List Value → List Value} {gV : List V → List V → List V}
theorem pe_smeth {pl : Sem Bool} (he : PE X o ta) (c : SMet X.K C m f) (F : FnOk X.prog X.w X.K X.mg X.base CX k f fd ps sp) (hr : Room k X.A) (hb : Binds X.K fd ps []) (hx : Passes CX X E) (ha : PA X (e :: es) t)
    (hst : starEach (e :: es) X.env = (false, eval e X.env) :: starEach es X.env := by rfl) (hpl : (backTo pos (starEach es X.env)).any (·.1) = false := by rfl)
    (ht : eval (.Call (.Attribute o m apos) (e :: es) [] pos) X.env = (do
      let ov ← eval o X.env
      standAt apos.atName
      let (f, first) ← holding [ov] (getMethod ov m pl)
      callWith pos f first (backTo pos (starEach (e :: es) X.env)) (backToKw pos (keywordEach [] X.env))) := by rfl) :
    PE X (.Call (.Attribute o m apos) (e :: es) [] pos) (tSMeth C sp E ta t) := by
  refine ⟨fun pins s σ H Q I h => ?_⟩
  refine PySem.W.methodCall_KW (pl := pl) (thn (he.run pins s σ H _ I h) fun u s1 ⟨x, H1, I1, rx, ex, q⟩ => ?_) ht
  subst ex
  obtain rfl : u = Value.ref C := rx
  refine getsm_ok I1 c fun s2 I2 => ?_
  refine PySem.W.callWith_K (h₀ := X.base) I2.ok.mod.kin c.kp (thn (ha.run pos pins s2 σ H1 _ I2 q) fun us s3 ⟨vs, H2, I3, rv, q2⟩ => ⟨I3.kIn, ?_⟩) hst hpl
  exact run_fn F hr hb .nil hx I3 rv (by rw [List.append_nil]; exact q2)
theorem pe_smethS {Es : L2.St → XK} {pl : Sem Bool} (he : PE X o ta) (c : SMet X.K C m f) (F : FnOk X.prog X.w X.K X.mg X.base CX k f fd ps sp) (hr : Room k X.A) (hb : Binds X.K fd ps []) (hx : ∀ σ, PassesAt CX X σ (Es σ)) (ha : PA X (e :: es) t)
    (hst : starEach (e :: es) X.env = (false, eval e X.env) :: starEach es X.env := by rfl) (hpl : (backTo pos (starEach es X.env)).any (·.1) = false := by rfl)
    (ht : eval (.Call (.Attribute o m apos) (e :: es) [] pos) X.env = (do
      let ov ← eval o X.env
      standAt apos.atName
      let (f, first) ← holding [ov] (getMethod ov m pl)
      callWith pos f first (backTo pos (starEach (e :: es) X.env)) (backToKw pos (keywordEach [] X.env))) := by rfl) :
    PE X (.Call (.Attribute o m apos) (e :: es) [] pos) (fun σ H Q => ta σ H fun x H1 => x = .ref C ∧ t σ H1 fun vs H2 => sp vs H2 Q (Es σ)) := by
  refine ⟨fun pins s σ H Q I h => ?_⟩
  refine PySem.W.methodCall_KW (pl := pl) (thn (he.run pins s σ H _ I h) fun u s1 ⟨x, H1, I1, rx, ex, q⟩ => ?_) ht
  subst ex
  obtain rfl : u = Value.ref C := rx
  refine getsm_ok I1 c fun s2 I2 => ?_
  refine PySem.W.callWith_K (h₀ := X.base) I2.ok.mod.kin c.kp (thn (ha.run pos pins s2 σ H1 _ I2 q) fun us s3 ⟨vs, H2, I3, rv, q2⟩ => ⟨I3.kIn, ?_⟩) hst hpl
  exact run_fnS F hr hb (hx σ) I3 rv q2
theorem pe_smethK {pl : Sem Bool} (he : PE X o ta) (c : SMet X.K C m f) (F : FnOk X.prog X.w X.K X.mg X.base CX k f fd ps sp) (hr : Room k X.A) (hb : KBn X.K fd ps 0 ks g gV) (hx : Passes CX X E) (hkw : PK X kws tk)
    (hall : (backToKw pos (keywordEach kws X.env)).all (·.1.isSome) = true := by rfl) (hks : (backToKw pos (keywordEach kws X.env)).filterMap (·.1) = ks := by rfl)
    (hpl : ((backTo pos (starEach [] X.env)).any (·.1) || (backToKw pos (keywordEach kws X.env)).any (·.1.isNone)) = false := by rfl)
    (ht : eval (.Call (.Attribute o m apos) [] kws pos) X.env = (do
      let ov ← eval o X.env
      standAt apos.atName
      let (f, first) ← holding [ov] (getMethod ov m pl)
      callWith pos f first (backTo pos (starEach [] X.env)) (backToKw pos (keywordEach kws X.env))) := by rfl) :
    PE X (.Call (.Attribute o m apos) [] kws pos) (tSMethK C ks.length sp gV E ta tk) := by
  refine ⟨fun pins s σ H Q I h => ?_⟩
  refine PySem.W.methodCall_KW (pl := pl) (thn (he.run pins s σ H _ I h) fun u s1 ⟨x, H1, I1, rx, ex, q⟩ => ?_) ht
  subst ex
  obtain rfl : u = Value.ref C := rx
  refine getsm_ok I1 c fun s2 I2 => ?_
  refine PySem.W.callWith_KW0 (h₀ := X.base) I2.ok.mod.kin c.kp hall ?_ hpl
  refine thn (hkw.run pos pins s2 σ H1 _ I2 q) fun ws s3 ⟨zs, H2, I3, rz, l2, q2⟩ => ⟨I3.kIn, ?_⟩
  rw [hks]
  exact run_fnN (us := []) (vs := []) F hr hb hx I3 .nil rz rfl l2 q2
end
end K19

namespace K19
open PySem PySem.Spec PyProof.Rows L2
/-! ### what an asking comes to -/
structure SeT (K : PySem.W.Frag) (CS CB CF CP CQ CW CT CX : Addr) : Prop where
  sub : ∀ C ∈ [CB, CF, CP, CQ, CW, CT, CX], PySem.W.exmOne K (.ref C) (.ref CS) = some true ∧ ExcC K C ∧ XfC K C
  fCB : PySem.W.findIn K (.ref CB) "part" = some none
  fCF : PySem.W.findIn K (.ref CF) "part" = some none
  fCP : PySem.W.findIn K (.ref CP) "value" = some none
  fCQ : PySem.W.findIn K (.ref CQ) "value" = some none
  fCW : PySem.W.findIn K (.ref CW) "value" = some none
  w1 : PySem.W.findIn K (.ref CT) "what" = some none
  w2 : PySem.W.findIn K (.ref CT) "most" = some none
  x1 : PySem.W.findIn K (.ref CX) "line" = some none
  x2 : PySem.W.findIn K (.ref CX) "item" = some none
  p0CB : PySem.W.kitAny K (.ref CB) [.ref CB, .ref CF] = some true
  p0CF : PySem.W.kitAny K (.ref CF) [.ref CB, .ref CF] = some true
  p0CP : PySem.W.kitAny K (.ref CP) [.ref CB, .ref CF] = some false
  p0CQ : PySem.W.kitAny K (.ref CQ) [.ref CB, .ref CF] = some false
  p0CW : PySem.W.kitAny K (.ref CW) [.ref CB, .ref CF] = some false
  p0CT : PySem.W.kitAny K (.ref CT) [.ref CB, .ref CF] = some false
  p0CX : PySem.W.kitAny K (.ref CX) [.ref CB, .ref CF] = some false
  p0N0 : PySem.W.kitAny K (.type "NoneType") [.ref CB, .ref CF] = some false
  p1CP : PySem.W.kitAny K (.ref CP) [.ref CP, .ref CQ, .ref CW] = some true
  p1CQ : PySem.W.kitAny K (.ref CQ) [.ref CP, .ref CQ, .ref CW] = some true
  p1CW : PySem.W.kitAny K (.ref CW) [.ref CP, .ref CQ, .ref CW] = some true
  p1CT : PySem.W.kitAny K (.ref CT) [.ref CP, .ref CQ, .ref CW] = some false
  p1CX : PySem.W.kitAny K (.ref CX) [.ref CP, .ref CQ, .ref CW] = some false
  p1N0 : PySem.W.kitAny K (.type "NoneType") [.ref CP, .ref CQ, .ref CW] = some false
  kCFCB : PySem.W.kitOne K (.ref CF) (.ref CB) = some false
  kCPCW : PySem.W.kitOne K (.ref CP) (.ref CW) = some false
  kCQCW : PySem.W.kitOne K (.ref CQ) (.ref CW) = some false
  kCQCP : PySem.W.kitOne K (.ref CQ) (.ref CP) = some false
  kCXCT : PySem.W.kitOne K (.ref CX) (.ref CT) = some false
  kN0CT : PySem.W.kitOne K (.type "NoneType") (.ref CT) = some false
  kN0CX : PySem.W.kitOne K (.type "NoneType") (.ref CX) = some false
structure SeM (mg : Str → Option Value) (CS CB CF CP CQ CW CT CX : Addr) : Prop where
  S : mg "SeenError" = some (.ref CS)
  mCB : mg "BadTray" = some (.ref CB)
  mCF : mg "Misfit" = some (.ref CF)
  mCP : mg "NoPin" = some (.ref CP)
  mCQ : mg "NoPicture" = some (.ref CQ)
  mCW : mg "Twice" = some (.ref CW)
  mCT : mg "TooMany" = some (.ref CT)
  mCX : mg "BadText" = some (.ref CX)
/-- what an asking that raises wishes -/
def EHd (CB CF CP CQ CW CT CX : Addr) (Q : VK) : XK := fun cls d H' =>
  (∃ (dd : Addr) (z : Str), cls = .ref CB ∧ d = some dd ∧ H' dd = some (.xd [(("part" : Str), V.str z)]) ∧ (∀ H'' t, Same H' H'' → H' t = none → H'' t = some (.tup [V.str "tray", V.str z]) → Q (.ref t) H'')) ∨
  (∃ (dd : Addr) (z : Str), cls = .ref CF ∧ d = some dd ∧ H' dd = some (.xd [(("part" : Str), V.str z)]) ∧ (∀ H'' t, Same H' H'' → H' t = none → H'' t = some (.tup [V.str "misfit", V.str z]) → Q (.ref t) H'')) ∨
  (∃ (dd : Addr) (z : V), cls = .ref CP ∧ d = some dd ∧ H' dd = some (.xd [(("value" : Str), z)]) ∧ (∀ H'' t, Same H' H'' → H' t = none → H'' t = some (.tup [V.str "pin", z]) → Q (.ref t) H'')) ∨
  (∃ (dd : Addr) (z : V), cls = .ref CQ ∧ d = some dd ∧ H' dd = some (.xd [(("value" : Str), z)]) ∧ (∀ H'' t, Same H' H'' → H' t = none → H'' t = some (.tup [V.str "picture", z]) → Q (.ref t) H'')) ∨
  (∃ (dd : Addr) (z : V), cls = .ref CW ∧ d = some dd ∧ H' dd = some (.xd [(("value" : Str), z)]) ∧ (∀ H'' t, Same H' H'' → H' t = none → H'' t = some (.tup [V.str "twice", z]) → Q (.ref t) H'')) ∨
  (∃ (dd : Addr) (z : Str) (n : Int), cls = .ref CT ∧ d = some dd ∧ H' dd = some (.xd [(("most" : Str), V.int n), (("what" : Str), V.str z)]) ∧ (∀ H'' t, Same H' H'' → H' t = none → H'' t = some (.tup [V.str z, V.int n]) → Q (.ref t) H'')) ∨
  (∃ (dd : Addr) (i : Nat), cls = .ref CX ∧ d = some dd ∧ H' dd = some (.xd (bt i)) ∧ (∀ H'' t, Same H' H'' → H' t = none → H'' t = some (.tup [V.int 0, V.int (i : Nat)]) → Q (.ref t) H''))
/-- what is wished of an asking that gives anything -/
def NHd (Q N : VK) : Prop := ∀ v H', (∀ H'', Same H' H'' → Q .non H'') → N v H'
def THeard (CB CF CP CQ CW CT CX : Addr) : (XK → Hp → VK → Prop) → Hp → VK → Prop := fun tl H Q => ∀ (H1 : Hp), Same H H1 → ∀ N : VK, NHd Q N → tl (EHd CB CF CP CQ CW CT CX Q) H1 N
theorem set_one {σ : L2.St} {x : Option V} {y : V} (h : σ.length = 3) : (((σ.set 2 x).set 1 (some y)).set 2 none)[1]? = some (some y) := by
  match σ, h with
  | [a, b, c], _ => rfl
/-! ### _law_heard -/
abbrev sHd : Stmt := top 49
abbrev nHd : List Str := ["_law_ask", "_law_caught", "error"]
theorem scHd : FnScope nHd ["_law_ask"] (defScope sHd) := ⟨rfl, rfl, rfl, by decide +kernel, rfl, by decide +kernel, by decide +kernel⟩
theorem heard_gives {X : Cx} {CS CB CF CP CQ CW CT CX g : Addr} {cdg : Value} {q : Str} (B : Bn X.mg) (S : SeT X.K CS CB CF CP CQ CW CT CX) (M : SeM X.mg CS CB CF CP CQ CW CT CX) : LamX.GivesTo X nHd "_law_heard" (defScope sHd) g cdg (defBody sHd) "_law_ask" q (THeard CB CF CP CQ CW CT CX) := by
  intro f c' s H Q tl act hc h
  have nd := scHd.nd
  have h0 := h
  refine ⟨_, (pss_cons ((ps_set (i := 1) nd rfl (Or.inl rfl) (pe_non))) (pss_cons (ps_try_keep (i := 2) (j := 1) (c := .ref CS) (tb := fun W D σ H => ∃ Ech : XK, (∀ cls d σ' H', Ech cls d H' → W cls d σ' H') ∧ σ[0]? = some (some (.ref f)) ∧ H c' = some (LamX.CodeO c' q) ∧ tl Ech H (fun v H' => D.nx σ H'))
      rfl rfl rfl nd rfl rfl rfl (Or.inl rfl) (Or.inr rfl) ⟨rfl, by decide, Or.inl M.S⟩ (by show 2 < 3; decide) (by decide) (by decide) (fun W pn xe tk _ => ⟨fun pins s' σ H' D I h' => ?_⟩)) (pss_cons (ps_if (pt_val (pe_callB (r := rCauT X.K) call_cauT (by rfl) B.isinstance boot_isinstance (pa_cons (pv 1) (pa_cons (pe_tup (pa_cons (pe_glob (v := .ref CB) rfl M.mCB rfl) (pa_cons (pe_glob (v := .ref CF) rfl M.mCF rfl) pa_nil))) pa_nil)))) (pss_one (ps_ret (pe_tup (pa_cons (pe_ifExp (pt_val (pe_callB (r := rCau X.K) call_cau (by rfl) B.isinstance boot_isinstance (pa_cons (pv 1) (pa_cons (pe_glob (v := .ref CB) rfl M.mCB rfl) pa_nil)))) pe_str pe_str) (pa_cons (pe_hg (pv 1)) pa_nil))))) pss_nil) (pss_cons (ps_if (pt_val (pe_callB (r := rCauT X.K) call_cauT (by rfl) B.isinstance boot_isinstance (pa_cons (pv 1) (pa_cons (pe_tup (pa_cons (pe_glob (v := .ref CP) rfl M.mCP rfl) (pa_cons (pe_glob (v := .ref CQ) rfl M.mCQ rfl) (pa_cons (pe_glob (v := .ref CW) rfl M.mCW rfl) pa_nil)))) pa_nil)))) (pss_one (ps_ret (pe_tup (pa_cons (pe_ifExp (pt_val (pe_callB (r := rCau X.K) call_cau (by rfl) B.isinstance boot_isinstance (pa_cons (pv 1) (pa_cons (pe_glob (v := .ref CW) rfl M.mCW rfl) pa_nil)))) pe_str (pe_ifExp (pt_val (pe_callB (r := rCau X.K) call_cau (by rfl) B.isinstance boot_isinstance (pa_cons (pv 1) (pa_cons (pe_glob (v := .ref CP) rfl M.mCP rfl) pa_nil)))) pe_str pe_str)) (pa_cons (pe_hg (pv 1)) pa_nil))))) pss_nil) (pss_cons (ps_if (pt_val (pe_callB (r := rCau X.K) call_cau (by rfl) B.isinstance boot_isinstance (pa_cons (pv 1) (pa_cons (pe_glob (v := .ref CT) rfl M.mCT rfl) pa_nil)))) (pss_one (ps_ret (pe_tup (pa_cons (pe_hg (pv 1)) (pa_cons (pe_hg (pv 1)) pa_nil))))) pss_nil) (pss_one (ps_ret (pe_ifExp (pt_val (pe_callB (r := rCau X.K) call_cau (by rfl) B.isinstance boot_isinstance (pa_cons (pv 1) (pa_cons (pe_glob (v := .ref CX) rfl M.mCX rfl) pa_nil)))) (pe_tup (pa_cons (pe_hg (pv 1)) (pa_cons (pe_hg (pv 1)) pa_nil))) (pe_ifExp (pt_cmpR op_isN (pv 1) pe_non (nomark _)) pe_non (pe_tup (pa_cons (pe_str) (pa_cons (pe_non) pa_nil)))))))))))), ?_⟩
  · obtain ⟨Ech, hW, h1, h2, h3⟩ := h'
    exact (pss_one (ps_expr (act W pn xe Ech _ _ tk hW))).run pins s' σ H' D I ⟨h1, h2, h3⟩
  · refine ⟨EHd CB CF CP CQ CW CT CX Q, ?_, rfl, hc, h0 H Same.me _ (fun v H' use => ?_)⟩
    · have keep : ∀ {C dd a : Addr} {fs : List (Str × V)} {H' : Hp}, H' dd = some (.xd fs) → H' a = none → Kept C fs a (upd H' a (Held (.ref C) (some dd) a)) ∧ Same H' (upd H' a (Held (.ref C) (some dd) a)) := fun {C dd a fs H'} hd ha => ⟨⟨dd, upd_same, by rw [upd_ne (ne_of_none hd ha)]; exact hd⟩, same_new ha⟩
      have some_ : ∀ {Ds : List Addr} {t : Addr} {H1 H2 : Hp}, H1 t = none → H2 = upd H1 t (.tup (Ds.map V.ref)) → H2 t = some (.tup (Ds.map V.ref)) ∧ Same H1 H2 := fun {Ds t H1 H2} n e => by
        subst e
        exact ⟨upd_same, same_new n⟩
      rintro cls d σ' H' (⟨dd, z, rfl, rfl, hd, use⟩ | ⟨dd, z, rfl, rfl, hd, use⟩ | ⟨dd, z, rfl, rfl, hd, use⟩ | ⟨dd, z, rfl, rfl, hd, use⟩ | ⟨dd, z, rfl, rfl, hd, use⟩ | ⟨dd, z, n, rfl, rfl, hd, use⟩ | ⟨dd, i, rfl, rfl, hd, use⟩)
      · obtain ⟨su, ex, xf⟩ := S.sub CB (by simp)
        refine ⟨su, fun a ha hl => ?_⟩
        have hl : σ'.length = 3 := hl
        obtain ⟨k, s1⟩ := keep (C := CB) hd ha
        generalize upd H' a (Held (.ref CB) (some dd) a) = H0 at k s1 ⊢
        refine ⟨_, set_one hl, by show 2 ≤ sizeLine; decide, fun t0 n0 => ?_⟩
        obtain ⟨g0, u0⟩ := some_ (Ds := [CB, CF]) n0 rfl
        have k : Kept CB _ a _ := let ⟨x, y, z⟩ := k; ⟨x, u0 _ _ y, u0 _ _ z⟩
        simp only [List.map_cons, List.map_nil] at g0 u0 k
        generalize upd H0 t0 (.tup [V.ref CB, V.ref CF]) = H1 at g0 u0 k ⊢
        have s1 := s1.trans u0
        refine ⟨_, t0, [CB, CF], _, true, rfl, g0, .ex k ex, S.p0CB, _, rfl, iteT ?_⟩
        refine ⟨_, set_one hl, _, CB, _, true, rfl, .ex k ex, kit_self, _, rfl, iteT ?_⟩
        refine ⟨_, set_one hl, a, CB, _, _, rfl, k, xf, S.fCB, rfl, by show 2 ≤ sizeLine; decide, fun t nt => ?_⟩
        exact use _ t (s1.trans (same_new nt)) (s1.free nt) upd_same
      · obtain ⟨su, ex, xf⟩ := S.sub CF (by simp)
        refine ⟨su, fun a ha hl => ?_⟩
        have hl : σ'.length = 3 := hl
        obtain ⟨k, s1⟩ := keep (C := CF) hd ha
        generalize upd H' a (Held (.ref CF) (some dd) a) = H0 at k s1 ⊢
        refine ⟨_, set_one hl, by show 2 ≤ sizeLine; decide, fun t0 n0 => ?_⟩
        obtain ⟨g0, u0⟩ := some_ (Ds := [CB, CF]) n0 rfl
        have k : Kept CF _ a _ := let ⟨x, y, z⟩ := k; ⟨x, u0 _ _ y, u0 _ _ z⟩
        simp only [List.map_cons, List.map_nil] at g0 u0 k
        generalize upd H0 t0 (.tup [V.ref CB, V.ref CF]) = H1 at g0 u0 k ⊢
        have s1 := s1.trans u0
        refine ⟨_, t0, [CB, CF], _, true, rfl, g0, .ex k ex, S.p0CF, _, rfl, iteT ?_⟩
        refine ⟨_, set_one hl, _, CB, _, false, rfl, .ex k ex, S.kCFCB, _, rfl, iteF ?_⟩
        refine ⟨_, set_one hl, a, CF, _, _, rfl, k, xf, S.fCF, rfl, by show 2 ≤ sizeLine; decide, fun t nt => ?_⟩
        exact use _ t (s1.trans (same_new nt)) (s1.free nt) upd_same
      · obtain ⟨su, ex, xf⟩ := S.sub CP (by simp)
        refine ⟨su, fun a ha hl => ?_⟩
        have hl : σ'.length = 3 := hl
        obtain ⟨k, s1⟩ := keep (C := CP) hd ha
        generalize upd H' a (Held (.ref CP) (some dd) a) = H0 at k s1 ⊢
        refine ⟨_, set_one hl, by show 2 ≤ sizeLine; decide, fun t0 n0 => ?_⟩
        obtain ⟨g0, u0⟩ := some_ (Ds := [CB, CF]) n0 rfl
        have k : Kept CP _ a _ := let ⟨x, y, z⟩ := k; ⟨x, u0 _ _ y, u0 _ _ z⟩
        simp only [List.map_cons, List.map_nil] at g0 u0 k
        generalize upd H0 t0 (.tup [V.ref CB, V.ref CF]) = H1 at g0 u0 k ⊢
        have s1 := s1.trans u0
        refine ⟨_, t0, [CB, CF], _, false, rfl, g0, .ex k ex, S.p0CP, _, rfl, iteF ?_⟩
        refine ⟨_, set_one hl, by show 3 ≤ sizeLine; decide, fun t1 n1 => ?_⟩
        obtain ⟨g1, u1⟩ := some_ (Ds := [CP, CQ, CW]) n1 rfl
        have k : Kept CP _ a _ := let ⟨x, y, z⟩ := k; ⟨x, u1 _ _ y, u1 _ _ z⟩
        simp only [List.map_cons, List.map_nil] at g1 u1 k
        generalize upd H1 t1 (.tup [V.ref CP, V.ref CQ, V.ref CW]) = H2 at g1 u1 k ⊢
        have s1 := s1.trans u1
        refine ⟨_, t1, [CP, CQ, CW], _, true, rfl, g1, .ex k ex, S.p1CP, _, rfl, iteT ?_⟩
        refine ⟨_, set_one hl, _, CW, _, false, rfl, .ex k ex, S.kCPCW, _, rfl, iteF ?_⟩
        refine ⟨_, set_one hl, _, CP, _, true, rfl, .ex k ex, kit_self, _, rfl, iteT ?_⟩
        refine ⟨_, set_one hl, a, CP, _, _, rfl, k, xf, S.fCP, rfl, by show 2 ≤ sizeLine; decide, fun t nt => ?_⟩
        exact use _ t (s1.trans (same_new nt)) (s1.free nt) upd_same
      · obtain ⟨su, ex, xf⟩ := S.sub CQ (by simp)
        refine ⟨su, fun a ha hl => ?_⟩
        have hl : σ'.length = 3 := hl
        obtain ⟨k, s1⟩ := keep (C := CQ) hd ha
        generalize upd H' a (Held (.ref CQ) (some dd) a) = H0 at k s1 ⊢
        refine ⟨_, set_one hl, by show 2 ≤ sizeLine; decide, fun t0 n0 => ?_⟩
        obtain ⟨g0, u0⟩ := some_ (Ds := [CB, CF]) n0 rfl
        have k : Kept CQ _ a _ := let ⟨x, y, z⟩ := k; ⟨x, u0 _ _ y, u0 _ _ z⟩
        simp only [List.map_cons, List.map_nil] at g0 u0 k
        generalize upd H0 t0 (.tup [V.ref CB, V.ref CF]) = H1 at g0 u0 k ⊢
        have s1 := s1.trans u0
        refine ⟨_, t0, [CB, CF], _, false, rfl, g0, .ex k ex, S.p0CQ, _, rfl, iteF ?_⟩
        refine ⟨_, set_one hl, by show 3 ≤ sizeLine; decide, fun t1 n1 => ?_⟩
        obtain ⟨g1, u1⟩ := some_ (Ds := [CP, CQ, CW]) n1 rfl
        have k : Kept CQ _ a _ := let ⟨x, y, z⟩ := k; ⟨x, u1 _ _ y, u1 _ _ z⟩
        simp only [List.map_cons, List.map_nil] at g1 u1 k
        generalize upd H1 t1 (.tup [V.ref CP, V.ref CQ, V.ref CW]) = H2 at g1 u1 k ⊢
        have s1 := s1.trans u1
        refine ⟨_, t1, [CP, CQ, CW], _, true, rfl, g1, .ex k ex, S.p1CQ, _, rfl, iteT ?_⟩
        refine ⟨_, set_one hl, _, CW, _, false, rfl, .ex k ex, S.kCQCW, _, rfl, iteF ?_⟩
        refine ⟨_, set_one hl, _, CP, _, false, rfl, .ex k ex, S.kCQCP, _, rfl, iteF ?_⟩
        refine ⟨_, set_one hl, a, CQ, _, _, rfl, k, xf, S.fCQ, rfl, by show 2 ≤ sizeLine; decide, fun t nt => ?_⟩
        exact use _ t (s1.trans (same_new nt)) (s1.free nt) upd_same
      · obtain ⟨su, ex, xf⟩ := S.sub CW (by simp)
        refine ⟨su, fun a ha hl => ?_⟩
        have hl : σ'.length = 3 := hl
        obtain ⟨k, s1⟩ := keep (C := CW) hd ha
        generalize upd H' a (Held (.ref CW) (some dd) a) = H0 at k s1 ⊢
        refine ⟨_, set_one hl, by show 2 ≤ sizeLine; decide, fun t0 n0 => ?_⟩
        obtain ⟨g0, u0⟩ := some_ (Ds := [CB, CF]) n0 rfl
        have k : Kept CW _ a _ := let ⟨x, y, z⟩ := k; ⟨x, u0 _ _ y, u0 _ _ z⟩
        simp only [List.map_cons, List.map_nil] at g0 u0 k
        generalize upd H0 t0 (.tup [V.ref CB, V.ref CF]) = H1 at g0 u0 k ⊢
        have s1 := s1.trans u0
        refine ⟨_, t0, [CB, CF], _, false, rfl, g0, .ex k ex, S.p0CW, _, rfl, iteF ?_⟩
        refine ⟨_, set_one hl, by show 3 ≤ sizeLine; decide, fun t1 n1 => ?_⟩
        obtain ⟨g1, u1⟩ := some_ (Ds := [CP, CQ, CW]) n1 rfl
        have k : Kept CW _ a _ := let ⟨x, y, z⟩ := k; ⟨x, u1 _ _ y, u1 _ _ z⟩
        simp only [List.map_cons, List.map_nil] at g1 u1 k
        generalize upd H1 t1 (.tup [V.ref CP, V.ref CQ, V.ref CW]) = H2 at g1 u1 k ⊢
        have s1 := s1.trans u1
        refine ⟨_, t1, [CP, CQ, CW], _, true, rfl, g1, .ex k ex, S.p1CW, _, rfl, iteT ?_⟩
        refine ⟨_, set_one hl, _, CW, _, true, rfl, .ex k ex, kit_self, _, rfl, iteT ?_⟩
        refine ⟨_, set_one hl, a, CW, _, _, rfl, k, xf, S.fCW, rfl, by show 2 ≤ sizeLine; decide, fun t nt => ?_⟩
        exact use _ t (s1.trans (same_new nt)) (s1.free nt) upd_same
      · obtain ⟨su, ex, xf⟩ := S.sub CT (by simp)
        refine ⟨su, fun a ha hl => ?_⟩
        have hl : σ'.length = 3 := hl
        obtain ⟨k, s1⟩ := keep (C := CT) hd ha
        generalize upd H' a (Held (.ref CT) (some dd) a) = H0 at k s1 ⊢
        refine ⟨_, set_one hl, by show 2 ≤ sizeLine; decide, fun t0 n0 => ?_⟩
        obtain ⟨g0, u0⟩ := some_ (Ds := [CB, CF]) n0 rfl
        have k : Kept CT _ a _ := let ⟨x, y, z⟩ := k; ⟨x, u0 _ _ y, u0 _ _ z⟩
        simp only [List.map_cons, List.map_nil] at g0 u0 k
        generalize upd H0 t0 (.tup [V.ref CB, V.ref CF]) = H1 at g0 u0 k ⊢
        have s1 := s1.trans u0
        refine ⟨_, t0, [CB, CF], _, false, rfl, g0, .ex k ex, S.p0CT, _, rfl, iteF ?_⟩
        refine ⟨_, set_one hl, by show 3 ≤ sizeLine; decide, fun t1 n1 => ?_⟩
        obtain ⟨g1, u1⟩ := some_ (Ds := [CP, CQ, CW]) n1 rfl
        have k : Kept CT _ a _ := let ⟨x, y, z⟩ := k; ⟨x, u1 _ _ y, u1 _ _ z⟩
        simp only [List.map_cons, List.map_nil] at g1 u1 k
        generalize upd H1 t1 (.tup [V.ref CP, V.ref CQ, V.ref CW]) = H2 at g1 u1 k ⊢
        have s1 := s1.trans u1
        refine ⟨_, t1, [CP, CQ, CW], _, false, rfl, g1, .ex k ex, S.p1CT, _, rfl, iteF ?_⟩
        refine ⟨_, set_one hl, _, CT, _, true, rfl, .ex k ex, kit_self, _, rfl, iteT ?_⟩
        refine ⟨_, set_one hl, a, CT, _, _, rfl, k, xf, S.w1, rfl, _, set_one hl, a, CT, _, _, rfl, k, xf, S.w2, rfl, by show 2 ≤ sizeLine; decide, fun t nt => ?_⟩
        exact use _ t (s1.trans (same_new nt)) (s1.free nt) upd_same
      · obtain ⟨su, ex, xf⟩ := S.sub CX (by simp)
        refine ⟨su, fun a ha hl => ?_⟩
        have hl : σ'.length = 3 := hl
        obtain ⟨k, s1⟩ := keep (C := CX) hd ha
        generalize upd H' a (Held (.ref CX) (some dd) a) = H0 at k s1 ⊢
        refine ⟨_, set_one hl, by show 2 ≤ sizeLine; decide, fun t0 n0 => ?_⟩
        obtain ⟨g0, u0⟩ := some_ (Ds := [CB, CF]) n0 rfl
        have k : Kept CX _ a _ := let ⟨x, y, z⟩ := k; ⟨x, u0 _ _ y, u0 _ _ z⟩
        simp only [List.map_cons, List.map_nil] at g0 u0 k
        generalize upd H0 t0 (.tup [V.ref CB, V.ref CF]) = H1 at g0 u0 k ⊢
        have s1 := s1.trans u0
        refine ⟨_, t0, [CB, CF], _, false, rfl, g0, .ex k ex, S.p0CX, _, rfl, iteF ?_⟩
        refine ⟨_, set_one hl, by show 3 ≤ sizeLine; decide, fun t1 n1 => ?_⟩
        obtain ⟨g1, u1⟩ := some_ (Ds := [CP, CQ, CW]) n1 rfl
        have k : Kept CX _ a _ := let ⟨x, y, z⟩ := k; ⟨x, u1 _ _ y, u1 _ _ z⟩
        simp only [List.map_cons, List.map_nil] at g1 u1 k
        generalize upd H1 t1 (.tup [V.ref CP, V.ref CQ, V.ref CW]) = H2 at g1 u1 k ⊢
        have s1 := s1.trans u1
        refine ⟨_, t1, [CP, CQ, CW], _, false, rfl, g1, .ex k ex, S.p1CX, _, rfl, iteF ?_⟩
        refine ⟨_, set_one hl, _, CT, _, false, rfl, .ex k ex, S.kCXCT, _, rfl, iteF ?_⟩
        refine ⟨_, set_one hl, _, CX, _, true, rfl, .ex k ex, kit_self, _, rfl, iteT ?_⟩
        refine ⟨_, set_one hl, a, CX, _, _, rfl, k, xf, S.x1, rfl, _, set_one hl, a, CX, _, _, rfl, k, xf, S.x2, rfl, by show 2 ≤ sizeLine; decide, fun t nt => ?_⟩
        exact use _ t (s1.trans (same_new nt)) (s1.free nt) upd_same
    · refine ⟨_, rfl, by show 2 ≤ sizeLine; decide, fun t0 n0 => ?_⟩
      have u0 := same_new (o := .tup [V.ref CB, V.ref CF]) n0
      refine ⟨_, t0, [CB, CF], _, false, rfl, upd_same, .non, S.p0N0, _, rfl, iteF ?_⟩
      refine ⟨_, rfl, by show 3 ≤ sizeLine; decide, fun t1 n1 => ?_⟩
      have u1 := same_new (o := .tup [V.ref CP, V.ref CQ, V.ref CW]) n1
      refine ⟨_, t1, [CP, CQ, CW], _, false, rfl, upd_same, .non, S.p1N0, _, rfl, iteF ?_⟩
      refine ⟨_, rfl, _, CT, _, false, rfl, .non, S.kN0CT, _, rfl, iteF ?_⟩
      refine ⟨_, rfl, _, CX, _, false, rfl, .non, S.kN0CX, _, rfl, iteF ?_⟩
      refine ⟨_, rfl, rfl, _, rfl, iteT ?_⟩
      exact use _ (u0.trans u1)
section
variable {CB CF CP CQ CW CT CX : Addr} {H : Hp} {Q : VK}
theorem hCB {z : Str} (h : (∀ H' t, Same H H' → H t = none → H' t = some (.tup [V.str "tray", V.str z]) → Q (.ref t) H')) : RzV CB "part" (V.str z) H (EHd CB CF CP CQ CW CT CX Q) := fun d H' s n e => .inl (⟨d, z, rfl, rfl, e, fun H'' t s2 n2 e2 => h H'' t (s.trans s2) (s.free n2) e2⟩)
theorem hCF {z : Str} (h : (∀ H' t, Same H H' → H t = none → H' t = some (.tup [V.str "misfit", V.str z]) → Q (.ref t) H')) : RzV CF "part" (V.str z) H (EHd CB CF CP CQ CW CT CX Q) := fun d H' s n e => .inr (.inl (⟨d, z, rfl, rfl, e, fun H'' t s2 n2 e2 => h H'' t (s.trans s2) (s.free n2) e2⟩))
theorem hCP {z : V} (h : (∀ H' t, Same H H' → H t = none → H' t = some (.tup [V.str "pin", z]) → Q (.ref t) H')) : RzV CP "value" (z) H (EHd CB CF CP CQ CW CT CX Q) := fun d H' s n e => .inr (.inr (.inl (⟨d, z, rfl, rfl, e, fun H'' t s2 n2 e2 => h H'' t (s.trans s2) (s.free n2) e2⟩)))
theorem hCQ {z : V} (h : (∀ H' t, Same H H' → H t = none → H' t = some (.tup [V.str "picture", z]) → Q (.ref t) H')) : RzV CQ "value" (z) H (EHd CB CF CP CQ CW CT CX Q) := fun d H' s n e => .inr (.inr (.inr (.inl (⟨d, z, rfl, rfl, e, fun H'' t s2 n2 e2 => h H'' t (s.trans s2) (s.free n2) e2⟩))))
theorem hCW {z : V} (h : (∀ H' t, Same H H' → H t = none → H' t = some (.tup [V.str "twice", z]) → Q (.ref t) H')) : RzV CW "value" (z) H (EHd CB CF CP CQ CW CT CX Q) := fun d H' s n e => .inr (.inr (.inr (.inr (.inl (⟨d, z, rfl, rfl, e, fun H'' t s2 n2 e2 => h H'' t (s.trans s2) (s.free n2) e2⟩)))))
theorem hCT (h : (∀ H' t, Same H H' → H t = none → H' t = some (.tup [V.str "rows", V.int 8]) → Q (.ref t) H')) : RzF CT fullR H (EHd CB CF CP CQ CW CT CX Q) := fun d H' s e => .inr (.inr (.inr (.inr (.inr (.inl (⟨d, "rows", 8, rfl, rfl, e, fun H'' t s2 n2 e2 => h H'' t (s.trans s2) (s.free n2) e2⟩))))))
theorem hCX {i : Nat} (h : (∀ H' t, Same H H' → H t = none → H' t = some (.tup [V.int 0, V.int (i : Nat)]) → Q (.ref t) H')) : RzF CX (bt i) H (EHd CB CF CP CQ CW CT CX Q) := fun d H' s e => .inr (.inr (.inr (.inr (.inr (.inr ((⟨d, i, rfl, rfl, e, fun H'' t s2 n2 e2 => h H'' t (s.trans s2) (s.free n2) e2⟩)))))))
end
end K19

namespace K19
open PySem PySem.Spec PyProof.Rows L2
/-! ### trays as their callers see them -/
/-- a method of one argument, as its callers see it -/
def Me (P : Program) (w : World) (K : PySem.W.Frag) (mg : Str → Option Value) (base : Heap) (C : Addr) (k : Nat) (m : String) (x : Str) (sp : Sp) : Prop :=
  ∃ (f : Addr) (fd : FuncData), Meth K C m f ∧ FnOk P w K mg base (L2.CX P w) k f fd ["self", x] sp ∧ Binds K fd ["self", x] [] ∧ KBn K fd ["self", x] 1 [x] (fun us ws => us ++ ws) (fun vs zs => vs ++ zs)
structure Tc (P : Program) (w : World) (K : PySem.W.Frag) (mg : Str → Option Value) (base : Heap) (C CB CF CT CP CQ CW CX : Addr) : Prop where
  mgC : mg "Tray" = some (.ref C)
  t : TrT K C
  n : PicN K C
  ini : IniT P w K mg base C CB CF CT
  ln : ∃ (fE : Addr) (fd : FuncData), FnOk P w K mg base CX0 1 fE fd ["self"] (spLenP C) ∧ PySem.W.findIn K (.ref C) "__len__" = some (some (.ref fE)) ∧ PySem.W.isFn K (.ref fE) = true ∧ Binds K fd ["self"] []
  eq : ∃ (fE : Addr) (fd : FuncData), FnOk P w K mg base CX0 1 fE fd ["self", "other"] (spEqP C) ∧ PySem.W.findIn K (.ref C) "__eq__" = some (some (.ref fE)) ∧ PySem.W.isFn K (.ref fE) = true ∧ Binds K fd ["self", "other"] []
  st : ∃ (fS : Addr) (fd : FuncData), FnOk P w K mg base CX0 1 fS fd ["self"] (spStrP C) ∧ PySem.W.findIn K (.ref C) "__str__" = some (some (.ref fS)) ∧ PySem.W.isFn K (.ref fS) = true ∧ Binds K fd ["self"] []
  wr : Me P w K mg base C 7 "with_row" "places" (spWR K C CB CF CT)
  pk : Me P w K mg base C 7 "picked" "numbers" (spPk K C CB CQ CW)
  io : Me P w K mg base C 7 "in_order" "pins" (spIO K C CP CW CF)
  kr : ∃ (f : Addr) (fd : FuncData), Meth K C "kin_rows" f ∧ FnOk P w K mg base CX0 7 f fd ["self"] (spKR C) ∧ Binds K fd ["self"] []
  rd : ∃ (f : Addr) (fd : FuncData), SMet K C "read" f ∧ FnOk P w K mg base (L2.CX P w) 7 f fd ["text"] (spRd K C CX) ∧ Binds K fd ["text"] [] ∧ KBn K fd ["text"] 0 ["text"] (fun us ws => us ++ ws) (fun vs zs => vs ++ zs)
section
variable {K : PySem.W.Frag} {C CB CF CT CP CQ CW CX p : Addr} {H H' : Hp} {Q : VK} {E : XK} {a b c : Addr} {rs qs : List (List Int)} {n : Nat}
/-- a call of a method of a tray begins -/
theorem meth_in {m : Str} {R : Prop} (h : TrF H C a rs) (hm : ∀ n t u : V, List.lookup m [("pins", n), ("places", t), ("rows", u)] = none) (r : R) : ∃ a' dx fs, V.ref a = .ref a' ∧ H a' = some (.ins C dx fs) ∧ fs.lookup m = none ∧ R := by
  obtain ⟨dx, t, u, ha, _⟩ := h
  exact ⟨a, dx, _, rfl, ha, hm _ _ _, r⟩
theorem eqT_in (T : TrT K C) (h : TrF H C a rs) (g : TrF H C b qs) (q : Q (.bl (decide (rs = qs))) H) : rEqI K C (spEqP C) (.ref a) (.ref b) H Q := by
  obtain ⟨dx, t, u, ha, _⟩ := id h
  exact ⟨a, dx, _, _, rfl, ha, g.ty T, by simp [PySem.W.notFirst], a, .ref b, rs, _, rfl, h, .inr ⟨b, qs, rfl, g, rfl⟩, _, rfl, q⟩
theorem neT_in (T : TrT K C) (h : TrF H C a rs) (g : TrF H C b qs) (q : Q (.bl (!decide (rs = qs))) H) : rNeI K C (spEqP C) (.ref a) (.ref b) H Q := by
  obtain ⟨dx, t, u, ha, _⟩ := id h
  exact ⟨a, dx, _, _, rfl, ha, g.ty T, by simp [PySem.W.notFirst], a, .ref b, rs, _, rfl, h, .inr ⟨b, qs, rfl, g, rfl⟩, _, rfl, q⟩
theorem eqT_no {y : V} {t : String} (N : PicN K C) (h : TrF H C a rs) (k : Np H y t) (q : Q (.bl false) H) : rEqI K C (spEqP C) (.ref a) y H Q := by
  obtain ⟨dx, t0, u, ha, _⟩ := id h
  exact ⟨a, dx, _, _, rfl, ha, k.ty, (N.of k).2, a, y, rs, _, rfl, h, .inl ⟨t, k, rfl⟩, _, rfl, q⟩
theorem RowT.sb {g : Addr} {ns : List Int} (h : RowT H g ns) (v : Lens H p n) (s : SB p H H') : RowT H' g ns := s.1 _ _ (v.not_tup h) h
theorem TRw.sb {t : Addr} (h : TRw H t rs) (v : Lens H p n) (s : SB p H H') : TRw H' t rs := let ⟨ts, e, q⟩ := h; ⟨ts, s.1 _ _ (v.not_tup e) e, paired_mono q fun _ _ z => RowT.sb z v s⟩
theorem TrF.sb (h : TrF H C a rs) (v : Lens H p n) (s : SB p H H') : TrF H' C a rs := by
  obtain ⟨c, x, y, e0⟩ := v.at
  obtain ⟨dx, t, u, e, p1, p2⟩ := h
  exact ⟨dx, t, u, s.1 _ _ (L2.ne_of e e0 (by intro z; cases z)) e, p1.sb v s, p2.sb v s⟩
/-- a list that is written, or grows, is no part of a tray -/
theorem TRw.updl {l t : Addr} {o : HO} {xs : List V} (h : TRw H t rs) (hl : H l = some (.lst xs)) : TRw (upd H l o) t rs := by
  have nt : ∀ {b : Addr} {ys : List V}, H b = some (.tup ys) → upd H l o b = some (.tup ys) := fun e => by
    rw [upd_ne (L2.ne_of e hl (by intro z; cases z))]
    exact e
  obtain ⟨ts, e, q⟩ := h
  exact ⟨ts, nt e, paired_mono q fun _ _ z => nt z⟩
theorem TrF.updl {l : Addr} {o : HO} {xs : List V} (h : TrF H C a rs) (hl : H l = some (.lst xs)) : TrF (upd H l o) C a rs := by
  obtain ⟨dx, t, u, e, p1, p2⟩ := h
  exact ⟨dx, t, u, by rw [upd_ne (L2.ne_of e hl (by intro z; cases z))]; exact e, p1.updl hl, p2.updl hl⟩
theorem LLr.mk {ds : List Addr} (h : LLr H a ds rs) (ok : OkT rs) (q : NewT C H Q rs) : MkT K C CB CF CT (.ref a) H Q E := MkT.of (.inl h.1) h.rows ok.ok ok.ne ok.al ok.l8 q
theorem TRw.mk (h : TRw H a rs) (ok : OkT rs) (q : NewT C H Q rs) : MkT K C CB CF CT (.ref a) H Q E := let ⟨_, e, p⟩ := h; MkT.of (.inr e) (rowT_row p) ok.ok ok.ne ok.al ok.l8 q
end
end K19

namespace K19
open PySem PySem.Spec PyProof.Rows L2
theorem sameUpd {H H' : Hp} {D : Addr} {o : HO} (s : Same H H') (n : H D = none) : Same H (upd H' D o) := fun b u e => by
  rw [upd_ne (ne_of_none e n)]
  exact s _ _ e
/-- a comprehension over a list or tuple whose items are new things, each good for one of bs -/
theorem lcN {K : PySem.W.Frag} {a : Addr} {xs : List V} {β : Type} {Good : HO → β → Prop} {bs : List β} {g : TG} {te tl : TE} {vs : List Nat} {σ : L2.St} {H : Hp} {Q : VK} (ht : ∀ Q' : VK, Q' (.ref a) H → tl σ H Q') (sq : Sq H a xs) (ly : bs.length = xs.length) (l1 : xs.length ≤ 1000)
    (hs : ∀ (D : Addr) (i : Nat) (x : V) (y : β) (H' : Hp), H D = none → xs[i]? = some x → bs[i]? = some y → Same H H' → (∃ acc, H' D = some (.lst acc)) → ∀ (T : VK) (N : Hp → Prop), (∀ r o H4, H' r = none → Same H' H4 → H4 r = some o → Good o y → T (.ref r) H4) → g x (wipe σ vs) H' fun σ2 H2 => wipe σ2 vs = wipe σ vs ∧ tYes σ2 H2 fun b H3 => if b = true then te σ2 H3 T else N H3)
    (hd : ∀ D rs H', H D = none → Same H H' → H' D = some (.lst (rs.map V.ref)) → D ∉ rs → rs.Nodup → (∀ r ∈ rs, H r = none) → Paired (fun r b => ∃ o, H' r = some o ∧ Good o b) rs bs → Q (.ref D) H') : tLc (iSq K tl) g tYes te vs σ H Q := by
  refine lcq (xs := xs) ht sq (fun D i H' => Same H H' ∧ ∃ rs : List Addr, H' D = some (.lst (rs.map V.ref)) ∧ D ∉ rs ∧ rs.Nodup ∧ (∀ r ∈ rs, H r = none) ∧ Paired (fun r b => ∃ o, H' r = some o ∧ Good o b) rs (bs.take i)) (fun D hD => ⟨same_new hD, [], upd_same, List.not_mem_nil, List.nodup_nil, fun _ h => absurd h List.not_mem_nil, .nil⟩) (fun D i H' hD p => p.1) (fun D i x H' hD hx p => ?_) (fun D H' hD p => ?_)
  · obtain ⟨s1, rs, hd1, nr, nd, fr, pr⟩ := p
    have hi : i < xs.length := (List.getElem?_eq_some_iff.mp hx).1
    have hy : bs[i]? = some bs[i] := List.getElem?_eq_getElem (by omega)
    have lr : rs.length ≤ i := by
      rw [Paired.length pr, List.length_take]
      exact Nat.min_le_left _ _
    refine hs D i x bs[i] H' hD hx hy s1 ⟨_, hd1⟩ _ _ fun r o H4 nr4 s4 hr go => ?_
    have ne : r ≠ D := fun z => by
      rw [z, hd1] at nr4
      cases nr4
    have nin : r ∉ rs := fun z => by
      obtain ⟨jz, ez⟩ := List.getElem?_of_mem z
      obtain ⟨b, _, ho, e, _⟩ := paired_get pr ez
      rw [nr4] at e
      cases e
    refine ⟨_, s4 _ _ hd1, by rw [List.length_map]; exact small1000 (by omega), fun b u e => ?_, rs ++ [r], ?_, ?_, ?_, ?_, ?_⟩
    · rw [upd_ne (ne_of_none e hD)]
      exact s4 _ _ (s1 _ _ e)
    · rw [upd_same, List.map_append]
      rfl
    · intro z
      rcases List.mem_append.mp z with z | z
      · exact nr z
      · exact ne (List.mem_singleton.mp z).symm
    · refine List.nodup_append.mpr ⟨nd, List.nodup_cons.mpr ⟨List.not_mem_nil, List.nodup_nil⟩, fun x hx y hy z => nin ?_⟩
      rw [← List.mem_singleton.mp hy, ← z]
      exact hx
    · intro q hq
      rcases List.mem_append.mp hq with z | z
      · exact fr q z
      · rw [List.mem_singleton.mp z]
        exact s1.free nr4
    · rw [take_more hy]
      have all : ∀ {as : List Addr} {cs : List β}, D ∉ as → Paired (fun u b => ∃ o, H' u = some o ∧ Good o b) as cs → Paired (fun u b => ∃ o, (upd H4 D (.lst (rs.map V.ref ++ [V.ref r]))) u = some o ∧ Good o b) as cs := fun {as cs} nd p => by
        induction p with
        | nil => exact .nil
        | cons z _ ih =>
          obtain ⟨o', e', g'⟩ := z
          refine .cons ⟨o', ?_, g'⟩ (ih fun m => nd (List.mem_cons_of_mem _ m))
          rw [upd_ne (fun (q : _ = D) => nd (by rw [← q]; exact List.mem_cons_self))]
          exact s4 _ _ e'
      exact paired_app (all nr pr) (.cons ⟨o, by rw [upd_ne ne]; exact hr, go⟩ .nil)
  · obtain ⟨s1, rs, hd1, nr, nd, fr, pr⟩ := p
    rw [← ly, List.take_length] at pr
    exact hd D rs H' hD s1 hd1 nr nd fr pr
theorem rowl_of {H : Hp} {gs : List Addr} {rs : List (List Int)} (h : Paired (fun r b => ∃ o, H r = some o ∧ isRowL o b) gs rs) : Paired (RowL H) gs rs := paired_mono h fun _ _ ⟨o, e, g⟩ => by
  unfold isRowL at g
  subst g
  exact e
/-- one place of one row is written -/
theorem write_row {H : Hp} {O g : Addr} {os : List Addr} {rs : List (List Int)} {i j : Nat} {r : List Int} {z : Int} (h : LLr H O os rs) (nd : os.Nodup) (hO : O ∉ os) (eg : os[i]? = some g) (er : rs[i]? = some r) : LLr (upd H g (.lst ((r.map V.int).set j (.int z)))) O os (rs.set i (r.set j z)) := by
  have ig : g ∈ os := List.mem_of_getElem? eg
  refine ⟨by rw [upd_ne (fun q => hO (by rw [q]; exact ig))]; exact h.1, ?_⟩
  have es : (r.map V.int).set j (.int z) = (r.set j z).map V.int := by rw [List.map_set]
  rw [es]
  have all : ∀ {as : List Addr} {qs : List (List Int)} (i : Nat), Paired (RowL H) as qs → as.Nodup → as[i]? = some g → Paired (RowL (upd H g (.lst ((r.set j z).map V.int)))) as (qs.set i (r.set j z)) := fun {as qs} i p => by
    induction p generalizing i with
    | nil => intro _ e; cases e
    | cons a p ih =>
      rename_i x y xs ys
      intro nd e
      obtain ⟨nx, nd⟩ := List.nodup_cons.mp nd
      cases i with
      | zero =>
        obtain rfl : x = g := Option.some.inj e
        refine .cons (show (upd H x _) x = _ from upd_same) ?_
        have : ∀ {as : List Addr} {qs : List (List Int)}, x ∉ as → Paired (RowL H) as qs → Paired (RowL (upd H x (.lst ((r.set j z).map V.int)))) as qs := fun {as qs} n p => by
          induction p with
          | nil => exact .nil
          | cons a _ ih => exact .cons (show (upd H x _) _ = _ by rw [upd_ne (fun q => n (by rw [q]; exact List.mem_cons_self))]; exact a) (ih fun m => n (List.mem_cons_of_mem _ m))
        exact this nx p
      | succ i =>
        have e : xs[i]? = some g := e
        refine .cons ?_ (ih i nd e)
        show (upd H g _) x = _
        rw [upd_ne (fun q => nx (by rw [q]; exact List.mem_of_getElem? e))]
        exact a
  exact all i h.2 nd eg
end K19

namespace K19
open PySem PySem.Spec PyProof.Rows L2
theorem cut_m1 {xs : List V} : cutV xs none (some (-1)) = xs.take (xs.length - 1) := by
  unfold cutV
  have e : HT.sIx xs.length xs.length (some (-1)) = xs.length - 1 := by
    unfold HT.sIx
    simp
    omega
  rw [e]
  rfl
theorem set_ne {rs : List (List Int)} {i j : Nat} {r : List Int} {x z : Int} (er : rs[i]? = some r) (ex : r[j]? = some x) (ne : x ≠ z) : rs ≠ rs.set i (r.set j z) := fun h => by
  have hi := (List.getElem?_eq_some_iff.mp er).1
  have hj := (List.getElem?_eq_some_iff.mp ex).1
  have e1 : (rs.set i (r.set j z))[i]? = some (r.set j z) := by rw [List.getElem?_set_self hi]
  rw [← h, er] at e1
  have e2 : (r.set j z)[j]? = some z := by rw [List.getElem?_set_self hj]
  rw [← Option.some.inj e1, ex] at e2
  exact ne (Option.some.inj e2)
theorem okL_set {k i j : Nat} {rs : List (List Int)} {r : List Int} {z : Int} (h : OkL k rs) (hr : r ∈ rs) (hz : -G9 ≤ z ∧ z ≤ G9) : OkL k (rs.set i (r.set j z)) := fun q hq => by
  rcases List.mem_or_eq_of_mem_set hq with m | rfl
  · exact h q m
  · refine ⟨by rw [List.length_set]; exact (h r hr).1, fun x hx => ?_⟩
    rcases List.mem_or_eq_of_mem_set hx with m | rfl
    · exact (h r hr).2 x m
    · exact hz
theorem head_len {rs : List (List Int)} {k : Nat} (h : OkL k rs) (ne : rs ≠ []) : (rs.headD []).length = k := by
  cases rs with
  | nil => exact absurd rfl ne
  | cons r rs => exact (h r List.mem_cons_self).1
section
variable {P : Program} {w : World} {K : PySem.W.Frag} {mg : Str → Option Value} {base : Heap} {C CB CF CT CP CQ CW CX : Addr}
/-! ### _law_kept_right -/
/-- what a part of the law asks of the rows -/
def spKp (m r : Nat) : Sp := fun vs H Q _ => ∃ (p b : Addr) (n : Nat) (ds : List Addr) (rs : List (List Int)) (k : Nat), vs = [.ref p, .ref b] ∧ Lens H p n ∧ n + m < 60000 ∧ LLr H b ds rs ∧ OkL k rs ∧ 3 ≤ k ∧ k ≤ 7 ∧ rs ≠ [] ∧ rs.length ≤ 8 ∧ ∀ H', SB p H H' → Lens H' p (n + r) → Q (.bl true) H'
abbrev sKp : Stmt := top 50
abbrev nKp : List Str := ["_law_cask_here", "_law_rows_here", "_law_told", "_law_tray", "_law_due", "_law_at", "_law_spot", "_law_other", "_law_places_here", "_law_row"]
theorem scKp : FnScope nKp ["_law_cask_here", "_law_rows_here"] (defScope sKp) := ⟨rfl, rfl, rfl, by decide +kernel, rfl, by decide +kernel, by decide +kernel⟩
theorem ok_kp {f : Addr} {fd : FuncData} (F : Fun K "_law_kept_right" "_law_kept_right" sKp f fd) (B : Bn mg) (T : Tc P w K mg base C CB CF CT CP CQ CW CX) (C1 : Callee P w K mg base CX0 1 "_law_steps" ["_law_places_here"] spSt) (C2 : Callee P w K mg base CX0 2 "_law_lots" ["_law_rows_here"] spLo) (C3 : Callee P w K mg base CX0 1 "_law_draw" ["_law_cask_here", "_law_many"] spShot) : FnOk P w K mg base CX0 10 f fd ["_law_cask_here", "_law_rows_here"] (spKp 100 2) := by
  obtain ⟨f1, fd1, m1, k1, b1, G1⟩ := C1
  obtain ⟨f2, fd2, m2, k2, b2, G2⟩ := C2
  obtain ⟨f3, fd3, m3, k3, b3, G3⟩ := C3
  obtain ⟨fQ, fdQ, GQ, hsQ, hfQ, bQ⟩ := T.eq
  obtain ⟨fL, fdL, GL, hsL, hfL, bL⟩ := T.ln
  obtain ⟨fk, fdk, Mk_, Gk, bk⟩ := T.kr
  have cl := T.t.pc.cls
  have nd := scKp.nd
  refine F.ok scKp (fun vs H Q E h => ?_) (fun cdv A outer s H vs Q E hr h => ?_)
  · obtain ⟨p, b, n, ds, rs, k, rfl, _⟩ := h
    rfl
  · obtain ⟨p, b, n, ds, rs, k, rfl, hv, hn, ll, okl, hk3, hk7, hne, h8, q⟩ := h
    refine ⟨_, (pss_cons ((ps_setLc (i := 2) (own := [("_law_places_here", 8)]) (g := gName 8) (tt := tYes) rfl nd rfl rfl (sw_true rfl rfl rfl (by decide +kernel)) (pi_sq K (pv 1)) (blkOk_by (N := nKp) (sc := defScope sKp) (by decide +kernel)) (fun _ _ _ _ _ => (pg_name (i := 8) nd rfl (Or.inl rfl))) (fun _ _ _ _ _ => pts_nil) (fun _ _ _ _ _ => (pe_callTy (T := "list") (r := rLi K) call_liK (by rfl) B.list (by decide +kernel) (pa_cons (pv 8) pa_nil))))) (pss_cons (ps_par (i := 3) (j := 4) rfl nd rfl rfl (by decide) rfl rfl (pa_cons (pe_mkTK (E := E0) K T.mgC T.ini (hr.mono (by decide)) passL rfl (pk_cons (pv 2) pk_nil)) (pa_cons ((pe_callTy (T := "tuple") (r := rTu K) call_tuK (by rfl) B.tuple (by decide +kernel) (pa_cons ((pe_lc (own := [("_law_places_here", 8)]) (g := gName 8) (tt := tYes) rfl nd (pi_sq K (pv 1)) (blkOk_by (N := nKp) (sc := defScope sKp) (by decide +kernel)) (fun _ _ _ _ _ => (pg_name (i := 8) nd rfl (Or.inl rfl))) (fun _ _ _ _ _ => pts_nil) (fun _ _ _ _ _ => (pe_callTy (T := "tuple") (r := rTu K) call_tuK (by rfl) B.tuple (by decide +kernel) (pa_cons (pv 8) pa_nil))))) pa_nil))) pa_nil)) (by rfl)) (pss_cons (ps_asg pe_int (pg_sub (pe_ix ix_list (pv 2) (pe_int) (fun _ _ => rfl)) pe_int set_list)) (pss_cons (ps_expr (pe_bm PySem.F.plainAttrs_list PySem.F.slot_list_append PySem.F.type_list_append mt_append (pv 2) (pa_cons (pe_lst (pa_cons (pe_int) (pa_cons (pe_int) (pa_cons (pe_int) pa_nil)))) pa_nil))) (pss_cons (ps_if (PW.pt (pw_or ((pt_cmpR (op_neD hr.units) (pe_fld (pv 3) rfl) (pv 4) (nomark _))) (pw_or ((pt_cmpR (op_neD hr.units) (pe_lc (own := [("_law_row", 9)]) (g := gName 9) rfl nd (pi_tupK K (pe_op op_catA (pe_fld (pv 3) rfl) (pe_fld (pv 3) rfl))) (blkOk_by (N := nKp) (sc := defScope sKp) (by decide +kernel)) (fun _ _ _ _ _ => (pg_name (i := 9) nd rfl (Or.inl rfl))) (fun _ _ _ _ _ => pts_one (pt_not (pt_val (pe_callB (r := rIsi K) call_isi (by rfl) B.isinstance boot_isinstance (pa_cons (pv 9) (pa_cons (pe_bltn (v := .ty "tuple") (by rfl) B.tuple (by decide +kernel) rfl) pa_nil)))))) (fun _ _ _ _ _ => pe_int)) (pe_lst pa_nil) (nomark _))) (pw_or1 ((pt_cmpR op_ne (pe_fld (pv 3) rfl) ((pe_callB call_len_seq (by rfl) B.len PySem.boot_len (pa_cons ((pe_ix ix_list (pv 1) (pe_int) (fun _ _ => rfl))) pa_nil))) (nomark _))))))) (pss_one (ps_ret pe_bl)) pss_nil) (pss_cons (ps_if (PW.pt (pw_or ((pt_cmpR (op_neD hr.units) (pe_fld (pv 3) rfl) ((pe_callTy (T := "tuple") (r := rTu K) call_tuK (by rfl) B.tuple (by decide +kernel) (pa_cons ((pe_lc (own := [("_law_places_here", 8)]) (g := gName 8) (tt := tYes) rfl nd (pi_sq K (pv 1)) (blkOk_by (N := nKp) (sc := defScope sKp) (by decide +kernel)) (fun _ _ _ _ _ => (pg_name (i := 8) nd rfl (Or.inl rfl))) (fun _ _ _ _ _ => pts_nil) (fun _ _ _ _ _ => (pe_callTy (T := "tuple") (r := rTu K) call_tuK (by rfl) B.tuple (by decide +kernel) (pa_cons ((pe_call G1 (hr.mono (by decide)) rfl m1 k1 b1 .nil pass0 (pa_cons (pv 8) pa_nil))) pa_nil))))) pa_nil))) (nomark _))) (pw_or ((pt_cmpR op_ne (pe_callB (call_lenI GL hsL hfL bL (hr.mono (by decide))) (by rfl) B.len PySem.boot_len (pa_cons (pv 3) pa_nil)) ((pe_callB call_len_seq (by rfl) B.len PySem.boot_len (pa_cons (pv 1) pa_nil))) (nomark _))) (pw_or1 ((pt_cmpR (op_neD hr.units) (pe_meth0 (pv 3) cl Mk_ Gk (hr.mono (by decide)) bk .nil pass0) ((pe_call G2 (hr.mono (by decide)) rfl m2 k2 b2 .nil pass0 (pa_cons (pv 1) pa_nil))) (nomark _))))))) (pss_one (ps_ret pe_bl)) pss_nil) (pss_cons (ps_par (i := 5) (j := 6) rfl nd rfl rfl (by decide) rfl rfl (pa_cons ((pe_call G3 (hr.mono (by decide)) rfl m3 k3 b3 .nil pass0 (pa_cons (pv 0) (pa_cons ((pe_callB call_len_seq (by rfl) B.len PySem.boot_len (pa_cons (pv 1) pa_nil))) pa_nil)))) (pa_cons ((pe_call G3 (hr.mono (by decide)) rfl m3 k3 b3 .nil pass0 (pa_cons (pv 0) (pa_cons ((pe_callB call_len_seq (by rfl) B.len PySem.boot_len (pa_cons ((pe_ix ix_list (pv 1) (pe_int) (fun _ _ => rfl))) pa_nil))) pa_nil)))) pa_nil)) (by rfl)) (pss_cons ((ps_setLc (i := 7) (own := [("_law_places_here", 8)]) (g := gName 8) (tt := tYes) rfl nd rfl rfl (sw_true rfl rfl rfl (by decide +kernel)) (pi_sq K (pv 1)) (blkOk_by (N := nKp) (sc := defScope sKp) (by decide +kernel)) (fun _ _ _ _ _ => (pg_name (i := 8) nd rfl (Or.inl rfl))) (fun _ _ _ _ _ => pts_nil) (fun _ _ _ _ _ => (pe_callTy (T := "list") (r := rLi K) call_liK (by rfl) B.list (by decide +kernel) (pa_cons (pv 8) pa_nil))))) (pss_cons (ps_asg (pe_ifExp (pt_cmpR op_lt (pe_ix ix_list ((pe_ix ix_list (pv 7) (pv 5) (fun _ _ => rfl))) (pv 6) (fun _ _ => rfl)) (pe_op op_pow pe_int pe_int) (nomark _)) (pe_op op_add (pe_ix ix_list ((pe_ix ix_list (pv 7) (pv 5) (fun _ _ => rfl))) (pv 6) (fun _ _ => rfl)) pe_int) pe_int) (pg_sub (pe_ix ix_list (pv 7) (pv 5) (fun _ _ => rfl)) (pv 6) set_list)) (pss_cons (ps_if (PW.pt (pw_or (pt_cmpR (op_eqI GQ hsQ hfQ bQ (hr.mono (by decide))) (pv 3) (pe_mkT (E := E0) K T.mgC T.ini (hr.mono (by decide)) passL rfl (pa_cons (pv 7) pa_nil)) (nomark _)) (pw_or (pt_cmpR (op_neI GQ hsQ hfQ bQ T.n.ne T.t.pc.hm (hr.mono (by decide))) (pv 3) (pe_mkT (E := E0) K T.mgC T.ini (hr.mono (by decide)) passL rfl (pa_cons (pv 4) pa_nil)) (nomark _)) (pw_or (pt_cmpR (op_eqI GQ hsQ hfQ bQ (hr.mono (by decide))) (pv 3) (pv 4) (nomark _)) (pw_or1 (pt_cmpR (op_eqI GQ hsQ hfQ bQ (hr.mono (by decide))) (pv 3) (pe_mkT (E := E0) K T.mgC T.ini (hr.mono (by decide)) passL rfl (pa_cons (pe_ifExp (pt_cmpR op_lt (pe_callB call_len_seq (by rfl) B.len PySem.boot_len (pa_cons ((pe_ix ix_tup (pv 4) (pe_int) (fun _ _ => rfl))) pa_nil)) pe_int (nomark _)) (pe_lc (own := [("_law_row", 9)]) (g := gName 9) (tt := tYes) rfl nd (pi_sq K (pv 4)) (blkOk_by (N := nKp) (sc := defScope sKp) (by decide +kernel)) (fun _ _ _ _ _ => (pg_name (i := 9) nd rfl (Or.inl rfl))) (fun _ _ _ _ _ => pts_nil) (fun _ _ _ _ _ => pe_op (r := rCatA K) op_catA (pv 9) (pe_tup (pa_cons (pe_int) pa_nil)))) (pe_lc (own := [("_law_row", 9)]) (g := gName 9) (tt := tYes) rfl nd (pi_sq K (pv 4)) (blkOk_by (N := nKp) (sc := defScope sKp) (by decide +kernel)) (fun _ _ _ _ _ => (pg_name (i := 9) nd rfl (Or.inl rfl))) (fun _ _ _ _ _ => pts_nil) (fun _ _ _ _ _ => (pe_slice (r := rSlT K) sl_tupK (pv 9) (po_none) (po_some pe_int))))) pa_nil)) (nomark _))))))) (pss_one (ps_ret pe_bl)) pss_nil) (pss_one (ps_ret (pe_or (pe_cmpR op_eq ((pe_callB call_len_seq (by rfl) B.len PySem.boot_len (pa_cons (pv 1) pa_nil))) (pe_int) (nomark _)) (pe_one (pe_cmpR (op_neI GQ hsQ hfQ bQ T.n.ne T.t.pc.hm (hr.mono (by decide))) (pv 3) (pe_mkT (E := E0) K T.mgC T.ini (hr.mono (by decide)) passL rfl (pa_cons ((pe_slice (r := rSlT K) sl_tupK (pv 4) (po_none) (po_some (pe_un un_neg pe_int)))) pa_nil)) (nomark _)))))))))))))))), ?_⟩
    have okT := okl.okT hk3 hk7 hne h8
    have lds : ds.length = rs.length := ll.len
    obtain ⟨r0, rz, ers⟩ : ∃ r0 rz, rs = r0 :: rz := by
      cases rs with
      | nil => exact absurd rfl hne
      | cons a b => exact ⟨a, b, rfl⟩
    have lx : (ds.map V.ref).length = rs.length := by rw [List.length_map, lds]
    have pos : 0 < rs.length := List.length_pos_iff.mpr hne
    dsimp only [tSeq, tAsg]
    refine lcN (a := b) (xs := ds.map V.ref) (Good := isRowL) (bs := rs) (fun Q' q' => ⟨_, rfl, q'⟩) (.inl ll.1) lx.symm (by omega) (fun D i x r H' hD hx hr s2 _ T' N t' => ?_) (fun D gs H1 hD s1 hd nm ndg fr pg => ?_)
    · obtain ⟨d, ed, rfl⟩ := get_map hx
      obtain ⟨r2, er, hr2⟩ := paired_get ll.2 ed
      obtain rfl : r2 = r := Option.some.inj (er.symm.trans hr)
      exact ⟨rfl, yes_of ⟨_, rfl, d, _, rfl, .inl (SqL.of (s2 _ _ hr2)), fun l hl => t' l _ _ hl (same_new hl) upd_same rfl⟩⟩
    have lg : gs.length = rs.length := Paired.length pg
    refine ⟨_, rfl, .ref D, rfl, LLr.mk ⟨hd, rowl_of pg⟩ okT fun A2 H2 s2 nA tf => ?_⟩
    have s12 := s1.trans s2
    try dsimp only [tNext, tRet, tCB, tCons, tNil, tNot, tB, tOr, tSeq, tIfS, sFld]
    refine lcg (a := b) (xs := ds.map V.ref) (Good := isRowT) (bs := rs) (fun Q' q' => ⟨_, rfl, q'⟩) (.inl (s12 _ _ ll.1)) lx.symm (by omega) (fun D3 i x r H' hD3 hx hr s3 ⟨acc, hacc⟩ T' N t' => ?_) (fun D3 ts H3 hD3 s3 hd3 nm3 pr3 => ?_)
    · obtain ⟨d, ed, rfl⟩ := get_map hx
      obtain ⟨r2, er, hr2⟩ := paired_get ll.2 ed
      obtain rfl : r2 = r := Option.some.inj (er.symm.trans hr)
      exact ⟨rfl, yes_of ⟨_, rfl, d, _, rfl, .inl ⟨SqL.of (s3 _ _ (s12 _ _ hr2)), fun l hl => t' l _ _ (fun z => by rw [z, hacc] at hl; cases hl) (same_new hl) upd_same rfl⟩⟩⟩
    refine ⟨D3, _, rfl, .inl ⟨SqL.of hd3, fun U nU => ?_⟩⟩
    have s4 := same_new (o := .tup (ts.map V.ref)) nU
    have tu : TRw (upd H3 U (.tup (ts.map V.ref))) U rs := tt_of upd_same (paired_mono pr3 fun _ _ ⟨o, h, gd⟩ => ⟨o, s4 _ _ h, gd⟩)
    generalize upd H3 U (.tup (ts.map V.ref)) = H4 at s4 tu ⊢
    have s24 := s3.trans s4
    have s14 := s2.trans s24
    have s04 := s1.trans s14
    have tf4 := tf.same s24
    -- what was told is written
    subst ers
    obtain ⟨g0, gz, rfl⟩ : ∃ g0 gz, gs = g0 :: gz := by
      cases gs with
      | nil => cases lg
      | cons a b => exact ⟨a, b, rfl⟩
    have hg0 : H4 g0 = some (.lst (r0.map V.int)) := by
      cases pg with
      | cons a _ =>
        obtain ⟨o, e, g⟩ := a
        unfold isRowL at g
        subst g
        exact s14 _ _ e
    have hd4 := s14 _ _ hd
    have lr0 : r0.length = k := (okl r0 List.mem_cons_self).1
    refine ⟨_, _, rfl, ?_⟩
    refine ⟨_, rfl, D, _, _, _, rfl, rfl, SqL.of hd4, atI_nat (j := 0) rfl, g0, _, _, _, rfl, rfl, hg0, ixN_nat (j := 0) (by rw [List.length_map, lr0]; omega), ?_⟩
    have nDg : D ≠ g0 := fun z => nm (by rw [z]; exact List.mem_cons_self)
    have tf5 := tf4.updl (o := .lst ((r0.map V.int).set 0 (.int 77))) hg0
    have tu5 := tu.updl (o := .lst ((r0.map V.int).set 0 (.int 77))) hg0
    have s05 : Same H (upd H4 g0 (.lst ((r0.map V.int).set 0 (.int 77)))) := sameUpd s04 (fr g0 List.mem_cons_self)
    have hd5 : upd H4 g0 (.lst ((r0.map V.int).set 0 (.int 77))) D = some (.lst ((g0 :: gz).map V.ref)) := by
      rw [upd_ne nDg]
      exact hd4
    generalize upd H4 g0 (.lst ((r0.map V.int).set 0 (.int 77))) = H5 at tf5 tu5 s05 hd5 ⊢
    refine ⟨_, rfl, .inl ⟨rfl, _, SqL.of hd5⟩, by show 3 ≤ sizeLine; decide, fun l6 n6 => ?_⟩
    have s6 := same_new (o := .lst [V.int 1, V.int 2, V.int 3]) n6
    have hd6 := s6 _ _ hd5
    have tf6 := tf5.same s6
    have tu6 := tu5.same s6
    have s06 := s05.trans s6
    generalize upd H5 l6 (.lst [V.int 1, V.int 2, V.int 3]) = H6 at hd6 tf6 tu6 s06 ⊢
    refine ⟨D, _, _, rfl, rfl, hd6, by rw [List.length_map, lg]; exact small1000 (by omega), ?_⟩
    have tf7 := tf6.updl (o := .lst ((g0 :: gz).map V.ref ++ [V.ref l6])) hd6
    have tu7 := tu6.updl (o := .lst ((g0 :: gz).map V.ref ++ [V.ref l6])) hd6
    have s07 := sameUpd (o := .lst ((g0 :: gz).map V.ref ++ [V.ref l6])) s06 hD
    generalize upd H6 D (.lst ((g0 :: gz).map V.ref ++ [V.ref l6])) = H7 at tf7 tu7 s07 ⊢
    clear hd5 hd6 tf5 tu5 tf6 tu6 s05 s06
    -- places, classes, pins
    have hv7 := hv.same s07
    have ll7 := ll.same s07
    clear hd hd4 hg0 pg pr3 hd3 tf tf4 tu
    generalize r0 :: rz = rs at *
    obtain ⟨dx, t, u, ha, ht, hu⟩ := id tf7
    obtain ⟨ts7, ht7, pt7⟩ := id ht
    obtain ⟨us7, hu7, pu7⟩ := id hu
    have lt7 : ts7.length = rs.length := Paired.length pt7
    have lu7 : us7.length = rs.length := by rw [show us7.length = (rs.map stp).length from Paired.length pu7, List.length_map]
    refine ⟨_, rfl, A2, C, dx, _, .ref t, rfl, ha, cl, T.t.n2, rfl, _, rfl, _, _, ht.dp, tu7.dp, encR_shaped _, encR_shaped _, _, rfl, ?_⟩
    rw [encR_eqv, decide_eq_true rfl]
    refine iteF ?_
    refine ⟨_, rfl, A2, C, dx, _, .ref t, rfl, ha, cl, T.t.n2, rfl, _, rfl, A2, C, dx, _, .ref u, rfl, ha, cl, T.t.n3, rfl, t, u, _, _, rfl, rfl, SqT.of ht7, SqT.of hu7, ?_, fun e0 => ?_, fun _ e0 => ?_, fun _ _ c8 n8 => ?_⟩
    · rw [List.length_map, List.length_map]
      exact Nat.le_of_lt (small1000 (by omega))
    · have := congrArg List.length e0
      rw [List.length_map] at this
      exact absurd this (by show ¬ ts7.length = 0; omega)
    · have := congrArg List.length e0
      rw [List.length_map] at this
      exact absurd this (by show ¬ us7.length = 0; omega)
    have s8 := same_new (o := .tup (ts7.map V.ref ++ us7.map V.ref)) n8
    have g8 : upd H7 c8 (.tup (ts7.map V.ref ++ us7.map V.ref)) c8 = some (.tup (ts7.map V.ref ++ us7.map V.ref)) := upd_same
    generalize upd H7 c8 (.tup (ts7.map V.ref ++ us7.map V.ref)) = H8 at s8 g8 ⊢
    have all8 : ∀ x ∈ ts7.map V.ref ++ us7.map V.ref, ∃ (g : Addr) (ys : List V), x = .ref g ∧ H8 g = some (.tup ys) := fun x hx => by
      have one : ∀ {as : List Addr} {qs : List (List Int)}, Paired (RowT H7) as qs → x ∈ as.map V.ref → ∃ (g : Addr) (ys : List V), x = .ref g ∧ H8 g = some (.tup ys) := fun {as qs} p hm => by
        obtain ⟨j, ej⟩ := List.getElem?_of_mem hm
        obtain ⟨g, eg, rfl⟩ := get_map ej
        obtain ⟨r, _, hg⟩ := paired_get p eg
        exact ⟨g, _, rfl, s8 _ _ hg⟩
      exact (List.mem_append.mp hx).elim (one pt7) (one pu7)
    refine ⟨c8, rfl, ⟨_, SqT.of g8⟩, fun Dn hDn => ?_⟩
    refine lc_tup (K := K) (a := c8) (xs := ts7.map V.ref ++ us7.map V.ref) (fun i => At H8 Dn []) ⟨same_new hDn, upd_same⟩ (fun i H' _ p => SqT.of (p.1 _ _ g8)) (fun i y H' hy p => ?_) (fun H9 p9 => ?_)
    · obtain ⟨g, ys, rfl, hg⟩ := all8 y (List.mem_of_getElem? hy)
      refine ⟨rfl, ?_⟩
      exact ⟨_, rfl, _, _, _, _, true, rfl, .ty _, .base (.tup (p.1 _ _ hg)), by first | kernel_rfl | k_is | rfl, _, rfl, p⟩
    refine ⟨Nat.zero_le _, fun e ne => ?_⟩
    have s10 := same_new (o := .lst []) ne
    refine ⟨_, _, .lst (SqL.of (s10 _ _ p9.2)) .nil, .lst (SqL.of upd_same) .nil, by decide, by decide, _, rfl, iteF ?_⟩
    have s79 := s8.trans (p9.1.trans s10)
    generalize upd H9 e (.lst []) = H10 at s79 ⊢
    clear g8 all8 p9 s8 s10
    have ll10 := ll7.same s79
    have ha10 := s79 _ _ ha
    obtain ⟨d0, dz, eds⟩ : ∃ d0 dz, ds = d0 :: dz := by
      cases ds with
      | nil => exact absurd lds (by show ¬ 0 = _; omega)
      | cons a b => exact ⟨a, b, rfl⟩
    have hd0 : ∀ {H' : Hp}, Same H H' → ∃ r0 : List Int, H' d0 = some (.lst (r0.map V.int)) ∧ r0.length = k := fun {H'} s => by
      obtain ⟨r, er, hr⟩ := paired_get (ll.same s).2 (i := 0) (x := d0) (by rw [eds]; rfl)
      exact ⟨r, hr, (okl r (List.mem_of_getElem? er)).1⟩
    have e0 : (ds.map V.ref)[0]? = some (.ref d0) := by rw [eds]; rfl
    obtain ⟨r0, hr0, lr⟩ := hd0 (s07.trans s79)
    refine ⟨_, rfl, A2, C, dx, _, .int ((rs.headD []).length : Nat), rfl, ha10, cl, T.t.n1, rfl, _, rfl, b, _, 0, .ref d0, rfl, rfl, SqL.of ll10.1, atI_nat (j := 0) e0, d0, _, rfl, .inl (SqL.of hr0), rfl, _, rfl, ?_⟩
    rw [List.length_map, lr, head_len okl hne, decide_eq_true rfl]
    refine iteF ?_
    clear hr0 lr lr0
    -- rows, many, kin
    refine ⟨_, rfl, A2, C, dx, _, .ref u, rfl, ha10, cl, T.t.n3, rfl, ?_⟩
    have hu10 := hu.same s79
    try dsimp only [tNext, tRet, tCB, tCons, tNil, tNot, tB, tOr, tSeq, tIfS, sFld]
    refine lcg (a := b) (xs := ds.map V.ref) (Good := isRowT) (bs := rs.map stp) (fun Q' q' => ⟨_, rfl, q'⟩) (.inl ll10.1) (by rw [List.length_map, lx]) (by omega) (fun D3 i x r' H' hD3 hx hr' s3 ⟨acc, hacc⟩ T' N t' => ?_) (fun D3 vs H11 hD3 s11 hd3 nm3 pr3 => ?_)
    · obtain ⟨d, ed, rfl⟩ := get_map hx
      obtain ⟨r, er, hr⟩ := paired_get ll10.2 ed
      obtain ⟨r2, er2, rfl⟩ := get_map hr'
      obtain rfl : r = r2 := Option.some.inj (er.symm.trans er2)
      have okr := okl r (List.mem_of_getElem? er)
      refine ⟨rfl, yes_of ?_⟩
      refine ⟨_, rfl, d, r, rfl, s3 _ _ hr, okl.ne (by omega) r (List.mem_of_getElem? er), by rw [okr.1]; omega, fun H4 D4 s4 n4 h4 => ⟨D4, _, rfl, .inl ⟨SqL.of h4, fun l hl => ?_⟩⟩⟩
      exact t' l _ _ (fun z => by
        have := s4 _ _ hacc
        rw [z, this] at hl
        cases hl) (s4.trans (same_new hl)) upd_same rfl
    refine ⟨D3, _, rfl, .inl ⟨SqL.of hd3, fun U2 nU2 => ?_⟩⟩
    have s12' := same_new (o := .tup (vs.map V.ref)) nU2
    have tv : TRw (upd H11 U2 (.tup (vs.map V.ref))) U2 (rs.map stp) := tt_of upd_same (paired_mono pr3 fun _ _ ⟨o, h, gd⟩ => ⟨o, s12' _ _ h, gd⟩)
    generalize upd H11 U2 (.tup (vs.map V.ref)) = H12 at s12' tv ⊢
    have w12 := s11.trans s12'
    clear hd3 pr3 nm3 s11 s12'
    refine ⟨_, _, (hu10.same w12).dp, tv.dp, encR_shaped _, encR_shaped _, _, rfl, ?_⟩
    rw [encR_eqv, decide_eq_true rfl]
    refine iteF ?_
    clear tv
    have tf12 := (tf7.same s79).same w12
    have ll12 := ll10.same w12
    have ha12 := w12 _ _ ha10
    refine ⟨_, rfl, A2, dx, _, rfl, ha12, A2, rs, rfl, tf12, rs.length, rfl, by omega, _, rfl, b, _, rfl, .inl (SqL.of ll12.1), rfl, _, rfl, ?_⟩
    rw [lx, decide_eq_true rfl]
    refine iteF ?_
    refine ⟨_, rfl, meth_in tf12 (fun _ _ _ => rfl) ⟨A2, rs, rfl, tf12, okT, fun H13 b13 s13 t13 => ?_⟩⟩
    refine ⟨_, rfl, b, ds, rs, k, rfl, ll12.same s13, okl, by omega, hk7, h8, fun H14 b14 s14' t14 => ?_⟩
    refine ⟨_, _, (t13.same s14').dp, t14.dp, encR_shaped _, encR_shaped _, _, rfl, ?_⟩
    rw [encR_eqv, decide_eq_true rfl]
    refine iteF ?_
    have w714 := s79.trans (w12.trans (s13.trans s14'))
    have s014 := s07.trans w714
    have tf14 := tf7.same w714
    have tu14 := tu7.same w714
    have hv14 := hv.same s014
    have ll14 := ll.same s014
    clear t13 t14 tf12 ll12 ha12 ha10 hu10 ll10 ll7 hv7 tf7 tu7 ha ht hu ht7 pt7 hu7 pu7
    -- a spot
    refine ⟨_, rfl, _, rfl, b, _, rfl, .inl (SqL.of ll14.1), p, _, n, rfl, hv14, by omega, by rw [lx]; omega, by rw [lx]; omega, fun H15 a s15 v15 a0 a1 => ?_⟩
    obtain ⟨a, rfl⟩ := Int.eq_ofNat_of_zero_le a0
    rw [lx] at a1
    have ll15 := ll14.sb hv14 s15
    have s015 : SB p H H15 := (SB.of s014).trans s15
    obtain ⟨r0, er0, hr0⟩ := paired_get ll15.2 (i := 0) (x := d0) (by rw [eds]; rfl)
    have lr0 := (okl r0 (List.mem_of_getElem? er0)).1
    have hr0 : H15 d0 = some (.lst (r0.map V.int)) := hr0
    refine ⟨_, rfl, _, rfl, b, _, 0, .ref d0, rfl, rfl, SqL.of ll15.1, atI_nat (j := 0) e0, d0, _, rfl, .inl (SqL.of hr0), p, _, n + 1, rfl, v15, by omega, by rw [List.length_map]; omega, by rw [List.length_map]; omega, fun H16 j s16 v16 j0 j1 => ?_⟩
    obtain ⟨j, rfl⟩ := Int.eq_ofNat_of_zero_le j0
    rw [List.length_map, lr0] at j1
    refine ⟨_, _, rfl, ?_⟩
    have s016 := s015.trans s16
    have ll16 := ll15.sb v15 s16
    have tf16 := (tf14.sb hv14 s15).sb v15 s16
    have tu16 := (tu14.sb hv14 s15).sb v15 s16
    clear hr0 er0 lr0 ll15 tf14 tu14 ll14 v15
    dsimp only [tSeq, tAsg]
    refine lcN (a := b) (xs := ds.map V.ref) (Good := isRowL) (bs := rs) (fun Q' q' => ⟨_, rfl, q'⟩) (.inl ll16.1) lx.symm (by omega) (fun D i x r H' hD hx hr s2 _ T' N t' => ?_) (fun O os H17 hO s17 hd17 nm17 nd17 fr17 pg17 => ?_)
    · obtain ⟨d, ed, rfl⟩ := get_map hx
      obtain ⟨r2, er, hr2⟩ := paired_get ll16.2 ed
      obtain rfl : r2 = r := Option.some.inj (er.symm.trans hr)
      exact ⟨rfl, yes_of ⟨_, rfl, d, _, rfl, .inl (SqL.of (s2 _ _ hr2)), fun l hl => t' l _ _ hl (same_new hl) upd_same rfl⟩⟩
    have lo17 : LLr H17 O os rs := ⟨hd17, rowl_of pg17⟩
    have los : os.length = rs.length := lo17.len
    have ha1 : a < rs.length := by omega
    obtain ⟨g, eg, hg⟩ := paired_of lo17.2 (List.getElem?_eq_getElem ha1)
    have er1 : rs[a]? = some rs[a] := List.getElem?_eq_getElem ha1
    generalize rs[a] = r1 at hg er1
    have hg : H17 g = some (.lst (r1.map V.int)) := hg
    have ok1 := okl r1 (List.mem_of_getElem? er1)
    have hj1 : j < r1.length := by omega
    have ex1 : r1[j]? = some r1[j] := List.getElem?_eq_getElem hj1
    have bd1 := ok1.2 _ (List.getElem_mem hj1)
    generalize r1[j] = x1 at ex1 bd1
    have eO : (os.map V.ref)[a]? = some (.ref g) := by rw [List.getElem?_map, eg]; rfl
    have eX : (r1.map V.int)[j]? = some (.int x1) := by rw [List.getElem?_map, ex1]; rfl
    dsimp only [gName, tSeq, tAsg]
    refine tIf_key (fun v H' => H' = H17 ∧ ∃ z : Int, v = .int z ∧ x1 ≠ z ∧ -G9 ≤ z ∧ z ≤ G9) (fun Q' hQ => ?_) (fun v H' hG => ?_)
    · refine ⟨_, rfl, _, rfl, O, _, _, .ref g, rfl, rfl, SqL.of lo17.1, atI_nat eO, _, rfl, g, _, _, .int x1, rfl, rfl, SqL.of hg, atI_nat eX, _, _, rfl, rfl, ⟨by decide, by decide, by decide⟩, _, _, rfl, rfl, _, rfl, ?_⟩
      have e9 : (10 : Int) ^ (Int.toNat 9) = G9 := by decide
      rw [e9]
      have eG : G9 = 1000000000 := rfl
      by_cases hx : x1 < G9
      · rw [decide_eq_true hx]
        refine iteT ⟨_, rfl, _, rfl, O, _, _, .ref g, rfl, rfl, SqL.of lo17.1, atI_nat eO, _, rfl, g, _, _, .int x1, rfl, rfl, SqL.of hg, atI_nat eX, _, _, rfl, rfl, ?_⟩
        exact hQ _ _ ⟨rfl, _, rfl, by omega, by omega, by omega⟩
      · rw [decide_eq_false hx]
        exact iteF (hQ _ _ ⟨rfl, _, rfl, by omega, by omega, by omega⟩)
    obtain ⟨rfl, z, rfl, nz, z0, z1⟩ := hG
    refine ⟨_, rfl, _, rfl, O, _, _, .ref g, rfl, rfl, SqL.of lo17.1, atI_nat eO, _, rfl, g, _, _, j, rfl, rfl, hg, ixN_nat (by rw [List.length_map]; omega), ?_⟩
    have lo18 := write_row (z := z) (j := j) lo17 nd17 nm17 eg er1
    have okz : OkL k (rs.set a (r1.set j z)) := okL_set okl (List.mem_of_getElem? er1) ⟨z0, z1⟩
    have nez := set_ne (j := j) er1 ex1 nz
    have s18 : Same H16 (upd H' g (.lst ((r1.map V.int).set j (.int z)))) := sameUpd s17 (fr17 g (List.mem_of_getElem? eg))
    generalize upd H' g (.lst ((r1.map V.int).set j (.int z))) = H18 at lo18 s18 ⊢
    have hzne : rs.set a (r1.set j z) ≠ [] := fun e => by
      have := congrArg List.length e
      rw [List.length_set] at this
      exact absurd this (by show ¬ rs.length = 0; omega)
    have hz8 : (rs.set a (r1.set j z)).length ≤ 8 := by rw [List.length_set]; exact h8
    generalize rs.set a (r1.set j z) = zs at lo18 okz nez hzne hz8
    have tf18 := tf16.same s18
    have tu18 := tu16.same s18
    clear lo17 hg eO eX tf16 tu16 pg17 hd17
    -- compared
    refine ⟨_, rfl, _, rfl, .ref O, rfl, lo18.mk (okz.okT hk3 hk7 hzne hz8) fun A3 H19 s19 nA3 tz => ?_⟩
    refine eqT_in T.t (tf18.same s19) tz ⟨_, rfl, ?_⟩
    rw [decide_eq_false nez]
    refine iteF ?_
    refine ⟨_, rfl, _, rfl, .ref U, rfl, (tu18.same s19).mk okT fun A4 H20 s20 nA4 tq => ?_⟩
    have s1820 := s19.trans s20
    refine neT_in T.t (tf18.same s1820) tq ⟨_, rfl, ?_⟩
    rw [decide_eq_true rfl]
    refine iteF ?_
    have tf20 := tf18.same s1820
    have tu20 := tu18.same s1820
    obtain ⟨ts20, ht20, pt20⟩ := id tu20
    have lt20 : ts20.length = rs.length := Paired.length pt20
    refine ⟨_, rfl, _, rfl, eqT_no T.n tf20 (.tup ht20) ⟨_, rfl, iteF ?_⟩⟩
    refine ⟨_, rfl, ?_⟩
    have l20 : (ts20.map V.ref).length = rs.length := by rw [List.length_map, lt20]
    dsimp only [tMkT, tCons, tNil]
    refine tIf_key (fun v H' => Same H20 H' ∧ ∃ (L : Addr) (gs : List Addr) (qs : List (List Int)), v = .ref L ∧ H' L = some (.lst (gs.map V.ref)) ∧ Paired (Row H') (gs.map V.ref) qs ∧ OkT qs ∧ rs ≠ qs) (fun Q' hQ => ?_) (fun v H21 hG => ?_)
    · obtain ⟨t0, et0, h0⟩ := paired_of pt20 (List.getElem?_eq_getElem pos)
      have lt0 : (rs[0]).length = k := (okl _ (List.getElem_mem pos)).1
      have h0 : H20 t0 = some (.tup ((rs[0]).map V.int)) := h0
      refine ⟨_, rfl, U, _, 0, .ref t0, rfl, rfl, SqT.of ht20, atI_nat (j := 0) (by rw [List.getElem?_map, et0]; rfl), t0, _, rfl, .inr (SqT.of h0), _, _, rfl, rfl, _, rfl, ?_⟩
      rw [List.length_map, lt0]
      have hq : ∀ (f : List Int → List Int) (m : Nat), 3 ≤ m → m ≤ 7 → m ≠ k → (∀ r ∈ rs, (f r).length = m ∧ ∀ x ∈ f r, -G9 ≤ x ∧ x ≤ G9) → OkT (rs.map f) ∧ rs ≠ rs.map f := fun f m m3 m7 mk hf => by
        have ol : OkL m (rs.map f) := fun q hq => by
          obtain ⟨r, hr, rfl⟩ := List.mem_map.mp hq
          exact hf r hr
        refine ⟨ol.okT m3 m7 (fun e => hne (List.map_eq_nil_iff.mp e)) (by rw [List.length_map]; exact h8), fun e => mk ?_⟩
        have h1 := head_len okl hne
        have h2 := head_len ol (fun e => hne (List.map_eq_nil_iff.mp e))
        rw [← e] at h2
        omega
      by_cases h7 : k < 7
      · rw [decide_eq_true (show ((k : Nat) : Int) < 7 by omega)]
        obtain ⟨o1, o2⟩ := hq (fun r => r ++ [0]) (k + 1) (by omega) (by omega) (by omega) (fun r hr => ⟨by rw [List.length_append, (okl r hr).1]; rfl, fun x hx => by
          rcases List.mem_append.mp hx with z | z
          · exact (okl r hr).2 x z
          · rw [List.mem_singleton.mp z]
            exact ⟨by decide, by decide⟩⟩)
        refine iteT (lcg (a := U) (xs := ts20.map V.ref) (Good := isRowT) (bs := rs.map fun r => r ++ [0]) (fun Q' q' => ⟨_, rfl, q'⟩) (.inr ht20) (by rw [l20, List.length_map]) (by omega) (fun D i x r' H' hD hx hr' s2 ⟨acc, hacc⟩ T' N t' => ?_) (fun D gs H22 hD s22 hd nm pg => ?_))
        · obtain ⟨d, ed, rfl⟩ := get_map hx
          obtain ⟨r, er, hr⟩ := paired_get pt20 ed
          obtain ⟨r2, er2, rfl⟩ := get_map hr'
          obtain rfl : r = r2 := Option.some.inj (er.symm.trans er2)
          have okr := okl r (List.mem_of_getElem? er)
          have hr : H20 d = some (.tup (r.map V.int)) := hr
          refine ⟨rfl, yes_of ⟨_, rfl, by show 1 ≤ sizeLine; decide, fun c nc => ?_⟩⟩
          have s3 := same_new (o := .tup [V.int 0]) nc
          refine ⟨d, c, _, _, rfl, rfl, SqT.of (s3 _ _ (s2 _ _ hr)), SqT.of upd_same, ?_, fun z => ?_, fun _ z => ?_, fun _ _ c6 n6 => ?_⟩
          · rw [List.length_map, okr.1]
            exact Nat.le_of_lt (small1000 (by show k + 1 ≤ 1000; omega))
          · have := congrArg List.length z
            rw [List.length_map, okr.1] at this
            exact absurd this (by show ¬ k = 0; omega)
          · cases z
          · exact t' c6 _ _ (fun z => by
              have := s3 _ _ hacc
              rw [z, this] at n6
              cases n6) (s3.trans (same_new n6)) upd_same (by unfold isRowT; rw [List.map_append]; rfl)
        · exact hQ _ _ ⟨s22, D, gs, _, rfl, hd, rows_t pg, o1, o2⟩
      · rw [decide_eq_false (show ¬ ((k : Nat) : Int) < 7 by omega)]
        obtain ⟨o1, o2⟩ := hq (fun r => r.take 6) 6 (by omega) (by omega) (by omega) (fun r hr => ⟨by rw [List.length_take, (okl r hr).1]; omega, fun x hx => (okl r hr).2 x (List.mem_of_mem_take hx)⟩)
        refine iteF (lcg (a := U) (xs := ts20.map V.ref) (Good := isRowT) (bs := rs.map fun r => r.take 6) (fun Q' q' => ⟨_, rfl, q'⟩) (.inr ht20) (by rw [l20, List.length_map]) (by omega) (fun D i x r' H' hD hx hr' s2 ⟨acc, hacc⟩ T' N t' => ?_) (fun D gs H22 hD s22 hd nm pg => ?_))
        · obtain ⟨d, ed, rfl⟩ := get_map hx
          obtain ⟨r, er, hr⟩ := paired_get pt20 ed
          obtain ⟨r2, er2, rfl⟩ := get_map hr'
          obtain rfl : r = r2 := Option.some.inj (er.symm.trans er2)
          have okr := okl r (List.mem_of_getElem? er)
          have hr : H20 d = some (.tup (r.map V.int)) := hr
          refine ⟨rfl, yes_of ⟨_, rfl, 6, rfl, d, _, rfl, SqT.of (s2 _ _ hr), fun z => ?_, fun c nc => ?_⟩⟩
          · have z2 := z.2
            rw [List.length_map, show (6 : Int) = ((6 : Nat) : Int) from rfl, HT.sIx_nat] at z2
            omega
          · rw [show (6 : Int) = ((6 : Nat) : Int) from rfl, cut_to (k := 6) (by rw [List.length_map]; omega), ← List.map_take]
            exact t' c _ _ (fun z => by rw [z, hacc] at nc; cases nc) (same_new nc) upd_same rfl
        · exact hQ _ _ ⟨s22, D, gs, _, rfl, hd, rows_t pg, o1, o2⟩
    obtain ⟨s21, L, gs, qs, rfl, hL, pL, okq, neq⟩ := hG
    refine ⟨.ref L, rfl, MkT.of (.inl hL) pL okq.ok okq.ne okq.al okq.l8 fun A5 H22 s22 nA5 t5 => ?_⟩
    have s2022 := s21.trans s22
    refine eqT_in T.t (tf20.same s2022) t5 ⟨_, rfl, ?_⟩
    rw [decide_eq_false neq]
    refine iteF ?_
    -- all but the last
    have s1622 : Same H16 H22 := s18.trans (s1820.trans s2022)
    have ll22 := ll16.same s1622
    have tf22 := tf20.same s2022
    have ht22 := s2022 _ _ ht20
    refine ⟨_, rfl, b, _, rfl, .inl (SqL.of ll22.1), rfl, _, rfl, ?_⟩
    have done : ∀ H', Same H22 H' → Q (.bl true) H' := fun H' s' => q _ (s016.trans (SB.of (s1622.trans s'))) (v16.same (s1622.trans s'))
    rw [lx]
    by_cases h1 : rs.length = 1
    · rw [decide_eq_true (show V.int ((rs.length : Nat) : Int) = V.int 1 by rw [h1]; rfl)]
      exact iteT (done _ Same.me)
    · rw [decide_eq_false (show ¬ V.int ((rs.length : Nat) : Int) = V.int 1 from fun z => h1 (by have := V.int.inj z; omega))]
      refine iteF ⟨_, rfl, _, rfl, _, rfl, -1, rfl, U, _, rfl, SqT.of ht22, fun z => ?_, fun c nc => ?_⟩
      · have z2 : HT.sIx (ts20.map V.ref).length (ts20.map V.ref).length (some (-1)) = _ := z.2
        have e1 : HT.sIx (ts20.map V.ref).length (ts20.map V.ref).length (some (-1)) = (ts20.map V.ref).length - 1 := by
          unfold HT.sIx
          simp
          omega
        rw [e1] at z2
        omega
      rw [cut_m1]
      have s23 := same_new (o := .tup ((ts20.map V.ref).take ((ts20.map V.ref).length - 1))) nc
      have e3 : (ts20.map V.ref).take ((ts20.map V.ref).length - 1) = (ts20.take (rs.length - 1)).map V.ref := by rw [l20, List.map_take]
      have t3 : TRw (upd H22 c (.tup ((ts20.map V.ref).take ((ts20.map V.ref).length - 1)))) c (rs.take (rs.length - 1)) := ⟨_, by rw [upd_same, e3], paired_mono (paired_take pt20 _).1 fun _ _ z => s23 _ _ (s2022 _ _ z)⟩
      have ok3 : OkL k (rs.take (rs.length - 1)) := fun r hr => okl r (List.mem_of_mem_take hr)
      have l3 : (rs.take (rs.length - 1)).length = rs.length - 1 := by rw [List.length_take]; omega
      have ne3 : rs.take (rs.length - 1) ≠ [] := fun e => by
        rw [e] at l3
        have l3 : 0 = rs.length - 1 := l3
        omega
      have d3 : rs ≠ rs.take (rs.length - 1) := fun e => by
        rw [← e] at l3
        omega
      generalize upd H22 c (.tup ((ts20.map V.ref).take ((ts20.map V.ref).length - 1))) = H23 at s23 t3 ⊢
      refine ⟨.ref c, rfl, t3.mk (ok3.okT hk3 hk7 ne3 (by omega)) fun A6 H24 s24 nA6 t6 => ?_⟩
      refine neT_in T.t (tf22.same (s23.trans s24)) t6 ?_
      rw [decide_eq_false d3]
      exact done _ (s23.trans s24)
end
end K19

namespace K19
open PySem PySem.Spec PyProof.Rows L2
/-! ### what stands while lambdas are made -/
abbrev Ext := LamX.ExtN
theorem ext_of {H H' : Hp} (s : Same H H') : Ext H H' := LamX.ExtN.of s
section
variable {H H' : Hp} {a C p : Addr} {xs : List V} {ts : List Addr} {n : Nat} {rs : List (List Int)}
theorem Ext.tup (s : Ext H H') (h : H a = some (.tup xs)) : H' a = some (.tup xs) := s _ _ h (by intro ps z; cases z)
theorem Ext.lst (s : Ext H H') (h : H a = some (.lst xs)) : H' a = some (.lst xs) := s _ _ h (by intro ps z; cases z)
theorem Lens.ext (v : Lens H p n) (s : Ext H H') : Lens H' p n := by
  obtain ⟨c, ns, x, y, h1, h2, h⟩ := v
  exact ⟨c, ns, x, y, Ext.lst s h1, Ext.lst s h2, h⟩
theorem Kd.ext {K : PySem.W.Frag} {v : V} {t : Bool} (k : Kd K H v t) (s : Ext H H') : Kd K H' v t := by
  cases k with
  | non => exact .non
  | bl b => exact .bl b
  | int i => exact .int i
  | str x => exact .str x
  | lst e => exact .lst (Ext.lst s e)
  | tup e => exact .tup (Ext.tup s e)
  | dK e => exact .dK (s _ _ e (by intro ps z; cases z))
  | ins e P => exact .ins (s _ _ e (by intro ps z; cases z)) P
end
/-- but at p, and but tables, all stands as it stood -/
def Kq (p : Addr) (H H' : Hp) : Prop := ∀ b o, b ≠ p → (∀ ps, o ≠ .tbl ps) → H b = some o → H' b = some o
theorem Kq.refl (p : Addr) (H : Hp) : Kq p H H := fun _ _ _ _ h => h
theorem Kq.trans {p : Addr} {H H1 H2 : Hp} (a : Kq p H H1) (b : Kq p H1 H2) : Kq p H H2 := fun c o n t h => b c o n t (a c o n t h)
theorem Kq.ofS {p : Addr} {H H' : Hp} (s : SB p H H') : Kq p H H' := fun b o n _ h => s.1 b o n h
theorem Kq.ofE {p : Addr} {H H' : Hp} (s : Ext H H') : Kq p H H' := fun b o _ t h => s b o h t
theorem codeO_no {c : Addr} {q : Str} {xs : List V} : LamX.CodeO c q ≠ .lst xs := fun z => by
  unfold LamX.CodeO at z
  cases z
theorem tabs_sb {T : List (Addr × Str)} {H H' : Hp} {p : Addr} {n : Nat} (t : LamX.Tabs T H) (v : Lens H p n) (s : SB p H H') : LamX.Tabs T H' := fun x hx => by
  obtain ⟨_, _, _, hp⟩ := v.at
  obtain ⟨ps, h1, h2, h3⟩ := t x hx
  refine ⟨ps, s.1 _ _ (L2.ne_of h1 hp (by intro z; cases z)) h1, h2, fun pos cv hc => ?_⟩
  obtain ⟨c, e1, e2⟩ := h3 pos cv hc
  exact ⟨c, e1, s.1 _ _ (L2.ne_of e2 hp codeO_no) e2⟩
theorem tabs_upd {T : List (Addr × Str)} {H : Hp} {l : Addr} {xs : List V} {o : HO} (t : LamX.Tabs T H) (hl : H l = some (.lst xs)) : LamX.Tabs T (upd H l o) := fun x hx => by
  obtain ⟨ps, h1, h2, h3⟩ := t x hx
  refine ⟨ps, by rw [upd_ne (L2.ne_of h1 hl (by intro z; cases z))]; exact h1, h2, fun pos cv hc => ?_⟩
  obtain ⟨c, e1, e2⟩ := h3 pos cv hc
  exact ⟨c, e1, by rw [upd_ne (L2.ne_of e2 hl codeO_no)]; exact e2⟩

theorem lam_passes {X : Cx} {A : Around} {outer : List Env} {s : Shared} {H : Hp} {E : XK} {scope : Scope} {f c' : Addr} : Passes (L2.CX X.prog X.w) (LamX.lamCx X A outer s H E scope f c') E :=
  passes_call (X := LamX.lamCx X A outer s H E scope f c') (takes_of rfl rfl rfl rfl) (fun _ _ _ _ h => h)

theorem kq_same {p : Addr} {H H' : Hp} (s : Same H H') : Kq p H H' := Kq.ofE (ext_of s)
theorem keptl {H H' : Hp} {a p : Addr} {xs : List V} (h : H a = some (.lst xs)) (n : a ≠ p) (s : Kq p H H') : H' a = some (.lst xs) := s _ _ n (by intro ps z; cases z) h
/-- but at p, and but tables, all stands; what draws keeps its cells -/
structure Kz (p : Addr) (H H' : Hp) : Prop where
  k : Kq p H H'
  c : ∀ c x y, H p = some (.lst [.ref c, x, y]) → ∃ x' y', H' p = some (.lst [.ref c, x', y'])
theorem Kz.refl (p : Addr) (H : Hp) : Kz p H H := ⟨Kq.refl p H, fun _ _ _ h => ⟨_, _, h⟩⟩
theorem Kz.trans {p : Addr} {H H1 H2 : Hp} (a : Kz p H H1) (b : Kz p H1 H2) : Kz p H H2 := ⟨a.k.trans b.k, fun c x y h => let ⟨_, _, h1⟩ := a.c c x y h; b.c _ _ _ h1⟩
theorem Kz.ofS {p : Addr} {H H' : Hp} (s : SB p H H') : Kz p H H' := ⟨Kq.ofS s, s.2⟩
theorem Kz.ofE {p : Addr} {H H' : Hp} (s : Ext H H') : Kz p H H' := ⟨Kq.ofE s, fun _ _ _ h => ⟨_, _, Ext.lst s h⟩⟩
theorem Kz.same {p : Addr} {H H' : Hp} (s : Same H H') : Kz p H H' := Kz.ofE (ext_of s)
theorem kz_upd {p l : Addr} {H H' : Hp} {o : HO} (s : Kz p H H') (nl : H l = none) : Kz p H (upd H' l o) := ⟨fun b u n t h => by
  rw [upd_ne (ne_of_none h nl)]
  exact s.k b u n t h, fun c x y h => by
  obtain ⟨x', y', e⟩ := s.c c x y h
  exact ⟨x', y', by rw [upd_ne (ne_of_none h nl)]; exact e⟩⟩
theorem lens_kupd {H4 H : Hp} {p D : Addr} {n n4 : Nat} {o : HO} (v : Lens H p n) (v4 : Lens H4 p n4) (s : Kz p H4 H) (hD : H4 D = none) : Lens (L2.upd H D o) p n := by
  obtain ⟨c, ns, x, y, h1, h2, h3, h4, h5⟩ := v
  obtain ⟨c4, ms, x4, y4, g1, g2, g3, _⟩ := v4
  obtain ⟨x', y', e⟩ := s.c _ _ _ g1
  rw [h1] at e
  have z : c = c4 := V.ref.inj (List.cons.inj (HO.lst.inj (Option.some.inj e))).1
  subst z
  exact ⟨c, ns, x, y, by rw [upd_ne (ne_of_none g1 hD)]; exact h1, by rw [upd_ne (ne_of_none g2 hD)]; exact h2, h3, h4, h5⟩
section
variable {H H' : Hp} {a C p : Addr} {n : Nat} {rs : List (List Int)} {ds : List Addr}
theorem TRw.ext (h : TRw H a rs) (s : Ext H H') : TRw H' a rs := let ⟨ts, e, q⟩ := h; ⟨ts, Ext.tup s e, paired_mono q fun _ _ z => Ext.tup s z⟩
theorem TrF.ext (h : TrF H C a rs) (s : Ext H H') : TrF H' C a rs := let ⟨dx, t, u, e, q, r⟩ := h; ⟨dx, t, u, s _ _ e (by intro ps z; cases z), q.ext s, r.ext s⟩
theorem LLr.ext (h : LLr H a ds rs) (s : Ext H H') : LLr H' a ds rs := ⟨Ext.lst s h.1, paired_mono h.2 fun _ _ z => Ext.lst s z⟩
theorem TRw.kq (h : TRw H a rs) (v : Lens H p n) (s : Kq p H H') : TRw H' a rs := by
  have tp : ∀ {b : Addr} {xs : List V}, H b = some (.tup xs) → H' b = some (.tup xs) := fun e => s _ _ (v.not_tup e) (by intro ps z; cases z) e
  obtain ⟨ts, e, q⟩ := h
  exact ⟨ts, tp e, paired_mono q fun _ _ z => tp z⟩
theorem TrF.kq (h : TrF H C a rs) (v : Lens H p n) (s : Kq p H H') : TrF H' C a rs := by
  obtain ⟨c, x, y, e⟩ := v.at
  obtain ⟨dx, t, u, ha, q, r⟩ := h
  exact ⟨dx, t, u, s _ _ (L2.ne_of ha e (by intro z; cases z)) (by intro ps z; cases z) ha, q.kq v s, r.kq v s⟩
theorem LLr.kq (h : LLr H a ds rs) (v : Lens H p n) (s : Kq p H H') : LLr H' a ds rs := ⟨keptl h.1 (v.not_refs h.1) s, paired_mono h.2 fun _ _ z => keptl z (v.not_ints z) s⟩
end
section
variable {CB CF CP CQ CW CT CX : Addr}
theorem lam_in {H : Hp} {Q : VK} {T : List (Addr × Str)} {t : XK → TE} {σ : L2.St} (hT : LamX.Tabs T H) (h : ∀ H2 N, Ext H H2 → LamX.Tabs T H2 → NHd Q N → t (EHd CB CF CP CQ CW CT CX Q) σ H2 N) : LamX.tLam T (THeard CB CF CP CQ CW CT CX) t σ H Q :=
  ⟨hT, fun H1 x T1 H2 s N hN => h H2 N (x.trans (ext_of s)) (T1.ext s) hN⟩
end
theorem lam_passX {X : Cx} {A : Around} {outer : List Env} {s : Shared} {H : Hp} {E : XK} {scope : Scope} {f c' : Addr} : Passes (L2.CX (LamX.lamCx X A outer s H E scope f c').prog (LamX.lamCx X A outer s H E scope f c').w) (LamX.lamCx X A outer s H E scope f c') E := lam_passes (X := X) (A := A) (outer := outer) (s := s) (H := H) (E := E) (scope := scope) (f := f) (c' := c')
end K19

namespace K19
open PySem PySem.Spec PyProof.Rows L2
theorem okL_snoc {k : Nat} {rs : List (List Int)} {r : List Int} (h : OkL k rs) (hl : r.length = k) (hb : ∀ x ∈ r, -G9 ≤ x ∧ x ≤ G9) : OkL k (rs ++ [r]) := fun q hq => by
  rcases List.mem_append.mp hq with z | z
  · exact h q z
  · rw [List.mem_singleton.mp z]
    exact ⟨hl, hb⟩
theorem okL_alike {k : Nat} {rs : List (List Int)} (h : OkL k rs) : alike rs = true := alike_of fun r hr => (h r hr).1
/-- what is kept while numbers are drawn out of L and put to R -/
structure Dq (TLs : List (Addr × Str)) (C p L R a : Addr) (rs : List (List Int)) (H0 : Hp) (k n i : Nat) (H : Hp) : Prop where
  z : Kz p H0 H
  v : Lens H p (n + i)
  T : LamX.Tabs TLs H
  t : TrF H C a rs
  ls : ∃ ls fs : List Nat, fs.length = i ∧ H L = some (.lst (nV ls)) ∧ H R = some (.lst (nV fs)) ∧ (ls ++ fs).Perm (List.range k)
theorem tw_nd {ns : List Nat} {j : Nat} (h : TwN ns j) : ¬ ns.Nodup := fun nd => by
  obtain ⟨i, h1, h2, _⟩ := h
  have hm : j ∈ ns.drop i := List.mem_of_getElem? (i := 0) (by rw [List.getElem?_drop, Nat.add_zero]; exact h1)
  rw [← List.take_append_drop i ns, List.nodup_append] at nd
  exact absurd rfl (nd.2.2 j h2 j hm)
section
variable {P : Program} {w : World} {K : PySem.W.Frag} {mg : Str → Option Value} {base : Heap} {C CB CF CT CP CQ CW CX CS : Addr}
/-- what a part of the law that asks lambdas tells of the rows -/
def spT (TLs : List (Addr × Str)) (m r : Nat) : Sp := fun vs H Q _ => ∃ (p b : Addr) (n : Nat) (ds : List Addr) (rs : List (List Int)) (k : Nat), vs = [.ref p, .ref b] ∧ Lens H p n ∧ n + m < 60000 ∧ LLr H b ds rs ∧ OkL k rs ∧ 3 ≤ k ∧ k ≤ 7 ∧ rs ≠ [] ∧ rs.length ≤ 8 ∧ LamX.Tabs TLs H ∧ ∀ H', Kz p H H' → Lens H' p (n + r) → LamX.Tabs TLs H' → Q (.bl true) H'
/-! ### _law_changed_right -/
abbrev sCg : Stmt := top 51
abbrev nCg : List Str := ["_law_cask_here", "_law_rows_here", "_law_pins", "_law_left", "_law_order", "_law_turn", "_law_some", "_law_more", "_law_tray", "_law_places_here", "_law_pin", "_law_number_here"]
theorem scCg : FnScope nCg ["_law_cask_here", "_law_rows_here"] (defScope sCg) := ⟨rfl, rfl, rfl, by decide +kernel, rfl, by decide +kernel, by decide +kernel⟩
abbrev scCgP : Scope := { kind := .function, names := [(".0", .local), ("_law_places_here", .cell), ("_law_order", .cell)], isGenerator := false, isCoroutine := false }
def qCg : Str := (envOfC "_law_changed_right" (defScope sCg) 0 0 (.ref 0)).qual ++ "<lambda>"
theorem ok_cg {f c Pt g : Addr} {fdH : FuncData} {oc kV doc pm ct : Value} {od an : Option Addr} {osl : Array (Option Value)} {TLs : List (Addr × Str)} (hmT : (Pt, qCg) ∈ TLs) (hU : ∀ x ∈ TLs, x.1 = Pt → x.2 = qCg)
    (lk : K.lookup f = some ⟨oc, od, .func (PySem.W.fnOf "_law_changed_right" "_law_changed_right" (defArgs sCg) (defBody sCg) (defScope sCg) .none kV doc pm an (.ref c) ct), osl⟩) (hcd : PySem.W.codeIn K (.ref c) "_law_changed_right" = true)
    (TB : LamX.TabB base mg c Pt) (B : Bn mg) (T : Tc P w K mg base C CB CF CT CP CQ CW CX) (S : SeT K CS CB CF CP CQ CW CT CX) (M : SeM mg CS CB CF CP CQ CW CT CX) (FH : Fun K "_law_heard" "_law_heard" sHd g fdH) (mH : mg "_law_heard" = some (.ref g))
    (C1 : Callee P w K mg base CX0 2 "_law_places" ["_law_cask_here", "_law_pins"] spPlc) (C2 : Callee P w K mg base CX0 1 "_law_draw" ["_law_cask_here", "_law_many"] spShot) :
    FnOk P w K mg base CX0 10 f (PySem.W.fnOf "_law_changed_right" "_law_changed_right" (defArgs sCg) (defBody sCg) (defScope sCg) .none kV doc pm an (.ref c) ct) ["_law_cask_here", "_law_rows_here"] (spT TLs 100 40) := by
  obtain ⟨f1, fd1, m1, k1, b1, G1⟩ := C1
  obtain ⟨f2, fd2, m2, k2, b2, G2⟩ := C2
  obtain ⟨ocH, odH, kVH, docH, pmH, anH, cdvH, ctH, oslH, rfl, lkH, hcH⟩ := FH.ex
  have bH := FH.binds (ps := ["_law_ask"]) fun _ _ _ _ _ _ us hl => match us, hl with | [_], _ => rfl
  obtain ⟨fQ, fdQ, GQ, hsQ, hfQ, bQ⟩ := T.eq
  obtain ⟨fw, fdw, Mw, Gw, bw, kw⟩ := T.wr
  obtain ⟨fi, fdi, Mi, Gi, bi, ki⟩ := T.io
  obtain ⟨fp, fdp, Mp, Gp, bp, kp⟩ := T.pk
  have cl := T.t.pc.cls
  have nd := scCg.nd
  refine fn_of lk hcd scCg (fun vs H Q E h => ?_) fun A outer s H vs Q E hr h => ?_
  · obtain ⟨p, b, n, ds, rs, k, rfl, _⟩ := h
    rfl
  suffices hh : ∃ t, PSs (cxOf CX0 P w K mg base nCg "_law_changed_right" (defScope sCg) f (.ref c) A outer s H E).nox (defBody sCg) t ∧ t { nx := fun _ H' => Q .non H', rt := Q } (L2.start nCg vs) H from let ⟨t, h1, h2⟩ := hh; ⟨t, h1.nox, h2⟩
  obtain ⟨p, b, n, ds, rs, k, rfl, hv, hn, ll, okl, hk3, hk7, hne, h8, hT, q⟩ := h
  refine ⟨_, (pss_cons (ps_asg (pe_tup (pa_cons ((pe_mkT (E := E0) K T.mgC T.ini (hr.mono (by decide)) passL rfl (pa_cons (pv 1) pa_nil))) (pa_cons ((pe_callB call_len_seq (by rfl) B.len PySem.boot_len (pa_cons ((pe_ix ix_list (pv 1) (pe_int) (fun _ _ => rfl))) pa_nil))) (pa_cons ((pe_listRg rfl (by rfl) B.list (prg_1 rfl B.range ((pe_callB call_len_seq (by rfl) B.len PySem.boot_len (pa_cons ((pe_ix ix_list (pv 1) (pe_int) (fun _ _ => rfl))) pa_nil)))))) (pa_cons (pe_lst pa_nil) pa_nil))))) (pg_tup rfl (pgs_cons (pg_name (i := 8) nd rfl (Or.inr rfl)) (pgs_cons (pg_name (i := 2) nd rfl (Or.inl rfl)) (pgs_cons (pg_name (i := 3) nd rfl (Or.inl rfl)) (pgs_cons (pg_name (i := 4) nd rfl (Or.inr rfl)) pgs_nil)))))) (pss_cons ((ps_set (i := 7) nd rfl (Or.inr rfl) ((pe_call G1 (hr.mono (by decide)) rfl m1 k1 b1 .nil pass0 (pa_cons (pv 0) (pa_cons (pv 2) pa_nil)))))) (pss_cons (ps_if (PW.pt (pw_or ((PW.pt (pw_and (pt_cmpR op_lt (pe_callB call_len_seq (by rfl) B.len PySem.boot_len (pa_cons (pv 1) pa_nil)) pe_int (nomark _)) (pw_and1 (pt_cmpR (op_neI GQ hsQ hfQ bQ T.n.ne T.t.pc.hm (hr.mono (by decide))) (pe_methK0 (E := E0) (pv 8) cl Mw Gw (hr.mono (by decide)) kw passL (pk_cons (pv 7) pk_nil)) (pe_mkT (E := E0) K T.mgC T.ini (hr.mono (by decide)) passL rfl (pa_cons (pe_op op_cat (pv 1) (pe_lst (pa_cons (pv 7) pa_nil))) pa_nil)) (nomark _)))))) (pw_or1 ((PW.pt (pw_and ((pt_cmpR op_eq ((pe_callB call_len_seq (by rfl) B.len PySem.boot_len (pa_cons (pv 1) pa_nil))) (pe_int) (nomark _))) (pw_and1 ((pt_cmpR (op_neD hr.units) ((LamX.pe_lamcall (T := TLs) (TT := THeard CB CF CP CQ CW CT CX) (Ng := nHd) (a := "_law_ask") (k := 7) rfl mH FH.kp lkH hcH bH scHd rfl (Or.inl rfl) (heard_gives B S M) TB rfl hmT hU hr (LamX.lamS_by (by show LamX.lamSB (defScope sCg) _ = true; decide +kernel)) rfl (fun _ _ _ _ _ => rfl) (fun A outer s H E f c hr => pe_meth (E := E) (pv 8) cl Mw Gw hr bw .nil lam_passX (pa_cons (pv 7) pa_nil)))) (pe_tup (pa_cons (pe_str) (pa_cons (pe_int) pa_nil))) (nomark _)))))))))) (pss_one (ps_ret pe_bl)) pss_nil) (pss_cons (ps_for PassesOwn.never rfl (pi_range1 rfl B.range (pa_cons (pv 2) pa_nil)) (pg_name (i := 5) nd rfl (Or.inl rfl)) (pss_one (ps_expr (pe_bm PySem.F.plainAttrs_list PySem.F.slot_list_append PySem.F.type_list_append mt_append (pv 4) (pa_cons (pe_bm PySem.F.plainAttrs_list PySem.F.slot_list_pop PySem.F.type_list_pop mt_popAt (pv 3) (pa_cons ((pe_call G2 (hr.mono (by decide)) rfl m2 k2 b2 .nil pass0 (pa_cons (pv 0) (pa_cons ((pe_callB call_len_seq (by rfl) B.len PySem.boot_len (pa_cons (pv 3) pa_nil))) pa_nil)))) pa_nil)) pa_nil))))) (pss_cons (ps_if (pt_cmpR (op_neI GQ hsQ hfQ bQ T.n.ne T.t.pc.hm (hr.mono (by decide))) (pe_methK0 (E := E0) (pv 8) cl Mi Gi (hr.mono (by decide)) ki passL (pk_cons (pe_callTy (T := "tuple") (r := rTu K) call_tuK (by rfl) B.tuple (by decide +kernel) (pa_cons (pv 4) pa_nil)) pk_nil)) (pe_mkT (E := E0) K T.mgC T.ini (hr.mono (by decide)) passL rfl (pa_cons ((pe_lc (own := [("_law_places_here", 9)]) (g := gName 9) (tt := tYes) rfl nd (pi_sq K (pv 1)) (blkOk_by (N := nCg) (sc := defScope sCg) (by decide +kernel)) (fun _ _ _ _ _ => (pg_name (i := 9) nd rfl (Or.inr rfl))) (fun _ _ _ _ _ => pts_nil) (fun _ _ _ _ _ => (pe_lc (own := [("_law_pin", 10)]) (g := gName 10) (tt := tYes) rfl nd (pi_sq K (pv 4)) (blkOk_by (N := nCg) (sc := scCgP) (by decide +kernel)) (fun _ _ _ _ _ => (pg_name (i := 10) nd rfl (Or.inl rfl))) (fun _ _ _ _ _ => pts_nil) (fun _ _ _ _ _ => (pe_ix (r := rIxL K) ix_listK (pv 9) (pv 10) (fun _ _ => rfl))))))) pa_nil)) (nomark _)) (pss_one (ps_ret pe_bl)) pss_nil) (pss_cons (ps_par (i := 3) (j := 6) rfl nd rfl rfl (by decide) rfl rfl (pa_cons ((pe_listRg rfl (by rfl) B.list (prg_1 rfl B.range ((pe_callB call_len_seq (by rfl) B.len PySem.boot_len (pa_cons (pv 1) pa_nil)))))) (pa_cons (pe_lst pa_nil) pa_nil)) (by rfl)) (pss_cons (ps_for PassesOwn.never rfl (pi_range1 rfl B.range (pa_cons (pe_op op_add pe_int (pe_call G2 (hr.mono (by decide)) rfl m2 k2 b2 .nil pass0 (pa_cons (pv 0) (pa_cons ((pe_callB call_len_seq (by rfl) B.len PySem.boot_len (pa_cons (pv 1) pa_nil))) pa_nil)))) pa_nil)) (pg_name (i := 5) nd rfl (Or.inl rfl)) (pss_one (ps_expr (pe_bm PySem.F.plainAttrs_list PySem.F.slot_list_append PySem.F.type_list_append mt_append (pv 6) (pa_cons (pe_bm PySem.F.plainAttrs_list PySem.F.slot_list_pop PySem.F.type_list_pop mt_popAt (pv 3) (pa_cons ((pe_call G2 (hr.mono (by decide)) rfl m2 k2 b2 .nil pass0 (pa_cons (pv 0) (pa_cons ((pe_callB call_len_seq (by rfl) B.len PySem.boot_len (pa_cons (pv 3) pa_nil))) pa_nil)))) pa_nil)) pa_nil))))) (pss_one (ps_ret (pe_and (pe_cmpR (op_eqI GQ hsQ hfQ bQ (hr.mono (by decide))) (pe_methK0 (E := E0) (pv 8) cl Mp Gp (hr.mono (by decide)) kp passL (pk_cons (pv 6) pk_nil)) (pe_mkT (E := E0) K T.mgC T.ini (hr.mono (by decide)) passL rfl (pa_cons ((pe_lc (own := [("_law_number_here", 11)]) (g := gName 11) (tt := tYes) rfl nd (pi_sq K (pv 6)) (blkOk_by (N := nCg) (sc := defScope sCg) (by decide +kernel)) (fun _ _ _ _ _ => (pg_name (i := 11) nd rfl (Or.inl rfl))) (fun _ _ _ _ _ => pts_nil) (fun _ _ _ _ _ => (pe_ix (r := rIxL K) ix_listK (pv 1) (pv 11) (fun _ _ => rfl))))) pa_nil)) (nomark _)) (pe_one (pe_cmpR (op_eqI GQ hsQ hfQ bQ (hr.mono (by decide))) (pv 8) (pe_mkT (E := E0) K T.mgC T.ini (hr.mono (by decide)) passL rfl (pa_cons (pv 1) pa_nil)) (nomark _))))))))))))), ?_⟩
  have okT := okl.okT hk3 hk7 hne h8
  have lds : ds.length = rs.length := ll.len
  have lx : (ds.map V.ref).length = rs.length := by rw [List.length_map, lds]
  have pos : 0 < rs.length := List.length_pos_iff.mpr hne
  have hl := head_len okl hne
  obtain ⟨d0, e0⟩ : ∃ d0, ds[0]? = some d0 := ⟨_, List.getElem?_eq_getElem (by omega)⟩
  have e0V : (ds.map V.ref)[0]? = some (.ref d0) := by rw [List.getElem?_map, e0]; rfl
  obtain ⟨r0, er0, hr0⟩ := paired_get ll.2 e0
  have hr0 : H d0 = some (.lst (r0.map V.int)) := hr0
  have lr0 := (okl r0 (List.mem_of_getElem? er0)).1
  refine ⟨_, rfl, .ref b, rfl, ll.mk okT fun A2 H2 s2 nA tf => ?_⟩
  have ll2 := ll.same s2
  have hr2 := s2 _ _ hr0
  refine ⟨_, rfl, b, _, 0, .ref d0, rfl, rfl, SqL.of ll2.1, atI_nat (j := 0) e0V, d0, _, rfl, .inl (SqL.of hr2), ?_⟩
  rw [List.length_map, lr0]
  refine ⟨_, rfl, b, _, 0, .ref d0, rfl, rfl, SqL.of ll2.1, atI_nat (j := 0) e0V, d0, _, rfl, .inl (SqL.of hr2), ?_⟩
  rw [List.length_map, lr0]
  refine ⟨(k : Int), rfl, RgOk.of_le (by decide) (by omega) (by decide) (by omega), fun L nL => ?_⟩
  rw [rg_nV]
  have s3 := same_new (o := .lst (nV (List.range k))) nL
  have gL : upd H2 L (.lst (nV (List.range k))) L = some (.lst (nV (List.range k))) := upd_same
  have nL0 := s2.free nL
  generalize upd H2 L (.lst (nV (List.range k))) = H3 at s3 gL ⊢
  refine ⟨Nat.zero_le _, fun R nR => ?_⟩
  have s4 := same_new (o := .lst []) nR
  have gR : upd H3 R (.lst []) R = some (.lst (nV [])) := upd_same
  have nR0 := (s2.trans s3).free nR
  have nRL : R ≠ L := (ne_of_none gL nR).symm
  have gL4 := s4 _ _ gL
  generalize upd H3 R (.lst []) = H4 at s4 gR gL4 ⊢
  refine ⟨by show 4 ≤ sizeLine; decide, fun u5 n5 => ?_⟩
  have s5 := same_new (o := .tup [V.ref A2, V.int (k : Nat), V.ref L, V.ref R]) n5; have g5 : upd H4 u5 (.tup [V.ref A2, V.int (k : Nat), V.ref L, V.ref R]) u5 = some (.tup [V.ref A2, V.int (k : Nat), V.ref L, V.ref R]) := upd_same; generalize upd H4 u5 (.tup [V.ref A2, V.int (k : Nat), V.ref L, V.ref R]) = H5 at s5 g5 ⊢
  refine ⟨u5, _, rfl, SqT.of g5, rfl, _, _, rfl, _, _, rfl, _, _, rfl, _, _, rfl, rfl, ?_⟩
  have s25 := s3.trans (s4.trans s5)
  have s05 := s2.trans s25
  have tf5 := tf.same s25
  have gL5 := s5 _ _ gL4
  have gR5 := s5 _ _ gR
  have v5 := hv.same s05
  refine ⟨_, rfl, _, rfl, p, n, k, rfl, v5, by omega, by omega, hk7, fun H6 Mo ns s6 v6 nMo gMo lns bns => ?_⟩
  have tf6 := tf5.sb v5 s6
  have nLp := hv.not_none nL0
  have nRp := hv.not_none nR0
  have gL6 := s6.1 _ _ nLp gL5
  have gR6 := s6.1 _ _ nRp gR5
  have z06 : Kz p H H6 := (Kz.same s05).trans (Kz.ofS s6)
  have T6 := tabs_sb (hT.ext s05) v5 s6
  have ll6 := ll.kq hv z06.k
  have okr : OkR ns := ⟨by omega, by omega, bns⟩
  have okm := okL_snoc okl lns bns
  clear gL gL4 gR g5 gL5 gR5 tf tf5 hr2 ll2
  dsimp only [gName]
  refine if_join (P := fun σ' H' => Ext H6 H' ∧ LamX.Tabs TLs H' ∧ σ' = [some (.ref p), some (.ref b), some (.int (k : Nat)), some (.ref L), some (.ref R), none, none, some (.ref Mo), some (.ref A2), none, none, none]) (fun σ' H7 h7 => ?_) (fun rest => ?_)
  · obtain ⟨x7, T7, rfl⟩ := h7
    have z07 := z06.trans (Kz.ofE x7)
    have v7 := v6.ext x7
    refine ⟨_, rfl, (k : Int), rfl, by omega, by omega, ?_⟩
    rw [Int.toNat_natCast]
    refine for_range (lo := 0) (n := k) (fun i σ H' => Dq TLs C p L R A2 rs H k (n + 16) i H' ∧ ∃ c, σ = [some (.ref p), some (.ref b), some (.int (k : Nat)), some (.ref L), some (.ref R), c, none, some (.ref Mo), some (.ref A2), none, none, none]) ⟨⟨z07, v7, T7, tf6.ext x7, List.range k, [], rfl, Ext.lst x7 gL6, Ext.lst x7 gR6, by rw [List.append_nil]⟩, _, rfl⟩ (fun i σ H' hi pv => ?_) (fun σ H8 pv => ?_)
    · obtain ⟨⟨z, v, T', t', ls, fs, lf, gl, gr, pm⟩, c, rfl⟩ := pv
      have lk : ls.length + fs.length = k := by
        have := pm.length_eq
        rw [List.length_append, List.length_range] at this
        exact this
      refine ⟨_, rfl, .inl ⟨rfl, _, SqL.of gr⟩, _, rfl, .inl ⟨rfl, _, SqL.of gl⟩, _, rfl, _, rfl, L, _, rfl, .inl (SqL.of gl), p, _, _, rfl, v, by omega, by rw [nV_len]; omega, by rw [Int.natAbs_natCast, nV_len]; exact Nat.lt_of_le_of_lt (show ls.length ≤ 8 by omega) (by decide), fun Ha d sa va d0' d1 => ?_⟩
      rw [nV_len] at d1
      obtain ⟨i', rfl⟩ := Int.eq_ofNat_of_zero_le d0'
      have hi' : i' < ls.length := by omega
      have gla := sa.1 _ _ nLp gl
      have gra := sa.1 _ _ nRp gr
      refine ⟨L, _, _, i', _, rfl, rfl, gla, by omega, by omega, (ixN_seq (ixN_nat (by rw [nV_len]; exact hi'))).1, nV_at hi', ?_⟩
      rw [erase_nV]
      have zb := kz_upd (o := .lst (nV (ls.eraseIdx i'))) (z.trans (Kz.ofS sa)) nL0
      have vb := lens_kupd (o := .lst (nV (ls.eraseIdx i'))) va hv (z.trans (Kz.ofS sa)) nL0
      have Tb := tabs_upd (o := .lst (nV (ls.eraseIdx i'))) (tabs_sb T' v sa) gla
      have tb := (t'.sb v sa).updl (o := .lst (nV (ls.eraseIdx i'))) gla
      have grb : upd Ha L (.lst (nV (ls.eraseIdx i'))) R = some (.lst (nV fs)) := by rw [upd_ne nRL]; exact gra
      have glb : upd Ha L (.lst (nV (ls.eraseIdx i'))) L = some (.lst (nV (ls.eraseIdx i'))) := upd_same
      generalize upd Ha L (.lst (nV (ls.eraseIdx i'))) = Hb at zb vb Tb tb grb glb ⊢
      refine ⟨R, _, _, rfl, rfl, grb, by rw [nV_len]; exact small1000 (by omega), ?_⟩
      exact ⟨⟨kz_upd zb nR0, (lens_kupd vb hv zb nR0).le (by omega), tabs_upd Tb grb, tb.updl grb, ls.eraseIdx i', fs ++ [ls[i']], by rw [List.length_append, lf]; rfl, by rw [upd_ne nRL.symm]; exact glb, by rw [upd_same, nV_snoc], (perm_pop hi').trans pm⟩, _, rfl⟩
    · obtain ⟨⟨z8, v8, T8, t8, ls, fs, lf, gl, gr, pm⟩, c, rfl⟩ := pv
      have zl : ls = [] := by
        have := pm.length_eq
        rw [List.length_append, List.length_range] at this
        exact List.length_eq_zero_iff.mp (by omega)
      subst zl
      have pm : fs.Perm (List.range k) := pm
      have fnd : fs.Nodup := pm.nodup_iff.mpr List.nodup_range
      have flt : ∀ n ∈ fs, n < k := fun n hn => List.mem_range.mp (pm.mem_iff.mp hn)
      have ll8 := ll.kq hv z8.k
      refine ⟨_, rfl, meth_in t8 (fun _ _ _ => rfl) ⟨_, rfl, R, _, rfl, .inl ⟨SqL.of gr, fun t9 n9 => ?_⟩⟩⟩
      have s9 := same_new (o := .tup (nV fs)) n9; have g9 : upd H8 t9 (.tup (nV fs)) t9 = some (.tup (nV fs)) := upd_same; generalize upd H8 t9 (.tup (nV fs)) = H9 at s9 g9 ⊢
      refine ⟨rfl, A2, .ref t9, rs, rfl, t8.same s9, okT, .inr ⟨t9, fs, rfl, ⟨.inr g9, by omega, by rw [hl]; exact flt⟩, fun _ _ A10 H10 s10 nA10 t10 => ?_, fun _ hlt => absurd hlt (by omega), fun j tw => absurd fnd (tw_nd tw)⟩⟩
      have s810 := s9.trans s10
      have ll10 := ll8.same s810
      have gr10 := s810 _ _ gr
      have lf7 : fs.length ≤ 7 := by omega
      try dsimp only [tNext, tRet, tCB, tCons, tNil, tNot, tB, tOr, tSeq, tIfS, sFld, tMkT]
      refine lcg (a := b) (xs := ds.map V.ref) (Good := isRowL) (bs := rs.map (pickI fs)) (fun Q' q' => ⟨_, rfl, q'⟩) (.inl ll10.1) (by rw [List.length_map, lx]) (by omega) (fun D i x r' H' hD hx hr' s2 ⟨acc, hacc⟩ T' N t' => ?_) (fun D gs H11 hD s11 hd nm pg => ?_)
      · obtain ⟨d, ed, rfl⟩ := get_map hx
        obtain ⟨r, er, hr⟩ := paired_get ll10.2 ed
        obtain ⟨r2, er2, rfl⟩ := get_map hr'
        obtain rfl : r = r2 := Option.some.inj (er.symm.trans er2)
        have lr := (okl r (List.mem_of_getElem? er)).1
        have hr' : H' d = some (.lst (r.map V.int)) := s2 _ _ hr
        refine ⟨rfl, yes_of ?_⟩
        try dsimp only [tNext, tRet, tCB, tCons, tNil, tNot, tB, tOr, tSeq, tIfS, sFld, tMkT]
        refine lcv (a := R) (xs := nV fs) (ys := (pickI fs r).map V.int) (fun Q' q' => ⟨_, rfl, q'⟩) (.inl (s2 _ _ gr10)) (by unfold pickI; rw [List.length_map, List.length_map, nV_len]) (by rw [nV_len]; omega) (fun D2 j x2 y2 H3 hD2 hx2 hy2 s3 T2 N2 t2 => ?_) (fun D2 H3 hD2 s3 hd3 => ?_)
        · obtain ⟨m, em, rfl⟩ := nV_get hx2
          obtain ⟨z, hz, rfl⟩ := get_map hy2
          unfold pickI at hz
          obtain ⟨m', hm, rfl⟩ := get_map hz
          obtain rfl : m = m' := Option.some.inj (em.symm.trans hm)
          have ln' : m < r.length := by
            rw [lr]
            exact flt m (List.mem_of_getElem? em)
          refine ⟨rfl, yes_of ?_⟩
          exact ⟨_, rfl, _, rfl, d, _, _, _, rfl, rfl, SqL.of (s3 _ _ hr'), ints_at ln', t2 _ Same.me⟩
        · exact t' D2 _ _ (fun z => by rw [z, hacc] at hD2; cases hD2) s3 hd3 rfl
      have okp := pickI_ok okT (ns := fs) (by rw [hl]; exact flt) (by omega) (by omega)
      refine ⟨.ref D, rfl, MkT.of (.inl hd) (rows_l pg) okp.ok okp.ne okp.al okp.l8 fun A12 H12 s12 nA12 t12 => ?_⟩
      have s1012 := s11.trans s12
      have s812 := s810.trans s1012
      refine neT_in T.t (t10.same s1012) t12 ⟨_, rfl, ?_⟩
      rw [decide_eq_true rfl]
      refine iteF ?_
      have z12 := z8.trans (Kz.same s812)
      have v12 := v8.same s812
      have t12 := t8.same s812
      have T12 := T8.ext s812
      have ll12 := ll8.same s812
      clear hd pg gr gl g9 t10 ll10 gr10
      refine ⟨_, rfl, b, _, rfl, .inl (SqL.of ll12.1), ((rs.length : Nat) : Int), ?_, RgOk.of_le (by decide) (by omega) (by decide) (by omega), fun L2 nL2 => ?_⟩
      · rw [lx]
      rw [rg_nV]
      have s13 := same_new (o := .lst (nV (List.range rs.length))) nL2
      have gL2 : upd H12 L2 (.lst (nV (List.range rs.length))) L2 = some (.lst (nV (List.range rs.length))) := upd_same
      have nL20 := nL2
      generalize upd H12 L2 (.lst (nV (List.range rs.length))) = H13 at s13 gL2 ⊢
      refine ⟨Nat.zero_le _, fun R2 nR2 => ?_⟩
      have s14 := same_new (o := .lst []) nR2
      have gR2 : upd H13 R2 (.lst []) R2 = some (.lst (nV [])) := upd_same
      have nR20 := s13.free nR2
      have nRL2 : R2 ≠ L2 := (ne_of_none gL2 nR2).symm
      have gL2' := s14 _ _ gL2
      generalize upd H13 R2 (.lst []) = H14 at s14 gR2 gL2' ⊢
      have nL2p := v12.not_none nL20
      have nR2p := v12.not_none nR20
      refine ⟨_, _, rfl, ?_⟩
      have s1214 := s13.trans s14
      have ll14 := ll12.same s1214
      refine ⟨_, rfl, _, rfl, b, _, rfl, .inl (SqL.of ll14.1), p, _, n + 16 + k, rfl, v12.same s1214, by omega, by rw [lx]; omega, by rw [lx]; omega, fun H15 d s15 v15 dd0 dd1 => ?_⟩
      rw [lx] at dd1
      obtain ⟨m, rfl⟩ := Int.eq_ofNat_of_zero_le dd0
      refine ⟨_, _, rfl, rfl, _, rfl, by omega, by omega, ?_⟩
      rw [show ((1 : Int) + (m : Int)).toNat = 1 + m by omega]
      have z15 := (Kz.same (p := p) s1214).trans (Kz.ofS s15)
      refine for_range (lo := 0) (n := 1 + m) (fun i σ H' => Dq TLs C p L2 R2 A2 rs H12 rs.length (n + 16 + k + 1) i H' ∧ ∃ c, σ = [some (.ref p), some (.ref b), some (.int (k : Nat)), some (.ref L2), some (.ref R), c, some (.ref R2), some (.ref Mo), some (.ref A2), none, none, none]) ⟨⟨z15, v15, tabs_sb (T12.ext s1214) (v12.same s1214) s15, (t12.same s1214).sb (v12.same s1214) s15, List.range rs.length, [], rfl, s15.1 _ _ nL2p gL2', s15.1 _ _ nR2p gR2, by rw [List.append_nil]⟩, _, rfl⟩ (fun i σ H' hi pv => ?_) (fun σ H16 pv => ?_)
      · obtain ⟨⟨z, v, T', t', ls, fs, lf, gl, gr, pm⟩, c, rfl⟩ := pv
        have lk : ls.length + fs.length = rs.length := by
          have := pm.length_eq
          rw [List.length_append, List.length_range] at this
          exact this
        refine ⟨_, rfl, .inl ⟨rfl, _, SqL.of gr⟩, _, rfl, .inl ⟨rfl, _, SqL.of gl⟩, _, rfl, _, rfl, L2, _, rfl, .inl (SqL.of gl), p, _, _, rfl, v, by omega, by rw [nV_len]; omega, by rw [Int.natAbs_natCast, nV_len]; exact Nat.lt_of_le_of_lt (show ls.length ≤ 8 by omega) (by decide), fun Ha d sa va d0' d1 => ?_⟩
        rw [nV_len] at d1
        obtain ⟨i', rfl⟩ := Int.eq_ofNat_of_zero_le d0'
        have hi' : i' < ls.length := by omega
        have gla := sa.1 _ _ nL2p gl
        have gra := sa.1 _ _ nR2p gr
        refine ⟨L2, _, _, i', _, rfl, rfl, gla, by omega, by omega, (ixN_seq (ixN_nat (by rw [nV_len]; exact hi'))).1, nV_at hi', ?_⟩
        rw [erase_nV]
        have zb := kz_upd (o := .lst (nV (ls.eraseIdx i'))) (z.trans (Kz.ofS sa)) nL20
        have vb := lens_kupd (o := .lst (nV (ls.eraseIdx i'))) va v12 (z.trans (Kz.ofS sa)) nL20
        have Tb := tabs_upd (o := .lst (nV (ls.eraseIdx i'))) (tabs_sb T' v sa) gla
        have tb := (t'.sb v sa).updl (o := .lst (nV (ls.eraseIdx i'))) gla
        have grb : upd Ha L2 (.lst (nV (ls.eraseIdx i'))) R2 = some (.lst (nV fs)) := by rw [upd_ne nRL2]; exact gra
        have glb : upd Ha L2 (.lst (nV (ls.eraseIdx i'))) L2 = some (.lst (nV (ls.eraseIdx i'))) := upd_same
        generalize upd Ha L2 (.lst (nV (ls.eraseIdx i'))) = Hb at zb vb Tb tb grb glb ⊢
        refine ⟨R2, _, _, rfl, rfl, grb, by rw [nV_len]; exact small1000 (by omega), ?_⟩
        exact ⟨⟨kz_upd zb nR20, (lens_kupd vb v12 zb nR20).le (by omega), tabs_upd Tb grb, tb.updl grb, ls.eraseIdx i', fs ++ [ls[i']], by rw [List.length_append, lf]; rfl, by rw [upd_ne nRL2.symm]; exact glb, by rw [upd_same, nV_snoc], (perm_pop hi').trans pm⟩, _, rfl⟩
      · obtain ⟨⟨z16, v16, T16, t16, ls, fs2, lf2, gl, gr, pm2⟩, c2, rfl⟩ := pv
        have fnd2 : fs2.Nodup := (List.nodup_append.mp (pm2.nodup_iff.mpr List.nodup_range)).2.1
        have flt2 : ∀ n ∈ fs2, n < rs.length := fun n hn => List.mem_range.mp (pm2.mem_iff.mp (List.mem_append_right _ hn))
        have fne2 : fs2 ≠ [] := fun z => by
          rw [z] at lf2
          have lf2 : 0 = 1 + m := lf2
          omega
        have zz := z12.trans z16
        have ll16 := ll.kq hv zz.k
        have okp2 := pickR_ok okT flt2 fne2 (by omega)
        refine ⟨_, rfl, meth_in t16 (fun _ _ _ => rfl) ⟨_, rfl, rfl, A2, .ref R2, rs, rfl, t16, okT, .inr ⟨R2, fs2, rfl, ⟨.inl gr, by omega, flt2⟩, fun z => absurd z fne2, fun _ _ A17 H17 s17 nA17 t17 => ?_, fun j tw => absurd fnd2 (tw_nd tw)⟩⟩⟩
        have ll17 := ll16.same s17
        have gr17 := s17 _ _ gr
        try dsimp only [tNext, tRet, tCB, tCons, tNil, tNot, tB, tOr, tSeq, tIfS, sFld, tMkT]
        refine lcg (a := R2) (xs := nV fs2) (Good := isRowL) (bs := pickR rs fs2) (fun Q' q' => ⟨_, rfl, q'⟩) (.inl gr17) (by unfold pickR; rw [List.length_map, nV_len]) (by rw [nV_len]; omega) (fun D i x r H' hD hx hr' s2 ⟨acc, hacc⟩ T' N t' => ?_) (fun D gs H18 hD s18 hd nm pg => ?_)
        · obtain ⟨n', en, rfl⟩ := nV_get hx
          have hn' : n' < rs.length := flt2 n' (List.mem_of_getElem? en)
          have er : rs.getD n' [] = r := by
            unfold pickR at hr'
            rw [List.getElem?_map, en] at hr'
            exact Option.some.inj hr'
          rw [getD_at [] hn'] at er
          obtain ⟨g, eg, hg⟩ := paired_of ll17.2 (i := n') (y := r) (by rw [List.getElem?_eq_getElem hn', er])
          have hg : H17 g = some (.lst (r.map V.int)) := hg
          refine ⟨rfl, yes_of ?_⟩
          exact ⟨_, rfl, _, rfl, b, _, _, .ref g, rfl, rfl, SqL.of (s2 _ _ ll17.1), atI_nat (by rw [List.getElem?_map, eg]; rfl), t' g _ _ (ne_of_none hg hD) Same.me (s2 _ _ hg) rfl⟩
        refine ⟨.ref D, rfl, MkT.of (.inl hd) (rows_l pg) okp2.ok okp2.ne okp2.al okp2.l8 fun A19 H19 s19 nA19 t19 => ?_⟩
        have s1719 := s18.trans s19
        have s1619 := s17.trans s1719
        refine eqT_in T.t (t17.same s1719) t19 ?_
        rw [decide_eq_true rfl]
        refine ⟨_, rfl, iteT ?_⟩
        refine ⟨_, rfl, _, rfl, .ref b, rfl, (ll16.same s1619).mk okT fun A20 H20 s20 nA20 t20 => ?_⟩
        have s1620 := s1619.trans s20
        refine eqT_in T.t (t16.same s1620) t20 ?_
        rw [decide_eq_true rfl]
        exact q _ (zz.trans (Kz.same s1620)) ((v16.same s1620).le (by omega)) (T16.ext s1620)
  · refine ⟨_, rfl, b, _, rfl, .inl (SqL.of ll6.1), _, _, rfl, rfl, _, rfl, ?_⟩
    rw [lx]
    by_cases hl8 : rs.length < 8
    · rw [decide_eq_true (show ((rs.length : Nat) : Int) < 8 by omega)]
      refine iteT ⟨_, rfl, meth_in tf6 (fun _ _ _ => rfl) ⟨_, rfl, rfl, A2, .ref Mo, rs, rfl, tf6, okT, .inr ⟨ns, ⟨Mo, rfl, .inl gMo⟩, okr, fun z => ?_, fun _ l => absurd l (by rw [List.length_append]; show ¬ 8 < rs.length + 1; omega), fun _ _ A7 H7 s7 nA7 tf7 => ?_⟩⟩⟩
      · rw [okL_alike okm] at z
        cases z
      have ll7 := ll6.same s7
      refine ⟨_, rfl, _, rfl, by show 1 ≤ sizeLine; decide, fun c8 n8 => ?_⟩
      have s8 := same_new (o := .lst [V.ref Mo]) n8; have g8 : upd H7 c8 (.lst [V.ref Mo]) c8 = some (.lst [V.ref Mo]) := upd_same; generalize upd H7 c8 (.lst [V.ref Mo]) = H8 at s8 g8 ⊢
      refine ⟨b, c8, _, _, rfl, rfl, s8 _ _ ll7.1, g8, by rw [lx]; exact Nat.le_of_lt (small1000 (by show rs.length + 1 ≤ 1000; omega)), fun X9 n9 => ?_⟩
      have s9 := same_new (o := .lst (ds.map V.ref ++ [V.ref Mo])) n9
      have l9 : LLr (upd H8 X9 (.lst (ds.map V.ref ++ [V.ref Mo]))) X9 (ds ++ [Mo]) (rs ++ [ns]) := ⟨by rw [upd_same, List.map_append]; rfl, paired_app (paired_mono ll7.2 fun _ _ z => s9 _ _ (s8 _ _ z)) (.cons (s9 _ _ (s8 _ _ (s7 _ _ gMo))) .nil)⟩
      generalize upd H8 X9 (.lst (ds.map V.ref ++ [V.ref Mo])) = H9 at s9 l9 ⊢
      refine ⟨.ref X9, rfl, l9.mk (okm.okT hk3 hk7 (by simp) (by rw [List.length_append]; show rs.length + 1 ≤ 8; omega)) fun A10 H10 s10 nA10 tf10 => ?_⟩
      have s710 := s8.trans (s9.trans s10)
      have s610 := s7.trans s710
      refine neT_in T.t (tf7.same s710) tf10 ⟨_, rfl, ?_⟩
      rw [decide_eq_true rfl]
      refine iteF ⟨_, rfl, b, _, rfl, .inl (SqL.of (s610 _ _ ll6.1)), rfl, _, rfl, ?_⟩
      rw [lx, decide_eq_false (show ¬ V.int ((rs.length : Nat) : Int) = V.int 8 from fun z => by have := V.int.inj z; omega)]
      exact iteF (rest _ _ ⟨ext_of s610, T6.ext s610, rfl⟩)
    · have e8 : rs.length = 8 := by omega
      rw [decide_eq_false (show ¬ ((rs.length : Nat) : Int) < 8 by omega)]
      refine iteF ⟨_, rfl, b, _, rfl, .inl (SqL.of ll6.1), rfl, _, rfl, ?_⟩
      rw [lx, decide_eq_true (show V.int ((rs.length : Nat) : Int) = V.int 8 by rw [e8]; rfl)]
      refine iteT (lam_in T6 fun H7 N x7 T7 hN => ?_)
      have tf7 := tf6.ext x7
      refine ⟨_, rfl, meth_in tf7 (fun _ _ _ => rfl) ⟨_, rfl, A2, .ref Mo, rs, rfl, tf7, okT, .inr ⟨ns, ⟨Mo, rfl, .inl (Ext.lst x7 gMo)⟩, okr, fun z => ?_, fun _ _ => hCT (fun H8 t8 s8 n8 g8 => ?_), fun _ l => absurd l (by rw [List.length_append]; show ¬ rs.length + 1 ≤ 8; omega)⟩⟩⟩
      · rw [okL_alike okm] at z
        cases z
      refine ⟨by show 2 ≤ sizeLine; decide, fun c9 n9 => ?_⟩
      have s9 := same_new (o := .tup [V.str "rows", V.int 8]) n9
      refine ⟨.tuple [.str "rows", .int 8], .tuple [.str "rows", .int 8], .tup (SqT.of (s9 _ _ g8)) (.cons (.str _) (.cons (.int _) .nil)), .tup (SqT.of upd_same) (.cons (.str _) (.cons (.int _) .nil)), by decide +kernel, by decide +kernel, _, rfl, ?_⟩
      rw [show PyData.eqv (.tuple [.str "rows", .int 8]) (.tuple [.str "rows", .int 8]) = true from by decide +kernel]
      exact iteF (rest _ _ ⟨x7.trans (ext_of (s8.trans s9)), (T7.ext s8).ext s9, rfl⟩)
end
end K19

namespace K19
open PySem PySem.Spec PyProof.Rows L2
/-! ### the items of a tray -/
def tlI (rs : List (List Int)) : Its := rs.flatMap fun r => slC :: r.map shL
def trI : List (List Int) → Its
  | [] => []
  | r :: rs => r.map shL ++ tlI rs
theorem sl_no : num slC = none := by decide +kernel
theorem sh_nsl {n : Int} (h1 : -G9 ≤ n) (h2 : n ≤ G9) : shL n ≠ slC := fun z => by
  have := num_sh h1 h2
  rw [z, sl_no] at this
  cases this
/-- no number ends a row -/
theorem fin_num {its ends : Its} {i : Nat} {n : Int} (he : ∀ e ∈ ends, e = slC) (h : its[i]? = some (shL n)) (h1 : -G9 ≤ n) (h2 : n ≤ G9) : fin its ends i = false := by
  have hi := (List.getElem?_eq_some_iff.mp h).1
  unfold fin
  rw [h, decide_eq_false (show ¬ i = its.length by omega), Bool.false_or]
  exact decide_eq_false fun z => sh_nsl h1 h2 (he _ z)
theorem rA_fwd {its ends rest : Its} {few most : Nat} (he : ∀ e ∈ ends, e = slC) : ∀ (ms : List Int) (f i : Nat) (acc : List Int), ms.length < f → its.drop i = ms.map shL ++ rest → (∀ n ∈ ms, -G9 ≤ n ∧ n ≤ G9) → few ≤ acc.length + ms.length → acc.length + ms.length ≤ most → fin its ends (i + ms.length) = true → rA its ends few most f i acc = .inr (acc ++ ms, i + ms.length)
  | [], 0, i, acc, h, _, _, _, _, _ => absurd h (Nat.not_lt_zero _)
  | [], f + 1, i, acc, _, _, _, h3, _, h5 => by
    have h5 : fin its ends i = true := h5
    have h3 : few ≤ acc.length := h3
    show rA its ends few most (f + 1) i acc = .inr (acc ++ [], i)
    rw [rA_end h3 h5, List.append_nil]
  | m :: ms, 0, i, acc, h, _, _, _, _, _ => absurd h (Nat.not_lt_zero _)
  | m :: ms, f + 1, i, acc, h, hd, hb, h3, h4, h5 => by
    have e0 : its[i]? = some (shL m) := by
      have := congrArg (fun l : Its => l[0]?) hd
      simp only [List.getElem?_drop, Nat.add_zero] at this
      rw [this]
      rfl
    obtain ⟨b1, b2⟩ := hb m List.mem_cons_self
    have hl : (m :: ms).length = ms.length + 1 := rfl
    rw [hl] at h3 h4 h5 h
    have hn : nAt its i = some m := by
      unfold nAt
      rw [e0]
      exact num_sh b1 b2
    rw [rA_step (by rw [fin_num he e0 b1 b2]; exact Bool.or_true _) (by omega), hn]
    have e2 : i + (ms.length + 1) = i + 1 + ms.length := by omega
    rw [e2] at h5
    have ih := rA_fwd (rest := rest) he ms f (i + 1) (acc ++ [m]) (by omega) (by
      rw [drop_at e0] at hd
      exact (List.cons.inj hd).2) (fun n hn => hb n (List.mem_cons_of_mem _ hn)) (by rw [List.length_append]; show few ≤ acc.length + 1 + ms.length; omega) (by rw [List.length_append]; show acc.length + 1 + ms.length ≤ most; omega) h5
    show rA its ends few most f (i + 1) (acc ++ [m]) = _
    rw [ih, hl, e2, List.append_assoc]
    rfl
theorem rowA_fwd {its ends rest : Its} {few most i : Nat} {r : List Int} (he : ∀ e ∈ ends, e = slC) (hd : its.drop i = r.map shL ++ rest) (hb : ∀ n ∈ r, -G9 ≤ n ∧ n ≤ G9) (h1 : few ≤ r.length) (h2 : r.length ≤ most) (hf : fin its ends (i + r.length) = true) : rowA its ends few most i = .inr (r, i + r.length) := by
  have e0 : ([] : List Int).length = 0 := rfl
  have := rA_fwd (few := few) (most := most) he r (most + 1) i [] (by omega) hd hb (by omega) (by omega) hf
  unfold rowA
  rw [this, List.nil_append]
theorem endT_sl (n : Nat) : ∀ e ∈ endT n, e = slC := fun e h => by
  unfold endT at h
  split at h
  · exact List.mem_singleton.mp h
  · cases h
theorem drop_len {its : Its} {i : Nat} {a b : Its} (hi : i ≤ its.length) (h : its.drop i = a ++ b) : its.drop (i + a.length) = b ∧ i + a.length ≤ its.length := by
  have e1 : its.drop (i + a.length) = (its.drop i).drop a.length := by rw [List.drop_drop]
  have hl := congrArg List.length h
  rw [List.length_drop, List.length_append] at hl
  exact ⟨by rw [e1, h, List.drop_left], by omega⟩
theorem fin_tl {its : Its} {j n : Nat} {q : List (List Int)} (hj : j ≤ its.length) (hd : its.drop j = tlI q) (h8 : n + 1 + q.length ≤ 8) : fin its (endT n) j = true := by
  unfold fin
  cases q with
  | nil =>
    have hl := congrArg List.length hd
    rw [List.length_drop] at hl
    have hl : its.length - j = 0 := hl
    rw [decide_eq_true (show j = its.length by omega)]
    rfl
  | cons r q =>
    have e0 : its[j]? = some slC := by
      have := congrArg (fun l : Its => l[0]?) hd
      simp only [List.getElem?_drop, Nat.add_zero] at this
      rw [this]
      rfl
    have hq : (r :: q).length = q.length + 1 := rfl
    rw [hq] at h8
    have em : slC ∈ endT n := by
      unfold endT
      rw [if_pos (by omega)]
      exact List.mem_singleton.mpr rfl
    rw [e0]
    show (_ || decide (slC ∈ endT n)) = true
    rw [decide_eq_true em]
    exact Bool.or_true _
theorem trR_fwd {its : Its} {k : Nat} (h3 : 3 ≤ k) (h7 : k ≤ 7) : ∀ (q : List (List Int)) (f i : Nat) (rs : List (List Int)), q.length < f → i ≤ its.length → its.drop i = tlI q → OkL k q → rs.length + q.length ≤ 8 → trR its k f i rs = .inr (rs ++ q)
  | q, 0, _, _, h, _, _, _, _ => absurd h (Nat.not_lt_zero _)
  | [], f + 1, i, rs, _, hi, hd, _, _ => by
    have hl := congrArg List.length hd
    rw [List.length_drop] at hl
    have hl : its.length - i = 0 := hl
    rw [trR_end (by omega), List.append_nil]
  | r :: q, f + 1, i, rs, hf, hi, hd, ok, h8 => by
    have hq : (r :: q).length = q.length + 1 := rfl
    rw [hq] at hf h8
    have hd : its.drop i = slC :: (r.map shL ++ tlI q) := hd
    have hi1 : i < its.length := by
      have hl := congrArg List.length hd
      rw [List.length_drop, List.length_cons] at hl
      omega
    have hd1 : its.drop (i + 1) = r.map shL ++ tlI q := by
      have e1 : its.drop (i + 1) = (its.drop i).drop 1 := by rw [List.drop_drop]
      rw [e1, hd]
      rfl
    obtain ⟨lr, br⟩ := ok r List.mem_cons_self
    obtain ⟨hd2, hj⟩ := drop_len (by omega) hd1
    rw [List.length_map] at hd2 hj
    have e := rowA_fwd (few := k) (most := k) (endT_sl rs.length) hd1 br (by omega) (by omega) (fin_tl hj hd2 (by omega))
    rw [trR_yes hi1 e, trR_fwd h3 h7 q f _ _ (by omega) hj hd2 (fun x hx => ok x (List.mem_cons_of_mem _ hx)) (by rw [List.length_append]; show rs.length + 1 + q.length ≤ 8; omega), List.append_assoc]
    rfl
/-- told items are read -/
theorem readT_trI {k : Nat} {rs : List (List Int)} (h3 : 3 ≤ k) (h7 : k ≤ 7) (ok : OkL k rs) (ne : rs ≠ []) (l8 : rs.length ≤ 8) : readT (trI rs) = .inr rs := by
  cases rs with
  | nil => exact absurd rfl ne
  | cons r q =>
    obtain ⟨lr, br⟩ := ok r List.mem_cons_self
    have hq : (r :: q).length = q.length + 1 := rfl
    have hd0 : (trI (r :: q)).drop 0 = r.map shL ++ tlI q := rfl
    obtain ⟨hd1, hj⟩ := drop_len (Nat.zero_le _) hd0
    rw [List.length_map] at hd1 hj
    have e := rowA_fwd (few := 3) (most := 7) (ends := [slC]) (fun e h => List.mem_singleton.mp h) hd0 br (by omega) (by omega) (fin_tl (n := 0) hj hd1 (by omega))
    rw [readT_yes e, lr, trR_fwd h3 h7 q 8 _ [r] (by omega) (by rw [← lr]; exact hj) (by rw [← lr]; exact hd1) (fun x hx => ok x (List.mem_cons_of_mem _ hx)) (by show 1 + q.length ≤ 8; omega)]
    rfl
theorem trR_bwd {its : Its} {k : Nat} : ∀ (f i : Nat) (rs0 rs : List (List Int)), trR its k f i rs0 = .inr rs → f + rs0.length = 9 → rs0.length ≤ 8 → i ≤ its.length → (i = its.length ∨ (its[i]? = some slC ∧ rs0.length < 8)) → ∃ q, rs = rs0 ++ q ∧ its.drop i = tlI q ∧ OkL k q ∧ rs.length ≤ 8
  | 0, i, rs0, rs, h, hf, h8, hi, hc => by omega
  | f + 1, i, rs0, rs, h, hf, h8, hi, hc => by
    by_cases hlt : i < its.length
    · obtain ⟨hs, hl⟩ : its[i]? = some slC ∧ rs0.length < 8 := hc.elim (fun z => absurd z (by omega)) id
      cases e : rowA its (endT rs0.length) k k (i + 1) with
      | inl j => rw [trR_no hlt e] at h; cases h
      | inr rj =>
        obtain ⟨r, j⟩ := rj
        rw [trR_yes hlt e] at h
        obtain ⟨l1, l2, bd, ej, lj, fj, dj⟩ := rowA_ok e (by omega)
        obtain ⟨q, e1, e2, e3, e4⟩ := trR_bwd f j (rs0 ++ [r]) rs h (by rw [List.length_append]; show f + (rs0.length + 1) = 9; omega) (by rw [List.length_append]; exact hl) lj (by rw [List.length_append]; exact fin_endT fj)
        refine ⟨r :: q, by rw [e1, List.append_assoc]; rfl, ?_, fun x hx => ?_, e4⟩
        · rw [drop_at hs, dj, e2]
          rfl
        · rcases List.mem_cons.mp hx with rfl | hx
          · exact ⟨by omega, bd⟩
          · exact e3 x hx
    · rw [trR_end hlt] at h
      obtain rfl : rs0 = rs := Sum.inr.inj h
      refine ⟨[], (List.append_nil _).symm, ?_, fun x hx => absurd hx List.not_mem_nil, h8⟩
      rw [List.drop_of_length_le (by omega)]
      rfl
/-- what is read was told so -/
theorem trI_readT {its : Its} {rs : List (List Int)} (h : readT its = .inr rs) : its = trI rs ∧ (∀ r ∈ rs, OkR r) ∧ rs.length ≤ 8 := by
  cases e : rowA its [slC] 3 7 0 with
  | inl j => rw [readT_no e] at h; cases h
  | inr rj =>
    obtain ⟨r, j⟩ := rj
    rw [readT_yes e] at h
    obtain ⟨l1, l2, bd, ej, lj, fj, dj⟩ := rowA_ok e (Nat.zero_le _)
    obtain ⟨q, e1, e2, e3, e4⟩ := trR_bwd 8 j [r] rs h rfl (by show 1 ≤ 8; decide) lj ((fin_endT (n := 0) fj).imp id fun z => ⟨z.1, by show 1 < 8; decide⟩)
    have e1 : rs = r :: q := e1
    subst e1
    rw [List.drop_zero] at dj
    refine ⟨by rw [dj, e2]; rfl, fun x hx => ?_, e4⟩
    rcases List.mem_cons.mp hx with rfl | hx
    · exact ⟨l1, l2, bd⟩
    · obtain ⟨a, b⟩ := e3 x hx
      exact ⟨by omega, by omega, b⟩
/-! ### the text of a tray -/
theorem tlI_mem {q : List (List Int)} {a : Cd} (h : a ∈ tlI q) : a = slC ∨ ∃ n, a = shL n := by
  obtain ⟨r, _, hr⟩ := List.mem_flatMap.mp h
  rcases List.mem_cons.mp hr with z | z
  · exact .inl z
  · obtain ⟨n, _, rfl⟩ := List.mem_map.mp z
    exact .inr ⟨n, rfl⟩
theorem trI_free {rs : List (List Int)} : ∀ a ∈ trI rs, (32 : Nat) ∉ a := fun a h => by
  cases rs with
  | nil => cases h
  | cons r q =>
    rcases List.mem_append.mp h with z | z
    · obtain ⟨n, _, rfl⟩ := List.mem_map.mp z
      exact sh_free n
    · rcases tlI_mem z with rfl | ⟨n, rfl⟩
      · decide
      · exact sh_free n
theorem rowS_S (ns : List Int) : rowS ns = SX.S (TL.joinL [32] (ns.map shL)) := by
  unfold rowS
  rw [show Str.ofString " " = SX.S [32] from str_S rfl, show ns.map shN = (ns.map shL).map SX.S from by rw [List.map_map]; exact List.map_congr_left fun n _ => shN_S n]
  exact SX.join_S _ _
theorem join3 : ∀ {r : List Int} {rs : List (List Int)}, r ≠ [] → (∀ x ∈ rs, x ≠ []) → TL.joinL [32, 47, 32] ((r :: rs).map fun x => TL.joinL [32] (x.map shL)) = TL.joinL [32] (trI (r :: rs))
  | r, [], _, _ => by
    show TL.joinL [32] (r.map shL) = TL.joinL [32] (r.map shL ++ [])
    rw [List.append_nil]
  | r, x :: rs, hr, h => by
    have hx := h x List.mem_cons_self
    have ih := join3 (r := x) (rs := rs) hx fun y hy => h y (List.mem_cons_of_mem _ hy)
    have nr : r.map shL ≠ [] := fun z => hr (List.map_eq_nil_iff.mp z)
    have e1 : trI (r :: x :: rs) = r.map shL ++ (slC :: trI (x :: rs)) := rfl
    have nt : trI (x :: rs) ≠ [] := fun z => by
      have z : x.map shL ++ tlI rs = [] := z
      exact hx (List.map_eq_nil_iff.mp (List.append_eq_nil_iff.mp z).1)
    rw [e1, joinL_app [32] nr (List.cons_ne_nil _ _), joinL_cons [32] slC nt, ← ih]
    rw [List.map_cons, joinL_cons _ _ (by simp)]
    show _ ++ ([32, 47, 32] ++ _) = _ ++ ([32] ++ ([47] ++ ([32] ++ _)))
    simp
theorem trayS_S {rs : List (List Int)} (ne : rs ≠ []) (h : ∀ x ∈ rs, x ≠ []) : trayS rs = SX.S (TL.joinL [32] (trI rs)) := by
  cases rs with
  | nil => exact absurd rfl ne
  | cons r q =>
    unfold trayS
    rw [show Str.ofString " / " = SX.S [32, 47, 32] from str_S rfl, show (r :: q).map rowS = ((r :: q).map fun x => TL.joinL [32] (x.map shL)).map SX.S from by rw [List.map_map]; exact List.map_congr_left fun x _ => rowS_S x, SX.join_S, join3 (h r List.mem_cons_self) fun x hx => h x (List.mem_cons_of_mem _ hx)]
end K19

namespace K19
open PySem PySem.Spec PyProof.Rows L2
/-! ### list.insert -/
def rIns : V → List V → Hp → VK → Prop := fun x vs H Q => ∃ (l : Addr) (xs : List V) (i : Nat) (y : V), x = .ref l ∧ vs = [.int (i : Nat), y] ∧ H l = some (.lst xs) ∧ i ≤ xs.length ∧ xs.length < 1000000 ∧ Q .non (upd H l (.lst (xs.take i ++ y :: xs.drop i)))
theorem mt_ins {X : Cx} : MtM X "list.insert" rIns := by
  intro pins s σ H x vs v us Q I rx rv h
  obtain ⟨l, xs, i, y, rfl, rfl, hH, hi, hs, q⟩ := h
  cases rx
  obtain ⟨u1, u2, rfl, r1, r2⟩ := vals2 rv
  obtain ⟨t, rfl⟩ := r1
  obtain ⟨z, its, n, r, hl, e⟩ := I.lstM hH
  have li : its.length = xs.length := r.length.symm
  have hf : Builtin.List.listFitsIndex ((i : Nat) : Int) = true := fitsIndex_both (by omega) (by omega)
  have hz : its.toArray.size ≤ sizeLine := by
    rw [List.size_toArray, li]
    exact Nat.le_trans (Nat.le_of_lt hs) (by decide +kernel)
  have hf2 : ¬(!Builtin.List.listFitsIndex ((i : Nat) : Int)) = true := by rw [hf]; exact Bool.false_ne_true
  generalize hx : ((i : Nat) : Int) = x at hf2 ⊢
  have M := PySem.AutoSeq1.list_insert_list_int_val_1 l its.toArray n x t u2 hf2 hz
  refine call_meets PySem.F.slot_list_insert ⟨_, e, rfl⟩ PySem.F.entry_list_insert (PySem.F.args_list_insert_3 _ _ _) M ⟨e, ?_⟩
  refine ⟨.non, _, I.lset (its' := its.take i ++ u2 :: its.drop i) hH e ?_ (r.take i |>.append (.cons r2 (r.drop i))) ?_, rfl, q⟩
  · have ek : (if x < 0 then (x + (its.toArray.size : Int)).toNat else min x.toNat its.toArray.size) = i := by
      rw [if_neg (by omega), List.size_toArray, li]
      have : x.toNat = i := by omega
      rw [this, Nat.min_eq_left hi]
    show (its.toArray.extract 0 (if x < 0 then (x + (its.toArray.size : Int)).toNat else min x.toNat its.toArray.size)).push u2 ++ its.toArray.extract (if x < 0 then (x + (its.toArray.size : Int)).toNat else min x.toNat its.toArray.size) = _
    rw [ek]
    simp
    exact List.take_of_length_le (by rw [List.length_drop]; exact Nat.le_refl _)
  · have e1 : (xs.take i ++ y :: xs.drop i).length = xs.length + 1 := by
      rw [List.length_append, List.length_take, List.length_cons, List.length_drop, Nat.min_eq_left hi]
      have : i + (xs.length - i) = xs.length := Nat.add_sub_cancel' hi
      rw [Nat.add_succ, this]
    rw [e1]
    exact Nat.le_trans (Nat.succ_le_of_lt hs) (by decide +kernel)
end K19

namespace K19
open PySem PySem.Spec PyProof.Rows L2
/-- items at b, not long -/
structure Bt (H : Hp) (b : Addr) (its : Its) (n : Nat) : Prop where
  at_ : H b = some (.lst (its.map iV))
  few : its.length ≤ n
  ok : ∀ a ∈ its, a.length ≤ 2000 ∧ ∀ c ∈ a, c < 1114112
theorem Bt.same {H H' : Hp} {b : Addr} {its : Its} {n : Nat} (h : Bt H b its n) (s : Same H H') : Bt H' b its n := ⟨s _ _ h.at_, h.few, h.ok⟩
def oddS : List String := ["", "/", "0", "-0", "01", "a", "+1", "1000000000", "-1000000001", "5", "-", ";"]
theorem odd_ok : ∀ s ∈ oddS, (PySem.Str.ofString s).cps.toList.length ≤ 2000 ∧ ∀ c ∈ (PySem.Str.ofString s).cps.toList, c < 1114112 := by decide +kernel
theorem odd_in {x : V} (h : x ∈ [V.str (PySem.Str.ofString ""), V.str (PySem.Str.ofString "/"), V.str (PySem.Str.ofString "0"), V.str (PySem.Str.ofString "-0"), V.str (PySem.Str.ofString "01"), V.str (PySem.Str.ofString "a"), V.str (PySem.Str.ofString "+1"), V.str (PySem.Str.ofString "1000000000"), V.str (PySem.Str.ofString "-1000000001"), V.str (PySem.Str.ofString "5"), V.str (PySem.Str.ofString "-"), V.str (PySem.Str.ofString ";")]) : ∃ a : Cd, x = iV a ∧ a.length ≤ 2000 ∧ ∀ c ∈ a, c < 1114112 := by
  have h : x ∈ oddS.map fun s => V.str (PySem.Str.ofString s) := h
  obtain ⟨s, hs, rfl⟩ := List.mem_map.mp h
  exact ⟨_, congrArg V.str (str_S rfl), odd_ok s hs⟩
theorem seq4 {a b c d v : TS} {D : Ends} {σ : L2.St} {H : Hp} (P : L2.St → Hp → Prop) (hv : ∀ σ' H', P σ' H' → v D σ' H') (h : (∀ σ' H', P σ' H' → v D σ' H') → tSeq a (tSeq b (tSeq c (tSeq d v))) D σ H) : tSeq a (tSeq b (tSeq c (tSeq d v))) D σ H := h hv
theorem sh_len {n : Int} (h1 : -G9 ≤ n) (h2 : n ≤ G9) : (shL n).length ≤ 2000 := by
  have h := shN_len h1 h2
  rw [shN_S, SX.S_len] at h
  omega
theorem trI_mem {rs : List (List Int)} {a : Cd} (h : a ∈ trI rs) : a = slC ∨ ∃ r ∈ rs, ∃ n ∈ r, a = shL n := by
  cases rs with
  | nil => cases h
  | cons r q =>
    rcases List.mem_append.mp h with z | z
    · obtain ⟨n, hn, rfl⟩ := List.mem_map.mp z
      exact .inr ⟨r, List.mem_cons_self, n, hn, rfl⟩
    · obtain ⟨r2, h2, hr⟩ := List.mem_flatMap.mp z
      rcases List.mem_cons.mp hr with z | z
      · exact .inl z
      · obtain ⟨n, hn, rfl⟩ := List.mem_map.mp z
        exact .inr ⟨r2, List.mem_cons_of_mem _ h2, n, hn, rfl⟩
theorem shL_ck (n : Int) : ∀ c ∈ shL n, c < 1114112 := fun c hc => by
  have hd := TL.numL_digits n.natAbs
  unfold shL at hc
  split at hc
  · rcases List.mem_cons.mp hc with rfl | z
    · decide
    · have := hd c z
      omega
  · have := hd c hc
    omega
theorem trI_cd {rs : List (List Int)} (ok : ∀ r ∈ rs, OkR r) : ∀ a ∈ trI rs, a.length ≤ 2000 ∧ ∀ c ∈ a, c < 1114112 := fun a h => by
  rcases trI_mem h with rfl | ⟨r, hr, n, hn, rfl⟩
  · exact ⟨by decide, by decide⟩
  · obtain ⟨b1, b2⟩ := (ok r hr).2.2 n hn
    exact ⟨sh_len b1 b2, shL_ck n⟩
theorem tlI_len : ∀ {q : List (List Int)}, (∀ r ∈ q, OkR r) → (tlI q).length ≤ 8 * q.length
  | [], _ => Nat.zero_le _
  | r :: q, h => by
    have ih := tlI_len (q := q) fun x hx => h x (List.mem_cons_of_mem _ hx)
    have hr := (h r List.mem_cons_self).2.1
    have e : tlI (r :: q) = slC :: (r.map shL ++ tlI q) := rfl
    rw [e, List.length_cons, List.length_append, List.length_map, List.length_cons]
    omega
theorem trI_len {rs : List (List Int)} (ok : ∀ r ∈ rs, OkR r) (l8 : rs.length ≤ 8) : (trI rs).length ≤ 64 := by
  cases rs with
  | nil => exact Nat.zero_le _
  | cons r q =>
    have h1 := tlI_len (q := q) fun x hx => ok x (List.mem_cons_of_mem _ hx)
    have hr := (ok r List.mem_cons_self).2.1
    have e : trI (r :: q) = r.map shL ++ tlI q := rfl
    have hq : (r :: q).length = q.length + 1 := rfl
    rw [e, List.length_append, List.length_map]
    omega
theorem sum_its {m : Nat} : ∀ {its : Its}, (∀ a ∈ its, a.length ≤ m) → ((its.map SX.S).map (·.length)).sum ≤ its.length * m
  | [], _ => by simp
  | a :: r, h => by
    have ih := sum_its (its := r) fun x hx => h x (List.mem_cons_of_mem _ hx)
    have h1 := h a List.mem_cons_self
    simp only [List.map_cons, List.sum_cons, List.length_cons, SX.S_len] at ih ⊢
    rw [Nat.add_mul, Nat.one_mul]
    omega
theorem join_le {m : Nat} : ∀ {its : Its}, (∀ a ∈ its, a.length ≤ m) → (TL.joinL [32] its).length ≤ its.length * (m + 1)
  | [], _ => Nat.zero_le _
  | [a], h => by
    have := h a List.mem_cons_self
    show a.length ≤ 1 * (m + 1)
    omega
  | a :: b :: r, h => by
    have ih := join_le (its := b :: r) fun x hx => h x (List.mem_cons_of_mem _ hx)
    have h1 := h a List.mem_cons_self
    rw [joinL_cons _ _ (by simp), List.length_append, List.length_append]
    have e : (a :: b :: r).length = (b :: r).length + 1 := rfl
    rw [e, Nat.add_mul, Nat.one_mul]
    have e1 : ([32] : Cd).length = 1 := rfl
    omega
theorem join_ck : ∀ {its : Its}, Cks its → ∀ c ∈ TL.joinL [32] its, c < 1114112
  | [], _, c, h => absurd h List.not_mem_nil
  | [a], k, c, h => k a List.mem_cons_self c h
  | a :: b :: r, k, c, h => by
    rw [joinL_cons _ _ (by simp), List.mem_append, List.mem_append] at h
    rcases h with h | h | h
    · exact k a List.mem_cons_self c h
    · rw [List.mem_singleton.mp h]
      decide
    · exact join_ck (its := b :: r) (fun x hx => k x (List.mem_cons_of_mem _ hx)) c h
theorem spl_ck : ∀ (l acc : Cd), (∀ c ∈ acc, c < 1114112) → (∀ c ∈ l, c < 1114112) → Cks (TL.spl [32] 0 acc l)
  | [], acc, ha, _ => by
    rw [TL.spl_nil]
    intro a h
    rw [List.mem_singleton.mp h]
    exact ha
  | c :: r, acc, ha, hl => by
    by_cases h : c = 32
    · rw [TL.spl_hit (by rw [pre_one, decide_eq_true h])]
      intro a hm
      rcases List.mem_cons.mp hm with z | z
      · rw [z]
        exact ha
      · exact spl_ck r [] (fun c h => absurd h List.not_mem_nil) (fun x hx => hl x (List.mem_cons_of_mem _ hx)) a z
    · rw [TL.spl_miss (by rw [pre_one, decide_eq_false h])]
      refine spl_ck r (acc ++ [c]) (fun x hx => ?_) (fun x hx => hl x (List.mem_cons_of_mem _ hx))
      rcases List.mem_append.mp hx with z | z
      · exact ha x z
      · rw [List.mem_singleton.mp z]
        exact hl c List.mem_cons_self
def pjD (e : Nat) : PyData := .tuple [.int 0, .int (e : Nat)]
theorem pj_lay (e : Nat) : PyData.canLay0 (pjD e) = true := by simp [pjD, PyData.canLay0, PyData.canLayAll0]
theorem pj_sh (e : Nat) : SeqAt.shaped (pjD e) = true := by
  have h : PyData.depth (pjD e) ≤ 64 := by simp [pjD, PyData.depth, PyData.depthAll]
  unfold SeqAt.shaped
  rw [pj_lay, decide_eq_true h]
  rfl
theorem pj_ev (e : Nat) : PyData.eqv (pjD e) (pjD e) = true := PySem.SeqAt.eqv_refl _ (pj_lay e)

section
variable {P : Program} {w : World} {K : PySem.W.Frag} {mg : Str → Option Value} {base : Heap} {C CB CF CT CP CQ CW CX CS : Addr}
/-! ### _law_texts_right -/
abbrev sTxr : Stmt := top 54
abbrev nTxr : List Str := ["_law_cask_here", "_law_rows_here", "_law_place_here", "_law_text", "_law_turn", "_law_items", "_law_at", "_law_odd", "_law_way", "_law_bent", "_law_places_here"]
theorem scTxr : FnScope nTxr ["_law_cask_here", "_law_rows_here"] (defScope sTxr) := ⟨rfl, rfl, rfl, by decide +kernel, rfl, by decide +kernel, by decide +kernel⟩
abbrev scTxrR : Scope := { kind := .function, names := [(".0", .local), ("_law_places_here", .local)], isGenerator := false, isCoroutine := false }
def qTxr : Str := (envOfC "_law_texts_right" (defScope sTxr) 0 0 (.ref 0)).qual ++ "<lambda>"
theorem ok_txr {f c Pt g : Addr} {fdH : FuncData} {oc kV doc pm ct : Value} {od an : Option Addr} {osl : Array (Option Value)} {TLs : List (Addr × Str)} (hmT : (Pt, qTxr) ∈ TLs) (hU : ∀ x ∈ TLs, x.1 = Pt → x.2 = qTxr)
    (lk : K.lookup f = some ⟨oc, od, .func (PySem.W.fnOf "_law_texts_right" "_law_texts_right" (defArgs sTxr) (defBody sTxr) (defScope sTxr) .none kV doc pm an (.ref c) ct), osl⟩) (hcd : PySem.W.codeIn K (.ref c) "_law_texts_right" = true)
    (TB : LamX.TabB base mg c Pt) (B : Bn mg) (T : Tc P w K mg base C CB CF CT CP CQ CW CX) (S : SeT K CS CB CF CP CQ CW CT CX) (M : SeM mg CS CB CF CP CQ CW CT CX) (FH : Fun K "_law_heard" "_law_heard" sHd g fdH) (mH : mg "_law_heard" = some (.ref g))
    (C1 : Callee P w K mg base CX0 2 "_law_place" ["_law_items"] spPL) (C2 : Callee P w K mg base CX0 1 "_law_draw" ["_law_cask_here", "_law_many"] spShot) (C3 : Callee P w K mg base CX0 2 "_law_of" ["_law_cask_here", "_law_some"] spPick) :
    FnOk P w K mg base CX0 10 f (PySem.W.fnOf "_law_texts_right" "_law_texts_right" (defArgs sTxr) (defBody sTxr) (defScope sTxr) .none kV doc pm an (.ref c) ct) ["_law_cask_here", "_law_rows_here"] (spT TLs 100 40) := by
  obtain ⟨f1, fd1, m1, k1, b1, G1⟩ := C1
  obtain ⟨f2, fd2, m2, k2, b2, G2⟩ := C2
  obtain ⟨f3, fd3, m3, k3, b3, G3⟩ := C3
  obtain ⟨ocH, odH, kVH, docH, pmH, anH, cdvH, ctH, oslH, rfl, lkH, hcH⟩ := FH.ex
  have bH := FH.binds (ps := ["_law_ask"]) fun _ _ _ _ _ _ us hl => match us, hl with | [_], _ => rfl
  obtain ⟨fQ, fdQ, GQ, hsQ, hfQ, bQ⟩ := T.eq
  obtain ⟨fS, fdS, GS, hsS, hfS, bS⟩ := T.st
  obtain ⟨fR, fdR, MR, GR, bR, kR⟩ := T.rd
  have cl := T.t.pc.cls
  have nd := scTxr.nd
  refine fn_of lk hcd scTxr (fun vs H Q E h => ?_) fun A outer s H vs Q E hr h => ?_
  · obtain ⟨p, b, n, ds, rs, k, rfl, _⟩ := h
    rfl
  suffices hh : ∃ t, PSs (cxOf CX0 P w K mg base nTxr "_law_texts_right" (defScope sTxr) f (.ref c) A outer s H E).nox (defBody sTxr) t ∧ t { nx := fun _ H' => Q .non H', rt := Q } (L2.start nTxr vs) H from let ⟨t, h1, h2⟩ := hh; ⟨t, h1.nox, h2⟩
  obtain ⟨p, b, n, ds, rs, k, rfl, hv, hn, ll, okl, hk3, hk7, hne, h8, hT, q⟩ := h
  refine ⟨_, (pss_cons ((ps_set (i := 3) nd rfl (Or.inl rfl) (pe_joinN pe_str (pe_lc (own := [("_law_places_here", 10)]) (g := gName 10) (tt := tYes) rfl nd (pi_sq K (pv 1)) (blkOk_by (N := nTxr) (sc := defScope sTxr) (by decide +kernel)) (fun _ _ _ _ _ => (pg_name (i := 10) nd rfl (Or.inl rfl))) (fun _ _ _ _ _ => pts_nil) (fun _ _ _ _ _ => pe_joinK K pe_str (pe_lc (own := [("_law_place_here", 2)]) (g := gName 2) (tt := tYes) rfl nd (pi_sq K (pv 10)) (blkOk_by (N := nTxr) (sc := scTxrR) (by decide +kernel)) (fun _ _ _ _ _ => (pg_name (i := 2) nd rfl (Or.inl rfl))) (fun _ _ _ _ _ => pts_nil) (fun _ _ _ _ _ => pe_callTy call_str_int (by rfl) B.str (by decide +kernel) (pa_cons (pv 2) pa_nil)))))))) (pss_cons (ps_if (PW.pt (pw_or ((pt_cmpR op_ne ((pe_callTy (T := "str") (call_strI GS hsS hfS bS (hr.mono (by decide))) (by rfl) B.str (by decide +kernel) (pa_cons ((pe_mkT (E := E0) K T.mgC T.ini (hr.mono (by decide)) passL rfl (pa_cons (pv 1) pa_nil))) pa_nil))) (pv 3) (nomark _))) (pw_or1 (pt_cmpR (op_neI GQ hsQ hfQ bQ T.n.ne T.t.pc.hm (hr.mono (by decide))) (pe_smethK (E := E0) (pe_glob (v := .ref C) rfl T.mgC rfl) MR GR (hr.mono (by decide)) kR passL (pk_cons (pv 3) pk_nil)) (pe_mkT (E := E0) K T.mgC T.ini (hr.mono (by decide)) passL rfl (pa_cons (pv 1) pa_nil)) (nomark _))))) (pss_one (ps_ret pe_bl)) pss_nil) (pss_cons (ps_for PassesOwn.never rfl (pi_range1 rfl B.range (pa_cons (pe_int) pa_nil)) (pg_name (i := 4) nd rfl (Or.inl rfl)) (pss_cons (ps_par (i := 5) (j := 6) rfl nd rfl rfl (by decide) rfl rfl (pa_cons (pe_split (pv 3) pe_str) (pa_cons ((pe_call G2 (hr.mono (by decide)) rfl m2 k2 b2 .nil pass0 (pa_cons (pv 0) (pa_cons ((pe_callB call_len_seq (by rfl) B.len PySem.boot_len (pa_cons (pe_split (pv 3) pe_str) pa_nil))) pa_nil)))) pa_nil)) (by rfl)) (pss_cons (ps_par (i := 7) (j := 8) rfl nd rfl rfl (by decide) rfl rfl (pa_cons ((pe_call G3 (hr.mono (by decide)) rfl m3 k3 b3 .nil pass0 (pa_cons (pv 0) (pa_cons (pe_lst (pa_cons (pe_str) (pa_cons (pe_str) (pa_cons (pe_str) (pa_cons (pe_str) (pa_cons (pe_str) (pa_cons (pe_str) (pa_cons (pe_str) (pa_cons (pe_str) (pa_cons (pe_str) (pa_cons (pe_str) (pa_cons (pe_str) (pa_cons (pe_str) pa_nil))))))))))))) pa_nil)))) (pa_cons ((pe_call G2 (hr.mono (by decide)) rfl m2 k2 b2 .nil pass0 (pa_cons (pv 0) (pa_cons (pe_int) pa_nil)))) pa_nil)) (by rfl)) (pss_cons (ps_if (pt_cmpR op_lt (pv 8) pe_int (nomark _)) (pss_one (ps_asg (pv 7) (pg_sub (pv 5) (pv 6) set_list))) pss_nil) (pss_cons (ps_if (pt_cmpR op_eq (pv 8) (pe_int) (nomark _)) (pss_one (ps_expr (pe_bm PySem.F.plainAttrs_list PySem.F.slot_list_insert PySem.F.type_list_insert mt_ins (pv 5) (pa_cons (pv 6) (pa_cons (pv 7) pa_nil))))) pss_nil) (pss_cons (ps_if (pt_cmpR op_eq (pv 8) (pe_int) (nomark _)) (pss_one (ps_expr (pe_bm PySem.F.plainAttrs_list PySem.F.slot_list_pop PySem.F.type_list_pop mt_popAt (pv 5) (pa_cons (pv 6) pa_nil)))) pss_nil) (pss_cons (ps_if (pt_cmpR op_eq (pv 8) (pe_int) (nomark _)) (pss_one (ps_set (i := 5) nd rfl (Or.inl rfl) (pe_op op_cat (pv 5) (pe_call G3 (hr.mono (by decide)) rfl m3 k3 b3 .nil pass0 (pa_cons (pv 0) (pa_cons (pe_lst (pa_cons (pe_lst (pa_cons (pe_str) pa_nil)) (pa_cons (pe_lst (pa_cons (pv 7) pa_nil)) (pa_cons (pe_op op_cat (pe_lst (pa_cons (pe_str) pa_nil)) (pe_op op_rep (pe_lst (pa_cons (pe_str) pa_nil)) (pe_callB call_len_seq (by rfl) B.len PySem.boot_len (pa_cons ((pe_ix ix_list (pv 1) (pe_int) (fun _ _ => rfl))) pa_nil)))) (pa_cons (pe_op op_cat (pe_lst (pa_cons (pe_str) pa_nil)) (pe_op op_rep (pe_lst (pa_cons (pe_str) pa_nil)) (pe_op op_sub (pe_callB call_len_seq (by rfl) B.len PySem.boot_len (pa_cons ((pe_ix ix_list (pv 1) (pe_int) (fun _ _ => rfl))) pa_nil)) pe_int))) pa_nil))))) pa_nil)))))) pss_nil) (pss_cons ((ps_set (i := 9) nd rfl (Or.inr rfl) (pe_joinN pe_str (pv 5)))) (pss_cons ((ps_set (i := 2) nd rfl (Or.inl rfl) ((pe_call G1 (hr.mono (by decide)) rfl m1 k1 b1 .nil pass0 (pa_cons (pe_split (pv 9) pe_str) pa_nil))))) (pss_cons (ps_if (pt_cmpR (op_neD hr.units) ((LamX.pe_lamcall (T := TLs) (TT := THeard CB CF CP CQ CW CT CX) (Ng := nHd) (a := "_law_ask") (k := 7) rfl mH FH.kp lkH hcH bH scHd rfl (Or.inl rfl) (heard_gives B S M) TB rfl hmT hU hr (LamX.lamS_by (by show LamX.lamSB (defScope sTxr) _ = true; decide +kernel)) rfl (fun _ _ _ _ _ => rfl) (fun A outer s H E f c hr => pe_smeth (E := E) (pe_glob (v := .ref C) rfl T.mgC rfl) MR GR hr bR lam_passX (pa_cons (pv 9) pa_nil)))) (pe_ifExp (pt_cmpR op_isN (pv 2) pe_non (nomark _)) pe_non (pe_tup (pa_cons (pe_int) (pa_cons (pv 2) pa_nil)))) (nomark _)) (pss_one (ps_ret pe_bl)) pss_nil) (pss_one (ps_if (PW.pt (pw_and (pt_cmpR op_isN (pv 2) pe_non (nomark _)) (pw_and1 ((pt_cmpR op_ne ((pe_callTy (T := "str") (call_strI GS hsS hfS bS (hr.mono (by decide))) (by rfl) B.str (by decide +kernel) (pa_cons ((pe_smeth (E := E0) (pe_glob (v := .ref C) rfl T.mgC rfl) MR GR (hr.mono (by decide)) bR passL (pa_cons (pv 9) pa_nil))) pa_nil))) (pv 9) (nomark _)))))) (pss_one (ps_ret pe_bl)) pss_nil)))))))))))) (pss_one (ps_ret (pe_cmpR (op_eqD hr.units) ((LamX.pe_lamcall (T := TLs) (TT := THeard CB CF CP CQ CW CT CX) (Ng := nHd) (a := "_law_ask") (k := 7) rfl mH FH.kp lkH hcH bH scHd rfl (Or.inl rfl) (heard_gives B S M) TB rfl hmT hU hr (LamX.lamS_by (by show LamX.lamSB (defScope sTxr) _ = true; decide +kernel)) rfl (fun _ _ _ _ _ => rfl) (fun A outer s H E f c hr => pe_smeth (E := E) (pe_glob (v := .ref C) rfl T.mgC rfl) MR GR hr bR lam_passX (pa_cons ((pe_call G3 (hr.mono (by decide)) rfl m3 k3 b3 .nil pass0 (pa_cons (pv 0) (pa_cons (pe_lst (pa_cons (pe_non) (pa_cons (pe_int) (pa_cons (pv 1) (pa_cons (pe_bl) pa_nil))))) pa_nil)))) pa_nil)))) (pe_tup (pa_cons (pe_int) (pa_cons (pe_int) pa_nil))) (nomark _))))))), ?_⟩
  have okT := okl.okT hk3 hk7 hne h8
  have lds : ds.length = rs.length := ll.len
  have lx : (ds.map V.ref).length = rs.length := by rw [List.length_map, lds]
  have pos : 0 < rs.length := List.length_pos_iff.mpr hne
  have hl := head_len okl hne
  refine ⟨⟨_, rfl⟩, ?_⟩
  try dsimp only [tNext, tRet, tCB, tCons, tNil, tNot, tB, tOr, tSeq, tIfS, sFld]
  refine lcv (a := b) (xs := ds.map V.ref) (ys := (rs.map rowS).map V.str) (fun Q' q' => ⟨_, rfl, q'⟩) (.inl ll.1) (by rw [List.length_map, List.length_map, lx]) (by omega) (fun D i x y H' hD hx hy s1 T' N t' => ?_) (fun D H1 hD s1 hd => ?_)
  · obtain ⟨g, eg, rfl⟩ := get_map hx
    obtain ⟨ns, en, hg⟩ := paired_get ll.2 eg
    obtain ⟨y1, hy1, rfl⟩ := get_map hy
    obtain ⟨ns', en', rfl⟩ := get_map hy1
    obtain rfl : ns = ns' := Option.some.inj (en.symm.trans en')
    have okn := okT.ok _ (List.mem_of_getElem? en)
    refine ⟨rfl, yes_of ?_⟩
    refine ⟨⟨_, rfl⟩, ?_⟩
    try dsimp only [tNext, tRet, tCB, tCons, tNil, tNot, tB, tOr, tSeq, tIfS, sFld]
    refine lcv (a := g) (xs := ns.map V.int) (ys := (ns.map shN).map V.str) (fun Q' q' => ⟨_, rfl, q'⟩) (.inl (s1 _ _ hg)) (by rw [List.length_map, List.length_map, List.length_map]) (by rw [List.length_map]; have := okn.2.1; omega) (fun D2 j x2 y2 H2 hD2 hx2 hy2 s2 T2 N2 t2 => ?_) (fun D2 H2 hD2 s2 hd2 => ?_)
    · obtain ⟨n', en2, rfl⟩ := get_map hx2
      obtain ⟨y3, hy3, rfl⟩ := get_map hy2
      obtain ⟨n'', en2', rfl⟩ := get_map hy3
      obtain rfl : n' = n'' := Option.some.inj (en2.symm.trans en2')
      obtain ⟨b1, b2⟩ := okn.2.2 n' (List.mem_of_getElem? en2)
      refine ⟨rfl, yes_of ?_⟩
      exact ⟨_, rfl, n', rfl, log_small b1 b2, t2 _ Same.me⟩
    · refine ⟨_, D2, ns.map shN, rfl, rfl, .inl (SqL.of hd2), ?_, t' _ s2⟩
      have e1 : (Str.ofString " ").length = 1 := by decide +kernel
      have := shN_sum okn
      rw [e1, List.length_map]
      have := okn.2.1
      omega
  refine ⟨_, D, rs.map rowS, rfl, rfl, .inl (SqL.of hd), ?_, ?_⟩
  · have e3 : (Str.ofString " / ").length = 3 := by decide +kernel
    have := trayS_sum okT.ok okT.l8
    rw [e3, List.length_map]
    omega
  have et : Txt.join (Str.ofString " / ") (rs.map rowS) = SX.S (TL.joinL [32] (trI rs)) := trayS_S hne fun x hx z => by
    have := (okl x hx).1
    rw [z] at this
    have this : 0 = k := this
    omega
  have et2 : trayS rs = SX.S (TL.joinL [32] (trI rs)) := et
  rw [et]
  have ll1 := ll.same s1
  have sp0 : TL.spl [32] 0 [] (TL.joinL [32] (trI rs)) = trI rs := split_items (fun z => by
    have h1 := readT_trI hk3 hk7 okl hne h8
    rw [z] at h1
    have h2 := (trI_readT h1).1
    cases rs with
    | nil => exact hne rfl
    | cons r q =>
      have z : r.map shL ++ tlI q = [] := z
      have := (okl r List.mem_cons_self).1
      rw [List.map_eq_nil_iff.mp (List.append_eq_nil_iff.mp z).1] at this
      have this : 0 = k := this
      omega) trI_free
  refine ⟨_, rfl, .ref b, rfl, ll1.mk okT fun A2 H2 s2 nA tf => ?_⟩
  have hread := readT_trI hk3 hk7 okl hne h8
  have tok : ∀ a ∈ trI rs, a.length ≤ 2000 ∧ ∀ c ∈ a, c < 1114112 := trI_cd okT.ok
  have tlen : (trI rs).length ≤ 64 := trI_len okT.ok h8
  have xlen : (TL.joinL [32] (trI rs)).length ≤ 8000000 := by
    have h1 := trayS_len okT.ok okT.l8
    rw [et2, SX.S_len] at h1
    omega
  generalize TL.joinL [32] (trI rs) = x at et et2 sp0 xlen ⊢
  rw [← sp0] at hread
  obtain ⟨dx, t, u, ha, _⟩ := id tf
  refine ⟨A2, dx, _, rfl, ha, A2, rs, rfl, tf, okT.ok, okT.l8, fun H3 s3 => ⟨_, rfl, _, rfl, rfl, _, rfl, ?_⟩⟩
  rw [et2, decide_eq_true rfl]
  refine iteF ?_
  have ll3 := ll1.same (s2.trans s3)
  refine ⟨rfl, _, rfl, rfl, _, rfl, .inr ⟨x, rfl, xlen, fun j hj => ?_, fun qs hq A3 H4 s4 nA3 tf3 => ?_⟩⟩
  · rw [hread] at hj
    cases hj
  rw [hread] at hq
  obtain rfl : rs = qs := Sum.inr.inj hq
  refine ⟨_, rfl, .ref b, rfl, (ll3.same s4).mk okT fun A5 H5 s5 nA5 tf5 => ?_⟩
  refine neT_in T.t (tf3.same s5) tf5 ⟨_, rfl, ?_⟩
  rw [decide_eq_true rfl]
  refine iteF ?_
  have s05 := s1.trans (s2.trans (s3.trans (s4.trans s5)))
  have v5 := hv.same s05
  have T5 := hT.ext s05
  clear tf tf3 tf5 ha hd ll1 ll3
  refine ⟨6, rfl, by omega, by omega, ?_⟩
  refine for_range (lo := 0) (n := 6) (fun i σ H' => Kz p H H' ∧ Lens H' p (n + 4 * i) ∧ LamX.Tabs TLs H' ∧ ∃ x2 x4 x5 x6 x7 x8 x9 : Option V, σ = [some (.ref p), some (.ref b), x2, some (.str (SX.S x)), x4, x5, x6, x7, x8, x9, none]) ⟨Kz.same s05, v5, T5, _, _, _, _, _, _, _, rfl⟩ (fun i σ H6 hi pv => ?_) (fun σ H6 pv => ?_)
  · obtain ⟨z6, v6, T6, x2, x4, x5, x6, x7, x8, x9, rfl⟩ := pv
    have e32 : PySem.Str.ofString " " = SX.S [32] := str_S rfl
    have zs : (SX.S x).length + 2 ≤ sizeLine := by
      rw [SX.S_len]
      show x.length + 2 ≤ 2 ^ 24
      omega
    have hs : (Txt.split (SX.S x) (SX.S [32])).map V.str = (trI rs).map iV := by
      rw [SX.split_S (by decide) (by decide), sp0, List.map_map]
      rfl
    have tne : trI rs ≠ [] := by
      rw [← sp0]
      exact spl_ne _ _
    have tpos : 0 < (trI rs).length := List.length_pos_iff.mpr tne
    rw [e32]
    refine ⟨_, rfl, ⟨_, rfl⟩, _, _, rfl, rfl, rfl, zs, fun I nI => ?_⟩
    rw [hs]
    have s7 := same_new (o := .lst ((trI rs).map iV)) nI
    have b7 : Bt (upd H6 I (.lst ((trI rs).map iV))) I (trI rs) 64 := ⟨upd_same, tlen, tok⟩
    generalize upd H6 I (.lst ((trI rs).map iV)) = H7 at s7 b7 ⊢
    refine ⟨_, rfl, _, rfl, ⟨_, rfl⟩, _, _, rfl, rfl, rfl, zs, fun I2 nI2 => ?_⟩
    rw [hs]
    have s8 := same_new (o := .lst ((trI rs).map iV)) nI2; have g8 : upd H7 I2 (.lst ((trI rs).map iV)) I2 = some (.lst ((trI rs).map iV)) := upd_same; generalize upd H7 I2 (.lst ((trI rs).map iV)) = H8 at s8 g8 ⊢
    have v8 := (v6.same s7).same s8
    refine ⟨I2, _, rfl, .inl (SqL.of g8), p, _, _, rfl, v8, by omega, by rw [List.length_map]; omega, by rw [List.length_map]; omega, fun H9 d s9 v9 d0 d1 => ?_⟩
    rw [List.length_map] at d1
    obtain ⟨d, rfl⟩ := Int.eq_ofNat_of_zero_le d0
    refine ⟨_, _, rfl, ?_⟩
    have nIp := v6.not_none nI
    have b8 := b7.same s8
    have g9 := s9.1 _ _ nIp b8.at_
    refine ⟨_, rfl, by show 12 ≤ sizeLine; decide, fun l nl => ?_⟩
    have s10 := same_new (o := .lst (oddS.map fun s => V.str (PySem.Str.ofString s))) nl
    refine ⟨p, l, _, _, rfl, v9.same s10, by omega, upd_same, v9.not_none nl, by decide, by decide, fun H11 y s11 v11 hy => ?_⟩
    obtain ⟨a, rfl, la, ca⟩ := odd_in hy
    clear hy
    refine ⟨_, rfl, p, 5, _, rfl, v11, by omega, by decide, by decide, fun H12 w s12 v12 w0 w5 => ?_⟩
    refine ⟨_, _, rfl, ?_⟩
    have k8 : Same H6 H8 := s7.trans s8
    have z12 : Kz p H6 H12 := (((Kz.same k8).trans (Kz.ofS s9)).trans (Kz.same s10)).trans ((Kz.ofS s11).trans (Kz.ofS s12))
    have T12 : LamX.Tabs TLs H12 := tabs_sb (tabs_sb ((tabs_sb (T6.ext k8) v8 s9).ext s10) (v9.same s10) s11) v11 s12
    have b12 : Bt H12 I (trI rs) 64 := ⟨s12.1 _ _ nIp (s11.1 _ _ nIp (s10 _ _ g9)), tlen, tok⟩
    clear g8 g9 b7 b8
    dsimp only
    refine seq4 (fun σ' H' => ∃ (I' : Addr) (its : Its) (y2 y4 y6 y7 y8 y9 : Option V), σ' = [some (.ref p), some (.ref b), y2, some (.str (SX.S x)), y4, some (.ref I'), y6, y7, y8, y9, none] ∧ Bt H' I' its 128 ∧ Kz p H6 H' ∧ Lens H' p (n + 4 * i + 4) ∧ LamX.Tabs TLs H') (fun σ' H' hp => ?_) (fun rest => ?_)
    · obtain ⟨I', its, y2, y4, y6, y7, y8, y9, rfl, bt', z', v', T'⟩ := hp
      clear z12 T12 b12 v12
      refine ⟨⟨_, rfl⟩, _, rfl, _, I', its.map SX.S, rfl, rfl, .inl (SqL.of (by rw [List.map_map]; exact bt'.at_)), ?_, ?_⟩
      · have h1 := sum_its (m := 2000) fun a ha => (bt'.ok a ha).1
        have h2 : its.length * 2000 ≤ 128 * 2000 := Nat.mul_le_mul_right _ bt'.few
        have h3 : (SX.S ([32] : Cd)).length = 1 := by rw [SX.S_len]; rfl
        rw [List.length_map, h3]
        have := bt'.few
        omega
      rw [SX.join_S]
      have xl : (TL.joinL [32] its).length ≤ 8000000 := by
        have h1 := join_le (m := 2000) fun a ha => (bt'.ok a ha).1
        have h2 : its.length * (2000 + 1) ≤ 128 * (2000 + 1) := Nat.mul_le_mul_right _ bt'.few
        omega
      have xc := join_ck fun a ha => (bt'.ok a ha).2
      generalize TL.joinL [32] its = x' at xl xc ⊢
      have zs' : (SX.S x').length + 2 ≤ sizeLine := by
        rw [SX.S_len]
        show x'.length + 2 ≤ 2 ^ 24
        omega
      have hs' : (Txt.split (SX.S x') (SX.S [32])).map V.str = (TL.spl [32] 0 [] x').map iV := by
        rw [SX.split_S (by decide) (by decide), List.map_map]
        rfl
      have sl1 := spl_le x' []
      have sck : Cks (TL.spl [32] 0 [] x') := spl_ck x' [] (fun c h => absurd h List.not_mem_nil) xc
      have jx : TL.joinL [32] (TL.spl [32] 0 [] x') = x' := join_spl x' []
      have e00 : ([] : Cd).length = 0 := rfl
      refine ⟨_, rfl, ⟨_, rfl⟩, _, _, rfl, rfl, rfl, zs', fun D nD => ?_⟩
      rw [hs']
      have sD := same_new (o := .lst ((TL.spl [32] 0 [] x').map iV)) nD
      have hI1 : Itm (upd H' D (.lst ((TL.spl [32] 0 [] x').map iV))) D (TL.spl [32] 0 [] x') := ⟨upd_same, fun y hy => by
        have := sl1.2 y hy
        omega, by have := sl1.1; omega⟩
      generalize upd H' D (.lst ((TL.spl [32] 0 [] x').map iV)) = Ha at sD hI1 ⊢
      refine ⟨D, _, rfl, hI1, sck, fun Hb s2 => ?_⟩
      have s02 := sD.trans s2
      have Tb := T'.ext s02
      have zb := z'.trans (Kz.same (p := p) s02)
      have vb := v'.same s02
      cases hR : readT (TL.spl [32] 0 [] x') with
      | inl j =>
        refine lam_in Tb fun Hc N xc' Tc' hN => ?_
        refine ⟨rfl, _, rfl, _, rfl, .inr ⟨x', rfl, xl, fun j' hj => hCX (fun Hd t sd nd' gd => ?_), fun qs hq => ?_⟩⟩
        · rw [hR] at hj
          obtain rfl : j = j' := Sum.inl.inj hj
          refine ⟨_, rfl, rfl, _, rfl, iteF ⟨_, rfl, by show 2 ≤ sizeLine; decide, fun c9 n9 => ?_⟩⟩
          have s9' := same_new (o := .tup [V.int 0, V.int (j : Nat)]) n9
          refine ⟨pjD j, pjD j, .tup (SqT.of (s9' _ _ gd)) (.cons (.int _) (.cons (.int _) .nil)), .tup (SqT.of upd_same) (.cons (.int _) (.cons (.int _) .nil)), pj_sh j, pj_sh j, _, rfl, ?_⟩
          rw [pj_ev]
          refine iteF ⟨_, rfl, rfl, _, rfl, iteF ?_⟩
          have sdd := sd.trans s9'
          exact ⟨z6.trans (zb.trans ((Kz.ofE xc').trans (Kz.same sdd))), ((vb.ext xc').same sdd).le (by omega), Tc'.ext sdd, _, _, _, _, _, _, _, rfl⟩
        · rw [hR] at hq
          cases hq
      | inr qs =>
        refine lam_in Tb fun Hc N xc' Tc' hN => ?_
        refine ⟨rfl, _, rfl, _, rfl, .inr ⟨x', rfl, xl, fun j' hj => ?_, fun qs' hq A7 Hd sd nA7 tf7 => hN _ _ fun He se => ?_⟩⟩
        · rw [hR] at hj
          cases hj
        refine ⟨_, rfl, rfl, _, rfl, iteT ⟨_, _, .non, .non, by decide, by decide, _, rfl, iteF ?_⟩⟩
        refine ⟨_, rfl, rfl, _, rfl, iteT ⟨rfl, _, rfl, _, rfl, .inr ⟨x', rfl, xl, fun j' hj => ?_, fun qs2 hq2 A8 Hf sf nA8 tf8 => ?_⟩⟩⟩
        · rw [hR] at hj
          cases hj
        obtain ⟨et3, ok3, l3⟩ := trI_readT hq2
        obtain ⟨dx8, t8, u8, ha8, _⟩ := id tf8
        have ne2 : qs2 ≠ [] := fun z => by
          rw [z] at et3
          exact spl_ne _ _ et3
        have et4 : trayS qs2 = SX.S x' := by
          rw [trayS_S ne2 (fun y hy z => by
            have := (ok3 y hy).1
            rw [z] at this
            exact absurd this (by decide)), ← et3, jx]
        refine ⟨A8, dx8, _, rfl, ha8, A8, qs2, rfl, tf8, ok3, l3, fun Hg sg => ⟨_, rfl, _, rfl, rfl, _, rfl, ?_⟩⟩
        rw [et4, decide_eq_true rfl]
        refine iteF ?_
        have sdg := sd.trans (se.trans (sf.trans sg))
        exact ⟨z6.trans (zb.trans ((Kz.ofE xc').trans (Kz.same sdg))), ((vb.ext xc').same sdg).le (by omega), Tc'.ext sdg, _, _, _, _, _, _, _, rfl⟩
    · have hd2 : d < (trI rs).length := by omega
      have ixd : ixN ((trI rs).map iV).length ((d : Nat) : Int) = some d := ixN_nat (by rw [List.length_map]; exact hd2)
      have no : ∀ {m : Int}, w ≠ m → decide (V.int w = V.int m) = false := fun {m} h => decide_eq_false fun z => h (V.int.inj z)
      have yes : ∀ {m : Int}, w = m → decide (V.int w = V.int m) = true := fun {m} h => by rw [h]; exact decide_eq_true rfl
      have upk : ∀ (o : HO), Kz p H6 (upd H12 I o) ∧ Lens (upd H12 I o) p (n + 4 * i + 4) ∧ LamX.Tabs TLs (upd H12 I o) := fun o => ⟨kz_upd z12 nI, (lens_kupd v12 v6 z12 nI).le (by omega), tabs_upd T12 b12.at_⟩
      refine ⟨_, rfl, _, _, rfl, rfl, _, rfl, ?_⟩
      by_cases h2 : w < 2
      · rw [decide_eq_true h2]
        refine iteT ⟨_, rfl, _, rfl, _, rfl, I, _, _, d, rfl, rfl, b12.at_, ixd, ?_⟩
        refine ⟨_, rfl, rfl, _, rfl, ?_⟩
        rw [no (by omega)]
        refine iteF ⟨_, rfl, rfl, _, rfl, ?_⟩
        rw [no (by omega)]
        refine iteF ⟨_, rfl, rfl, _, rfl, ?_⟩
        rw [no (by omega)]
        obtain ⟨k1, k2, k3⟩ := upk (.lst (((trI rs).map iV).set d (iV a)))
        refine iteF (rest _ _ ⟨I, (trI rs).set d a, _, _, _, _, _, _, rfl, ⟨by rw [upd_same, List.map_set], by rw [List.length_set]; omega, fun c hc => ?_⟩, k1, k2, k3⟩)
        rcases List.mem_or_eq_of_mem_set hc with z | rfl
        · exact tok c z
        · exact ⟨la, ca⟩
      rw [decide_eq_false h2]
      refine iteF ⟨_, rfl, rfl, _, rfl, ?_⟩
      by_cases h3 : w = 2
      · rw [yes h3]
        refine iteT ⟨_, rfl, .inl ⟨rfl, _, SqL.of b12.at_⟩, _, rfl, _, rfl, I, _, d, _, rfl, rfl, b12.at_, by rw [List.length_map]; omega, by rw [List.length_map]; omega, ?_⟩
        refine ⟨_, rfl, rfl, _, rfl, ?_⟩
        rw [no (by omega)]
        refine iteF ⟨_, rfl, rfl, _, rfl, ?_⟩
        rw [no (by omega)]
        obtain ⟨k1, k2, k3⟩ := upk (.lst (((trI rs).map iV).take d ++ iV a :: ((trI rs).map iV).drop d))
        refine iteF (rest _ _ ⟨I, (trI rs).take d ++ a :: (trI rs).drop d, _, _, _, _, _, _, rfl, ⟨by rw [upd_same, List.map_append, List.map_cons, List.map_take, List.map_drop], by rw [List.length_append, List.length_cons, List.length_take, List.length_drop]; omega, fun c hc => ?_⟩, k1, k2, k3⟩)
        rcases List.mem_append.mp hc with z | z
        · exact tok c (List.mem_of_mem_take z)
        · rcases List.mem_cons.mp z with rfl | z
          · exact ⟨la, ca⟩
          · exact tok c (List.mem_of_mem_drop z)
      rw [no h3]
      refine iteF ⟨_, rfl, rfl, _, rfl, ?_⟩
      by_cases h4 : w = 3
      · rw [yes h4]
        refine iteT ⟨_, rfl, .inl ⟨rfl, _, SqL.of b12.at_⟩, _, rfl, I, _, _, d, _, rfl, rfl, b12.at_, by omega, by omega, (ixN_seq ixd).1, List.getElem?_eq_getElem (by rw [List.length_map]; exact hd2), ?_⟩
        refine ⟨_, rfl, rfl, _, rfl, ?_⟩
        rw [no (by omega)]
        obtain ⟨k1, k2, k3⟩ := upk (.lst (((trI rs).map iV).eraseIdx d))
        refine iteF (rest _ _ ⟨I, (trI rs).eraseIdx d, _, _, _, _, _, _, rfl, ⟨by rw [upd_same, erase_map], by rw [List.length_eraseIdx]; split <;> omega, fun c hc => tok c (List.mem_of_mem_eraseIdx hc)⟩, k1, k2, k3⟩)
      rw [no h4]
      refine iteF ⟨_, rfl, rfl, _, rfl, ?_⟩
      have h5 : w = 4 := by omega
      rw [yes h5]
      refine iteT ⟨_, rfl, _, rfl, ?_⟩
      have ll12 := ll.kq hv (z6.trans z12).k
      obtain ⟨d0, e0⟩ : ∃ d0, ds[0]? = some d0 := ⟨_, List.getElem?_eq_getElem (by omega)⟩
      have e0V : (ds.map V.ref)[0]? = some (.ref d0) := by rw [List.getElem?_map, e0]; rfl
      obtain ⟨r0, er0, hr0⟩ := paired_get ll12.2 e0
      have hr0 : H12 d0 = some (.lst (r0.map V.int)) := hr0
      have lr0 := (okl r0 (List.mem_of_getElem? er0)).1
      have gI := b12.at_
      refine ⟨by show 1 ≤ sizeLine; decide, fun l1 n1 => ?_⟩
      have sa := same_new (o := .lst [V.str (PySem.Str.ofString "/")]) n1; have ga : upd H12 l1 (.lst [V.str (PySem.Str.ofString "/")]) l1 = some (.lst [V.str (PySem.Str.ofString "/")]) := upd_same; generalize upd H12 l1 (.lst [V.str (PySem.Str.ofString "/")]) = Ha at sa ga ⊢
      refine ⟨_, rfl, by show 1 ≤ sizeLine; decide, fun l2 n2 => ?_⟩
      have sb := same_new (o := .lst [V.str (SX.S a)]) n2; have gb : upd Ha l2 (.lst [V.str (SX.S a)]) l2 = some (.lst [V.str (SX.S a)]) := upd_same; generalize upd Ha l2 (.lst [V.str (SX.S a)]) = Hb at sb gb ⊢
      refine ⟨by show 1 ≤ sizeLine; decide, fun c1 m1' => ?_⟩
      have sc := same_new (o := .lst [V.str (PySem.Str.ofString "/")]) m1'; have gc : upd Hb c1 (.lst [V.str (PySem.Str.ofString "/")]) c1 = some (.lst [V.str (PySem.Str.ofString "/")]) := upd_same; generalize upd Hb c1 (.lst [V.str (PySem.Str.ofString "/")]) = Hc at sc gc ⊢
      refine ⟨by show 1 ≤ sizeLine; decide, fun c2 m2' => ?_⟩
      have sd := same_new (o := .lst [V.str (PySem.Str.ofString "1")]) m2'; have gd : upd Hc c2 (.lst [V.str (PySem.Str.ofString "1")]) c2 = some (.lst [V.str (PySem.Str.ofString "1")]) := upd_same; generalize upd Hc c2 (.lst [V.str (PySem.Str.ofString "1")]) = Hd at sd gd ⊢
      have sad := sa.trans (sb.trans (sc.trans sd))
      refine ⟨_, rfl, b, _, 0, .ref d0, rfl, rfl, SqL.of (sad _ _ ll12.1), atI_nat (j := 0) e0V, d0, _, rfl, .inl (SqL.of (sad _ _ hr0)), ?_⟩
      rw [List.length_map, lr0]
      refine ⟨c2, _, _, rfl, rfl, gd, by omega, by omega, Nat.le_of_lt (small1000 (by rw [Int.toNat_natCast]; show 1 * k ≤ 1000; omega)), fun r1 m3' => ?_⟩
      rw [Int.toNat_natCast, List.flatten_replicate_singleton]
      have se := same_new (o := .lst (List.replicate k (V.str (PySem.Str.ofString "1")))) m3'; have ge : upd Hd r1 (.lst (List.replicate k (V.str (PySem.Str.ofString "1")))) r1 = some (.lst (List.replicate k (V.str (PySem.Str.ofString "1")))) := upd_same; generalize upd Hd r1 (.lst (List.replicate k (V.str (PySem.Str.ofString "1")))) = He at se ge ⊢
      refine ⟨c1, r1, _, _, rfl, rfl, se _ _ (sd _ _ gc), ge, Nat.le_of_lt (small1000 (by rw [List.length_replicate]; show 1 + k ≤ 1000; omega)), fun l3 n3 => ?_⟩
      have sf := same_new (o := .lst ([V.str (PySem.Str.ofString "/")] ++ List.replicate k (V.str (PySem.Str.ofString "1")))) n3; have gf : upd He l3 (.lst ([V.str (PySem.Str.ofString "/")] ++ List.replicate k (V.str (PySem.Str.ofString "1")))) l3 = some (.lst ([V.str (PySem.Str.ofString "/")] ++ List.replicate k (V.str (PySem.Str.ofString "1")))) := upd_same; generalize upd He l3 (.lst ([V.str (PySem.Str.ofString "/")] ++ List.replicate k (V.str (PySem.Str.ofString "1")))) = Hf at sf gf ⊢
      refine ⟨by show 1 ≤ sizeLine; decide, fun c3 m4' => ?_⟩
      have sg := same_new (o := .lst [V.str (PySem.Str.ofString "/")]) m4'; have gg : upd Hf c3 (.lst [V.str (PySem.Str.ofString "/")]) c3 = some (.lst [V.str (PySem.Str.ofString "/")]) := upd_same; generalize upd Hf c3 (.lst [V.str (PySem.Str.ofString "/")]) = Hg at sg gg ⊢
      refine ⟨by show 1 ≤ sizeLine; decide, fun c4 m5' => ?_⟩
      have sh := same_new (o := .lst [V.str (PySem.Str.ofString "2")]) m5'; have gh : upd Hg c4 (.lst [V.str (PySem.Str.ofString "2")]) c4 = some (.lst [V.str (PySem.Str.ofString "2")]) := upd_same; generalize upd Hg c4 (.lst [V.str (PySem.Str.ofString "2")]) = Hh at sh gh ⊢
      have sah := sad.trans (se.trans (sf.trans (sg.trans sh)))
      refine ⟨_, rfl, b, _, 0, .ref d0, rfl, rfl, SqL.of (sah _ _ ll12.1), atI_nat (j := 0) e0V, d0, _, rfl, .inl (SqL.of (sah _ _ hr0)), _, _, rfl, rfl, ?_⟩
      rw [List.length_map, lr0]
      refine ⟨c4, _, _, rfl, rfl, gh, by omega, by omega, Nat.le_of_lt (small1000 (by show 1 * ((k : Int) - 1).toNat ≤ 1000; omega)), fun r2 m6' => ?_⟩
      rw [List.flatten_replicate_singleton]
      have hk1 : ((k : Int) - 1).toNat ≤ 7 := by omega
      generalize ((k : Int) - 1).toNat = kk at hk1 ⊢
      have si := same_new (o := .lst (List.replicate kk (V.str (PySem.Str.ofString "2")))) m6'; have gi : upd Hh r2 (.lst (List.replicate kk (V.str (PySem.Str.ofString "2")))) r2 = some (.lst (List.replicate kk (V.str (PySem.Str.ofString "2")))) := upd_same; generalize upd Hh r2 (.lst (List.replicate kk (V.str (PySem.Str.ofString "2")))) = Hi at si gi ⊢
      refine ⟨c3, r2, _, _, rfl, rfl, si _ _ (sh _ _ gg), gi, Nat.le_of_lt (small1000 (by rw [List.length_replicate]; show 1 + kk ≤ 1000; omega)), fun l4 n4 => ?_⟩
      have sj := same_new (o := .lst ([V.str (PySem.Str.ofString "/")] ++ List.replicate kk (V.str (PySem.Str.ofString "2")))) n4; have gj : upd Hi l4 (.lst ([V.str (PySem.Str.ofString "/")] ++ List.replicate kk (V.str (PySem.Str.ofString "2")))) l4 = some (.lst ([V.str (PySem.Str.ofString "/")] ++ List.replicate kk (V.str (PySem.Str.ofString "2")))) := upd_same; generalize upd Hi l4 (.lst ([V.str (PySem.Str.ofString "/")] ++ List.replicate kk (V.str (PySem.Str.ofString "2")))) = Hj at sj gj ⊢
      refine ⟨by show 4 ≤ sizeLine; decide, fun lo no' => ?_⟩
      have shj := si.trans sj
      have saj := sah.trans shj
      have sk := same_new (o := .lst [V.ref l1, V.ref l2, V.ref l3, V.ref l4]) no'
      have sak := saj.trans sk
      have e47 : PySem.Str.ofString "/" = SX.S [47] := str_S rfl
      have e49 : PySem.Str.ofString "1" = SX.S [49] := str_S rfl
      have e50 : PySem.Str.ofString "2" = SX.S [50] := str_S rfl
      have hbj := (sc.trans (sd.trans (se.trans (sf.trans (sg.trans sh))))).trans shj
      have hfj := (sg.trans sh).trans shj
      have ga' := sk _ _ ((sb.trans hbj) _ _ ga)
      have gb' := sk _ _ (hbj _ _ gb)
      have gf' := sk _ _ (hfj _ _ gf)
      have gj' := sk _ _ gj
      have vk := v12.same sak
      refine ⟨p, lo, _, _, rfl, vk, by omega, upd_same, v12.not_none (saj.free no'), by show 0 < 4; decide, by show 4 ≤ 1000; decide, fun Hl y sl vl hy => ?_⟩
      have gIl := sl.1 _ _ nIp (sak _ _ gI)
      obtain ⟨m, ms, rfl, nmp, hm, lm, okm⟩ : ∃ (m : Addr) (ms : Its), y = .ref m ∧ m ≠ p ∧ (upd Hj lo (.lst [V.ref l1, V.ref l2, V.ref l3, V.ref l4])) m = some (.lst (ms.map iV)) ∧ ms.length ≤ 8 ∧ ∀ c ∈ ms, c.length ≤ 2000 ∧ ∀ e ∈ c, e < 1114112 := by
        simp only [List.mem_cons, List.not_mem_nil, or_false] at hy
        rcases hy with rfl | rfl | rfl | rfl
        · exact ⟨l1, [slC], rfl, v12.not_none n1, by rw [ga', e47]; rfl, by decide, fun c hc => by rw [List.mem_singleton.mp hc]; exact ⟨by decide, by decide⟩⟩
        · exact ⟨l2, [a], rfl, v12.not_none (sa.free n2), gb', by show 1 ≤ 8; decide, fun c hc => by rw [List.mem_singleton.mp hc]; exact ⟨la, ca⟩⟩
        · refine ⟨l3, slC :: List.replicate k [49], rfl, v12.not_none ((sad.trans se).free n3), by rw [gf', e47, e49, List.map_cons, List.map_replicate]; rfl, by rw [List.length_cons, List.length_replicate]; omega, fun c hc => ?_⟩
          rcases List.mem_cons.mp hc with rfl | z
          · exact ⟨by decide, by decide⟩
          · rw [(List.mem_replicate.mp z).2]
            exact ⟨by decide, by decide⟩
        · refine ⟨l4, slC :: List.replicate kk [50], rfl, v12.not_none ((sah.trans si).free n4), by rw [gj', e47, e50, List.map_cons, List.map_replicate]; rfl, by rw [List.length_cons, List.length_replicate]; omega, fun c hc => ?_⟩
          rcases List.mem_cons.mp hc with rfl | z
          · exact ⟨by decide, by decide⟩
          · rw [(List.mem_replicate.mp z).2]
            exact ⟨by decide, by decide⟩
      have hml := sl.1 _ _ nmp hm
      refine ⟨I, m, _, _, rfl, rfl, gIl, hml, Nat.le_of_lt (small1000 (by rw [List.length_map, List.length_map]; omega)), fun X nX => ?_⟩
      have sX := same_new (o := .lst ((trI rs).map iV ++ ms.map iV)) nX
      exact rest _ _ ⟨X, trI rs ++ ms, _, _, _, _, _, _, rfl, ⟨by rw [upd_same, List.map_append], by rw [List.length_append]; omega, fun c hc => (List.mem_append.mp hc).elim (tok c) (okm c)⟩, ((z12.trans (Kz.same sak)).trans (Kz.ofS sl)).trans (Kz.same sX), (vl.same sX).le (by omega), (tabs_sb (T12.ext sak) vk sl).ext sX⟩
  · obtain ⟨z6, v6, T6, x2, x4, x5, x6, x7, x8, x9, rfl⟩ := pv
    have ll6 := ll.kq hv z6.k
    refine lam_in T6 fun Hc N xc' Tc' hN => ?_
    refine ⟨rfl, _, rfl, _, rfl, by show 4 ≤ sizeLine; decide, fun l nl => ?_⟩
    have sd := same_new (o := .lst [V.non, V.int 5, V.ref b, V.bl true]) nl; have gd : upd Hc l (.lst [V.non, V.int 5, V.ref b, V.bl true]) l = some (.lst [V.non, V.int 5, V.ref b, V.bl true]) := upd_same; generalize upd Hc l (.lst [V.non, V.int 5, V.ref b, V.bl true]) = Hd at sd gd ⊢
    have vd := (v6.ext xc').same sd
    have nlp := (v6.ext xc').not_none nl
    refine ⟨p, l, _, _, rfl, vd, by omega, gd, nlp, by show 0 < 4; decide, by show 4 ≤ 1000; decide, fun He y se ve hy => ?_⟩
    have lle := ((ll6.ext xc').same sd).sb vd se
    obtain ⟨t, ty, kk⟩ : ∃ t, TyX K He y t ∧ PySem.W.kitOne K t (.type "str") = some false := by
      simp only [List.mem_cons, List.not_mem_nil, or_false] at hy
      rcases hy with rfl | rfl | rfl | rfl
      · exact ⟨.type "NoneType", .base .non, by first | kernel_rfl | k_is | rfl⟩
      · exact ⟨.type "int", .base (.int _), by first | kernel_rfl | k_is | rfl⟩
      · exact ⟨.type "list", .base (.lst lle.1), by first | kernel_rfl | k_is | rfl⟩
      · exact ⟨.type "bool", .base (.bl _), by first | kernel_rfl | k_is | rfl⟩
    refine ⟨y, rfl, .inl ⟨t, ty, kk, hCX fun Hf u sf nf gf => ?_⟩⟩
    refine ⟨by show 2 ≤ sizeLine; decide, fun c9 n9 => ?_⟩
    have s9 := same_new (o := .tup [V.int 0, V.int 0]) n9
    refine ⟨pjD 0, pjD 0, .tup (SqT.of (s9 _ _ gf)) (.cons (.int _) (.cons (.int _) .nil)), .tup (SqT.of upd_same) (.cons (.int _) (.cons (.int _) .nil)), pj_sh 0, pj_sh 0, ?_⟩
    rw [pj_ev]
    have sf9 := sf.trans s9
    exact q _ (z6.trans (((Kz.ofE xc').trans (Kz.same sd)).trans ((Kz.ofS se).trans (Kz.same sf9)))) ((ve.same sf9).le (by omega)) ((tabs_sb (Tc'.ext sd) vd se).ext sf9)
end
end K19

namespace K19
open PySem PySem.Spec PyProof.Rows L2
/-! ### a list of what was heard -/
abbrev Ee := Str × V
def T2 (H : Hp) (x : V) (e : Ee) : Prop := ∃ t, x = .ref t ∧ H t = some (.tup [.str e.1, e.2])
def HsP (H : Hp) (l : Addr) (es : List Ee) : Prop := ∃ xs, H l = some (.lst xs) ∧ Paired (T2 H) xs es
theorem T2.tup {H H' : Hp} {x : V} {e : Ee} (h : T2 H x e) (s : ∀ t xs, H t = some (.tup xs) → H' t = some (.tup xs)) : T2 H' x e := let ⟨t, e1, g⟩ := h; ⟨t, e1, s _ _ g⟩
theorem HsP.kq {H H' : Hp} {p l : Addr} {n : Nat} {es : List Ee} (h : HsP H l es) (v : Lens H p n) (nl : l ≠ p) (k : Kq p H H') : HsP H' l es := by
  obtain ⟨xs, g, pr⟩ := h
  exact ⟨xs, keptl g nl k, paired_mono pr fun _ _ z => z.tup fun t ys e => k _ _ (v.not_tup e) (by intro ps z; cases z) e⟩
theorem hsp_upd {H : Hp} {d l : Addr} {es : List Ee} {ys : List V} {o : HO} (h : HsP H d es) (hl : H l = some (.lst ys)) (ne : d ≠ l) : HsP (upd H l o) d es := by
  obtain ⟨xs, g, pr⟩ := h
  exact ⟨xs, by rw [upd_ne ne]; exact g, paired_mono pr fun _ _ z => z.tup fun t ys e => by rw [upd_ne (L2.ne_of e hl (by intro z; cases z))]; exact e⟩
/-- since H0: what stood there stands but what draws; the list at l has these, the lists of ds have theirs -/
structure St (TL : List (Addr × Str)) (p : Addr) (H0 : Hp) (l : Addr) (es : List Ee) (ds : List (Addr × List Ee)) (n : Nat) (H : Hp) : Prop where
  z : Kz p H0 H
  v : Lens H p n
  T : LamX.Tabs TL H
  h : HsP H l es
  nl : l ≠ p
  nl0 : H0 l = none
  ds : ∀ x ∈ ds, HsP H x.1 x.2 ∧ x.1 ≠ l ∧ x.1 ≠ p
section
variable {TL : List (Addr × Str)} {p l : Addr} {H0 H H' HC HD : Hp} {es : List Ee} {ds : List (Addr × List Ee)} {n n0 : Nat}
theorem St.at (s : St TL p H0 l es ds n H) : ∃ xs, H l = some (.lst xs) ∧ xs.length = es.length := by
  obtain ⟨xs, g, pr⟩ := s.h
  exact ⟨xs, g, Paired.length pr⟩
theorem St.ext (s : St TL p H0 l es ds n H) (x : Ext H H') (T' : LamX.Tabs TL H') : St TL p H0 l es ds n H' := ⟨s.z.trans (Kz.ofE x), s.v.ext x, T', s.h.kq s.v s.nl (Kq.ofE x), s.nl, s.nl0, fun d hd => ⟨(s.ds d hd).1.kq s.v (s.ds d hd).2.2 (Kq.ofE x), (s.ds d hd).2⟩⟩
theorem St.same (s : St TL p H0 l es ds n H) (x : Same H H') : St TL p H0 l es ds n H' := s.ext (ext_of x) (s.T.ext x)
theorem St.draw {m : Nat} (s : St TL p H0 l es ds n H) (x : SB p H H') (v' : Lens H' p m) : St TL p H0 l es ds m H' := ⟨s.z.trans (Kz.ofS x), v', tabs_sb s.T s.v x, s.h.kq s.v s.nl (Kq.ofS x), s.nl, s.nl0, fun d hd => ⟨(s.ds d hd).1.kq s.v (s.ds d hd).2.2 (Kq.ofS x), (s.ds d hd).2⟩⟩
theorem St.app {x : V} {e : Ee} (s : St TL p H0 l es ds n H) (v0 : Lens H0 p n0) (x1 : Ext H HC) (T1 : LamX.Tabs TL HC) (sD : Same HC HD) (hx : T2 HD x e) : ∃ xs, HD l = some (.lst xs) ∧ xs.length = es.length ∧ St TL p H0 l (es ++ [e]) ds n (upd HD l (.lst (xs ++ [x]))) := by
  have s2 := (s.ext x1 T1).same sD
  obtain ⟨xs, g, pr⟩ := s2.h
  have up : ∀ t ys, HD t = some (.tup ys) → upd HD l (.lst (xs ++ [x])) t = some (.tup ys) := fun t ys e => by
    rw [upd_ne (L2.ne_of e g (by intro z; cases z))]
    exact e
  exact ⟨xs, g, Paired.length pr, kz_upd s2.z s2.nl0, lens_kupd s2.v v0 s2.z s2.nl0, tabs_upd s2.T g, ⟨_, upd_same, paired_snoc (paired_mono pr fun _ _ z => z.tup up) (hx.tup up)⟩, s2.nl, s2.nl0, fun d hd => ⟨hsp_upd (s2.ds d hd).1 g (s2.ds d hd).2.1, (s2.ds d hd).2⟩⟩
/-- a new list -/
theorem St.put {d : Addr} {xs : List V} {fs : List Ee} (s : St TL p H0 l es ds n H) (nd : H d = none) (pr : Paired (T2 H) xs fs) : St TL p H0 l es ((d, fs) :: ds) n (upd H d (.lst xs)) := by
  have sd := same_new (o := .lst xs) nd
  have s2 := s.same sd
  obtain ⟨ys, g, _⟩ := s.at
  refine ⟨s2.z, s2.v, s2.T, s2.h, s2.nl, s2.nl0, fun x hx => ?_⟩
  rcases List.mem_cons.mp hx with e | hx
  · subst e
    exact ⟨⟨xs, upd_same, paired_mono pr fun _ _ z => z.tup fun t ys e => sd _ _ e⟩, (ne_of_none g nd).symm, s.v.not_none nd⟩
  · exact s2.ds x hx
end
/-! ### lists of tuples with the same things -/
def rEqLT (K : PySem.W.Frag) : R2 := fun x y H Q => ∃ (a b : Addr) (xs ys : List V), x = .ref a ∧ y = .ref b ∧ SqL K H a xs ∧ SqL K H b ys ∧ xs.length = ys.length ∧
  (∀ (i : Nat) (x y : V), xs[i]? = some x → ys[i]? = some y → ∃ (p q : Addr) (zs : List V), x = .ref p ∧ y = .ref q ∧ SqT K H p zs ∧ SqT K H q zs ∧ ∀ z ∈ zs, flatB z = true ∨ ∃ a, z = .ref a) ∧ Q (.bl true) H
theorem all_true (n : Nat) : ((List.range n).all fun _ => true) = true := List.all_eq_true.mpr fun _ _ => rfl
theorem op_eqLT {X : Cx} (hu : X.A.units + 64 < cLine) : OpR X (compareOp .Eq) (rEqLT X.K) := by
  intro pins s σ H x y v u Q I rx ry h
  obtain ⟨a, b, xs, ys, rfl, rfl, ha, hb, hl, hi, q⟩ := h
  obtain rfl : v = Value.ref a := rx
  obtain rfl : u = Value.ref b := ry
  obtain ⟨us, r1, p1, _⟩ := I.list ha
  obtain ⟨ws, r2, p2, _⟩ := I.list hb
  have hsz : us.toArray.size = ws.toArray.size := by
    rw [List.size_toArray, List.size_toArray, ← r1.length, ← r2.length]
    exact hl
  refine SeqAt.RcAt.lists (e := fun _ => true) p1.isList p2.isList hsz (by omega) (fun j h1 h2 => ?_) X.prog X.w _ _ ?_
  · have j1 : j < xs.length := by rw [r1.length]; simpa using h1
    have j2 : j < ys.length := by rw [← hl]; exact j1
    have j3 : j < us.length := by simpa using h1
    have j4 : j < ws.length := by simpa using h2
    obtain ⟨p, t, zs, e1, e2, t1, t2, kz⟩ := hi j _ _ (List.getElem?_eq_getElem j1) (List.getElem?_eq_getElem j2)
    have g1 := r1.get (i := j) (x := xs[j]) (List.getElem?_eq_getElem j1)
    have g2 := r2.get (i := j) (x := ys[j]) (List.getElem?_eq_getElem j2)
    obtain ⟨u1, hu1, ru1⟩ := g1
    obtain ⟨u2, hu2, ru2⟩ := g2
    rw [List.getElem?_eq_getElem j3] at hu1
    rw [List.getElem?_eq_getElem j4] at hu2
    rw [e1] at ru1
    rw [e2] at ru2
    obtain rfl : u1 = Value.ref p := ru1
    obtain rfl : u2 = Value.ref t := ru2
    have d1 : us.toArray[j] = Value.ref p := by simpa using Option.some.inj hu1
    have d2 : ws.toArray[j] = Value.ref t := by simpa using Option.some.inj hu2
    rw [d1, d2]
    by_cases ept : p = t
    · subst ept
      exact SeqAt.EqAt.same _
    · obtain ⟨is, q1, s1, _⟩ := I.tuple t1
      obtain ⟨js, q2, s2, _⟩ := I.tuple t2
      have k := SeqAt.RcAt.tuples (A := X.A.in1) (e := fun _ => true) s1 s2 (by show X.A.units + 1 < cLine; omega) (fun i h1 h2 => ?_)
      · have el : is.toArray.size = js.toArray.size := by
          rw [List.size_toArray, List.size_toArray, ← q1.length, ← q2.length]
        rw [all_true, el, beq_self_eq_true, Bool.and_self] at k
        exact SeqAt.EqAt.of_refs ept k
      · have i1 : i < zs.length := by rw [q1.length]; simpa using h1
        have i3 : i < is.length := by simpa using h1
        have i4 : i < js.length := by simpa using h2
        obtain ⟨v1, hv1, rv1⟩ := q1.get (i := i) (x := zs[i]) (List.getElem?_eq_getElem i1)
        obtain ⟨v2, hv2, rv2⟩ := q2.get (i := i) (x := zs[i]) (List.getElem?_eq_getElem i1)
        rw [List.getElem?_eq_getElem i3] at hv1
        rw [List.getElem?_eq_getElem i4] at hv2
        have d3 : is.toArray[i] = v1 := by simpa using Option.some.inj hv1
        have d4 : js.toArray[i] = v2 := by simpa using Option.some.inj hv2
        rw [d3, d4]
        rcases (kz _ (List.getElem_mem i1)) with f | ⟨a', f⟩
        · exact eqAt_same rv1 rv2 f
        · rw [f] at rv1 rv2
          obtain rfl : v1 = Value.ref a' := rv1
          obtain rfl : v2 = Value.ref a' := rv2
          exact SeqAt.EqAt.same _
  · rw [all_true]
    exact ⟨.bl true, H, I, rfl, q⟩
/-- heard: this -/
def Hr (H : Hp) (e : Ee) (Q : VK) : Prop := ∀ H' x, Same H H' → T2 H' x e → Q x H'
theorem Hr.same {H H' : Hp} {e : Ee} {Q : VK} (h : Hr H e Q) (s : Same H H') : Hr H' e Q := fun H2 x s2 g => h H2 x (s.trans s2) g
section
variable {CB CF CP CQ CW CT CX : Addr} {H : Hp} {Q : VK} {z : Str} {v : V}
theorem rB (h : Hr H ("tray", .str z) Q) : RzV CB "part" (.str z) H (EHd CB CF CP CQ CW CT CX Q) := hCB fun H' t s _ e => h H' _ s ⟨t, rfl, e⟩
theorem rF (h : Hr H ("misfit", .str z) Q) : RzV CF "part" (.str z) H (EHd CB CF CP CQ CW CT CX Q) := hCF fun H' t s _ e => h H' _ s ⟨t, rfl, e⟩
theorem rP (h : Hr H ("pin", v) Q) : RzV CP "value" v H (EHd CB CF CP CQ CW CT CX Q) := hCP fun H' t s _ e => h H' _ s ⟨t, rfl, e⟩
theorem rQ (h : Hr H ("picture", v) Q) : RzV CQ "value" v H (EHd CB CF CP CQ CW CT CX Q) := hCQ fun H' t s _ e => h H' _ s ⟨t, rfl, e⟩
theorem rW (h : Hr H ("twice", v) Q) : RzV CW "value" v H (EHd CB CF CP CQ CW CT CX Q) := hCW fun H' t s _ e => h H' _ s ⟨t, rfl, e⟩
theorem rT (h : Hr H ("rows", .int 8) Q) : RzF CT fullR H (EHd CB CF CP CQ CW CT CX Q) := hCT fun H' t s _ e => h H' _ s ⟨t, rfl, e⟩
end
/-- but at p, at l, and but tables, all stands -/
def Kpl (p l : Addr) (H H' : Hp) : Prop := ∀ b o, b ≠ p → b ≠ l → (∀ ps, o ≠ .tbl ps) → H b = some o → H' b = some o
theorem Kpl.refl (p l : Addr) (H : Hp) : Kpl p l H H := fun _ _ _ _ _ h => h
theorem Kpl.trans {p l : Addr} {H H1 H2 : Hp} (a : Kpl p l H H1) (b : Kpl p l H1 H2) : Kpl p l H H2 := fun c o n m t h => b c o n m t (a c o n m t h)
theorem Kpl.ofE {p l : Addr} {H H' : Hp} (s : Ext H H') : Kpl p l H H' := fun b o _ _ t h => s b o h t
theorem Kpl.ofS {p l : Addr} {H H' : Hp} (s : Same H H') : Kpl p l H H' := fun b o _ _ _ h => s b o h
theorem Kpl.ofB {p l : Addr} {H H' : Hp} (s : SB p H H') : Kpl p l H H' := fun b o n _ _ h => s.1 b o n h
theorem kpl_app {p l : Addr} {H HC HD : Hp} {o : HO} (x1 : Ext H HC) (sD : Same HC HD) : Kpl p l H (upd HD l o) := fun b u _ m t h => by
  rw [upd_ne m]
  exact sD _ _ (x1 _ _ h t)
/-- so it is, whatever is heard -/
def Ful (p l : Addr) (H : Hp) (G : Hp → Prop) : Prop := ∀ M, Kpl p l H M → G M
theorem Ful.kpl {p l : Addr} {H H' : Hp} {G : Hp → Prop} (f : Ful p l H G) (k : Kpl p l H H') : Ful p l H' G := fun M k2 => f M (k.trans k2)
theorem Ful.same {p l : Addr} {H H' : Hp} {G : Hp → Prop} (f : Ful p l H G) (s : Same H H') : Ful p l H' G := f.kpl (.ofS s)
section
variable {CB CF CP CQ CW CT CX p l : Addr} {K : PySem.W.Frag} {H0 H : Hp} {es : List Ee} {ds : List (Addr × List Ee)} {n n0 i : Nat} {TL : List (Addr × Str)} {σ : L2.St} {D : Ends} {e : Ee}
theorem app_at {t : XK → TE} (hi : σ[i]? = some (some (.ref l))) (st : St TL p H0 l es ds n H) (v0 : Lens H0 p n0) (hl : es.length < 900)
    (ask : ∀ (Q N : VK) (HC : Hp), Kq p H0 HC → Kpl p l H HC → NHd Q N → Hr HC e Q → t (EHd CB CF CP CQ CW CT CX Q) σ HC N)
    (next : ∀ H', St TL p H0 l (es ++ [e]) ds n H' → Kpl p l H H' → D.nx σ H') (ta : TE) (hta : ∀ H Q, LamX.tLam TL (THeard CB CF CP CQ CW CT CX) t σ H Q → ta σ H Q) : tDrop (tBM K "list" rAppend (tVar i) (tCons ta tNil)) D σ H := by
  obtain ⟨xs, hx, lx⟩ := st.at
  refine ⟨_, hi, .inl ⟨rfl, _, SqL.of hx⟩, hta _ _ (lam_in st.T fun HC N x1 T1 hN => ?_)⟩
  refine ask _ N HC (st.z.k.trans (Kq.ofE x1)) (.ofE x1) hN fun HD x sD gx => ?_
  obtain ⟨ys, h2, lx2, st2⟩ := st.app v0 x1 T1 sD (x := x) (e := e) gx
  exact ⟨l, _, _, rfl, rfl, h2, small1000 (by rw [lx2]; omega), next _ st2 (kpl_app x1 sD)⟩
theorem app_in {t : XK → TE} (hi : σ[i]? = some (some (.ref l))) (st : St TL p H0 l es ds n H) (v0 : Lens H0 p n0) (hl : es.length < 900)
    (ask : ∀ (Q N : VK) (HC : Hp), Kq p H0 HC → Kpl p l H HC → NHd Q N → Hr HC e Q → t (EHd CB CF CP CQ CW CT CX Q) σ HC N)
    (next : ∀ H', St TL p H0 l (es ++ [e]) ds n H' → Kpl p l H H' → D.nx σ H') : tDrop (tBM K "list" rAppend (tVar i) (tCons (LamX.tLam TL (THeard CB CF CP CQ CW CT CX) t) tNil)) D σ H :=
  app_at hi st v0 hl ask next _ fun _ _ h => h
/-- the first that is heard: its asking draws -/
theorem first_in {t : XK → TE} {R : VK} (v : Lens H p n) (T0 : LamX.Tabs TL H)
    (ask : ∀ (Q N : VK) (HC : Hp), Kq p H HC → Lens HC p n → LamX.Tabs TL HC → NHd Q N → (∀ HE x, Kz p HC HE → Lens HE p (n + 1) → LamX.Tabs TL HE → T2 HE x e → Q x HE) → t (EHd CB CF CP CQ CW CT CX Q) σ HC N)
    (next : ∀ HD l H', Kz p H HD → Lens HD p (n + 1) → HD l = none → St TL p HD l [e] [] (n + 1) H' → R (.ref l) H') : tLst (tCons (LamX.tLam TL (THeard CB CF CP CQ CW CT CX) t) tNil) σ H R := by
  refine lam_in T0 fun HC N x1 T1 hN => ask _ N HC (Kq.ofE x1) (v.ext x1) T1 hN fun HD x zD vD TD gx => ?_
  refine ⟨by show 1 ≤ sizeLine; decide, fun l nl => ?_⟩
  have s0 := same_new (o := .lst [x]) nl
  exact next HD l _ ((Kz.ofE x1).trans zD) vD nl ⟨Kz.same s0, vD.same s0, TD.ext s0, ⟨_, upd_same, .cons (gx.tup fun t ys e => s0 _ _ e) .nil⟩, vD.not_none nl, nl, fun x hx => absurd hx List.not_mem_nil⟩
end
section
variable {p l : Addr} {H0 H : Hp} {es : List Ee} {ds : List (Addr × List Ee)} {n : Nat} {TL : List (Addr × Str)} {xs : List V} {fs gs : List Ee} {R : VK}
theorem t2_all {H' : Hp} (s : Same H H') (h : Paired (T2 H) xs gs) : Paired (T2 H') xs gs := paired_mono h fun _ _ z => z.tup fun t ys e => s _ _ e
/-- what is due, told as a list -/
theorem due_new (st : St TL p H0 l es ds n H) (pr : Paired (T2 H) xs gs) (hl : gs.length < 900) (h : ∀ d H', St TL p H0 l es [(d, gs)] n H' → Same H H' → R (.ref d) H') : xs.length ≤ sizeLine ∧ ∀ q, H q = none → R (.ref q) (upd H q (.lst xs)) := by
  refine ⟨?_, fun q nq => h q _ ?_ (same_new nq)⟩
  · have := Paired.length pr
    exact Nat.le_of_lt (small1000 (by omega))
  · have s2 := st.put nq pr
    exact ⟨s2.z, s2.v, s2.T, s2.h, s2.nl, s2.nl0, fun x hx => s2.ds x (by rw [List.mem_singleton.mp hx]; exact List.mem_cons_self)⟩
theorem due_more {d : Addr} (st : St TL p H0 l es [(d, fs)] n H) (pr : Paired (T2 H) xs gs) (hl : fs.length + gs.length < 900) (h : ∀ c H', St TL p H0 l es [(c, fs ++ gs)] n H' → Same H H' → R (.ref c) H') : xs.length ≤ sizeLine ∧ ∀ q, H q = none → rCat (.ref d) (.ref q) (upd H q (.lst xs)) R := by
  have lx := Paired.length pr
  refine ⟨Nat.le_of_lt (small1000 (by omega)), fun q nq => ?_⟩
  have s1 := same_new (o := .lst xs) nq
  have st1 := st.same s1
  obtain ⟨⟨ys, hy, py⟩, _⟩ := st1.ds (d, fs) List.mem_cons_self
  have ly : ys.length = fs.length := Paired.length py
  refine ⟨d, q, ys, xs, rfl, rfl, hy, upd_same, Nat.le_of_lt (small1000 (by omega)), fun c nc => h c _ ?_ (s1.trans (same_new nc))⟩
  have s2 := st1.put nc (paired_app py (t2_all s1 pr))
  exact ⟨s2.z, s2.v, s2.T, s2.h, s2.nl, s2.nl0, fun x hx => s2.ds x (by rw [List.mem_singleton.mp hx]; exact List.mem_cons_self)⟩
end
/-- the same entries in two lists -/
theorem hs_eq {K : PySem.W.Frag} {H : Hp} {l d : Addr} {es : List Ee} {Q : VK} (h1 : HsP H l es) (h2 : HsP H d es) (ok : ∀ e ∈ es, flatB e.2 = true ∨ ∃ a, e.2 = .ref a) (q : Q (.bl true) H) : rEqLT K (.ref l) (.ref d) H Q := by
  obtain ⟨xs, g1, p1⟩ := h1
  obtain ⟨ys, g2, p2⟩ := h2
  refine ⟨l, d, xs, ys, rfl, rfl, SqL.of g1, SqL.of g2, (Paired.length p1).trans (Paired.length p2).symm, fun i x y hx hy => ?_, q⟩
  obtain ⟨e, he, t, rfl, ht⟩ := paired_get p1 hx
  obtain ⟨e', he', u, rfl, hu⟩ := paired_get p2 hy
  obtain rfl : e = e' := Option.some.inj (he.symm.trans he')
  refine ⟨t, u, _, rfl, rfl, SqT.of ht, SqT.of hu, fun z hz => ?_⟩
  simp only [List.mem_cons, List.not_mem_nil, or_false] at hz
  rcases hz with rfl | rfl
  · exact .inl rfl
  · exact ok e (List.mem_of_getElem? he)
end K19

namespace K19
open PySem PySem.Spec PyProof.Rows L2
section
variable {H : Hp} {σ : L2.St} {Q : VK} {a : Str}
theorem ent_ss {b : Str} (h : Hr H (a, .str b) Q) : tTup (tCons (tC (.str a)) (tCons (tC (.str b)) tNil)) σ H Q := ⟨by show 2 ≤ sizeLine; decide, fun q nq => h _ _ (same_new nq) ⟨q, rfl, upd_same⟩⟩
theorem ent_si {i : Int} (h : Hr H (a, .int i) Q) : tTup (tCons (tC (.str a)) (tCons (tC (.int i)) tNil)) σ H Q := ⟨by show 2 ≤ sizeLine; decide, fun q nq => h _ _ (same_new nq) ⟨q, rfl, upd_same⟩⟩
theorem ent_sb {b : Bool} (h : Hr H (a, .bl b) Q) : tTup (tCons (tC (.str a)) (tCons (tC (.bl b)) tNil)) σ H Q := ⟨by show 2 ≤ sizeLine; decide, fun q nq => h _ _ (same_new nq) ⟨q, rfl, upd_same⟩⟩
theorem ent_sv {i : Nat} {v : V} (hi : σ[i]? = some (some v)) (h : Hr H (a, v) Q) : tTup (tCons (tC (.str a)) (tCons (tVar i) tNil)) σ H Q := ⟨v, hi, by show 2 ≤ sizeLine; decide, fun q nq => h _ _ (same_new nq) ⟨q, rfl, upd_same⟩⟩
end
/-- no row, from here on -/
def NoR (K : PySem.W.Frag) (p : Addr) (H : Hp) (v : V) : Prop := ∀ M, Kq p H M → RowV K M v false
theorem NoR.kq {K : PySem.W.Frag} {p : Addr} {H H' : Hp} {v : V} (h : NoR K p H v) (k : Kq p H H') : NoR K p H' v := fun M k2 => h M (k.trans k2)
theorem nor_kd {K : PySem.W.Frag} {p : Addr} {H : Hp} {v : V} (h : ∀ M, Kq p H M → Kd K M v false) : NoR K p H v := fun M k => .no (h M k)
theorem nor_lst {K : PySem.W.Frag} {p a : Addr} {H : Hp} {xs : List V} (e : H a = some (.lst xs)) (ne : a ≠ p) (hk : ∀ x ∈ xs, ∀ M, Kq p H M → ∃ t, Kd K M x t) (hl : xs.length ≤ 100) (hb : rowB xs = false) : NoR K p H (.ref a) := fun M k => by
  have := RowV.seq (K := K) (H := M) (a := a) (xs := xs) (.inl (keptl e ne k)) (fun x hx => hk x hx M k) hl
  rw [hb] at this
  exact this
theorem kd_flat {K : PySem.W.Frag} {H : Hp} {x : V} (h : x = .non ∨ (∃ i, x = .int i) ∨ (∃ b, x = .bl b) ∨ ∃ z, x = .str z) : Kd K H x false := by
  rcases h with rfl | ⟨i, rfl⟩ | ⟨b, rfl⟩ | ⟨z, rfl⟩
  · exact .non
  · exact .int i
  · exact .bl b
  · exact .str z
def flK : V → Bool
  | .non => true
  | .bl _ => true
  | .int _ => true
  | .str _ => true
  | _ => false
theorem kd_fl {K : PySem.W.Frag} {xs : List V} (h : xs.all flK = true) : ∀ x ∈ xs, ∀ H : Hp, ∃ t, Kd K H x t := fun x hx H => by
  have := List.all_eq_true.mp h x hx
  cases x with
  | non => exact ⟨_, .non⟩
  | int i => exact ⟨_, .int i⟩
  | bl b => exact ⟨_, .bl b⟩
  | str z => exact ⟨_, .str z⟩
  | _ => cases this
theorem no_tw {j : Nat} : ¬ TwN [] j := fun ⟨i, h, _⟩ => by cases h
theorem tw_all {ns : List Nat} {a j : Nat} (h : TwN ns j) (u : ∀ i x : Nat, ns[i]? = some x → x ∈ ns.take i → x = a) : j = a := by
  obtain ⟨i, h1, h2, _⟩ := h
  exact u i j h1 h2
theorem paired_rp {α β : Type} {R : α → β → Prop} {v : α} {b : β} (r : R v b) : ∀ n, Paired R (List.replicate n v) (List.replicate n b)
  | 0 => .nil
  | n + 1 => by
    rw [List.replicate_succ, List.replicate_succ]
    exact .cons r (paired_rp r n)
theorem alike_no {k : Nat} {rs : List (List Int)} {r : List Int} (ok : OkL k rs) (ne : rs ≠ []) (h : r.length ≠ k) : alike (rs ++ [r]) = false := by
  cases e : alike (rs ++ [r]) with
  | false => rfl
  | true =>
    have h1 := alike_eq e r (List.mem_append_right _ (List.mem_singleton.mpr rfl))
    have h2 : (rs ++ [r]).headD [] = rs.headD [] := by
      cases rs with
      | nil => exact absurd rfl ne
      | cons a b => rfl
    rw [h2, head_len ok ne] at h1
    exact absurd h1 h
theorem wj_at {K : PySem.W.Frag} {H : Hp} {c : Addr} {k : Nat} {xs : List V} {o : V} (hs : H c = some (.lst xs)) (hk : ∀ x ∈ xs, ∃ t, Kd K H x t) (hl : xs.length ≤ 100) (f : xs.find? (fun x => !pinOk k x) = some o) : WJ K H k (.ref c) (some o) := by
  have := WJ.seq (K := K) (H := H) (k := k) (a := c) (.inl hs) hk hl
  rw [f] at this
  exact this
theorem pin_y {k n : Nat} (h : n < k) : pinOk k (.int (n : Nat)) = true := by rw [pinOk_nat]; exact decide_eq_true h
theorem pin_n {k n : Nat} (h : ¬ n < k) : pinOk k (.int (n : Nat)) = false := by rw [pinOk_nat]; exact decide_eq_false h
theorem rep_ints (m : Nat) (z : Int) : List.replicate m (V.int z) = (List.replicate m z).map V.int := by rw [List.map_replicate]
theorem tw_mem {ns : List Nat} {j : Nat} (h : TwN ns j) : ∃ a b : Nat, a < b ∧ ns[a]? = some j ∧ ns[b]? = some j := by
  obtain ⟨i, h1, h2, _⟩ := h
  obtain ⟨a, ha, e⟩ := List.getElem_of_mem h2
  have la : a < i := by
    rw [List.length_take] at ha
    omega
  refine ⟨a, i, la, ?_, h1⟩
  rw [List.getElem_take] at e
  rw [← e]
  exact List.getElem?_eq_getElem _
theorem tw_00 {j : Nat} (h : TwN [0, 0] j) : j = 0 := by
  obtain ⟨a, b, _, ha, _⟩ := tw_mem h
  have := List.mem_of_getElem? ha
  simp at this
  exact this
theorem tw_212 {j : Nat} (h : TwN [2, 1, 2] j) : j = 2 := by
  obtain ⟨a, b, l, ha, hb⟩ := tw_mem h
  have lb : b < 3 := (List.getElem?_eq_some_iff.mp hb).1
  match b, lb, l, hb with
  | 0, _, l, _ => exact absurd l (Nat.not_lt_zero _)
  | 1, _, l, hb =>
    have e : a = 0 := by omega
    rw [e] at ha
    exact (Option.some.inj ha).symm
  | 2, _, _, hb => exact (Option.some.inj hb).symm
theorem nil_in {σ : L2.St} {H : Hp} {R : List V → Hp → Prop} (h : R [] H) : tNil σ H R := h
theorem lst_at {t : TA} {σ : L2.St} {H : Hp} {Q : VK} (h : t σ H fun xs H1 => xs.length ≤ sizeLine ∧ ∀ p, H1 p = none → Q (.ref p) (upd H1 p (.lst xs))) : tLst t σ H Q := h
theorem ents {ta : TE} {tr : TA} {σ : L2.St} {H : Hp} {R : List V → Hp → Prop} {e : Ee} (he : ∀ Q, Hr H e Q → ta σ H Q) (h : ∀ H1 x, Same H H1 → T2 H1 x e → tr σ H1 fun xs H2 => R (x :: xs) H2) : tCons ta tr σ H R := he _ fun H1 x s g => h H1 x s g
section
variable {TL : List (Addr × Str)} {p l d : Addr} {H0 H : Hp} {es fs : List Ee} {ds : List (Addr × List Ee)} {n i : Nat} {σ : L2.St} {R : VK}
theorem due5n {e1 e2 e3 e4 e5 : Ee} {t1 t2 t3 t4 t5 : TE} (st : St TL p H0 l es ds n H) (h1 : ∀ Q, Hr H e1 Q → t1 σ H Q) (h2 : ∀ H1 Q, Same H H1 → Hr H1 e2 Q → t2 σ H1 Q) (h3 : ∀ H1 Q, Same H H1 → Hr H1 e3 Q → t3 σ H1 Q) (h4 : ∀ H1 Q, Same H H1 → Hr H1 e4 Q → t4 σ H1 Q) (h5 : ∀ H1 Q, Same H H1 → Hr H1 e5 Q → t5 σ H1 Q) (h : ∀ d H', St TL p H0 l es [(d, [e1, e2, e3, e4, e5])] n H' → Same H H' → R (.ref d) H') : tLst (tCons t1 (tCons t2 (tCons t3 (tCons t4 (tCons t5 tNil))))) σ H R := by
  refine lst_at (ents h1 fun M1 x1 s1 g1 => ents (fun Q => h2 M1 Q s1) fun M2 x2 s2 g2 => ents (fun Q => h3 M2 Q (s1.trans s2)) fun M3 x3 s3 g3 => ents (fun Q => h4 M3 Q ((s1.trans s2).trans s3)) fun M4 x4 s4 g4 => ents (fun Q => h5 M4 Q (((s1.trans s2).trans s3).trans s4)) fun M5 x5 s5 g5 => nil_in ?_)
  exact due_new (R := R) (st.same ((((s1.trans s2).trans s3).trans s4).trans s5)) (.cons (g1.tup fun t ys e => (s5 _ _ (s4 _ _ (s3 _ _ (s2 _ _ e))))) (.cons (g2.tup fun t ys e => (s5 _ _ (s4 _ _ (s3 _ _ e)))) (.cons (g3.tup fun t ys e => (s5 _ _ (s4 _ _ e))) (.cons (g4.tup fun t ys e => (s5 _ _ e)) (.cons g5 .nil))))) (by show 5 < 900; decide) fun d H' st' sx => h d H' st' (((((s1.trans s2).trans s3).trans s4).trans s5).trans sx)
theorem due8m {e1 e2 e3 e4 e5 e6 e7 e8 : Ee} {t1 t2 t3 t4 t5 t6 t7 t8 : TE} (hi : σ[i]? = some (some (.ref d))) (st : St TL p H0 l es [(d, fs)] n H) (h1 : ∀ Q, Hr H e1 Q → t1 σ H Q) (h2 : ∀ H1 Q, Same H H1 → Hr H1 e2 Q → t2 σ H1 Q) (h3 : ∀ H1 Q, Same H H1 → Hr H1 e3 Q → t3 σ H1 Q) (h4 : ∀ H1 Q, Same H H1 → Hr H1 e4 Q → t4 σ H1 Q) (h5 : ∀ H1 Q, Same H H1 → Hr H1 e5 Q → t5 σ H1 Q) (h6 : ∀ H1 Q, Same H H1 → Hr H1 e6 Q → t6 σ H1 Q) (h7 : ∀ H1 Q, Same H H1 → Hr H1 e7 Q → t7 σ H1 Q) (h8 : ∀ H1 Q, Same H H1 → Hr H1 e8 Q → t8 σ H1 Q) (lf : fs.length < 800) (h : ∀ c H', St TL p H0 l es [(c, fs ++ [e1, e2, e3, e4, e5, e6, e7, e8])] n H' → Same H H' → R (.ref c) H') : tOp rCat (tVar i) (tLst (tCons t1 (tCons t2 (tCons t3 (tCons t4 (tCons t5 (tCons t6 (tCons t7 (tCons t8 tNil))))))))) σ H R := by
  refine ⟨_, hi, lst_at (ents h1 fun M1 x1 s1 g1 => ents (fun Q => h2 M1 Q s1) fun M2 x2 s2 g2 => ents (fun Q => h3 M2 Q (s1.trans s2)) fun M3 x3 s3 g3 => ents (fun Q => h4 M3 Q ((s1.trans s2).trans s3)) fun M4 x4 s4 g4 => ents (fun Q => h5 M4 Q (((s1.trans s2).trans s3).trans s4)) fun M5 x5 s5 g5 => ents (fun Q => h6 M5 Q ((((s1.trans s2).trans s3).trans s4).trans s5)) fun M6 x6 s6 g6 => ents (fun Q => h7 M6 Q (((((s1.trans s2).trans s3).trans s4).trans s5).trans s6)) fun M7 x7 s7 g7 => ents (fun Q => h8 M7 Q ((((((s1.trans s2).trans s3).trans s4).trans s5).trans s6).trans s7)) fun M8 x8 s8 g8 => nil_in ?_)⟩
  exact due_more (R := R) (st.same (((((((s1.trans s2).trans s3).trans s4).trans s5).trans s6).trans s7).trans s8)) (.cons (g1.tup fun t ys e => (s8 _ _ (s7 _ _ (s6 _ _ (s5 _ _ (s4 _ _ (s3 _ _ (s2 _ _ e)))))))) (.cons (g2.tup fun t ys e => (s8 _ _ (s7 _ _ (s6 _ _ (s5 _ _ (s4 _ _ (s3 _ _ e))))))) (.cons (g3.tup fun t ys e => (s8 _ _ (s7 _ _ (s6 _ _ (s5 _ _ (s4 _ _ e)))))) (.cons (g4.tup fun t ys e => (s8 _ _ (s7 _ _ (s6 _ _ (s5 _ _ e))))) (.cons (g5.tup fun t ys e => (s8 _ _ (s7 _ _ (s6 _ _ e)))) (.cons (g6.tup fun t ys e => (s8 _ _ (s7 _ _ e))) (.cons (g7.tup fun t ys e => (s8 _ _ e)) (.cons g8 .nil)))))))) (by show fs.length + 8 < 900; omega) fun c H' st' sx => h c H' st' ((((((((s1.trans s2).trans s3).trans s4).trans s5).trans s6).trans s7).trans s8).trans sx)
theorem due1m {e1 : Ee} {t1 : TE} (hi : σ[i]? = some (some (.ref d))) (st : St TL p H0 l es [(d, fs)] n H) (h1 : ∀ Q, Hr H e1 Q → t1 σ H Q) (lf : fs.length < 800) (h : ∀ c H', St TL p H0 l es [(c, fs ++ [e1])] n H' → Same H H' → R (.ref c) H') : tOp rCat (tVar i) (tLst (tCons t1 tNil)) σ H R := by
  refine ⟨_, hi, lst_at (ents h1 fun M1 x1 s1 g1 => nil_in ?_)⟩
  exact due_more (R := R) (st.same s1) (.cons g1 .nil) (by show fs.length + 1 < 900; omega) fun c H' st' sx => h c H' st' (s1.trans sx)
end

section
variable {P : Program} {w : World} {K : PySem.W.Frag} {mg : Str → Option Value} {base : Heap} {C CB CF CT CP CQ CW CX CS : Addr}
/-! ### _law_refused_right -/
abbrev sRf : Stmt := top 55
abbrev nRf : List Str := ["_law_cask_here", "_law_rows_here", "_law_heard_here", "_law_due", "_law_bad", "_law_many", "_law_odd", "_law_pins", "_law_tray"]
theorem scRf : FnScope nRf ["_law_cask_here", "_law_rows_here"] (defScope sRf) := ⟨rfl, rfl, rfl, by decide +kernel, rfl, by decide +kernel, by decide +kernel⟩
def qRf : Str := (envOfC "_law_refused_right" (defScope sRf) 0 0 (.ref 0)).qual ++ "<lambda>"
theorem ok_rf {f c Pt g : Addr} {fdH : FuncData} {oc kV doc pm ct : Value} {od an : Option Addr} {osl : Array (Option Value)} {TLs : List (Addr × Str)} (hmT : (Pt, qRf) ∈ TLs) (hU : ∀ x ∈ TLs, x.1 = Pt → x.2 = qRf)
    (lk : K.lookup f = some ⟨oc, od, .func (PySem.W.fnOf "_law_refused_right" "_law_refused_right" (defArgs sRf) (defBody sRf) (defScope sRf) .none kV doc pm an (.ref c) ct), osl⟩) (hcd : PySem.W.codeIn K (.ref c) "_law_refused_right" = true)
    (TB : LamX.TabB base mg c Pt) (B : Bn mg) (T : Tc P w K mg base C CB CF CT CP CQ CW CX) (S : SeT K CS CB CF CP CQ CW CT CX) (M : SeM mg CS CB CF CP CQ CW CT CX) (FH : Fun K "_law_heard" "_law_heard" sHd g fdH) (mH : mg "_law_heard" = some (.ref g))
    (C3 : Callee P w K mg base CX0 2 "_law_of" ["_law_cask_here", "_law_some"] spPick) :
    FnOk P w K mg base CX0 10 f (PySem.W.fnOf "_law_refused_right" "_law_refused_right" (defArgs sRf) (defBody sRf) (defScope sRf) .none kV doc pm an (.ref c) ct) ["_law_cask_here", "_law_rows_here"] (spT TLs 100 40) := by
  obtain ⟨f3, fd3, m3, k3, b3, G3⟩ := C3
  obtain ⟨ocH, odH, kVH, docH, pmH, anH, cdvH, ctH, oslH, rfl, lkH, hcH⟩ := FH.ex
  have bH := FH.binds (ps := ["_law_ask"]) fun _ _ _ _ _ _ us hl => match us, hl with | [_], _ => rfl
  obtain ⟨fw, fdw, Mw, Gw, bw, kw⟩ := T.wr
  obtain ⟨fi, fdi, Mi, Gi, bi, ki⟩ := T.io
  obtain ⟨fp, fdp, Mp, Gp, bp, kp⟩ := T.pk
  have cl := T.t.pc.cls
  have nd := scRf.nd
  refine fn_of lk hcd scRf (fun vs H Q E h => ?_) fun A outer s H vs Q E hr h => ?_
  · obtain ⟨p, b, n, ds, rs, k, rfl, _⟩ := h
    rfl
  suffices hh : ∃ t, PSs (cxOf CX0 P w K mg base nRf "_law_refused_right" (defScope sRf) f (.ref c) A outer s H E).nox (defBody sRf) t ∧ t { nx := fun _ H' => Q .non H', rt := Q } (L2.start nRf vs) H from let ⟨t, h1, h2⟩ := hh; ⟨t, h1.nox, h2⟩
  obtain ⟨p, b, n, ds, rs, k, rfl, hv, hn, ll, okl, hk3, hk7, hne, h8, hT, q⟩ := h
  refine ⟨_, (pss_cons (ps_asg (pe_tup (pa_cons ((pe_mkT (E := E0) K T.mgC T.ini (hr.mono (by decide)) passL rfl (pa_cons (pv 1) pa_nil))) (pa_cons ((pe_callB call_len_seq (by rfl) B.len PySem.boot_len (pa_cons ((pe_ix ix_list (pv 1) (pe_int) (fun _ _ => rfl))) pa_nil))) (pa_cons ((pe_callB call_len_seq (by rfl) B.len PySem.boot_len (pa_cons (pv 1) pa_nil))) pa_nil)))) (pg_tup rfl (pgs_cons (pg_name (i := 8) nd rfl (Or.inr rfl)) (pgs_cons (pg_name (i := 7) nd rfl (Or.inr rfl)) (pgs_cons (pg_name (i := 5) nd rfl (Or.inr rfl)) pgs_nil))))) (pss_cons ((ps_set (i := 4) nd rfl (Or.inr rfl) ((pe_call G3 (hr.mono (by decide)) rfl m3 k3 b3 .nil pass0 (pa_cons (pv 0) (pa_cons (pe_lst (pa_cons (pe_non) (pa_cons (pe_int) (pa_cons (pe_str) (pa_cons (pe_dnewK) (pa_cons (pe_lst (pa_cons (pe_int) (pa_cons (pe_int) pa_nil))) (pa_cons (pe_op op_rep (pe_lst (pa_cons (pe_int) pa_nil)) (pe_int)) (pa_cons (pe_lst (pa_cons (pe_int) (pa_cons (pe_int) (pa_cons (pe_bl) pa_nil)))) (pa_cons (pe_lst (pa_cons (pe_int) (pa_cons (pe_int) (pa_cons (pe_str) pa_nil)))) (pa_cons (pe_lst (pa_cons (pe_int) (pa_cons (pe_int) (pa_cons (pe_op op_add (pe_op op_pow pe_int pe_int) pe_int) pa_nil)))) (pa_cons (pe_lst (pa_cons (pe_op op_sub (pe_un un_neg (pe_op op_pow pe_int pe_int)) pe_int) (pa_cons (pe_int) (pa_cons (pe_int) pa_nil)))) (pa_cons (pe_lst (pa_cons (pe_lst (pa_cons (pe_int) (pa_cons (pe_int) (pa_cons (pe_int) pa_nil)))) pa_nil)) (pa_cons (pe_lst (pa_cons (pe_int) (pa_cons (pe_non) (pa_cons (pe_int) pa_nil)))) pa_nil))))))))))))) pa_nil)))))) (pss_cons ((ps_set (i := 2) nd rfl (Or.inl rfl) (pe_lst (pa_cons ((LamX.pe_lamcall (T := TLs) (TT := THeard CB CF CP CQ CW CT CX) (Ng := nHd) (a := "_law_ask") (k := 7) rfl mH FH.kp lkH hcH bH scHd rfl (Or.inl rfl) (heard_gives B S M) TB rfl hmT hU hr (LamX.lamS_by (by show LamX.lamSB (defScope sRf) _ = true; decide +kernel)) rfl (fun _ _ _ _ _ => rfl) (fun A outer s H E f c hr => pe_mkT (E := E) K T.mgC T.ini (hr.mono (by decide)) lam_passX rfl (pa_cons ((pe_call G3 (hr.mono (by decide)) rfl m3 k3 b3 .nil pass0 (pa_cons (pv 0) (pa_cons (pe_lst (pa_cons (pe_non) (pa_cons (pe_int) (pa_cons (pe_lst pa_nil) (pa_cons (pe_tup pa_nil) (pa_cons (pe_str) (pa_cons (pe_dnewK) (pa_cons (pe_lst (pa_cons (pe_int) (pa_cons (pe_int) (pa_cons (pe_int) pa_nil)))) (pa_cons (pe_lst (pa_cons (pv 4) pa_nil)) (pa_cons (pe_lst (pa_cons (pe_lst (pa_cons (pe_int) (pa_cons (pe_int) (pa_cons (pe_int) pa_nil)))) (pa_cons (pv 4) pa_nil))) (pa_cons (pe_lst (pa_cons (pe_lst (pa_cons (pe_int) (pa_cons (pe_int) (pa_cons (pe_int) (pa_cons (pe_int) pa_nil))))) (pa_cons (pe_lst (pa_cons (pe_int) (pa_cons (pe_int) (pa_cons (pe_int) pa_nil)))) (pa_cons (pv 4) pa_nil)))) pa_nil))))))))))) pa_nil)))) pa_nil)))) pa_nil)))) (pss_cons (ps_expr (pe_bm PySem.F.plainAttrs_list PySem.F.slot_list_append PySem.F.type_list_append mt_append (pv 2) (pa_cons ((LamX.pe_lamcall (T := TLs) (TT := THeard CB CF CP CQ CW CT CX) (Ng := nHd) (a := "_law_ask") (k := 7) rfl mH FH.kp lkH hcH bH scHd rfl (Or.inl rfl) (heard_gives B S M) TB rfl hmT hU hr (LamX.lamS_by (by show LamX.lamSB (defScope sRf) _ = true; decide +kernel)) rfl (fun _ _ _ _ _ => rfl) (fun A outer s H E f c hr => pe_mkT (E := E) K T.mgC T.ini (hr.mono (by decide)) lam_passX rfl (pa_cons (pe_op op_cat (pe_op op_rep (pe_lst (pa_cons (pe_lst (pa_cons (pe_int) (pa_cons (pe_int) (pa_cons (pe_int) pa_nil)))) pa_nil)) (pe_int)) (pe_lst (pa_cons (pe_lst (pa_cons (pe_int) (pa_cons (pe_int) (pa_cons (pe_int) (pa_cons (pe_int) pa_nil))))) pa_nil))) pa_nil)))) pa_nil))) (pss_cons (ps_expr (pe_bm PySem.F.plainAttrs_list PySem.F.slot_list_append PySem.F.type_list_append mt_append (pv 2) (pa_cons ((LamX.pe_lamcall (T := TLs) (TT := THeard CB CF CP CQ CW CT CX) (Ng := nHd) (a := "_law_ask") (k := 7) rfl mH FH.kp lkH hcH bH scHd rfl (Or.inl rfl) (heard_gives B S M) TB rfl hmT hU hr (LamX.lamS_by (by show LamX.lamSB (defScope sRf) _ = true; decide +kernel)) rfl (fun _ _ _ _ _ => rfl) (fun A outer s H E f c hr => pe_mkT (E := E) K T.mgC T.ini (hr.mono (by decide)) lam_passX rfl (pa_cons (pe_op op_rep (pe_lst (pa_cons (pe_lst (pa_cons (pe_int) (pa_cons (pe_int) (pa_cons (pe_int) pa_nil)))) pa_nil)) (pe_int)) pa_nil)))) pa_nil))) (pss_cons (ps_expr (pe_bm PySem.F.plainAttrs_list PySem.F.slot_list_append PySem.F.type_list_append mt_append (pv 2) (pa_cons ((LamX.pe_lamcall (T := TLs) (TT := THeard CB CF CP CQ CW CT CX) (Ng := nHd) (a := "_law_ask") (k := 7) rfl mH FH.kp lkH hcH bH scHd rfl (Or.inl rfl) (heard_gives B S M) TB rfl hmT hU hr (LamX.lamS_by (by show LamX.lamSB (defScope sRf) _ = true; decide +kernel)) rfl (fun _ _ _ _ _ => rfl) (fun A outer s H E f c hr => pe_meth (E := E) (pv 8) cl Mw Gw hr bw .nil lam_passX (pa_cons (pv 4) pa_nil)))) pa_nil))) (pss_cons (ps_expr (pe_bm PySem.F.plainAttrs_list PySem.F.slot_list_append PySem.F.type_list_append mt_append (pv 2) (pa_cons ((LamX.pe_lamcall (T := TLs) (TT := THeard CB CF CP CQ CW CT CX) (Ng := nHd) (a := "_law_ask") (k := 7) rfl mH FH.kp lkH hcH bH scHd rfl (Or.inl rfl) (heard_gives B S M) TB rfl hmT hU hr (LamX.lamS_by (by show LamX.lamSB (defScope sRf) _ = true; decide +kernel)) rfl (fun _ _ _ _ _ => rfl) (fun A outer s H E f c hr => pe_meth (E := E) (pv 8) cl Mw Gw hr bw .nil lam_passX (pa_cons (pe_ifExp (pt_cmpR op_lt (pv 7) pe_int (nomark _)) (pe_op op_rep (pe_lst (pa_cons (pe_int) pa_nil)) (pe_op op_add (pv 7) pe_int)) (pe_op op_rep (pe_lst (pa_cons (pe_int) pa_nil)) (pe_int))) pa_nil)))) pa_nil))) (pss_cons ((ps_set (i := 3) nd rfl (Or.inl rfl) (pe_lst (pa_cons (pe_tup (pa_cons (pe_str) (pa_cons (pe_str) pa_nil))) (pa_cons (pe_tup (pa_cons (pe_str) (pa_cons (pe_str) pa_nil))) (pa_cons (pe_tup (pa_cons (pe_str) (pa_cons (pe_int) pa_nil))) (pa_cons (pe_tup (pa_cons (pe_str) (pa_cons (pe_str) pa_nil))) (pa_cons (pe_tup (pa_cons (pe_str) (pa_cons (pe_str) pa_nil))) pa_nil)))))))) (pss_cons ((ps_set (i := 6) nd rfl (Or.inr rfl) ((pe_call G3 (hr.mono (by decide)) rfl m3 k3 b3 .nil pass0 (pa_cons (pv 0) (pa_cons (pe_lst (pa_cons (pe_non) (pa_cons (pe_int) (pa_cons (pe_str) (pa_cons (pe_dnewK) pa_nil))))) pa_nil)))))) (pss_cons (ps_expr (pe_bm PySem.F.plainAttrs_list PySem.F.slot_list_append PySem.F.type_list_append mt_append (pv 2) (pa_cons ((LamX.pe_lamcall (T := TLs) (TT := THeard CB CF CP CQ CW CT CX) (Ng := nHd) (a := "_law_ask") (k := 7) rfl mH FH.kp lkH hcH bH scHd rfl (Or.inl rfl) (heard_gives B S M) TB rfl hmT hU hr (LamX.lamS_by (by show LamX.lamSB (defScope sRf) _ = true; decide +kernel)) rfl (fun _ _ _ _ _ => rfl) (fun A outer s H E f c hr => pe_meth (E := E) (pv 8) cl Mp Gp hr bp .nil lam_passX (pa_cons (pv 6) pa_nil)))) pa_nil))) (pss_cons (ps_expr (pe_bm PySem.F.plainAttrs_list PySem.F.slot_list_append PySem.F.type_list_append mt_append (pv 2) (pa_cons ((LamX.pe_lamcall (T := TLs) (TT := THeard CB CF CP CQ CW CT CX) (Ng := nHd) (a := "_law_ask") (k := 7) rfl mH FH.kp lkH hcH bH scHd rfl (Or.inl rfl) (heard_gives B S M) TB rfl hmT hU hr (LamX.lamS_by (by show LamX.lamSB (defScope sRf) _ = true; decide +kernel)) rfl (fun _ _ _ _ _ => rfl) (fun A outer s H E f c hr => pe_meth (E := E) (pv 8) cl Mp Gp hr bp .nil lam_passX (pa_cons (pe_lst (pa_cons (pe_int) (pa_cons (pe_int) (pa_cons (pv 5) pa_nil)))) pa_nil)))) pa_nil))) (pss_cons (ps_expr (pe_bm PySem.F.plainAttrs_list PySem.F.slot_list_append PySem.F.type_list_append mt_append (pv 2) (pa_cons ((LamX.pe_lamcall (T := TLs) (TT := THeard CB CF CP CQ CW CT CX) (Ng := nHd) (a := "_law_ask") (k := 7) rfl mH FH.kp lkH hcH bH scHd rfl (Or.inl rfl) (heard_gives B S M) TB rfl hmT hU hr (LamX.lamS_by (by show LamX.lamSB (defScope sRf) _ = true; decide +kernel)) rfl (fun _ _ _ _ _ => rfl) (fun A outer s H E f c hr => pe_meth (E := E) (pv 8) cl Mp Gp hr bp .nil lam_passX (pa_cons (pe_lst (pa_cons (pe_int) (pa_cons (pe_int) pa_nil))) pa_nil)))) pa_nil))) (pss_cons (ps_expr (pe_bm PySem.F.plainAttrs_list PySem.F.slot_list_append PySem.F.type_list_append mt_append (pv 2) (pa_cons ((LamX.pe_lamcall (T := TLs) (TT := THeard CB CF CP CQ CW CT CX) (Ng := nHd) (a := "_law_ask") (k := 7) rfl mH FH.kp lkH hcH bH scHd rfl (Or.inl rfl) (heard_gives B S M) TB rfl hmT hU hr (LamX.lamS_by (by show LamX.lamSB (defScope sRf) _ = true; decide +kernel)) rfl (fun _ _ _ _ _ => rfl) (fun A outer s H E f c hr => pe_meth (E := E) (pv 8) cl Mp Gp hr bp .nil lam_passX (pa_cons (pe_lst pa_nil) pa_nil)))) pa_nil))) (pss_cons (ps_expr (pe_bm PySem.F.plainAttrs_list PySem.F.slot_list_append PySem.F.type_list_append mt_append (pv 2) (pa_cons ((LamX.pe_lamcall (T := TLs) (TT := THeard CB CF CP CQ CW CT CX) (Ng := nHd) (a := "_law_ask") (k := 7) rfl mH FH.kp lkH hcH bH scHd rfl (Or.inl rfl) (heard_gives B S M) TB rfl hmT hU hr (LamX.lamS_by (by show LamX.lamSB (defScope sRf) _ = true; decide +kernel)) rfl (fun _ _ _ _ _ => rfl) (fun A outer s H E f c hr => pe_meth (E := E) (pv 8) cl Mi Gi hr bi .nil lam_passX (pa_cons (pv 6) pa_nil)))) pa_nil))) (pss_cons (ps_expr (pe_bm PySem.F.plainAttrs_list PySem.F.slot_list_append PySem.F.type_list_append mt_append (pv 2) (pa_cons ((LamX.pe_lamcall (T := TLs) (TT := THeard CB CF CP CQ CW CT CX) (Ng := nHd) (a := "_law_ask") (k := 7) rfl mH FH.kp lkH hcH bH scHd rfl (Or.inl rfl) (heard_gives B S M) TB rfl hmT hU hr (LamX.lamS_by (by show LamX.lamSB (defScope sRf) _ = true; decide +kernel)) rfl (fun _ _ _ _ _ => rfl) (fun A outer s H E f c hr => pe_meth (E := E) (pv 8) cl Mi Gi hr bi .nil lam_passX (pa_cons (pe_lst (pa_cons (pe_int) (pa_cons (pe_int) (pa_cons (pe_int) (pa_cons (pe_un un_neg pe_int) pa_nil))))) pa_nil)))) pa_nil))) (pss_cons (ps_expr (pe_bm PySem.F.plainAttrs_list PySem.F.slot_list_append PySem.F.type_list_append mt_append (pv 2) (pa_cons ((LamX.pe_lamcall (T := TLs) (TT := THeard CB CF CP CQ CW CT CX) (Ng := nHd) (a := "_law_ask") (k := 7) rfl mH FH.kp lkH hcH bH scHd rfl (Or.inl rfl) (heard_gives B S M) TB rfl hmT hU hr (LamX.lamS_by (by show LamX.lamSB (defScope sRf) _ = true; decide +kernel)) rfl (fun _ _ _ _ _ => rfl) (fun A outer s H E f c hr => pe_meth (E := E) (pv 8) cl Mi Gi hr bi .nil lam_passX (pa_cons (pe_lst (pa_cons (pe_int) (pa_cons (pe_int) (pa_cons (pe_int) pa_nil)))) pa_nil)))) pa_nil))) (pss_cons (ps_expr (pe_bm PySem.F.plainAttrs_list PySem.F.slot_list_append PySem.F.type_list_append mt_append (pv 2) (pa_cons ((LamX.pe_lamcall (T := TLs) (TT := THeard CB CF CP CQ CW CT CX) (Ng := nHd) (a := "_law_ask") (k := 7) rfl mH FH.kp lkH hcH bH scHd rfl (Or.inl rfl) (heard_gives B S M) TB rfl hmT hU hr (LamX.lamS_by (by show LamX.lamSB (defScope sRf) _ = true; decide +kernel)) rfl (fun _ _ _ _ _ => rfl) (fun A outer s H E f c hr => pe_meth (E := E) (pv 8) cl Mi Gi hr bi .nil lam_passX (pa_cons ((pe_listRg rfl (by rfl) B.list (prg_1 rfl B.range (pe_op op_sub (pv 7) pe_int)))) pa_nil)))) pa_nil))) (pss_cons (ps_expr (pe_bm PySem.F.plainAttrs_list PySem.F.slot_list_append PySem.F.type_list_append mt_append (pv 2) (pa_cons ((LamX.pe_lamcall (T := TLs) (TT := THeard CB CF CP CQ CW CT CX) (Ng := nHd) (a := "_law_ask") (k := 7) rfl mH FH.kp lkH hcH bH scHd rfl (Or.inl rfl) (heard_gives B S M) TB rfl hmT hU hr (LamX.lamS_by (by show LamX.lamSB (defScope sRf) _ = true; decide +kernel)) rfl (fun _ _ _ _ _ => rfl) (fun A outer s H E f c hr => pe_meth (E := E) (pv 8) cl Mp Gp hr bp .nil lam_passX (pa_cons (pe_lst (pa_cons (pe_bl) pa_nil)) pa_nil)))) pa_nil))) (pss_cons ((ps_set (i := 3) nd rfl (Or.inl rfl) (pe_op op_cat (pv 3) (pe_lst (pa_cons (pe_tup (pa_cons (pe_str) (pa_cons (pv 6) pa_nil))) (pa_cons (pe_tup (pa_cons (pe_str) (pa_cons (pv 5) pa_nil))) (pa_cons (pe_tup (pa_cons (pe_str) (pa_cons (pe_int) pa_nil))) (pa_cons (pe_tup (pa_cons (pe_str) (pa_cons (pe_str) pa_nil))) (pa_cons (pe_tup (pa_cons (pe_str) (pa_cons (pv 6) pa_nil))) (pa_cons (pe_tup (pa_cons (pe_str) (pa_cons (pe_un un_neg pe_int) pa_nil))) (pa_cons (pe_tup (pa_cons (pe_str) (pa_cons (pe_int) pa_nil))) (pa_cons (pe_tup (pa_cons (pe_str) (pa_cons (pe_str) pa_nil))) pa_nil)))))))))))) (pss_one (ps_ret (pe_cmpR (op_eqLT hr.units) (pv 2) (pe_op op_cat (pv 3) (pe_lst (pa_cons (pe_tup (pa_cons (pe_str) (pa_cons (pe_bl) pa_nil))) pa_nil))) (nomark _))))))))))))))))))))))), ?_⟩
  have okT := okl.okT hk3 hk7 hne h8
  have lds : ds.length = rs.length := ll.len
  have lx : (ds.map V.ref).length = rs.length := by rw [List.length_map, lds]
  have pos : 0 < rs.length := List.length_pos_iff.mpr hne
  have hl := head_len okl hne
  obtain ⟨d0, e0⟩ : ∃ d0, ds[0]? = some d0 := ⟨_, List.getElem?_eq_getElem (by omega)⟩
  have e0V : (ds.map V.ref)[0]? = some (.ref d0) := by rw [List.getElem?_map, e0]; rfl
  obtain ⟨r0, er0, hr0⟩ := paired_get ll.2 e0
  have hr0 : H d0 = some (.lst (r0.map V.int)) := hr0
  have lr0 := (okl r0 (List.mem_of_getElem? er0)).1
  refine ⟨_, rfl, .ref b, rfl, ll.mk okT fun A2 H2 s2 nA tf => ?_⟩
  have ll2 := ll.same s2
  refine ⟨_, rfl, b, _, 0, .ref d0, rfl, rfl, SqL.of ll2.1, atI_nat (j := 0) e0V, d0, _, rfl, .inl (SqL.of (s2 _ _ hr0)), ?_⟩
  rw [List.length_map, lr0]
  refine ⟨_, rfl, b, _, rfl, .inl (SqL.of ll2.1), ?_⟩
  rw [lx]
  refine ⟨by show 3 ≤ sizeLine; decide, fun u3 n3 => ?_⟩
  have s3 := same_new (o := .tup [V.ref A2, V.int (k : Nat), V.int (rs.length : Nat)]) n3; have g3 : upd H2 u3 (.tup [V.ref A2, V.int (k : Nat), V.int (rs.length : Nat)]) u3 = some (.tup [V.ref A2, V.int (k : Nat), V.int (rs.length : Nat)]) := upd_same; generalize upd H2 u3 (.tup [V.ref A2, V.int (k : Nat), V.int (rs.length : Nat)]) = H3 at s3 g3 ⊢
  refine ⟨u3, _, rfl, SqT.of g3, rfl, _, _, rfl, _, _, rfl, _, _, rfl, rfl, ?_⟩
  have s03 := s2.trans s3
  have tf3 := tf.same s3
  have v3 := hv.same s03
  have T3 := hT.ext s03
  clear g3 tf ll2
  -- what is no row
  refine ⟨_, rfl, ?_⟩
  refine fun a0 p0 => ?_
  have q0 := same_new (o := .dK []) p0; have h0 : upd H3 a0 (.dK []) a0 = some (.dK []) := upd_same; generalize upd H3 a0 (.dK []) = K0 at q0 h0 ⊢
  refine ⟨by show 2 ≤ sizeLine; decide, fun a1 p1 => ?_⟩
  have q1 := same_new (o := .lst [V.int 1, V.int 2]) p1; have h1 : upd K0 a1 (.lst [V.int 1, V.int 2]) a1 = some (.lst [V.int 1, V.int 2]) := upd_same; generalize upd K0 a1 (.lst [V.int 1, V.int 2]) = K1 at q1 h1 ⊢
  refine ⟨by show 1 ≤ sizeLine; decide, fun a2 p2 => ?_⟩
  have q2 := same_new (o := .lst [V.int 1]) p2; have h2 : upd K1 a2 (.lst [V.int 1]) a2 = some (.lst [V.int 1]) := upd_same; generalize upd K1 a2 (.lst [V.int 1]) = K2 at q2 h2 ⊢
  refine ⟨a2, _, _, rfl, rfl, h2, by decide, by decide, by decide, fun a3 p3 => ?_⟩
  rw [List.flatten_replicate_singleton]
  have q3 := same_new (o := .lst (List.replicate (Int.toNat 8) (V.int 1))) p3; have h3 : upd K2 a3 (.lst (List.replicate (Int.toNat 8) (V.int 1))) a3 = some (.lst (List.replicate (Int.toNat 8) (V.int 1))) := upd_same; generalize upd K2 a3 (.lst (List.replicate (Int.toNat 8) (V.int 1))) = K3 at q3 h3 ⊢
  refine ⟨by show 3 ≤ sizeLine; decide, fun a4 p4 => ?_⟩
  have q4 := same_new (o := .lst [V.int 1, V.int 2, V.bl true]) p4; have h4 : upd K3 a4 (.lst [V.int 1, V.int 2, V.bl true]) a4 = some (.lst [V.int 1, V.int 2, V.bl true]) := upd_same; generalize upd K3 a4 (.lst [V.int 1, V.int 2, V.bl true]) = K4 at q4 h4 ⊢
  refine ⟨by show 3 ≤ sizeLine; decide, fun a5 p5 => ?_⟩
  have q5 := same_new (o := .lst [V.int 1, V.int 2, V.str (PySem.Str.ofString "3")]) p5; have h5 : upd K4 a5 (.lst [V.int 1, V.int 2, V.str (PySem.Str.ofString "3")]) a5 = some (.lst [V.int 1, V.int 2, V.str (PySem.Str.ofString "3")]) := upd_same; generalize upd K4 a5 (.lst [V.int 1, V.int 2, V.str (PySem.Str.ofString "3")]) = K5 at q5 h5 ⊢
  refine ⟨_, _, rfl, rfl, ⟨by decide, by decide, by decide⟩, _, _, rfl, rfl, ?_⟩
  refine ⟨by show 3 ≤ sizeLine; decide, fun a6 p6 => ?_⟩
  have q6 := same_new (o := .lst [V.int 1, V.int 2, V.int ((10 : Int) ^ (Int.toNat 9) + 1)]) p6; have h6 : upd K5 a6 (.lst [V.int 1, V.int 2, V.int ((10 : Int) ^ (Int.toNat 9) + 1)]) a6 = some (.lst [V.int 1, V.int 2, V.int ((10 : Int) ^ (Int.toNat 9) + 1)]) := upd_same; generalize upd K5 a6 (.lst [V.int 1, V.int 2, V.int ((10 : Int) ^ (Int.toNat 9) + 1)]) = K6 at q6 h6 ⊢
  refine ⟨_, _, rfl, rfl, ⟨by decide, by decide, by decide⟩, _, rfl, _, _, rfl, rfl, ?_⟩
  refine ⟨by show 3 ≤ sizeLine; decide, fun a7 p7 => ?_⟩
  have q7 := same_new (o := .lst [V.int (-(10 : Int) ^ (Int.toNat 9) - 1), V.int 0, V.int 0]) p7; have h7 : upd K6 a7 (.lst [V.int (-(10 : Int) ^ (Int.toNat 9) - 1), V.int 0, V.int 0]) a7 = some (.lst [V.int (-(10 : Int) ^ (Int.toNat 9) - 1), V.int 0, V.int 0]) := upd_same; generalize upd K6 a7 (.lst [V.int (-(10 : Int) ^ (Int.toNat 9) - 1), V.int 0, V.int 0]) = K7 at q7 h7 ⊢
  refine ⟨by show 3 ≤ sizeLine; decide, fun a8 p8 => ?_⟩
  have q8 := same_new (o := .lst [V.int 1, V.int 2, V.int 3]) p8; have h8 : upd K7 a8 (.lst [V.int 1, V.int 2, V.int 3]) a8 = some (.lst [V.int 1, V.int 2, V.int 3]) := upd_same; generalize upd K7 a8 (.lst [V.int 1, V.int 2, V.int 3]) = K8 at q8 h8 ⊢
  refine ⟨by show 1 ≤ sizeLine; decide, fun a9 p9 => ?_⟩
  have q9 := same_new (o := .lst [V.ref a8]) p9; have h9 : upd K8 a9 (.lst [V.ref a8]) a9 = some (.lst [V.ref a8]) := upd_same; generalize upd K8 a9 (.lst [V.ref a8]) = K9 at q9 h9 ⊢
  refine ⟨by show 3 ≤ sizeLine; decide, fun a10 p10 => ?_⟩
  have q10 := same_new (o := .lst [V.int 0, V.non, V.int 0]) p10; have h10 : upd K9 a10 (.lst [V.int 0, V.non, V.int 0]) a10 = some (.lst [V.int 0, V.non, V.int 0]) := upd_same; generalize upd K9 a10 (.lst [V.int 0, V.non, V.int 0]) = K10 at q10 h10 ⊢
  have c0 : Same H3 H3 := Same.me
  have c1 := c0.trans q0
  have c2 := c1.trans q1
  have c3 := c2.trans q2
  have c4 := c3.trans q3
  have c5 := c4.trans q4
  have c6 := c5.trans q5
  have c7 := c6.trans q6
  have c8 := c7.trans q7
  have c9 := c8.trans q8
  have c10 := c9.trans q9
  have c11 := c10.trans q10
  have e1000 := v3.not_none (c0.free p0)
  have e1001 := v3.not_none (c1.free p1)
  have e1002 := v3.not_none (c2.free p2)
  have e1003 := v3.not_none (c3.free p3)
  have e1004 := v3.not_none (c4.free p4)
  have e1005 := v3.not_none (c5.free p5)
  have e1006 := v3.not_none (c6.free p6)
  have e1007 := v3.not_none (c7.free p7)
  have e1008 := v3.not_none (c8.free p8)
  have e1009 := v3.not_none (c9.free p9)
  have e1010 := v3.not_none (c10.free p10)
  have t10 : Same K10 K10 := Same.me
  have t9 := q10.trans t10
  have t8 := q9.trans t9
  have t7 := q8.trans t8
  have t6 := q7.trans t7
  have t5 := q6.trans t6
  have t4 := q5.trans t5
  have t3 := q4.trans t4
  have t2 := q3.trans t3
  have t1 := q2.trans t2
  have t0 := q1.trans t1
  have v10 := v3.same c11
  refine ⟨by show 12 ≤ sizeLine; decide, fun lo no => ?_⟩
  have qo := same_new (o := .lst [V.non, V.int 5, V.str (PySem.Str.ofString "1 2 3"), V.ref a0, V.ref a1, V.ref a3, V.ref a4, V.ref a5, V.ref a6, V.ref a7, V.ref a9, V.ref a10]) no; have go : upd K10 lo (.lst [V.non, V.int 5, V.str (PySem.Str.ofString "1 2 3"), V.ref a0, V.ref a1, V.ref a3, V.ref a4, V.ref a5, V.ref a6, V.ref a7, V.ref a9, V.ref a10]) lo = some (.lst [V.non, V.int 5, V.str (PySem.Str.ofString "1 2 3"), V.ref a0, V.ref a1, V.ref a3, V.ref a4, V.ref a5, V.ref a6, V.ref a7, V.ref a9, V.ref a10]) := upd_same; generalize upd K10 lo (.lst [V.non, V.int 5, V.str (PySem.Str.ofString "1 2 3"), V.ref a0, V.ref a1, V.ref a3, V.ref a4, V.ref a5, V.ref a6, V.ref a7, V.ref a9, V.ref a10]) = K11 at qo go ⊢
  have v11 := v10.same qo
  refine ⟨p, lo, _, _, rfl, v11, by omega, go, v10.not_none no, by show 0 < 12; decide, by show 12 ≤ 1000; decide, fun H5 bad s5 v5 hy => ?_⟩
  have f0 := s5.1 _ _ e1000 (qo _ _ (t0 _ _ h0))
  have f1 := s5.1 _ _ e1001 (qo _ _ (t1 _ _ h1))
  have f3 := s5.1 _ _ e1003 (qo _ _ (t3 _ _ h3))
  have f4 := s5.1 _ _ e1004 (qo _ _ (t4 _ _ h4))
  have f5 := s5.1 _ _ e1005 (qo _ _ (t5 _ _ h5))
  have f6 := s5.1 _ _ e1006 (qo _ _ (t6 _ _ h6))
  have f7 := s5.1 _ _ e1007 (qo _ _ (t7 _ _ h7))
  have f8 := s5.1 _ _ e1008 (qo _ _ (t8 _ _ h8))
  have f9 := s5.1 _ _ e1009 (qo _ _ (t9 _ _ h9))
  have f10 := s5.1 _ _ e1010 (qo _ _ (t10 _ _ h10))
  have nb : NoR K p H5 bad := by
    simp only [List.mem_cons, List.not_mem_nil, or_false] at hy
    rcases hy with rfl | rfl | rfl | rfl | rfl | rfl | rfl | rfl | rfl | rfl | rfl | rfl
    · exact nor_kd fun M _ => .non
    · exact nor_kd fun M _ => .int 5
    · exact nor_kd fun M _ => .str _
    · exact nor_kd fun M k => .dK (k _ _ e1000 (by intro ps z; cases z) f0)
    · exact nor_lst f1 e1001 (fun x hx M _ => kd_fl (xs := [V.int 1, V.int 2]) (by decide) x hx M) (by decide) (by decide +kernel)
    · exact nor_lst f3 e1003 (fun x hx M _ => kd_fl (xs := List.replicate (Int.toNat 8) (V.int 1)) (by decide) x hx M) (by decide) (by decide +kernel)
    · exact nor_lst f4 e1004 (fun x hx M _ => kd_fl (xs := [V.int 1, V.int 2, V.bl true]) (by decide) x hx M) (by decide) (by decide +kernel)
    · exact nor_lst f5 e1005 (fun x hx M _ => kd_fl (xs := [V.int 1, V.int 2, V.str (PySem.Str.ofString "3")]) (by decide) x hx M) (by decide) (by decide +kernel)
    · exact nor_lst f6 e1006 (fun x hx M _ => kd_fl (xs := [V.int 1, V.int 2, V.int ((10 : Int) ^ (Int.toNat 9) + 1)]) (by decide) x hx M) (by decide) (by decide +kernel)
    · exact nor_lst f7 e1007 (fun x hx M _ => kd_fl (xs := [V.int (-(10 : Int) ^ (Int.toNat 9) - 1), V.int 0, V.int 0]) (by decide) x hx M) (by decide) (by decide +kernel)
    · exact nor_lst f9 e1009 (fun x hx M k => by rw [List.mem_singleton.mp hx]; exact ⟨_, .lst (keptl f8 e1008 k)⟩) (by show 1 ≤ 100; decide) rfl
    · exact nor_lst f10 e1010 (fun x hx M _ => kd_fl (xs := [V.int 0, V.non, V.int 0]) (by decide) x hx M) (by decide) (by decide +kernel)
  clear f0 f1 f3 f4 f5 f6 f7 f8 f9 f10 e1000 e1001 e1002 e1003 e1004 e1005 e1006 e1007 e1008 e1009 e1010 h0 h1 h2 h3 h4 h5 h6 h7 h8 h9 h10
  have z35 : Kz p H3 H5 := ((Kz.same c11).trans (Kz.same qo)).trans (Kz.ofS s5)
  have T5 := tabs_sb ((T3.ext c11).ext qo) v11 s5
  have tf5 := tf3.kq v3 z35.k
  dsimp only [gName, tSeq, tAsg]
  refine first_in (TL := TLs) (p := p) (n := n + 1) (e := ("tray", .str "rows")) v5 T5 (fun Q1 N HC kqC vC TC hN wish => ?_) (fun H6 l H7 z6 v6 nl st => ?_)
  · refine ⟨_, rfl, ?_⟩
    refine ⟨by show 0 ≤ sizeLine; decide, fun b0 p0' => ?_⟩
    have j0 := same_new (o := .lst []) p0'; have g0 : upd HC b0 (.lst []) b0 = some (.lst []) := upd_same; generalize upd HC b0 (.lst []) = J0 at j0 g0 ⊢
    refine ⟨by show 0 ≤ sizeLine; decide, fun b1 p1' => ?_⟩
    have j1 := same_new (o := .tup []) p1'; have g1 : upd J0 b1 (.tup []) b1 = some (.tup []) := upd_same; generalize upd J0 b1 (.tup []) = J1 at j1 g1 ⊢
    refine fun b2 p2' => ?_
    have j2 := same_new (o := .dK []) p2'; have g2 : upd J1 b2 (.dK []) b2 = some (.dK []) := upd_same; generalize upd J1 b2 (.dK []) = J2 at j2 g2 ⊢
    refine ⟨by show 3 ≤ sizeLine; decide, fun b3 p3' => ?_⟩
    have j3 := same_new (o := .lst [V.int 1, V.int 2, V.int 3]) p3'; have g3 : upd J2 b3 (.lst [V.int 1, V.int 2, V.int 3]) b3 = some (.lst [V.int 1, V.int 2, V.int 3]) := upd_same; generalize upd J2 b3 (.lst [V.int 1, V.int 2, V.int 3]) = J3 at j3 g3 ⊢
    refine ⟨_, rfl, by show 1 ≤ sizeLine; decide, fun b4 p4' => ?_⟩
    have j4 := same_new (o := .lst [bad]) p4'; have g4 : upd J3 b4 (.lst [bad]) b4 = some (.lst [bad]) := upd_same; generalize upd J3 b4 (.lst [bad]) = J4 at j4 g4 ⊢
    refine ⟨by show 3 ≤ sizeLine; decide, fun b5 p5' => ?_⟩
    have j5 := same_new (o := .lst [V.int 1, V.int 2, V.int 3]) p5'; have g5 : upd J4 b5 (.lst [V.int 1, V.int 2, V.int 3]) b5 = some (.lst [V.int 1, V.int 2, V.int 3]) := upd_same; generalize upd J4 b5 (.lst [V.int 1, V.int 2, V.int 3]) = J5 at j5 g5 ⊢
    refine ⟨_, rfl, by show 2 ≤ sizeLine; decide, fun b6 p6' => ?_⟩
    have j6 := same_new (o := .lst [V.ref b5, bad]) p6'; have g6 : upd J5 b6 (.lst [V.ref b5, bad]) b6 = some (.lst [V.ref b5, bad]) := upd_same; generalize upd J5 b6 (.lst [V.ref b5, bad]) = J6 at j6 g6 ⊢
    refine ⟨by show 4 ≤ sizeLine; decide, fun b7 p7' => ?_⟩
    have j7 := same_new (o := .lst [V.int 1, V.int 2, V.int 3, V.int 4]) p7'; have g7 : upd J6 b7 (.lst [V.int 1, V.int 2, V.int 3, V.int 4]) b7 = some (.lst [V.int 1, V.int 2, V.int 3, V.int 4]) := upd_same; generalize upd J6 b7 (.lst [V.int 1, V.int 2, V.int 3, V.int 4]) = J7 at j7 g7 ⊢
    refine ⟨by show 3 ≤ sizeLine; decide, fun b8 p8' => ?_⟩
    have j8 := same_new (o := .lst [V.int 1, V.int 2, V.int 3]) p8'; have g8 : upd J7 b8 (.lst [V.int 1, V.int 2, V.int 3]) b8 = some (.lst [V.int 1, V.int 2, V.int 3]) := upd_same; generalize upd J7 b8 (.lst [V.int 1, V.int 2, V.int 3]) = J8 at j8 g8 ⊢
    refine ⟨_, rfl, by show 3 ≤ sizeLine; decide, fun b9 p9' => ?_⟩
    have j9 := same_new (o := .lst [V.ref b7, V.ref b8, bad]) p9'; have g9 : upd J8 b9 (.lst [V.ref b7, V.ref b8, bad]) b9 = some (.lst [V.ref b7, V.ref b8, bad]) := upd_same; generalize upd J8 b9 (.lst [V.ref b7, V.ref b8, bad]) = J9 at j9 g9 ⊢
    have c0 : Same HC HC := Same.me
    have c1 := c0.trans j0
    have c2 := c1.trans j1
    have c3 := c2.trans j2
    have c4 := c3.trans j3
    have c5 := c4.trans j4
    have c6 := c5.trans j5
    have c7 := c6.trans j6
    have c8 := c7.trans j7
    have c9 := c8.trans j8
    have c10 := c9.trans j9
    have t9 : Same J9 J9 := Same.me
    have t8 := j9.trans t9
    have t7 := j8.trans t8
    have t6 := j7.trans t7
    have t5 := j6.trans t6
    have t4 := j5.trans t5
    have t3 := j4.trans t4
    have t2 := j3.trans t3
    have t1 := j2.trans t2
    have t0 := j1.trans t1
    have e1000 := vC.not_none (c0.free p0')
    have e1001 := vC.not_none (c1.free p1')
    have e1002 := vC.not_none (c2.free p2')
    have e1003 := vC.not_none (c3.free p3')
    have e1004 := vC.not_none (c4.free p4')
    have e1005 := vC.not_none (c5.free p5')
    have e1006 := vC.not_none (c6.free p6')
    have e1007 := vC.not_none (c7.free p7')
    have e1008 := vC.not_none (c8.free p8')
    have e1009 := vC.not_none (c9.free p9')
    refine ⟨by show 10 ≤ sizeLine; decide, fun lo no => ?_⟩
    have vJ := vC.same c10
    have qo := same_new (o := .lst [V.non, V.int 5, V.ref b0, V.ref b1, V.str (PySem.Str.ofString "1 2 3"), V.ref b2, V.ref b3, V.ref b4, V.ref b6, V.ref b9]) no; have go : upd J9 lo (.lst [V.non, V.int 5, V.ref b0, V.ref b1, V.str (PySem.Str.ofString "1 2 3"), V.ref b2, V.ref b3, V.ref b4, V.ref b6, V.ref b9]) lo = some (.lst [V.non, V.int 5, V.ref b0, V.ref b1, V.str (PySem.Str.ofString "1 2 3"), V.ref b2, V.ref b3, V.ref b4, V.ref b6, V.ref b9]) := upd_same; generalize upd J9 lo (.lst [V.non, V.int 5, V.ref b0, V.ref b1, V.str (PySem.Str.ofString "1 2 3"), V.ref b2, V.ref b3, V.ref b4, V.ref b6, V.ref b9]) = JO at qo go ⊢
    refine ⟨p, lo, _, _, rfl, vJ.same qo, by omega, go, vJ.not_none no, by show 0 < 10; decide, by show 10 ≤ 1000; decide, fun HE y sE vE hy => ⟨y, rfl, .inl ⟨?_, rB fun H8 x s8 g8 => wish H8 x (((Kz.same (c10.trans qo)).trans (Kz.ofS sE)).trans (Kz.same s8)) (vE.same s8) ((tabs_sb (TC.ext (c10.trans qo)) (vJ.same qo) sE).ext s8) g8⟩⟩⟩
    have f0 := sE.1 _ _ e1000 (qo _ _ (t0 _ _ g0))
    have f1 := sE.1 _ _ e1001 (qo _ _ (t1 _ _ g1))
    have f2 := sE.1 _ _ e1002 (qo _ _ (t2 _ _ g2))
    have f3 := sE.1 _ _ e1003 (qo _ _ (t3 _ _ g3))
    have f4 := sE.1 _ _ e1004 (qo _ _ (t4 _ _ g4))
    have f5 := sE.1 _ _ e1005 (qo _ _ (t5 _ _ g5))
    have f6 := sE.1 _ _ e1006 (qo _ _ (t6 _ _ g6))
    have f7 := sE.1 _ _ e1007 (qo _ _ (t7 _ _ g7))
    have f8 := sE.1 _ _ e1008 (qo _ _ (t8 _ _ g8))
    have f9 := sE.1 _ _ e1009 (qo _ _ (t9 _ _ g9))
    have nbE := nb HE (kqC.trans ((kq_same (c10.trans qo)).trans (Kq.ofS sE)))
    simp only [List.mem_cons, List.not_mem_nil, or_false] at hy
    rcases hy with rfl | rfl | rfl | rfl | rfl | rfl | rfl | rfl | rfl | rfl
    · exact .inl .non
    · exact .inl (.int 5)
    · exact .inr (.inl ⟨b0, rfl, .inl f0⟩)
    · exact .inr (.inl ⟨b1, rfl, .inr f1⟩)
    · exact .inl (.str _)
    · exact .inl (.dK f2)
    · exact .inr (.inr ⟨b3, _, [false, false, false], rfl, .inl f3, by simp, by decide, .cons (.no (.int 1)) (.cons (.no (.int 2)) (.cons (.no (.int 3)) .nil)), rfl⟩)
    · exact .inr (.inr ⟨b4, _, [false], rfl, .inl f4, by simp, by show 1 ≤ 100; decide, .cons nbE .nil, rfl⟩)
    · exact .inr (.inr ⟨b6, _, [rowB [V.int 1, V.int 2, V.int 3], false], rfl, .inl f6, by simp, by show 2 ≤ 100; decide, .cons (.seq (.inl f5) (fun x hx => kd_fl (xs := [V.int 1, V.int 2, V.int 3]) (by decide) x hx HE) (by decide)) (.cons nbE .nil), by decide +kernel⟩)
    · exact .inr (.inr ⟨b9, _, [rowB [V.int 1, V.int 2, V.int 3, V.int 4], rowB [V.int 1, V.int 2, V.int 3], false], rfl, .inl f9, by simp, by show 3 ≤ 100; decide, .cons (.seq (.inl f7) (fun x hx => kd_fl (xs := [V.int 1, V.int 2, V.int 3, V.int 4]) (by decide) x hx HE) (by decide)) (.cons (.seq (.inl f8) (fun x hx => kd_fl (xs := [V.int 1, V.int 2, V.int 3]) (by decide) x hx HE) (by decide)) (.cons nbE .nil)), by decide +kernel⟩)
  clear hy nA
  have tf6 := tf5.kq v5 z6.k
  have nb6 := nb.kq z6.k
  refine app_in (i := 2) (e := ("misfit", .str "pins")) rfl st v6 (by decide) (fun Q1 N HC kq kp hN hr => ?_) (fun H8 st _ => ?_)
  · have ok3 : OkR [1, 2, 3] := ⟨by decide, by decide, by decide +kernel⟩
    have ok4 : OkR [1, 2, 3, 4] := ⟨by decide, by decide, by decide +kernel⟩
    refine ⟨by show 3 ≤ sizeLine; decide, fun b0 m0 => ?_⟩
    have j0 := same_new (o := .lst [V.int 1, V.int 2, V.int 3]) m0; have g0 : upd HC b0 (.lst [V.int 1, V.int 2, V.int 3]) b0 = some (.lst [V.int 1, V.int 2, V.int 3]) := upd_same; generalize upd HC b0 (.lst [V.int 1, V.int 2, V.int 3]) = J0 at j0 g0 ⊢
    refine ⟨by show 1 ≤ sizeLine; decide, fun b1 m1' => ?_⟩
    have j1 := same_new (o := .lst [V.ref b0]) m1'; have g1 : upd J0 b1 (.lst [V.ref b0]) b1 = some (.lst [V.ref b0]) := upd_same; generalize upd J0 b1 (.lst [V.ref b0]) = J1 at j1 g1 ⊢
    refine ⟨b1, _, _, rfl, rfl, g1, by decide, by decide, by show 1 * Int.toNat 8 ≤ sizeLine; decide, fun b2 m2' => ?_⟩
    rw [List.flatten_replicate_singleton]
    have j2 := same_new (o := .lst (List.replicate (Int.toNat 8) (V.ref b0))) m2'; have g2 : upd J1 b2 (.lst (List.replicate (Int.toNat 8) (V.ref b0))) b2 = some (.lst (List.replicate (Int.toNat 8) (V.ref b0))) := upd_same; generalize upd J1 b2 (.lst (List.replicate (Int.toNat 8) (V.ref b0))) = J2 at j2 g2 ⊢
    refine ⟨by show 4 ≤ sizeLine; decide, fun b3 m3' => ?_⟩
    have j3 := same_new (o := .lst [V.int 1, V.int 2, V.int 3, V.int 4]) m3'; have g3 : upd J2 b3 (.lst [V.int 1, V.int 2, V.int 3, V.int 4]) b3 = some (.lst [V.int 1, V.int 2, V.int 3, V.int 4]) := upd_same; generalize upd J2 b3 (.lst [V.int 1, V.int 2, V.int 3, V.int 4]) = J3 at j3 g3 ⊢
    refine ⟨by show 1 ≤ sizeLine; decide, fun b4 m4' => ?_⟩
    have j4 := same_new (o := .lst [V.ref b3]) m4'; have g4 : upd J3 b4 (.lst [V.ref b3]) b4 = some (.lst [V.ref b3]) := upd_same; generalize upd J3 b4 (.lst [V.ref b3]) = J4 at j4 g4 ⊢
    refine ⟨b2, b4, _, _, rfl, rfl, j4 _ _ (j3 _ _ g2), g4, by show (List.replicate (Int.toNat 8) (V.ref b0)).length + 1 ≤ sizeLine; rw [List.length_replicate]; decide, fun b5 m5' => ?_⟩
    have j5 := same_new (o := .lst (List.replicate (Int.toNat 8) (V.ref b0) ++ [V.ref b3])) m5'; have g5 : upd J4 b5 (.lst (List.replicate (Int.toNat 8) (V.ref b0) ++ [V.ref b3])) b5 = some (.lst (List.replicate (Int.toNat 8) (V.ref b0) ++ [V.ref b3])) := upd_same; generalize upd J4 b5 (.lst (List.replicate (Int.toNat 8) (V.ref b0) ++ [V.ref b3])) = J5 at j5 g5 ⊢
    have s35 := j3.trans (j4.trans j5)
    have s15 := j1.trans (j2.trans s35)
    refine ⟨.ref b5, rfl, .inr ⟨b5, _, List.replicate (Int.toNat 8) [1, 2, 3] ++ [[1, 2, 3, 4]], rfl, .inl g5, paired_app (paired_rp ⟨b0, rfl, .inl (s15 _ _ g0)⟩ _) (.cons ⟨b3, rfl, .inl ((j4.trans j5) _ _ g3)⟩ .nil), fun r hr' => ?_, by simp, by decide, fun _ => rF (hr.same (j0.trans s15)), fun z => absurd z (by decide +kernel), fun z => absurd z (by decide +kernel)⟩⟩
    rcases List.mem_append.mp hr' with z | z
    · rw [(List.mem_replicate.mp z).2]
      exact ok3
    · rw [List.mem_singleton.mp z]
      exact ok4
  refine app_in (i := 2) (e := ("rows", .int 8)) rfl st v6 (by decide) (fun Q1 N HC kq kp hN hr => ?_) (fun H9 st _ => ?_)
  · have ok3 : OkR [1, 2, 3] := ⟨by decide, by decide, by decide +kernel⟩
    refine ⟨by show 3 ≤ sizeLine; decide, fun b0 m0 => ?_⟩
    have j0 := same_new (o := .lst [V.int 1, V.int 2, V.int 3]) m0; have g0 : upd HC b0 (.lst [V.int 1, V.int 2, V.int 3]) b0 = some (.lst [V.int 1, V.int 2, V.int 3]) := upd_same; generalize upd HC b0 (.lst [V.int 1, V.int 2, V.int 3]) = J0 at j0 g0 ⊢
    refine ⟨by show 1 ≤ sizeLine; decide, fun b1 m1' => ?_⟩
    have j1 := same_new (o := .lst [V.ref b0]) m1'; have g1 : upd J0 b1 (.lst [V.ref b0]) b1 = some (.lst [V.ref b0]) := upd_same; generalize upd J0 b1 (.lst [V.ref b0]) = J1 at j1 g1 ⊢
    refine ⟨b1, _, _, rfl, rfl, g1, by decide, by decide, by show 1 * Int.toNat 9 ≤ sizeLine; decide, fun b2 m2' => ?_⟩
    rw [List.flatten_replicate_singleton]
    have j2 := same_new (o := .lst (List.replicate (Int.toNat 9) (V.ref b0))) m2'; have g2 : upd J1 b2 (.lst (List.replicate (Int.toNat 9) (V.ref b0))) b2 = some (.lst (List.replicate (Int.toNat 9) (V.ref b0))) := upd_same; generalize upd J1 b2 (.lst (List.replicate (Int.toNat 9) (V.ref b0))) = J2 at j2 g2 ⊢
    have s12 := j1.trans j2
    refine ⟨.ref b2, rfl, .inr ⟨b2, _, List.replicate (Int.toNat 9) [1, 2, 3], rfl, .inl g2, paired_rp ⟨b0, rfl, .inl (s12 _ _ g0)⟩ _, fun r hr' => ?_, by decide, by decide, fun z => absurd z (by decide +kernel), fun _ _ => rT (hr.same (j0.trans s12)), fun _ z => absurd z (by decide)⟩⟩
    rw [(List.mem_replicate.mp hr').2]
    exact ok3
  refine app_in (i := 2) (e := ("tray", .str "places")) rfl st v6 (by decide) (fun Q1 N HC kq kp hN hr => ?_) (fun H10 st _ => ?_)
  · have tfC := tf6.kq v6 kq
    exact ⟨_, rfl, meth_in tfC (fun _ _ _ => rfl) ⟨_, rfl, A2, bad, rs, rfl, tfC, okT, .inl ⟨nb6 _ kq, rB hr⟩⟩⟩
  refine app_in (i := 2) (e := ("misfit", .str "pins")) rfl st v6 (by decide) (fun Q1 N HC kq kp hN hr => ?_) (fun H11 st _ => ?_)
  · have tfC := tf6.kq v6 kq
    have done : ∀ (m : Nat) (c : Addr) (HD : Hp), 3 ≤ m → m ≤ 7 → m ≠ k → Same HC HD → HD c = some (.lst (List.replicate m (V.int 0))) → spWR K C CB CF CT [.ref A2, .ref c] HD N (EHd CB CF CP CQ CW CT CX Q1) := fun m c HD h3 h7 hk' s g => ⟨A2, .ref c, rs, rfl, tfC.same s, okT, .inr ⟨List.replicate m 0, ⟨c, rfl, .inl (by rw [g, rep_ints])⟩, ⟨by rw [List.length_replicate]; exact h3, by rw [List.length_replicate]; exact h7, fun x hx => by rw [(List.mem_replicate.mp hx).2]; exact ⟨by decide, by decide⟩⟩, by
      have al := alike_no (r := List.replicate m 0) okl hne (by rw [List.length_replicate]; exact hk')
      exact ⟨fun _ => rF (hr.same s), fun z => (by rw [al] at z; cases z), fun z => (by rw [al] at z; cases z)⟩⟩⟩
    refine ⟨_, rfl, meth_in tfC (fun _ _ _ => rfl) ⟨_, rfl, _, _, rfl, rfl, _, rfl, ?_⟩⟩
    by_cases h7 : k < 7
    · rw [decide_eq_true (show ((k : Nat) : Int) < 7 by omega)]
      refine iteT ⟨by show 1 ≤ sizeLine; decide, fun b0 m0 => ?_⟩
      have j0 := same_new (o := .lst [V.int 0]) m0; have g0 : upd HC b0 (.lst [V.int 0]) b0 = some (.lst [V.int 0]) := upd_same; generalize upd HC b0 (.lst [V.int 0]) = J0 at j0 g0 ⊢
      refine ⟨_, rfl, _, _, rfl, rfl, b0, _, _, rfl, rfl, g0, by omega, by omega, Nat.le_of_lt (small1000 (by show 1 * ((k : Int) + 1).toNat ≤ 1000; omega)), fun b1 m1' => ?_⟩
      rw [List.flatten_replicate_singleton, show ((k : Int) + 1).toNat = k + 1 by omega]
      exact done (k + 1) b1 _ (by omega) (by omega) (by omega) (j0.trans (same_new m1')) upd_same
    · rw [decide_eq_false (show ¬ ((k : Nat) : Int) < 7 by omega)]
      refine iteF ⟨by show 1 ≤ sizeLine; decide, fun b0 m0 => ?_⟩
      have j0 := same_new (o := .lst [V.int 0]) m0; have g0 : upd HC b0 (.lst [V.int 0]) b0 = some (.lst [V.int 0]) := upd_same; generalize upd HC b0 (.lst [V.int 0]) = J0 at j0 g0 ⊢
      refine ⟨b0, _, _, rfl, rfl, g0, by decide, by decide, by show 1 * Int.toNat 3 ≤ sizeLine; decide, fun b1 m1' => ?_⟩
      rw [List.flatten_replicate_singleton]
      exact done 3 b1 _ (by decide) (by decide) (by omega) (j0.trans (same_new m1')) upd_same
  dsimp only [gName, tSeq, tAsg]
  refine due5n st (fun _ h => ent_ss h) (fun _ _ _ h => ent_ss h) (fun _ _ _ h => ent_si h) (fun _ _ _ h => ent_ss h) (fun _ _ _ h => ent_ss h) fun d H12 st _ => ?_
  -- what is odd
  refine ⟨_, rfl, fun o po => ?_⟩
  have so := same_new (o := .dK []) po; have go' : upd H12 o (.dK []) o = some (.dK []) := upd_same; generalize upd H12 o (.dK []) = H13 at so go' ⊢
  refine ⟨by show 4 ≤ sizeLine; decide, fun l2 pl2 => ?_⟩
  have sl2 := same_new (o := .lst [V.non, V.int 5, V.str (PySem.Str.ofString "0"), V.ref o]) pl2; have gl2 : upd H13 l2 (.lst [V.non, V.int 5, V.str (PySem.Str.ofString "0"), V.ref o]) l2 = some (.lst [V.non, V.int 5, V.str (PySem.Str.ofString "0"), V.ref o]) := upd_same; generalize upd H13 l2 (.lst [V.non, V.int 5, V.str (PySem.Str.ofString "0"), V.ref o]) = H14 at sl2 gl2 ⊢
  have st4 := (st.same so).same sl2
  have nop := st.v.not_none po
  have nlo : l ≠ o := fun z => by
    obtain ⟨xs, hx, _⟩ := st.at
    rw [z, po] at hx
    cases hx
  refine ⟨p, l2, _, _, rfl, st4.v, by omega, gl2, (st.same so).v.not_none pl2, by show 0 < 4; decide, by show 4 ≤ 1000; decide, fun H15 odd s15 v15 hy => ?_⟩
  have ko : ∀ Mm, Kpl p l H15 Mm → Kd K Mm odd false ∧ (flatB odd = true ∨ ∃ a, odd = .ref a) := by
    have fo := s15.1 _ _ nop (sl2 _ _ go')
    simp only [List.mem_cons, List.not_mem_nil, or_false] at hy
    rcases hy with rfl | rfl | rfl | rfl
    · exact fun Mm _ => ⟨.non, .inl rfl⟩
    · exact fun Mm _ => ⟨.int 5, .inl rfl⟩
    · exact fun Mm _ => ⟨.str _, .inl rfl⟩
    · exact fun Mm k => ⟨.dK (k _ _ nop nlo.symm (by intro ps z; cases z) fo), .inr ⟨o, rfl⟩⟩
  have st := st4.draw s15 v15
  clear st4 hy
  dsimp only
  have kk0 := Kpl.refl p l H15
  refine app_in (i := 2) (e := ("picture", odd)) rfl st v6 (by simp) (fun Q1 N HC kq kp hN hr => ?_) (fun G0 st kp0 => ?_)
  · have tfC := tf6.kq v6 kq
    have kc := kk0.trans kp
    exact ⟨_, rfl, meth_in tfC (fun _ _ _ => rfl) ⟨_, rfl, A2, odd, rs, rfl, tfC, okT, .inl ⟨odd, .no (ko _ kc).1, rQ hr⟩⟩⟩
  have kk1 := kk0.trans kp0
  refine app_in (i := 2) (e := ("picture", .int (rs.length : Nat))) rfl st v6 (by simp) (fun Q1 N HC kq kp hN hr => ?_) (fun G1 st kp1 => ?_)
  · have tfC := tf6.kq v6 kq
    have kc := kk1.trans kp
    refine ⟨_, rfl, meth_in tfC (fun _ _ _ => rfl) ⟨_, rfl, by show 3 ≤ sizeLine; decide, fun c0 m0 => ?_⟩⟩
    have j0 := same_new (o := .lst [V.int 0, V.int 0, V.int (rs.length : Nat)]) m0; have g0 : upd HC c0 (.lst [V.int 0, V.int 0, V.int (rs.length : Nat)]) c0 = some (.lst [V.int 0, V.int 0, V.int (rs.length : Nat)]) := upd_same; generalize upd HC c0 (.lst [V.int 0, V.int 0, V.int (rs.length : Nat)]) = J0 at j0 g0 ⊢
    have tfJ := tfC.same j0
    have hrJ := hr.same j0
    refine ⟨A2, .ref c0, rs, rfl, tfJ, okT, .inl ⟨.int (rs.length : Nat), wj_at g0 (fun x hx => kd_fl (xs := [V.int 0, V.int 0, V.int (rs.length : Nat)]) (by rfl) x hx J0) (by show 3 ≤ 100; decide) ?_, rQ hrJ⟩⟩
    have y0 : pinOk rs.length (.int 0) = true := pin_y (n := 0) pos
    rw [List.find?_cons, y0, List.find?_cons, y0, List.find?_cons, pin_n (k := rs.length) (n := rs.length) (by omega)]
    rfl
  have kk2 := kk1.trans kp1
  refine app_in (i := 2) (e := ("twice", .int 0)) rfl st v6 (by simp) (fun Q1 N HC kq kp hN hr => ?_) (fun G2 st kp2 => ?_)
  · have tfC := tf6.kq v6 kq
    have kc := kk2.trans kp
    refine ⟨_, rfl, meth_in tfC (fun _ _ _ => rfl) ⟨by show 2 ≤ sizeLine; decide, fun c0 m0 => ?_⟩⟩
    have j0 := same_new (o := .lst [V.int 0, V.int 0]) m0; have g0 : upd HC c0 (.lst [V.int 0, V.int 0]) c0 = some (.lst [V.int 0, V.int 0]) := upd_same; generalize upd HC c0 (.lst [V.int 0, V.int 0]) = J0 at j0 g0 ⊢
    have tfJ := tfC.same j0
    have hrJ := hr.same j0
    refine ⟨A2, .ref c0, rs, rfl, tfJ, okT, .inr ⟨c0, [0, 0], rfl, ⟨.inl g0, by decide, fun x hx => ?_⟩, fun z => absurd z (by simp), fun z => absurd z (by simp), fun j tw => ?_⟩⟩
    · simp at hx
      omega
    · rw [tw_00 tw]
      exact rW hrJ
  have kk3 := kk2.trans kp2
  refine app_in (i := 2) (e := ("tray", .str "rows")) rfl st v6 (by simp) (fun Q1 N HC kq kp hN hr => ?_) (fun G3 st kp3 => ?_)
  · have tfC := tf6.kq v6 kq
    have kc := kk3.trans kp
    refine ⟨_, rfl, meth_in tfC (fun _ _ _ => rfl) ⟨by show 0 ≤ sizeLine; decide, fun c0 m0 => ?_⟩⟩
    have j0 := same_new (o := .lst []) m0; have g0 : upd HC c0 (.lst []) c0 = some (.lst []) := upd_same; generalize upd HC c0 (.lst []) = J0 at j0 g0 ⊢
    have tfJ := tfC.same j0
    have hrJ := hr.same j0
    exact ⟨A2, .ref c0, rs, rfl, tfJ, okT, .inr ⟨c0, [], rfl, ⟨.inl g0, by decide, fun x hx => absurd hx List.not_mem_nil⟩, fun _ => rB hrJ, fun _ z => absurd rfl z, fun j tw => absurd tw no_tw⟩⟩
  have kk4 := kk3.trans kp3
  refine app_in (i := 2) (e := ("pin", odd)) rfl st v6 (by simp) (fun Q1 N HC kq kp hN hr => ?_) (fun G4 st kp4 => ?_)
  · have tfC := tf6.kq v6 kq
    have kc := kk4.trans kp
    exact ⟨_, rfl, meth_in tfC (fun _ _ _ => rfl) ⟨_, rfl, A2, odd, rs, rfl, tfC, okT, .inl ⟨odd, .no (ko _ kc).1, rP hr⟩⟩⟩
  have kk5 := kk4.trans kp4
  refine app_in (i := 2) (e := ("pin", .int (-1))) rfl st v6 (by simp) (fun Q1 N HC kq kp hN hr => ?_) (fun G5 st kp5 => ?_)
  · have tfC := tf6.kq v6 kq
    have kc := kk5.trans kp
    refine ⟨_, rfl, meth_in tfC (fun _ _ _ => rfl) ⟨_, rfl, by show 4 ≤ sizeLine; decide, fun c0 m0 => ?_⟩⟩
    have j0 := same_new (o := .lst [V.int 0, V.int 1, V.int 1, V.int (-1)]) m0; have g0 : upd HC c0 (.lst [V.int 0, V.int 1, V.int 1, V.int (-1)]) c0 = some (.lst [V.int 0, V.int 1, V.int 1, V.int (-1)]) := upd_same; generalize upd HC c0 (.lst [V.int 0, V.int 1, V.int 1, V.int (-1)]) = J0 at j0 g0 ⊢
    have tfJ := tfC.same j0
    have hrJ := hr.same j0
    refine ⟨A2, .ref c0, rs, rfl, tfJ, okT, .inl ⟨.int (-1), wj_at g0 (fun x hx => kd_fl (xs := [V.int 0, V.int 1, V.int 1, V.int (-1)]) (by rfl) x hx J0) (by show 4 ≤ 100; decide) ?_, rP hrJ⟩⟩
    rw [hl]
    have y0 : pinOk k (.int 0) = true := pin_y (n := 0) (by omega)
    have y1 : pinOk k (.int 1) = true := pin_y (n := 1) (by omega)
    rw [List.find?_cons, y0, List.find?_cons, y1, List.find?_cons, y1, List.find?_cons, show pinOk k (.int (-1)) = false from rfl]
    rfl
  have kk6 := kk5.trans kp5
  refine app_in (i := 2) (e := ("twice", .int 2)) rfl st v6 (by simp) (fun Q1 N HC kq kp hN hr => ?_) (fun G6 st kp6 => ?_)
  · have tfC := tf6.kq v6 kq
    have kc := kk6.trans kp
    refine ⟨_, rfl, meth_in tfC (fun _ _ _ => rfl) ⟨by show 3 ≤ sizeLine; decide, fun c0 m0 => ?_⟩⟩
    have j0 := same_new (o := .lst [V.int 2, V.int 1, V.int 2]) m0; have g0 : upd HC c0 (.lst [V.int 2, V.int 1, V.int 2]) c0 = some (.lst [V.int 2, V.int 1, V.int 2]) := upd_same; generalize upd HC c0 (.lst [V.int 2, V.int 1, V.int 2]) = J0 at j0 g0 ⊢
    have tfJ := tfC.same j0
    have hrJ := hr.same j0
    refine ⟨A2, .ref c0, rs, rfl, tfJ, okT, .inr ⟨c0, [2, 1, 2], rfl, ⟨.inl g0, by decide, fun x hx => ?_⟩, fun z => absurd z (by simp), fun z => absurd z (by simp), fun j tw => ?_⟩⟩
    · simp at hx
      omega
    · rw [tw_212 tw]
      exact rW hrJ
  have kk7 := kk6.trans kp6
  refine app_in (i := 2) (e := ("misfit", .str "pins")) rfl st v6 (by simp) (fun Q1 N HC kq kp hN hr => ?_) (fun G7 st kp7 => ?_)
  · have tfC := tf6.kq v6 kq
    have kc := kk7.trans kp
    refine ⟨_, rfl, meth_in tfC (fun _ _ _ => rfl) ⟨_, rfl, _, _, rfl, rfl, ((k : Int) - 1), rfl, RgOk.of_le (by decide) (by omega) (by decide) (by omega), fun c0 m0 => ?_⟩⟩
    rw [show ((k : Nat) : Int) - 1 = ((k - 1 : Nat) : Int) by omega, rg_nV]
    have j0 := same_new (o := .lst (nV (List.range (k - 1)))) m0; have g0 : upd HC c0 (.lst (nV (List.range (k - 1)))) c0 = some (.lst (nV (List.range (k - 1)))) := upd_same; generalize upd HC c0 (.lst (nV (List.range (k - 1)))) = J0 at j0 g0 ⊢
    exact ⟨A2, .ref c0, rs, rfl, tfC.same j0, okT, .inr ⟨c0, List.range (k - 1), rfl, ⟨.inl g0, by rw [List.length_range]; omega, fun x hx => by have := List.mem_range.mp hx; omega⟩, fun _ z => absurd z (by rw [List.length_range]; omega), fun _ _ => rF (hr.same j0), fun j tw => absurd List.nodup_range (tw_nd tw)⟩⟩
  have kk8 := kk7.trans kp7
  refine app_in (i := 2) (e := ("picture", .bl true)) rfl st v6 (by simp) (fun Q1 N HC kq kp hN hr => ?_) (fun G8 st kp8 => ?_)
  · have tfC := tf6.kq v6 kq
    have kc := kk8.trans kp
    refine ⟨_, rfl, meth_in tfC (fun _ _ _ => rfl) ⟨by show 1 ≤ sizeLine; decide, fun c0 m0 => ?_⟩⟩
    have j0 := same_new (o := .lst [V.bl true]) m0; have g0 : upd HC c0 (.lst [V.bl true]) c0 = some (.lst [V.bl true]) := upd_same; generalize upd HC c0 (.lst [V.bl true]) = J0 at j0 g0 ⊢
    have tfJ := tfC.same j0
    have hrJ := hr.same j0
    refine ⟨A2, .ref c0, rs, rfl, tfJ, okT, .inl ⟨.bl true, wj_at g0 (fun x hx => kd_fl (xs := [V.bl true]) (by rfl) x hx J0) (by show 1 ≤ 100; decide) ?_, rQ hrJ⟩⟩
    rw [List.find?_cons, show pinOk rs.length (.bl true) = false from rfl]
    rfl
  have kk9 := kk8.trans kp8
  dsimp only [gName, tSeq, tAsg]
  refine due8m (e6 := ("pin", .int (-1))) rfl st (fun _ h => ent_sv rfl h) (fun _ _ _ h => ent_sv rfl h) (fun _ _ _ h => ent_si h) (fun _ _ _ h => ent_ss h) (fun _ _ _ h => ent_sv rfl h) (fun H1 Q1 _ h => ⟨_, rfl, by show 2 ≤ sizeLine; decide, fun q nq => h _ _ (same_new nq) ⟨q, rfl, upd_same⟩⟩) (fun _ _ _ h => ent_si h) (fun _ _ _ h => ent_ss h) (by simp) fun d2 G9' st _ => ?_
  refine ⟨_, rfl, due1m rfl st (fun _ h => ent_sb h) (by simp) fun d3 G10' st _ => ?_⟩
  have h1 : HsP G10' l [("tray", .str "rows"), ("misfit", .str "pins"), ("rows", .int 8), ("tray", .str "places"), ("misfit", .str "pins"), ("picture", odd), ("picture", .int (rs.length : Nat)), ("twice", .int 0), ("tray", .str "rows"), ("pin", odd), ("pin", .int (-1)), ("twice", .int 2), ("misfit", .str "pins"), ("picture", .bl true)] := st.h
  have h2 : HsP G10' d3 [("tray", .str "rows"), ("misfit", .str "pins"), ("rows", .int 8), ("tray", .str "places"), ("misfit", .str "pins"), ("picture", odd), ("picture", .int (rs.length : Nat)), ("twice", .int 0), ("tray", .str "rows"), ("pin", odd), ("pin", .int (-1)), ("twice", .int 2), ("misfit", .str "pins"), ("picture", .bl true)] := (st.ds (d3, _) List.mem_cons_self).1
  have od := (ko H15 (Kpl.refl p l H15)).2
  refine hs_eq h1 h2 (fun e he => ?_) (q _ (((Kz.same s03).trans (z35.trans z6)).trans st.z) (st.v.le (by omega)) st.T)
  simp only [List.mem_cons, List.not_mem_nil, or_false] at he
  rcases he with rfl | rfl | rfl | rfl | rfl | rfl | rfl | rfl | rfl | rfl | rfl | rfl | rfl | rfl
  · exact .inl rfl
  · exact .inl rfl
  · exact .inl rfl
  · exact .inl rfl
  · exact .inl rfl
  · exact od
  · exact .inl rfl
  · exact .inl rfl
  · exact .inl rfl
  · exact od
  · exact .inl rfl
  · exact .inl rfl
  · exact .inl rfl
  · exact .inl rfl
end
end K19

namespace K19
open PySem PySem.Spec PyProof.Rows L2
def rs0 : List (List Int) := [[0, 2, 1], [5, 6, 7], [0, 3, 3], [1, 0, -1]]
theorem kin0 : kinLots (rs0.map stp) = [[0], [1, 3], [2]] := by decide +kernel
section
variable {P : Program} {w : World} {K : PySem.W.Frag} {mg : Str → Option Value} {base : Heap} {C CB CF CT CP CQ CW CX : Addr}
/-! ### law -/
def spLaw (K : PySem.W.Frag) (TLs : List (Addr × Str)) : Sp := fun vs H Q _ => ∃ (a : Addr) (ns : List Int), vs = [.ref a] ∧ SqL K H a (ns.map V.int) ∧ ns.length ≤ 63 ∧ LamX.Tabs TLs H ∧ ∀ H', Q (.bl true) H'
abbrev sLaw : Stmt := top 56
abbrev nLaw : List Str := ["_law_script", "_law_cask_here", "_law_turn", "_law_rows_here"]
theorem scLaw : FnScope nLaw ["_law_script"] (defScope sLaw) := ⟨rfl, rfl, rfl, by decide +kernel, rfl, by decide +kernel, by decide +kernel⟩
theorem ok_law {f : Addr} {fd : FuncData} {TLs : List (Addr × Str)} (F : Fun K "law" "law" sLaw f fd) (B : Bn mg) (T : Tc P w K mg base C CB CF CT CP CQ CW CX) (C1 : Callee P w K mg base CX0 1 "_law_cask" ["_law_script"] (spLens K)) (C2 : Callee P w K mg base CX0 3 "_law_rows" ["_law_cask_here"] spRs)
    (C3 : Callee P w K mg base CX0 10 "_law_kept_right" ["_law_cask_here", "_law_rows_here"] (spKp 100 2)) (C4 : Callee P w K mg base CX0 10 "_law_changed_right" ["_law_cask_here", "_law_rows_here"] (spT TLs 100 40)) (C5 : Callee P w K mg base CX0 10 "_law_texts_right" ["_law_cask_here", "_law_rows_here"] (spT TLs 100 40)) (C6 : Callee P w K mg base CX0 10 "_law_refused_right" ["_law_cask_here", "_law_rows_here"] (spT TLs 100 40)) : FnOk P w K mg base CX0 11 f fd ["_law_script"] (spLaw K TLs) := by
  obtain ⟨f1, fd1, m1, k1, b1, G1⟩ := C1
  obtain ⟨f2, fd2, m2, k2, b2, G2⟩ := C2
  obtain ⟨f3, fd3, m3, k3, b3, G3⟩ := C3
  obtain ⟨f4, fd4, m4, k4, b4, G4⟩ := C4
  obtain ⟨f5, fd5, m5, k5, b5, G5⟩ := C5
  obtain ⟨f6, fd6, m6, k6, b6, G6⟩ := C6
  obtain ⟨fk, fdk, Mk_, Gk, bk⟩ := T.kr
  have cl := T.t.pc.cls
  have nd := scLaw.nd
  refine F.ok scLaw (fun vs H Q E h => ?_) (fun cdv A outer s H vs Q E hr h => ?_)
  · obtain ⟨a, ns, rfl, _⟩ := h
    rfl
  · obtain ⟨a, ns, rfl, hs, l63, hT, q⟩ := h
    refine ⟨_, (pss_cons ((ps_set (i := 1) nd rfl (Or.inl rfl) ((pe_call G1 (hr.mono (by decide)) rfl m1 k1 b1 .nil pass0 (pa_cons (pv 0) pa_nil))))) (pss_cons (ps_for PassesOwn.never rfl (pi_range1 rfl B.range (pa_cons (pe_int) pa_nil)) (pg_name (i := 2) nd rfl (Or.inl rfl)) (pss_cons ((ps_set (i := 3) nd rfl (Or.inl rfl) ((pe_call G2 (hr.mono (by decide)) rfl m2 k2 b2 .nil pass0 (pa_cons (pv 1) pa_nil))))) (pss_cons (ps_if (PW.pt (pw_or (pt_not (pt_val (pe_call G3 (hr.mono (by decide)) rfl m3 k3 b3 .nil pass0 (pa_cons (pv 1) (pa_cons (pv 3) pa_nil))))) (pw_or1 (pt_not (pt_val (pe_call G4 (hr.mono (by decide)) rfl m4 k4 b4 .nil pass0 (pa_cons (pv 1) (pa_cons (pv 3) pa_nil)))))))) (pss_one (ps_ret pe_bl)) pss_nil) (pss_one (ps_if (PW.pt (pw_or (pt_not (pt_val (pe_call G5 (hr.mono (by decide)) rfl m5 k5 b5 .nil pass0 (pa_cons (pv 1) (pa_cons (pv 3) pa_nil))))) (pw_or1 (pt_not (pt_val (pe_call G6 (hr.mono (by decide)) rfl m6 k6 b6 .nil pass0 (pa_cons (pv 1) (pa_cons (pv 3) pa_nil)))))))) (pss_one (ps_ret pe_bl)) pss_nil))))) (pss_one (ps_ret (pe_cmpR (op_eqD hr.units) (pe_meth0 (pe_mkT (E := E0) K T.mgC T.ini (hr.mono (by decide)) passL rfl (pa_cons (pe_lst (pa_cons (pe_lst (pa_cons (pe_int) (pa_cons (pe_int) (pa_cons (pe_int) pa_nil)))) (pa_cons (pe_lst (pa_cons (pe_int) (pa_cons (pe_int) (pa_cons (pe_int) pa_nil)))) (pa_cons (pe_lst (pa_cons (pe_int) (pa_cons (pe_int) (pa_cons (pe_int) pa_nil)))) (pa_cons (pe_lst (pa_cons (pe_int) (pa_cons (pe_int) (pa_cons (pe_un un_neg pe_int) pa_nil)))) pa_nil))))) pa_nil)) cl Mk_ Gk (hr.mono (by decide)) bk .nil pass0) (pe_tup (pa_cons (pe_tup (pa_cons (pe_int) pa_nil)) (pa_cons (pe_tup (pa_cons (pe_int) (pa_cons (pe_int) pa_nil))) (pa_cons (pe_tup (pa_cons (pe_int) pa_nil)) pa_nil)))) (nomark _)))))), ?_⟩
    refine ⟨_, rfl, a, ns, rfl, hs, l63, fun H1 p s1 n1 v1 => ?_⟩
    refine ⟨3, rfl, by decide, by decide, ?_⟩
    refine for_range (lo := 0) (n := 3) (fun i σ H' => Lens H' p (300 * i) ∧ LamX.Tabs TLs H' ∧ ∃ c2 c3, σ = [some (.ref a), some (.ref p), c2, c3]) ⟨v1, hT.ext s1, _, _, rfl⟩ (fun i σ H' hi pv => ?_) (fun σ H' pv => ?_)
    · obtain ⟨v, T', c2, c3, rfl⟩ := pv
      refine ⟨_, rfl, p, _, rfl, v, by omega, fun H2 b ds rs k s2 v2 nb ll k3' k7 okl hne h8 => ?_⟩
      have T2 := tabs_sb T' v s2
      refine ⟨_, rfl, _, rfl, p, b, _, ds, rs, k, rfl, v2, by omega, ll, okl, k3', k7, hne, h8, fun H3 s3 v3 => ⟨_, rfl, iteF ?_⟩⟩
      have ll3 := ll.sb v2 s3
      have T3 := tabs_sb T2 v2 s3
      refine ⟨_, rfl, _, rfl, p, b, _, ds, rs, k, rfl, v3, by omega, ll3, okl, k3', k7, hne, h8, T3, fun H4 s4 v4 T4 => ⟨_, rfl, iteF ?_⟩⟩
      have ll4 := ll3.kq v3 s4.k
      refine ⟨_, rfl, _, rfl, p, b, _, ds, rs, k, rfl, v4, by omega, ll4, okl, k3', k7, hne, h8, T4, fun H5 s5 v5 T5 => ⟨_, rfl, iteF ?_⟩⟩
      have ll5 := ll4.kq v4 s5.k
      refine ⟨_, rfl, _, rfl, p, b, _, ds, rs, k, rfl, v5, by omega, ll5, okl, k3', k7, hne, h8, T5, fun H6 s6 v6 T6 => ⟨_, rfl, iteF ?_⟩⟩
      exact ⟨v6.le (by omega), T6, _, _, rfl⟩
    · obtain ⟨v, T', c2, c3, rfl⟩ := pv
      refine ⟨by show 3 ≤ sizeLine; decide, fun b0 p0 => ?_⟩
      have j0 := same_new (o := .lst [V.int 0, V.int 2, V.int 1]) p0; have g0 : upd H' b0 (.lst [V.int 0, V.int 2, V.int 1]) b0 = some (.lst [V.int 0, V.int 2, V.int 1]) := upd_same; generalize upd H' b0 (.lst [V.int 0, V.int 2, V.int 1]) = J0 at j0 g0 ⊢
      refine ⟨by show 3 ≤ sizeLine; decide, fun b1 p1 => ?_⟩
      have j1 := same_new (o := .lst [V.int 5, V.int 6, V.int 7]) p1; have g1 : upd J0 b1 (.lst [V.int 5, V.int 6, V.int 7]) b1 = some (.lst [V.int 5, V.int 6, V.int 7]) := upd_same; generalize upd J0 b1 (.lst [V.int 5, V.int 6, V.int 7]) = J1 at j1 g1 ⊢
      refine ⟨by show 3 ≤ sizeLine; decide, fun b2 p2 => ?_⟩
      have j2 := same_new (o := .lst [V.int 0, V.int 3, V.int 3]) p2; have g2 : upd J1 b2 (.lst [V.int 0, V.int 3, V.int 3]) b2 = some (.lst [V.int 0, V.int 3, V.int 3]) := upd_same; generalize upd J1 b2 (.lst [V.int 0, V.int 3, V.int 3]) = J2 at j2 g2 ⊢
      refine ⟨_, rfl, by show 3 ≤ sizeLine; decide, fun b3 p3 => ?_⟩
      have j3 := same_new (o := .lst [V.int 1, V.int 0, V.int (-1)]) p3; have g3 : upd J2 b3 (.lst [V.int 1, V.int 0, V.int (-1)]) b3 = some (.lst [V.int 1, V.int 0, V.int (-1)]) := upd_same; generalize upd J2 b3 (.lst [V.int 1, V.int 0, V.int (-1)]) = J3 at j3 g3 ⊢
      refine ⟨by show 4 ≤ sizeLine; decide, fun b4 p4 => ?_⟩
      have j4 := same_new (o := .lst [V.ref b0, V.ref b1, V.ref b2, V.ref b3]) p4; have g4 : upd J3 b4 (.lst [V.ref b0, V.ref b1, V.ref b2, V.ref b3]) b4 = some (.lst [V.ref b0, V.ref b1, V.ref b2, V.ref b3]) := upd_same; generalize upd J3 b4 (.lst [V.ref b0, V.ref b1, V.ref b2, V.ref b3]) = J4 at j4 g4 ⊢
      have okr : OkT rs0 := ⟨fun r hr => by
        have e : ∀ r ∈ rs0, decide (3 ≤ r.length) && (decide (r.length ≤ 7) && r.all fun n => decide (-G9 ≤ n) && decide (n ≤ G9)) = true := by decide +kernel
        have := e r hr
        simp only [Bool.and_eq_true, decide_eq_true_eq, List.all_eq_true] at this
        exact ⟨this.1, this.2.1, this.2.2⟩, by decide +kernel, by decide, by decide⟩
      refine ⟨.ref b4, rfl, MkT.of (rs := rs0) (.inl g4) (.cons ⟨b0, rfl, .inl ((j1.trans (j2.trans (j3.trans j4))) _ _ g0)⟩ (.cons ⟨b1, rfl, .inl ((j2.trans (j3.trans j4)) _ _ g1)⟩ (.cons ⟨b2, rfl, .inl ((j3.trans j4) _ _ g2)⟩ (.cons ⟨b3, rfl, .inl (j4 _ _ g3)⟩ .nil)))) okr.ok okr.ne okr.al okr.l8 fun A5 H5 s5 nA5 tf => ?_⟩
      refine meth_in tf (fun _ _ _ => rfl) ⟨A5, rs0, rfl, tf, okr, fun H6 b6 s6 t6 => ?_⟩
      rw [kin0] at t6
      refine ⟨by show 1 ≤ sizeLine; decide, fun d0 q0 => ?_⟩
      have w0 := same_new (o := .tup [V.int 0]) q0; have e0 : upd H6 d0 (.tup [V.int 0]) d0 = some (.tup [V.int 0]) := upd_same; generalize upd H6 d0 (.tup [V.int 0]) = M0 at w0 e0 ⊢
      refine ⟨by show 2 ≤ sizeLine; decide, fun d1 q1 => ?_⟩
      have w1 := same_new (o := .tup [V.int 1, V.int 3]) q1; have e1 : upd M0 d1 (.tup [V.int 1, V.int 3]) d1 = some (.tup [V.int 1, V.int 3]) := upd_same; generalize upd M0 d1 (.tup [V.int 1, V.int 3]) = M1 at w1 e1 ⊢
      refine ⟨by show 1 ≤ sizeLine; decide, fun d2 q2 => ?_⟩
      have w2 := same_new (o := .tup [V.int 2]) q2; have e2 : upd M1 d2 (.tup [V.int 2]) d2 = some (.tup [V.int 2]) := upd_same; generalize upd M1 d2 (.tup [V.int 2]) = M2 at w2 e2 ⊢
      refine ⟨by show 3 ≤ sizeLine; decide, fun d3 q3 => ?_⟩
      have w3 := same_new (o := .tup [V.ref d0, V.ref d1, V.ref d2]) q3; have e3 : upd M2 d3 (.tup [V.ref d0, V.ref d1, V.ref d2]) d3 = some (.tup [V.ref d0, V.ref d1, V.ref d2]) := upd_same; generalize upd M2 d3 (.tup [V.ref d0, V.ref d1, V.ref d2]) = M3 at w3 e3 ⊢
      have t9 : TRw M3 d3 [[0], [1, 3], [2]] := ⟨[d0, d1, d2], e3, .cons ((w1.trans (w2.trans w3)) _ _ e0) (.cons ((w2.trans w3) _ _ e1) (.cons (w3 _ _ e2) .nil))⟩
      refine ⟨_, _, (t6.same (w0.trans (w1.trans (w2.trans w3)))).dp, t9.dp, encR_shaped _, encR_shaped _, ?_⟩
      rw [encR_eqv, decide_eq_true rfl]
      exact q _
end
end K19

namespace K19
open PySem PySem.Spec PyProof.Rows L2
/-! ### what the written part says, looked up at once -/
def oexB (K : PySem.W.Frag) (C : Addr) : Bool := match K.lookup C with
  | some ⟨.type "type", _, .cls cd, sl⟩ => (match cd.mro, sl.toList with
    | .ref C' :: bm, [_, _, _, _, some (.builtin n), _] => C' == C && n == "ValueError.__new__" && !cd.hasDel && cd.hasDict && PySem.HandSPX.refsVE bm
    | _, _ => false)
  | _ => false
theorem oexB_ok {K : PySem.W.Frag} {C : Addr} (q : oexB K C = true) : ∃ nm qn N bs bm sn sub ab col dd k0 k1 k2 k3 k5, K.lookup C = some (excClassObj nm qn C N bs bm true sn sub ab col dd k0 k1 k2 k3 k5 "ValueError.__new__") ∧ PySem.HandSPX.refsVE bm = true := by
  unfold oexB at q
  split at q
  · rename_i dd cd sl ho
    split at q
    · rename_i C' bm k0 k1 k2 k3 n k5 hm hs
      simp only [Bool.and_eq_true, beq_iff_eq, Bool.not_eq_true'] at q
      obtain ⟨⟨⟨⟨rfl, rfl⟩, hdel⟩, hd⟩, ht⟩ := q
      obtain ⟨nm, bs, mro, ns, qn, hdc, sn, sub, ab, col, del⟩ := cd
      dsimp only at hm hdel hd
      subst hm hdel hd
      have hsl : sl = #[k0, k1, k2, k3, some (.builtin "ValueError.__new__"), k5] := by
        obtain ⟨l⟩ := sl
        simp only at hs
        rw [hs]
      subst hsl
      exact ⟨nm, qn, ns, bs, bm, sn, sub, ab, col, dd, k0, k1, k2, k3, k5, ho, ht⟩
    · cases q
  · cases q
def badB (K : PySem.W.Frag) (C CS : Addr) : Bool := oexB K C && (decide (PySem.W.findIn K (.ref C) "__setattr__" = some (some (.builtin "object.__setattr__"))) && (decide (PySem.W.subIn K (.ref C) (.type "BaseException") = some true) && (decide (PySem.W.typeIn K (.ref C) = some (.type "type")) && (PySem.W.keepIn K (.ref C) &&
  (decide (PySem.W.findIn K (.ref C) "__getattribute__" = some (some (.builtin "BaseException.__getattribute__"))) && (decide (PySem.W.findIn K (.ref C) "__getattr__" = some none) && (PySem.W.hasDictIn K C && (decide (PySem.W.findIn K (.ref C) "__class__" = some (some (.builtin "object.__class__"))) &&
  (decide (PySem.W.specialIn K (.builtin "object.__class__") "__get__" = some (some (.builtin "getset_descriptor.__get__"))) && (decide (PySem.W.takesIn K (.builtin "object.__class__") = some true) && (decide (PySem.W.mroIn K C (.type "object") = some true) &&
  (decide (PySem.W.findIn K (.ref C) "part" = some none) && decide (PySem.W.exmOne K (.ref C) (.ref CS) = some true)))))))))))))
theorem badB_ok {K : PySem.W.Frag} {C CS : Addr} (h : badB K C CS = true) : OexC K C ∧ ExcC K C ∧ XfC K C ∧ PySem.W.findIn K (.ref C) "part" = some none ∧ PySem.W.exmOne K (.ref C) (.ref CS) = some true := by
  unfold badB at h
  simp only [Bool.and_eq_true, decide_eq_true_eq] at h
  obtain ⟨h0, h1, h2, h3, h4, h5, h6, h7, h8, h9, h10, h11, h12, h13⟩ := h
  exact ⟨⟨oexB_ok h0, h1, h2, h3, h4⟩, ⟨h5, h6, h2, h7, h8, h9, h10, h11⟩, ⟨h5, h6, h2, h7⟩, h12, h13⟩
def valB (K : PySem.W.Frag) (C CS : Addr) : Bool := oexB K C && (decide (PySem.W.findIn K (.ref C) "__setattr__" = some (some (.builtin "object.__setattr__"))) && (decide (PySem.W.subIn K (.ref C) (.type "BaseException") = some true) && (decide (PySem.W.typeIn K (.ref C) = some (.type "type")) && (PySem.W.keepIn K (.ref C) &&
  (decide (PySem.W.findIn K (.ref C) "__getattribute__" = some (some (.builtin "BaseException.__getattribute__"))) && (decide (PySem.W.findIn K (.ref C) "__getattr__" = some none) && (PySem.W.hasDictIn K C && (decide (PySem.W.findIn K (.ref C) "__class__" = some (some (.builtin "object.__class__"))) &&
  (decide (PySem.W.specialIn K (.builtin "object.__class__") "__get__" = some (some (.builtin "getset_descriptor.__get__"))) && (decide (PySem.W.takesIn K (.builtin "object.__class__") = some true) && (decide (PySem.W.mroIn K C (.type "object") = some true) &&
  (decide (PySem.W.findIn K (.ref C) "value" = some none) && decide (PySem.W.exmOne K (.ref C) (.ref CS) = some true)))))))))))))
theorem valB_ok {K : PySem.W.Frag} {C CS : Addr} (h : valB K C CS = true) : OexC K C ∧ ExcC K C ∧ XfC K C ∧ PySem.W.findIn K (.ref C) "value" = some none ∧ PySem.W.exmOne K (.ref C) (.ref CS) = some true := by
  unfold valB at h
  simp only [Bool.and_eq_true, decide_eq_true_eq] at h
  obtain ⟨h0, h1, h2, h3, h4, h5, h6, h7, h8, h9, h10, h11, h12, h13⟩ := h
  exact ⟨⟨oexB_ok h0, h1, h2, h3, h4⟩, ⟨h5, h6, h2, h7, h8, h9, h10, h11⟩, ⟨h5, h6, h2, h7⟩, h12, h13⟩
def tooB (K : PySem.W.Frag) (C CS : Addr) : Bool := oexB K C && (decide (PySem.W.findIn K (.ref C) "__setattr__" = some (some (.builtin "object.__setattr__"))) && (decide (PySem.W.subIn K (.ref C) (.type "BaseException") = some true) && (decide (PySem.W.typeIn K (.ref C) = some (.type "type")) && (PySem.W.keepIn K (.ref C) &&
  (decide (PySem.W.findIn K (.ref C) "__getattribute__" = some (some (.builtin "BaseException.__getattribute__"))) && (decide (PySem.W.findIn K (.ref C) "__getattr__" = some none) && (PySem.W.hasDictIn K C && (decide (PySem.W.findIn K (.ref C) "__class__" = some (some (.builtin "object.__class__"))) &&
  (decide (PySem.W.specialIn K (.builtin "object.__class__") "__get__" = some (some (.builtin "getset_descriptor.__get__"))) && (decide (PySem.W.takesIn K (.builtin "object.__class__") = some true) && (decide (PySem.W.mroIn K C (.type "object") = some true) &&
  (decide (PySem.W.findIn K (.ref C) "what" = some none) && (decide (PySem.W.findIn K (.ref C) "most" = some none) && decide (PySem.W.exmOne K (.ref C) (.ref CS) = some true))))))))))))))
theorem tooB_ok {K : PySem.W.Frag} {C CS : Addr} (h : tooB K C CS = true) : OexC K C ∧ ExcC K C ∧ XfC K C ∧ PySem.W.findIn K (.ref C) "what" = some none ∧ PySem.W.findIn K (.ref C) "most" = some none ∧ PySem.W.exmOne K (.ref C) (.ref CS) = some true := by
  unfold tooB at h
  simp only [Bool.and_eq_true, decide_eq_true_eq] at h
  obtain ⟨h0, h1, h2, h3, h4, h5, h6, h7, h8, h9, h10, h11, h12, h13, h14⟩ := h
  exact ⟨⟨oexB_ok h0, h1, h2, h3, h4⟩, ⟨h5, h6, h2, h7, h8, h9, h10, h11⟩, ⟨h5, h6, h2, h7⟩, h12, h13, h14⟩
def txtB (K : PySem.W.Frag) (C CS : Addr) : Bool := oexB K C && (decide (PySem.W.findIn K (.ref C) "__setattr__" = some (some (.builtin "object.__setattr__"))) && (decide (PySem.W.subIn K (.ref C) (.type "BaseException") = some true) && (decide (PySem.W.typeIn K (.ref C) = some (.type "type")) && (PySem.W.keepIn K (.ref C) &&
  (decide (PySem.W.findIn K (.ref C) "__getattribute__" = some (some (.builtin "BaseException.__getattribute__"))) && (decide (PySem.W.findIn K (.ref C) "__getattr__" = some none) && (PySem.W.hasDictIn K C && (decide (PySem.W.findIn K (.ref C) "__class__" = some (some (.builtin "object.__class__"))) &&
  (decide (PySem.W.specialIn K (.builtin "object.__class__") "__get__" = some (some (.builtin "getset_descriptor.__get__"))) && (decide (PySem.W.takesIn K (.builtin "object.__class__") = some true) && (decide (PySem.W.mroIn K C (.type "object") = some true) &&
  (decide (PySem.W.findIn K (.ref C) "line" = some none) && (decide (PySem.W.findIn K (.ref C) "item" = some none) && decide (PySem.W.exmOne K (.ref C) (.ref CS) = some true))))))))))))))
theorem txtB_ok {K : PySem.W.Frag} {C CS : Addr} (h : txtB K C CS = true) : OexC K C ∧ ExcC K C ∧ XfC K C ∧ PySem.W.findIn K (.ref C) "line" = some none ∧ PySem.W.findIn K (.ref C) "item" = some none ∧ PySem.W.exmOne K (.ref C) (.ref CS) = some true := by
  unfold txtB at h
  simp only [Bool.and_eq_true, decide_eq_true_eq] at h
  obtain ⟨h0, h1, h2, h3, h4, h5, h6, h7, h8, h9, h10, h11, h12, h13, h14⟩ := h
  exact ⟨⟨oexB_ok h0, h1, h2, h3, h4⟩, ⟨h5, h6, h2, h7, h8, h9, h10, h11⟩, ⟨h5, h6, h2, h7⟩, h12, h13, h14⟩
def trB (K : PySem.W.Frag) (C : Addr) : Bool := PySem.W.plainGet K C Str.empty && (PySem.W.hasDictIn K C && (PySem.W.plainOver K C && (decide (PySem.W.findIn K (.ref C) "__setattr__" = some (some (.builtin "object.__setattr__"))) && (decide (PySem.W.findIn K (.ref C) "__class__" = some (some (.builtin "object.__class__"))) &&
  (decide (PySem.W.specialIn K (.builtin "object.__class__") "__get__" = some (some (.builtin "getset_descriptor.__get__"))) && (decide (PySem.W.takesIn K (.builtin "object.__class__") = some true) && (decide (PySem.W.mroIn K C (.type "object") = some true) &&
  (decide (PySem.W.kitOne K (.ref C) (.type "int") = some false) && (decide (PySem.W.kitOne K (.ref C) (.type "bool") = some false) && (decide (PySem.W.kitOne K (.ref C) (.type "tuple") = some false) && (decide (PySem.W.kitAny K (.ref C) [.type "list", .type "tuple"] = some false) &&
  (decide (PySem.W.findIn K (.ref C) "pins" = some none) && (decide (PySem.W.findIn K (.ref C) "places" = some none) && (decide (PySem.W.findIn K (.ref C) "rows" = some none) && (decide (PySem.W.findIn K (.ref C) "__ne__" = some (some (.builtin "object.__ne__"))) &&
  (PySem.W.makesIn K C && (PySem.W.keepIn K (.ref C) && (["NoneType", "str", "list", "tuple"].all fun t => decide (PySem.W.kitOne K (.type t) (.ref C) = some false) && PySem.W.notFirst K C (.type t)))))))))))))))))))
theorem trB_ok {K : PySem.W.Frag} {C : Addr} (h : trB K C = true) : TrT K C ∧ PicN K C ∧ PySem.W.makesIn K C = true ∧ PySem.W.keepIn K (.ref C) = true := by
  unfold trB at h
  rw [Bool.and_eq_true, Bool.and_eq_true, Bool.and_eq_true, Bool.and_eq_true, Bool.and_eq_true, Bool.and_eq_true, Bool.and_eq_true, Bool.and_eq_true, Bool.and_eq_true, Bool.and_eq_true, Bool.and_eq_true, Bool.and_eq_true, Bool.and_eq_true, Bool.and_eq_true, Bool.and_eq_true, Bool.and_eq_true, Bool.and_eq_true, Bool.and_eq_true] at h
  obtain ⟨h0, h1, h2, h3, h4, h5, h6, h7, h8, h9, h10, h11, h12, h13, h14, h15, h16, h17, h18⟩ := h
  refine ⟨⟨⟨⟨h0, h1, h2, of_decide_eq_true h3⟩, of_decide_eq_true h4, of_decide_eq_true h5, of_decide_eq_true h6, of_decide_eq_true h7, of_decide_eq_true h8, of_decide_eq_true h9, of_decide_eq_true h10, of_decide_eq_true h11⟩, (show PySem.W.findIn K (.ref C) "pins" = some none from of_decide_eq_true h12), (show PySem.W.findIn K (.ref C) "places" = some none from of_decide_eq_true h13), (show PySem.W.findIn K (.ref C) "rows" = some none from of_decide_eq_true h14)⟩, ⟨fun t ht => ?_, of_decide_eq_true h15⟩, h16, h17⟩
  have z := List.all_eq_true.mp h18 t ht
  rw [Bool.and_eq_true] at z
  exact ⟨of_decide_eq_true z.1, z.2⟩
theorem kbn19 {K : PySem.W.Frag} {fd : FuncData} {ps ks : List Str} {n : Nat} (h : ∀ us ws : List Value, us.length = n → ws.length = ks.length → bindArgs fd ⟨us, ks.zip ws⟩ = pure (ps.zip (us ++ ws))) : KBn K fd ps n ks (fun us ws => us ++ ws) (fun vs zs => vs ++ zs) where
  to := fun s us ws _ l1 l2 => .of_eq (h us ws l1 l2)
  rel := fun r z => r.append z
theorem all_mk {l : PySem.W.OpenLaw} {w : World} {K : PySem.W.Frag} {h : Heap} {mg : Str → Option Value} {fa : Addr} {C CS CB CF CP CQ CW CT CX P1 P2 P3 qpR c51 c54 c55 f11 f12 f13 f14 f16 f17 f18 f19 f20 f22 f25 f28 f29 f30 f31 f32 f37 f39 f41 f42 f43 f44 f45 f46 f47 f48 f49 f50 f51 f52 f53 f54 f55 f56 fxB fxF fxV fxW fxT fxX fpI fpL fpE fpS fmW fmP fmO fmK fpR : Addr} {zspR : List Value} {od11 an11 od12 an12 od13 an13 od14 an14 od16 an16 od17 an17 od18 an18 od19 an19 od20 an20 od22 an22 od25 an25 od28 an28 od29 an29 od30 an30 od31 an31 od32 an32 od37 an37 od39 an39 od41 an41 od42 an42 od43 an43 od44 an44 od45 an45 od46 an46 od47 an47 od48 an48 od49 an49 od50 an50 od51 an51 od52 an52 od53 an53 od54 an54 od55 an55 od56 an56 odxB anxB odxF anxF odxV anxV odxW anxW odxT anxT odxX anxX odpI anpI odpL anpL odpE anpE odpS anpS odmW anmW odmP anmP odmO anmO odmK anmK odpR anpR : Option Addr} {sl11 sl12 sl13 sl14 sl16 sl17 sl18 sl19 sl20 sl22 sl25 sl28 sl29 sl30 sl31 sl32 sl37 sl39 sl41 sl42 sl43 sl44 sl45 sl46 sl47 sl48 sl49 sl50 sl51 sl52 sl53 sl54 sl55 sl56 slxB slxF slxV slxW slxT slxX slpI slpL slpE slpS slmW slmP slmO slmK slpR : Array (Option Value)} {oc11 kV11 dc11 pm11 cv11 ct11 oc12 kV12 dc12 pm12 cv12 ct12 oc13 kV13 dc13 pm13 cv13 ct13 oc14 kV14 dc14 pm14 cv14 ct14 oc16 kV16 dc16 pm16 cv16 ct16 oc17 kV17 dc17 pm17 cv17 ct17 oc18 kV18 dc18 pm18 cv18 ct18 oc19 kV19 dc19 pm19 cv19 ct19 oc20 kV20 dc20 pm20 cv20 ct20 oc22 kV22 dc22 pm22 cv22 ct22 oc25 kV25 dc25 pm25 cv25 ct25 oc28 kV28 dc28 pm28 cv28 ct28 oc29 kV29 dc29 pm29 cv29 ct29 oc30 kV30 dc30 pm30 cv30 ct30 oc31 kV31 dc31 pm31 cv31 ct31 oc32 kV32 dc32 pm32 cv32 ct32 oc37 kV37 dc37 pm37 cv37 ct37 oc39 kV39 dc39 pm39 cv39 ct39 oc41 kV41 dc41 pm41 cv41 ct41 oc42 kV42 dc42 pm42 cv42 ct42 oc43 kV43 dc43 pm43 cv43 ct43 oc44 kV44 dc44 pm44 cv44 ct44 oc45 kV45 dc45 pm45 cv45 ct45 oc46 kV46 dc46 pm46 cv46 ct46 oc47 kV47 dc47 pm47 cv47 ct47 oc48 kV48 dc48 pm48 cv48 ct48 oc49 kV49 dc49 pm49 cv49 ct49 oc50 kV50 dc50 pm50 cv50 ct50 oc51 kV51 dc51 pm51 ct51 oc52 kV52 dc52 pm52 cv52 ct52 oc53 kV53 dc53 pm53 cv53 ct53 oc54 kV54 dc54 pm54 ct54 oc55 kV55 dc55 pm55 ct55 oc56 kV56 dc56 pm56 cv56 ct56 ocxB kVxB dcxB pmxB cvxB ctxB ocxF kVxF dcxF pmxF cvxF ctxF ocxV kVxV dcxV pmxV cvxV ctxV ocxW kVxW dcxW pmxW cvxW ctxW ocxT kVxT dcxT pmxT cvxT ctxT ocxX kVxX dcxX pmxX cvxX ctxX ocpI kVpI dcpI pmpI cvpI ctpI ocpL kVpL dcpL pmpL cvpL ctpL ocpE kVpE dcpE pmpE cvpE ctpE ocpS kVpS dcpS pmpS cvpS ctpS ocmW kVmW dcmW pmmW cvmW ctmW ocmP kVmP dcmP pmmP cvmP ctmP ocmO kVmO dcmO pmmO cvmO ctmO ocmK kVmK dcmK pmmK cvmK ctmK ocpR kVpR dcpR pmpR cvpR ctpR : Value} {tL t3 t7 t8 t60 : PySem.Tok}
    (X : K.In h) (G : h.Ns mainGlobals mg) (hfa : mg "law" = some (.ref fa)) (tab1 : h.get? P1 = some { cls := .none, data := .fields #[] }) (tab2 : h.get? P2 = some { cls := .none, data := .fields #[] }) (tab3 : h.get? P3 = some { cls := .none, data := .fields #[] })
    (n12 : P1 ≠ P2) (n13 : P1 ≠ P3) (n23 : P2 ≠ P3)
    (gC : PySem.W.nsIn K mainGlobals "Tray" = some (some (.ref C)))
    (gCS : PySem.W.nsIn K mainGlobals "SeenError" = some (some (.ref CS)))
    (gCB : PySem.W.nsIn K mainGlobals "BadTray" = some (some (.ref CB)))
    (gCF : PySem.W.nsIn K mainGlobals "Misfit" = some (some (.ref CF)))
    (gCP : PySem.W.nsIn K mainGlobals "NoPin" = some (some (.ref CP)))
    (gCQ : PySem.W.nsIn K mainGlobals "NoPicture" = some (some (.ref CQ)))
    (gCW : PySem.W.nsIn K mainGlobals "Twice" = some (some (.ref CW)))
    (gCT : PySem.W.nsIn K mainGlobals "TooMany" = some (some (.ref CT)))
    (gCX : PySem.W.nsIn K mainGlobals "BadText" = some (some (.ref CX)))
    (gL : PySem.W.nsIn K mainGlobals "LIMIT" = some (some (.int 1000000000 tL)))
    (g3 : PySem.W.nsIn K mainGlobals "FEWEST_PINS" = some (some (.int 3 t3)))
    (g7 : PySem.W.nsIn K mainGlobals "MOST_PINS" = some (some (.int 7 t7)))
    (g8 : PySem.W.nsIn K mainGlobals "MOST_ROWS" = some (some (.int 8 t8)))
    (g60 : PySem.W.nsIn K mainGlobals "MOST_DIGITS" = some (some (.int 60 t60)))
    (ixB : PySem.W.findIn K (.ref CB) "__init__" = some (some (.ref fxB)))
    (txB : PySem.W.typeIn K (.ref fxB) = some (.type "function"))
    (ixF : PySem.W.findIn K (.ref CF) "__init__" = some (some (.ref fxF)))
    (txF : PySem.W.typeIn K (.ref fxF) = some (.type "function"))
    (ixV : PySem.W.findIn K (.ref CP) "__init__" = some (some (.ref fxV)))
    (txV : PySem.W.typeIn K (.ref fxV) = some (.type "function"))
    (ixW : PySem.W.findIn K (.ref CW) "__init__" = some (some (.ref fxW)))
    (txW : PySem.W.typeIn K (.ref fxW) = some (.type "function"))
    (ixT : PySem.W.findIn K (.ref CT) "__init__" = some (some (.ref fxT)))
    (txT : PySem.W.typeIn K (.ref fxT) = some (.type "function"))
    (ixX : PySem.W.findIn K (.ref CX) "__init__" = some (some (.ref fxX)))
    (txX : PySem.W.typeIn K (.ref fxX) = some (.type "function"))
    (ixQ : PySem.W.findIn K (.ref CQ) "__init__" = some (some (.ref fxV)))
    (ipI : PySem.W.findIn K (.ref C) "__init__" = some (some (.ref fpI)))
    (npI : PySem.W.isFn K (.ref fpI) = true)
    (ipL : PySem.W.findIn K (.ref C) "__len__" = some (some (.ref fpL)))
    (npL : PySem.W.isFn K (.ref fpL) = true)
    (ipE : PySem.W.findIn K (.ref C) "__eq__" = some (some (.ref fpE)))
    (npE : PySem.W.isFn K (.ref fpE) = true)
    (ipS : PySem.W.findIn K (.ref C) "__str__" = some (some (.ref fpS)))
    (npS : PySem.W.isFn K (.ref fpS) = true)
    (imW : PySem.W.findIn K (.ref C) "with_row" = some (some (.ref fmW)))
    (nmW : PySem.W.isFn K (.ref fmW) = true)
    (imP : PySem.W.findIn K (.ref C) "picked" = some (some (.ref fmP)))
    (nmP : PySem.W.isFn K (.ref fmP) = true)
    (imO : PySem.W.findIn K (.ref C) "in_order" = some (some (.ref fmO)))
    (nmO : PySem.W.isFn K (.ref fmO) = true)
    (imK : PySem.W.findIn K (.ref C) "kin_rows" = some (some (.ref fmK)))
    (nmK : PySem.W.isFn K (.ref fmK) = true)
    (sapR : PySem.W.readsIn K C (.type "type") = true)
    (sbpR : PySem.W.specialIn K (.ref C) "__getattribute__" = some (some (.builtin "type.__getattribute__")))
    (gppR : PySem.W.findCls K (.ref C) (.type "type") "read" = some (.get (.builtin "staticmethod.__get__") (.ref qpR) .none (.ref C)))
    (grpR : PySem.W.recIn K qpR "staticmethod" = some (.ref fpR :: zspR))
    (lxB : K.lookup fxB = some ⟨ocxB, odxB, .func (PySem.W.fnOf "__init__" "BadTray.__init__" (defArgs sBI) (defBody sBI) (defScope sBI) .none kVxB dcxB pmxB anxB cvxB ctxB), slxB⟩)
    (cxB : PySem.W.codeIn K cvxB "BadTray.__init__" = true)
    (kxB : PySem.W.keepIn K (.ref fxB) = true)
    (lxF : K.lookup fxF = some ⟨ocxF, odxF, .func (PySem.W.fnOf "__init__" "Misfit.__init__" (defArgs sFI) (defBody sFI) (defScope sFI) .none kVxF dcxF pmxF anxF cvxF ctxF), slxF⟩)
    (cxF : PySem.W.codeIn K cvxF "Misfit.__init__" = true)
    (kxF : PySem.W.keepIn K (.ref fxF) = true)
    (lxV : K.lookup fxV = some ⟨ocxV, odxV, .func (PySem.W.fnOf "__init__" "Missing.__init__" (defArgs sVI) (defBody sVI) (defScope sVI) .none kVxV dcxV pmxV anxV cvxV ctxV), slxV⟩)
    (cxV : PySem.W.codeIn K cvxV "Missing.__init__" = true)
    (kxV : PySem.W.keepIn K (.ref fxV) = true)
    (lxW : K.lookup fxW = some ⟨ocxW, odxW, .func (PySem.W.fnOf "__init__" "Twice.__init__" (defArgs sWI) (defBody sWI) (defScope sWI) .none kVxW dcxW pmxW anxW cvxW ctxW), slxW⟩)
    (cxW : PySem.W.codeIn K cvxW "Twice.__init__" = true)
    (kxW : PySem.W.keepIn K (.ref fxW) = true)
    (lxT : K.lookup fxT = some ⟨ocxT, odxT, .func (PySem.W.fnOf "__init__" "TooMany.__init__" (defArgs sTI) (defBody sTI) (defScope sTI) .none kVxT dcxT pmxT anxT cvxT ctxT), slxT⟩)
    (cxT : PySem.W.codeIn K cvxT "TooMany.__init__" = true)
    (kxT : PySem.W.keepIn K (.ref fxT) = true)
    (lxX : K.lookup fxX = some ⟨ocxX, odxX, .func (PySem.W.fnOf "__init__" "BadText.__init__" (defArgs sTX) (defBody sTX) (defScope sTX) .none kVxX dcxX pmxX anxX cvxX ctxX), slxX⟩)
    (cxX : PySem.W.codeIn K cvxX "BadText.__init__" = true)
    (kxX : PySem.W.keepIn K (.ref fxX) = true)
    (lpI : K.lookup fpI = some ⟨ocpI, odpI, .func (PySem.W.fnOf "__init__" "Tray.__init__" (defArgs sTrI) (defBody sTrI) (defScope sTrI) .none kVpI dcpI pmpI anpI cvpI ctpI), slpI⟩)
    (cpI : PySem.W.codeIn K cvpI "Tray.__init__" = true)
    (kpI : PySem.W.keepIn K (.ref fpI) = true)
    (lpL : K.lookup fpL = some ⟨ocpL, odpL, .func (PySem.W.fnOf "__len__" "Tray.__len__" (defArgs sLenP) (defBody sLenP) (defScope sLenP) .none kVpL dcpL pmpL anpL cvpL ctpL), slpL⟩)
    (cpL : PySem.W.codeIn K cvpL "Tray.__len__" = true)
    (kpL : PySem.W.keepIn K (.ref fpL) = true)
    (lpE : K.lookup fpE = some ⟨ocpE, odpE, .func (PySem.W.fnOf "__eq__" "Tray.__eq__" (defArgs sEqP) (defBody sEqP) (defScope sEqP) .none kVpE dcpE pmpE anpE cvpE ctpE), slpE⟩)
    (cpE : PySem.W.codeIn K cvpE "Tray.__eq__" = true)
    (kpE : PySem.W.keepIn K (.ref fpE) = true)
    (lpS : K.lookup fpS = some ⟨ocpS, odpS, .func (PySem.W.fnOf "__str__" "Tray.__str__" (defArgs sStrP) (defBody sStrP) (defScope sStrP) .none kVpS dcpS pmpS anpS cvpS ctpS), slpS⟩)
    (cpS : PySem.W.codeIn K cvpS "Tray.__str__" = true)
    (kpS : PySem.W.keepIn K (.ref fpS) = true)
    (lmW : K.lookup fmW = some ⟨ocmW, odmW, .func (PySem.W.fnOf "with_row" "Tray.with_row" (defArgs sWR) (defBody sWR) (defScope sWR) .none kVmW dcmW pmmW anmW cvmW ctmW), slmW⟩)
    (cmW : PySem.W.codeIn K cvmW "Tray.with_row" = true)
    (kmW : PySem.W.keepIn K (.ref fmW) = true)
    (lmP : K.lookup fmP = some ⟨ocmP, odmP, .func (PySem.W.fnOf "picked" "Tray.picked" (defArgs sPk) (defBody sPk) (defScope sPk) .none kVmP dcmP pmmP anmP cvmP ctmP), slmP⟩)
    (cmP : PySem.W.codeIn K cvmP "Tray.picked" = true)
    (kmP : PySem.W.keepIn K (.ref fmP) = true)
    (lmO : K.lookup fmO = some ⟨ocmO, odmO, .func (PySem.W.fnOf "in_order" "Tray.in_order" (defArgs sIO) (defBody sIO) (defScope sIO) .none kVmO dcmO pmmO anmO cvmO ctmO), slmO⟩)
    (cmO : PySem.W.codeIn K cvmO "Tray.in_order" = true)
    (kmO : PySem.W.keepIn K (.ref fmO) = true)
    (lmK : K.lookup fmK = some ⟨ocmK, odmK, .func (PySem.W.fnOf "kin_rows" "Tray.kin_rows" (defArgs sKR) (defBody sKR) (defScope sKR) .none kVmK dcmK pmmK anmK cvmK ctmK), slmK⟩)
    (cmK : PySem.W.codeIn K cvmK "Tray.kin_rows" = true)
    (kmK : PySem.W.keepIn K (.ref fmK) = true)
    (lpR : K.lookup fpR = some ⟨ocpR, odpR, .func (PySem.W.fnOf "read" "Tray.read" (defArgs sRd) (defBody sRd) (defScope sRd) .none kVpR dcpR pmpR anpR cvpR ctpR), slpR⟩)
    (cpR : PySem.W.codeIn K cvpR "Tray.read" = true)
    (kpR : PySem.W.keepIn K (.ref fpR) = true)
    (hB : badB K CB CS = true)
    (hF : badB K CF CS = true)
    (hP : valB K CP CS = true)
    (hQ : valB K CQ CS = true)
    (hW : valB K CW CS = true)
    (hT : tooB K CT CS = true)
    (hX : txtB K CX CS = true)
    (hC : trB K C = true)
    (hp0CB : PySem.W.kitAny K (.ref CB) [.ref CB, .ref CF] = some true)
    (hp0CF : PySem.W.kitAny K (.ref CF) [.ref CB, .ref CF] = some true)
    (hp0CP : PySem.W.kitAny K (.ref CP) [.ref CB, .ref CF] = some false)
    (hp0CQ : PySem.W.kitAny K (.ref CQ) [.ref CB, .ref CF] = some false)
    (hp0CW : PySem.W.kitAny K (.ref CW) [.ref CB, .ref CF] = some false)
    (hp0CT : PySem.W.kitAny K (.ref CT) [.ref CB, .ref CF] = some false)
    (hp0CX : PySem.W.kitAny K (.ref CX) [.ref CB, .ref CF] = some false)
    (hp0N0 : PySem.W.kitAny K (.type "NoneType") [.ref CB, .ref CF] = some false)
    (hp1CP : PySem.W.kitAny K (.ref CP) [.ref CP, .ref CQ, .ref CW] = some true)
    (hp1CQ : PySem.W.kitAny K (.ref CQ) [.ref CP, .ref CQ, .ref CW] = some true)
    (hp1CW : PySem.W.kitAny K (.ref CW) [.ref CP, .ref CQ, .ref CW] = some true)
    (hp1CT : PySem.W.kitAny K (.ref CT) [.ref CP, .ref CQ, .ref CW] = some false)
    (hp1CX : PySem.W.kitAny K (.ref CX) [.ref CP, .ref CQ, .ref CW] = some false)
    (hp1N0 : PySem.W.kitAny K (.type "NoneType") [.ref CP, .ref CQ, .ref CW] = some false)
    (hkCFCB : PySem.W.kitOne K (.ref CF) (.ref CB) = some false)
    (hkCPCW : PySem.W.kitOne K (.ref CP) (.ref CW) = some false)
    (hkCQCW : PySem.W.kitOne K (.ref CQ) (.ref CW) = some false)
    (hkCQCP : PySem.W.kitOne K (.ref CQ) (.ref CP) = some false)
    (hkCXCT : PySem.W.kitOne K (.ref CX) (.ref CT) = some false)
    (hkN0CT : PySem.W.kitOne K (.type "NoneType") (.ref CT) = some false)
    (hkN0CX : PySem.W.kitOne K (.type "NoneType") (.ref CX) = some false)
    (a11 : PySem.W.nsIn K mainGlobals "is_integer" = some (some (.ref f11)))
    (l11 : K.lookup f11 = some ⟨oc11, od11, .func (PySem.W.fnOf "is_integer" "is_integer" (defArgs sInt) (defBody sInt) (defScope sInt) .none kV11 dc11 pm11 an11 cv11 ct11), sl11⟩)
    (cc11 : PySem.W.codeIn K cv11 "is_integer" = true)
    (k11 : PySem.W.keepIn K (.ref f11) = true)
    (a12 : PySem.W.nsIn K mainGlobals "is_within" = some (some (.ref f12)))
    (l12 : K.lookup f12 = some ⟨oc12, od12, .func (PySem.W.fnOf "is_within" "is_within" (defArgs sWithin) (defBody sWithin) (defScope sWithin) .none kV12 dc12 pm12 an12 cv12 ct12), sl12⟩)
    (cc12 : PySem.W.codeIn K cv12 "is_within" = true)
    (k12 : PySem.W.keepIn K (.ref f12) = true)
    (a13 : PySem.W.nsIn K mainGlobals "is_list" = some (some (.ref f13)))
    (l13 : K.lookup f13 = some ⟨oc13, od13, .func (PySem.W.fnOf "is_list" "is_list" (defArgs sIsList) (defBody sIsList) (defScope sIsList) .none kV13 dc13 pm13 an13 cv13 ct13), sl13⟩)
    (cc13 : PySem.W.codeIn K cv13 "is_list" = true)
    (k13 : PySem.W.keepIn K (.ref f13) = true)
    (a14 : PySem.W.nsIn K mainGlobals "first_twice" = some (some (.ref f14)))
    (l14 : K.lookup f14 = some ⟨oc14, od14, .func (PySem.W.fnOf "first_twice" "first_twice" (defArgs sFt) (defBody sFt) (defScope sFt) .none kV14 dc14 pm14 an14 cv14 ct14), sl14⟩)
    (cc14 : PySem.W.codeIn K cv14 "first_twice" = true)
    (k14 : PySem.W.keepIn K (.ref f14) = true)
    (a16 : PySem.W.nsIn K mainGlobals "_first_wrong" = some (some (.ref f16)))
    (l16 : K.lookup f16 = some ⟨oc16, od16, .func (PySem.W.fnOf "_first_wrong" "_first_wrong" (defArgs sFW) (defBody sFW) (defScope sFW) .none kV16 dc16 pm16 an16 cv16 ct16), sl16⟩)
    (cc16 : PySem.W.codeIn K cv16 "_first_wrong" = true)
    (k16 : PySem.W.keepIn K (.ref f16) = true)
    (a17 : PySem.W.nsIn K mainGlobals "_check_unlike" = some (some (.ref f17)))
    (l17 : K.lookup f17 = some ⟨oc17, od17, .func (PySem.W.fnOf "_check_unlike" "_check_unlike" (defArgs sCU) (defBody sCU) (defScope sCU) .none kV17 dc17 pm17 an17 cv17 ct17), sl17⟩)
    (cc17 : PySem.W.codeIn K cv17 "_check_unlike" = true)
    (k17 : PySem.W.keepIn K (.ref f17) = true)
    (a18 : PySem.W.nsIn K mainGlobals "check_pins" = some (some (.ref f18)))
    (l18 : K.lookup f18 = some ⟨oc18, od18, .func (PySem.W.fnOf "check_pins" "check_pins" (defArgs sCP) (defBody sCP) (defScope sCP) .none kV18 dc18 pm18 an18 cv18 ct18), sl18⟩)
    (cc18 : PySem.W.codeIn K cv18 "check_pins" = true)
    (k18 : PySem.W.keepIn K (.ref f18) = true)
    (a19 : PySem.W.nsIn K mainGlobals "check_order" = some (some (.ref f19)))
    (l19 : K.lookup f19 = some ⟨oc19, od19, .func (PySem.W.fnOf "check_order" "check_order" (defArgs sCO) (defBody sCO) (defScope sCO) .none kV19 dc19 pm19 an19 cv19 ct19), sl19⟩)
    (cc19 : PySem.W.codeIn K cv19 "check_order" = true)
    (k19 : PySem.W.keepIn K (.ref f19) = true)
    (a20 : PySem.W.nsIn K mainGlobals "check_picture_numbers" = some (some (.ref f20)))
    (l20 : K.lookup f20 = some ⟨oc20, od20, .func (PySem.W.fnOf "check_picture_numbers" "check_picture_numbers" (defArgs sPN) (defBody sPN) (defScope sPN) .none kV20 dc20 pm20 an20 cv20 ct20), sl20⟩)
    (cc20 : PySem.W.codeIn K cv20 "check_picture_numbers" = true)
    (k20 : PySem.W.keepIn K (.ref f20) = true)
    (a22 : PySem.W.nsIn K mainGlobals "grouped" = some (some (.ref f22)))
    (l22 : K.lookup f22 = some ⟨oc22, od22, .func (PySem.W.fnOf "grouped" "grouped" (defArgs sGr) (defBody sGr) (defScope sGr) .none kV22 dc22 pm22 an22 cv22 ct22), sl22⟩)
    (cc22 : PySem.W.codeIn K cv22 "grouped" = true)
    (k22 : PySem.W.keepIn K (.ref f22) = true)
    (a25 : PySem.W.nsIn K mainGlobals "is_row" = some (some (.ref f25)))
    (l25 : K.lookup f25 = some ⟨oc25, od25, .func (PySem.W.fnOf "is_row" "is_row" (defArgs sRow) (defBody sRow) (defScope sRow) .none kV25 dc25 pm25 an25 cv25 ct25), sl25⟩)
    (cc25 : PySem.W.codeIn K cv25 "is_row" = true)
    (k25 : PySem.W.keepIn K (.ref f25) = true)
    (a28 : PySem.W.nsIn K mainGlobals "items_of" = some (some (.ref f28)))
    (l28 : K.lookup f28 = some ⟨oc28, od28, .func (PySem.W.fnOf "items_of" "items_of" (defArgs sIof) (defBody sIof) (defScope sIof) .none kV28 dc28 pm28 an28 cv28 ct28), sl28⟩)
    (cc28 : PySem.W.codeIn K cv28 "items_of" = true)
    (k28 : PySem.W.keepIn K (.ref f28) = true)
    (a29 : PySem.W.nsIn K mainGlobals "_is_written" = some (some (.ref f29)))
    (l29 : K.lookup f29 = some ⟨oc29, od29, .func (PySem.W.fnOf "_is_written" "_is_written" (defArgs sWr) (defBody sWr) (defScope sWr) .none kV29 dc29 pm29 an29 cv29 ct29), sl29⟩)
    (cc29 : PySem.W.codeIn K cv29 "_is_written" = true)
    (k29 : PySem.W.keepIn K (.ref f29) = true)
    (a30 : PySem.W.nsIn K mainGlobals "number_at" = some (some (.ref f30)))
    (l30 : K.lookup f30 = some ⟨oc30, od30, .func (PySem.W.fnOf "number_at" "number_at" (defArgs sNa) (defBody sNa) (defScope sNa) .none kV30 dc30 pm30 an30 cv30 ct30), sl30⟩)
    (cc30 : PySem.W.codeIn K cv30 "number_at" = true)
    (k30 : PySem.W.keepIn K (.ref f30) = true)
    (a31 : PySem.W.nsIn K mainGlobals "_ends_at" = some (some (.ref f31)))
    (l31 : K.lookup f31 = some ⟨oc31, od31, .func (PySem.W.fnOf "_ends_at" "_ends_at" (defArgs sEn) (defBody sEn) (defScope sEn) .none kV31 dc31 pm31 an31 cv31 ct31), sl31⟩)
    (cc31 : PySem.W.codeIn K cv31 "_ends_at" = true)
    (k31 : PySem.W.keepIn K (.ref f31) = true)
    (a32 : PySem.W.nsIn K mainGlobals "row_at" = some (some (.ref f32)))
    (l32 : K.lookup f32 = some ⟨oc32, od32, .func (PySem.W.fnOf "row_at" "row_at" (defArgs sRA) (defBody sRA) (defScope sRA) .none kV32 dc32 pm32 an32 cv32 ct32), sl32⟩)
    (cc32 : PySem.W.codeIn K cv32 "row_at" = true)
    (k32 : PySem.W.keepIn K (.ref f32) = true)
    (a37 : PySem.W.nsIn K mainGlobals "_is_tray_row" = some (some (.ref f37)))
    (l37 : K.lookup f37 = some ⟨oc37, od37, .func (PySem.W.fnOf "_is_tray_row" "_is_tray_row" (defArgs sTR) (defBody sTR) (defScope sTR) .none kV37 dc37 pm37 an37 cv37 ct37), sl37⟩)
    (cc37 : PySem.W.codeIn K cv37 "_is_tray_row" = true)
    (k37 : PySem.W.keepIn K (.ref f37) = true)
    (a39 : PySem.W.nsIn K mainGlobals "_either_way" = some (some (.ref f39)))
    (l39 : K.lookup f39 = some ⟨oc39, od39, .func (PySem.W.fnOf "_either_way" "_either_way" (defArgs sEW) (defBody sEW) (defScope sEW) .none kV39 dc39 pm39 an39 cv39 ct39), sl39⟩)
    (cc39 : PySem.W.codeIn K cv39 "_either_way" = true)
    (k39 : PySem.W.keepIn K (.ref f39) = true)
    (a41 : PySem.W.nsIn K mainGlobals "_law_cask" = some (some (.ref f41)))
    (l41 : K.lookup f41 = some ⟨oc41, od41, .func (PySem.W.fnOf "_law_cask" "_law_cask" (defArgs sLens) (defBody sLens) (defScope sLens) .none kV41 dc41 pm41 an41 cv41 ct41), sl41⟩)
    (cc41 : PySem.W.codeIn K cv41 "_law_cask" = true)
    (k41 : PySem.W.keepIn K (.ref f41) = true)
    (a42 : PySem.W.nsIn K mainGlobals "_law_draw" = some (some (.ref f42)))
    (l42 : K.lookup f42 = some ⟨oc42, od42, .func (PySem.W.fnOf "_law_draw" "_law_draw" (defArgs sShot) (defBody sShot) (defScope sShot) .none kV42 dc42 pm42 an42 cv42 ct42), sl42⟩)
    (cc42 : PySem.W.codeIn K cv42 "_law_draw" = true)
    (k42 : PySem.W.keepIn K (.ref f42) = true)
    (a43 : PySem.W.nsIn K mainGlobals "_law_of" = some (some (.ref f43)))
    (l43 : K.lookup f43 = some ⟨oc43, od43, .func (PySem.W.fnOf "_law_of" "_law_of" (defArgs sPick) (defBody sPick) (defScope sPick) .none kV43 dc43 pm43 an43 cv43 ct43), sl43⟩)
    (cc43 : PySem.W.codeIn K cv43 "_law_of" = true)
    (k43 : PySem.W.keepIn K (.ref f43) = true)
    (a44 : PySem.W.nsIn K mainGlobals "_law_steps" = some (some (.ref f44)))
    (l44 : K.lookup f44 = some ⟨oc44, od44, .func (PySem.W.fnOf "_law_steps" "_law_steps" (defArgs sSt) (defBody sSt) (defScope sSt) .none kV44 dc44 pm44 an44 cv44 ct44), sl44⟩)
    (cc44 : PySem.W.codeIn K cv44 "_law_steps" = true)
    (k44 : PySem.W.keepIn K (.ref f44) = true)
    (a45 : PySem.W.nsIn K mainGlobals "_law_are_kin" = some (some (.ref f45)))
    (l45 : K.lookup f45 = some ⟨oc45, od45, .func (PySem.W.fnOf "_law_are_kin" "_law_are_kin" (defArgs sKi) (defBody sKi) (defScope sKi) .none kV45 dc45 pm45 an45 cv45 ct45), sl45⟩)
    (cc45 : PySem.W.codeIn K cv45 "_law_are_kin" = true)
    (k45 : PySem.W.keepIn K (.ref f45) = true)
    (a46 : PySem.W.nsIn K mainGlobals "_law_places" = some (some (.ref f46)))
    (l46 : K.lookup f46 = some ⟨oc46, od46, .func (PySem.W.fnOf "_law_places" "_law_places" (defArgs sPlc) (defBody sPlc) (defScope sPlc) .none kV46 dc46 pm46 an46 cv46 ct46), sl46⟩)
    (cc46 : PySem.W.codeIn K cv46 "_law_places" = true)
    (k46 : PySem.W.keepIn K (.ref f46) = true)
    (a47 : PySem.W.nsIn K mainGlobals "_law_rows" = some (some (.ref f47)))
    (l47 : K.lookup f47 = some ⟨oc47, od47, .func (PySem.W.fnOf "_law_rows" "_law_rows" (defArgs sRs) (defBody sRs) (defScope sRs) .none kV47 dc47 pm47 an47 cv47 ct47), sl47⟩)
    (cc47 : PySem.W.codeIn K cv47 "_law_rows" = true)
    (k47 : PySem.W.keepIn K (.ref f47) = true)
    (a48 : PySem.W.nsIn K mainGlobals "_law_lots" = some (some (.ref f48)))
    (l48 : K.lookup f48 = some ⟨oc48, od48, .func (PySem.W.fnOf "_law_lots" "_law_lots" (defArgs sLo) (defBody sLo) (defScope sLo) .none kV48 dc48 pm48 an48 cv48 ct48), sl48⟩)
    (cc48 : PySem.W.codeIn K cv48 "_law_lots" = true)
    (k48 : PySem.W.keepIn K (.ref f48) = true)
    (a49 : PySem.W.nsIn K mainGlobals "_law_heard" = some (some (.ref f49)))
    (l49 : K.lookup f49 = some ⟨oc49, od49, .func (PySem.W.fnOf "_law_heard" "_law_heard" (defArgs sHd) (defBody sHd) (defScope sHd) .none kV49 dc49 pm49 an49 cv49 ct49), sl49⟩)
    (cc49 : PySem.W.codeIn K cv49 "_law_heard" = true)
    (k49 : PySem.W.keepIn K (.ref f49) = true)
    (a50 : PySem.W.nsIn K mainGlobals "_law_kept_right" = some (some (.ref f50)))
    (l50 : K.lookup f50 = some ⟨oc50, od50, .func (PySem.W.fnOf "_law_kept_right" "_law_kept_right" (defArgs sKp) (defBody sKp) (defScope sKp) .none kV50 dc50 pm50 an50 cv50 ct50), sl50⟩)
    (cc50 : PySem.W.codeIn K cv50 "_law_kept_right" = true)
    (k50 : PySem.W.keepIn K (.ref f50) = true)
    (a51 : PySem.W.nsIn K mainGlobals "_law_changed_right" = some (some (.ref f51)))
    (l51 : K.lookup f51 = some ⟨oc51, od51, .func (PySem.W.fnOf "_law_changed_right" "_law_changed_right" (defArgs sCg) (defBody sCg) (defScope sCg) .none kV51 dc51 pm51 an51 (.ref c51) ct51), sl51⟩)
    (cc51 : PySem.W.codeIn K (.ref c51) "_law_changed_right" = true)
    (k51 : PySem.W.keepIn K (.ref f51) = true)
    (a52 : PySem.W.nsIn K mainGlobals "_law_number" = some (some (.ref f52)))
    (l52 : K.lookup f52 = some ⟨oc52, od52, .func (PySem.W.fnOf "_law_number" "_law_number" (defArgs sNuL) (defBody sNuL) (defScope sNuL) .none kV52 dc52 pm52 an52 cv52 ct52), sl52⟩)
    (cc52 : PySem.W.codeIn K cv52 "_law_number" = true)
    (k52 : PySem.W.keepIn K (.ref f52) = true)
    (a53 : PySem.W.nsIn K mainGlobals "_law_place" = some (some (.ref f53)))
    (l53 : K.lookup f53 = some ⟨oc53, od53, .func (PySem.W.fnOf "_law_place" "_law_place" (defArgs sPL) (defBody sPL) (defScope sPL) .none kV53 dc53 pm53 an53 cv53 ct53), sl53⟩)
    (cc53 : PySem.W.codeIn K cv53 "_law_place" = true)
    (k53 : PySem.W.keepIn K (.ref f53) = true)
    (a54 : PySem.W.nsIn K mainGlobals "_law_texts_right" = some (some (.ref f54)))
    (l54 : K.lookup f54 = some ⟨oc54, od54, .func (PySem.W.fnOf "_law_texts_right" "_law_texts_right" (defArgs sTxr) (defBody sTxr) (defScope sTxr) .none kV54 dc54 pm54 an54 (.ref c54) ct54), sl54⟩)
    (cc54 : PySem.W.codeIn K (.ref c54) "_law_texts_right" = true)
    (k54 : PySem.W.keepIn K (.ref f54) = true)
    (a55 : PySem.W.nsIn K mainGlobals "_law_refused_right" = some (some (.ref f55)))
    (l55 : K.lookup f55 = some ⟨oc55, od55, .func (PySem.W.fnOf "_law_refused_right" "_law_refused_right" (defArgs sRf) (defBody sRf) (defScope sRf) .none kV55 dc55 pm55 an55 (.ref c55) ct55), sl55⟩)
    (cc55 : PySem.W.codeIn K (.ref c55) "_law_refused_right" = true)
    (k55 : PySem.W.keepIn K (.ref f55) = true)
    (a56 : PySem.W.nsIn K mainGlobals "law" = some (some (.ref f56)))
    (l56 : K.lookup f56 = some ⟨oc56, od56, .func (PySem.W.fnOf "law" "law" (defArgs sLaw) (defBody sLaw) (defScope sLaw) .none kV56 dc56 pm56 an56 cv56 ct56), sl56⟩)
    (cc56 : PySem.W.codeIn K cv56 "law" = true)
    (k56 : PySem.W.keepIn K (.ref f56) = true)
    (hd1 : PySem.W.codeHdIn K c51 P1 = true)
    (nT1 : K.lookup P1 = none)
    (hd2 : PySem.W.codeHdIn K c54 P2 = true)
    (nT2 : K.lookup P2 = none)
    (hd3 : PySem.W.codeHdIn K c55 P3 = true)
    (nT3 : K.lookup P3 = none)
    (z_isinstance : PySem.W.nsIn K mainGlobals "isinstance" = some none)
    (z_int : PySem.W.nsIn K mainGlobals "int" = some none)
    (z_bool : PySem.W.nsIn K mainGlobals "bool" = some none)
    (z_list : PySem.W.nsIn K mainGlobals "list" = some none)
    (z_tuple : PySem.W.nsIn K mainGlobals "tuple" = some none)
    (z_all : PySem.W.nsIn K mainGlobals "all" = some none)
    (z_len : PySem.W.nsIn K mainGlobals "len" = some none)
    (z_range : PySem.W.nsIn K mainGlobals "range" = some none)
    (z_abs : PySem.W.nsIn K mainGlobals "abs" = some none)
    (z_str : PySem.W.nsIn K mainGlobals "str" = some none)
    (z_sum : PySem.W.nsIn K mainGlobals "sum" = some none)
    (z_min : PySem.W.nsIn K mainGlobals "min" = some none)
    (z_enumerate : PySem.W.nsIn K mainGlobals "enumerate" = some none)
    (z_max : PySem.W.nsIn K mainGlobals "max" = some none)
    (z_any : PySem.W.nsIn K mainGlobals "any" = some none)
    (z_set : PySem.W.nsIn K mainGlobals "set" = some none) :
    LamX.LawAtS l w K CX0 11 63 "_law_script" mg fa h := by
  have e := hfa.symm.trans (PySem.W.mg_of X G a56)
  cases e
  have F11 := fun_mk (st := sInt) l11 cc11 k11
  have F12 := fun_mk (st := sWithin) l12 cc12 k12
  have F13 := fun_mk (st := sIsList) l13 cc13 k13
  have F14 := fun_mk (st := sFt) l14 cc14 k14
  have F16 := fun_mk (st := sFW) l16 cc16 k16
  have F17 := fun_mk (st := sCU) l17 cc17 k17
  have F18 := fun_mk (st := sCP) l18 cc18 k18
  have F19 := fun_mk (st := sCO) l19 cc19 k19
  have F20 := fun_mk (st := sPN) l20 cc20 k20
  have F22 := fun_mk (st := sGr) l22 cc22 k22
  have F25 := fun_mk (st := sRow) l25 cc25 k25
  have F28 := fun_mk (st := sIof) l28 cc28 k28
  have F29 := fun_mk (st := sWr) l29 cc29 k29
  have F30 := fun_mk (st := sNa) l30 cc30 k30
  have F31 := fun_mk (st := sEn) l31 cc31 k31
  have F32 := fun_mk (st := sRA) l32 cc32 k32
  have F37 := fun_mk (st := sTR) l37 cc37 k37
  have F39 := fun_mk (st := sEW) l39 cc39 k39
  have F41 := fun_mk (st := sLens) l41 cc41 k41
  have F42 := fun_mk (st := sShot) l42 cc42 k42
  have F43 := fun_mk (st := sPick) l43 cc43 k43
  have F44 := fun_mk (st := sSt) l44 cc44 k44
  have F45 := fun_mk (st := sKi) l45 cc45 k45
  have F46 := fun_mk (st := sPlc) l46 cc46 k46
  have F47 := fun_mk (st := sRs) l47 cc47 k47
  have F48 := fun_mk (st := sLo) l48 cc48 k48
  have F49 := fun_mk (st := sHd) l49 cc49 k49
  have F50 := fun_mk (st := sKp) l50 cc50 k50
  have F51 := fun_mk (st := sCg) l51 cc51 k51
  have F52 := fun_mk (st := sNuL) l52 cc52 k52
  have F53 := fun_mk (st := sPL) l53 cc53 k53
  have F54 := fun_mk (st := sTxr) l54 cc54 k54
  have F55 := fun_mk (st := sRf) l55 cc55 k55
  have F56 := fun_mk (st := sLaw) l56 cc56 k56
  have FxB := fun_mk (st := sBI) lxB cxB kxB
  have FxF := fun_mk (st := sFI) lxF cxF kxF
  have FxV := fun_mk (st := sVI) lxV cxV kxV
  have FxW := fun_mk (st := sWI) lxW cxW kxW
  have FxT := fun_mk (st := sTI) lxT cxT kxT
  have FxX := fun_mk (st := sTX) lxX cxX kxX
  have FpI := fun_mk (st := sTrI) lpI cpI kpI
  have FpL := fun_mk (st := sLenP) lpL cpL kpL
  have FpE := fun_mk (st := sEqP) lpE cpE kpE
  have FpS := fun_mk (st := sStrP) lpS cpS kpS
  have FmW := fun_mk (st := sWR) lmW cmW kmW
  have FmP := fun_mk (st := sPk) lmP cmP kmP
  have FmO := fun_mk (st := sIO) lmO cmO kmO
  have FmK := fun_mk (st := sKR) lmK cmK kmK
  have FpR := fun_mk (st := sRd) lpR cpR kpR
  have B : Bn mg := ⟨PySem.W.mg_none_of X G z_isinstance, PySem.W.mg_none_of X G z_int, PySem.W.mg_none_of X G z_bool, PySem.W.mg_none_of X G z_list, PySem.W.mg_none_of X G z_tuple, PySem.W.mg_none_of X G z_all, PySem.W.mg_none_of X G z_len, PySem.W.mg_none_of X G z_range, PySem.W.mg_none_of X G z_abs, PySem.W.mg_none_of X G z_str, PySem.W.mg_none_of X G z_sum, PySem.W.mg_none_of X G z_min, PySem.W.mg_none_of X G z_enumerate, PySem.W.mg_none_of X G z_max, PySem.W.mg_none_of X G z_any, PySem.W.mg_none_of X G z_set⟩
  obtain ⟨oxxB, exxB, xfxB, noxB, subxB⟩ := badB_ok hB
  obtain ⟨oxxF, exxF, xfxF, noxF, subxF⟩ := badB_ok hF
  obtain ⟨oxxV, exxV, xfxV, noxV, subxV⟩ := valB_ok hP
  obtain ⟨oxxQ, exxQ, xfxQ, noxQ, subxQ⟩ := valB_ok hQ
  obtain ⟨oxxW, exxW, xfxW, noxW, subxW⟩ := valB_ok hW
  obtain ⟨oxxT, exxT, xfxT, no1, no2, subxT⟩ := tooB_ok hT
  obtain ⟨oxxX, exxX, xfxX, no3, no4, subxX⟩ := txtB_ok hX
  obtain ⟨pt, pn, mk, kc⟩ := trB_ok hC
  have TTr : TmT K mg CT fxT := ⟨oxxT, PySem.W.mg_of X G gCT, no1, no2, ixT, txT⟩
  have TXr : TxT K mg CX fxX := ⟨oxxX, PySem.W.mg_of X G gCX, no3, no4, ixX, txX⟩
  have S : SeT K CS CB CF CP CQ CW CT CX := ⟨fun c hc => by
    simp only [List.mem_cons, List.not_mem_nil, or_false] at hc
    rcases hc with rfl | rfl | rfl | rfl | rfl | rfl | rfl
    · exact ⟨subxB, exxB, xfxB⟩
    · exact ⟨subxF, exxF, xfxF⟩
    · exact ⟨subxV, exxV, xfxV⟩
    · exact ⟨subxQ, exxQ, xfxQ⟩
    · exact ⟨subxW, exxW, xfxW⟩
    · exact ⟨subxT, exxT, xfxT⟩
    · exact ⟨subxX, exxX, xfxX⟩, noxB, noxF, noxV, noxQ, noxW, no1, no2, no3, no4, hp0CB, hp0CF, hp0CP, hp0CQ, hp0CW, hp0CT, hp0CX, hp0N0, hp1CP, hp1CQ, hp1CW, hp1CT, hp1CX, hp1N0, hkCFCB, hkCPCW, hkCQCW, hkCQCP, hkCXCT, hkN0CT, hkN0CX⟩
  have M : SeM mg CS CB CF CP CQ CW CT CX := ⟨PySem.W.mg_of X G gCS, PySem.W.mg_of X G gCB, PySem.W.mg_of X G gCF, PySem.W.mg_of X G gCP, PySem.W.mg_of X G gCQ, PySem.W.mg_of X G gCW, PySem.W.mg_of X G gCT, PySem.W.mg_of X G gCX⟩
  have L : ∃ t, mg "LIMIT" = some (.int 1000000000 t) := ⟨tL, PySem.W.mg_of X G gL⟩
  have L3 : ∃ t, mg "FEWEST_PINS" = some (.int 3 t) := ⟨t3, PySem.W.mg_of X G g3⟩
  have L7 : ∃ t, mg "MOST_PINS" = some (.int 7 t) := ⟨t7, PySem.W.mg_of X G g7⟩
  have L8 : ∃ t, mg "MOST_ROWS" = some (.int 8 t) := ⟨t8, PySem.W.mg_of X G g8⟩
  have L60 : ∃ t, mg "MOST_DIGITS" = some (.int 60 t) := ⟨t60, PySem.W.mg_of X G g60⟩
  refine ⟨PySem.W.fnOf "law" "law" (defArgs sLaw) (defBody sLaw) (defScope sLaw) .none kV56 dc56 pm56 an56 cv56 ct56, [(c51, P1), (c54, P2), (c55, P3)], spLaw K [(P1, qCg), (P2, qTxr), (P3, qRf)], fun p hp => ?_, fun p hp => ?_, fun p hp => ?_, fun s u => .of_eq rfl, fun H a ns hl _ hT hS => ?_, fun base _ _ TBs => ?_⟩
  · simp only [List.mem_cons, List.not_mem_nil, or_false] at hp
    rcases hp with rfl | rfl | rfl
    · exact tab1
    · exact tab2
    · exact tab3
  · simp only [List.mem_cons, List.not_mem_nil, or_false] at hp
    rcases hp with rfl | rfl | rfl
    · exact nT1
    · exact nT2
    · exact nT3
  · simp only [List.mem_cons, List.not_mem_nil, or_false] at hp
    rcases hp with rfl | rfl | rfl
    · exact PySem.W.codeHd_of_K X hd1
    · exact PySem.W.codeHd_of_K X hd2
    · exact PySem.W.codeHd_of_K X hd3
  · refine ⟨a, ns, rfl, hS, hl, fun x hx => ?_, fun _ => rfl⟩
    simp only [List.mem_cons, List.not_mem_nil, or_false] at hx
    rcases hx with rfl | rfl | rfl
    · exact LamX.TabS.nil (hT (c51, P1) (by simp))
    · exact LamX.TabS.nil (hT (c54, P2) (by simp))
    · exact LamX.TabS.nil (hT (c55, P3) (by simp))
  · have MB : ErM l.prog w K mg base "BadTray" "part" CB := ⟨fxB, _, ⟨oxxB, PySem.W.mg_of X G gCB, noxB, ixB, txB⟩, ok_bi FxB, FxB.binds (ps := ["self", "part"]) fun _ _ _ _ _ _ us hl => match us, hl with | [_, _], _ => rfl⟩
    have MF : ErM l.prog w K mg base "Misfit" "part" CF := ⟨fxF, _, ⟨oxxF, PySem.W.mg_of X G gCF, noxF, ixF, txF⟩, ok_fi FxF, FxF.binds (ps := ["self", "part"]) fun _ _ _ _ _ _ us hl => match us, hl with | [_, _], _ => rfl⟩
    have MP : ErM l.prog w K mg base "NoPin" "value" CP := ⟨fxV, _, ⟨oxxV, PySem.W.mg_of X G gCP, noxV, ixV, txV⟩, ok_vi FxV, FxV.binds (ps := ["self", "value"]) fun _ _ _ _ _ _ us hl => match us, hl with | [_, _], _ => rfl⟩
    have MW : ErM l.prog w K mg base "Twice" "value" CW := ⟨fxW, _, ⟨oxxW, PySem.W.mg_of X G gCW, noxW, ixW, txW⟩, ok_wi FxW, FxW.binds (ps := ["self", "value"]) fun _ _ _ _ _ _ us hl => match us, hl with | [_, _], _ => rfl⟩
    have MQ : ErM l.prog w K mg base "NoPicture" "value" CQ := ⟨fxV, _, ⟨oxxQ, PySem.W.mg_of X G gCQ, noxQ, ixQ, txV⟩, ok_vi FxV, FxV.binds (ps := ["self", "value"]) fun _ _ _ _ _ _ us hl => match us, hl with | [_, _], _ => rfl⟩
    have C11d : Callee l.prog w K mg base CX0 1 "is_integer" ["value"] (spInt K) := ⟨f11, _, PySem.W.mg_of X G a11, F11.kp, F11.binds (ps := ["value"]) fun _ _ _ _ _ _ us hl => match us, hl with | [_], _ => rfl, ok_int F11 B⟩
    have C12d : Callee l.prog w K mg base CX0 2 "is_within" ["value", "least", "most"] (spWithin K) := ⟨f12, _, PySem.W.mg_of X G a12, F12.kp, F12.binds (ps := ["value", "least", "most"]) fun _ _ _ _ _ _ us hl => match us, hl with | [_, _, _], _ => rfl, ok_within F12 C11d⟩
    have C13d : Callee l.prog w K mg base CX0 1 "is_list" ["value"] (spIsList K) := ⟨f13, _, PySem.W.mg_of X G a13, F13.kp, F13.binds (ps := ["value"]) fun _ _ _ _ _ _ us hl => match us, hl with | [_], _ => rfl, ok_isList F13 B⟩
    have C14d : Callee l.prog w K mg base CX0 1 "first_twice" ["values"] spFt := ⟨f14, _, PySem.W.mg_of X G a14, F14.kp, F14.binds (ps := ["values"]) fun _ _ _ _ _ _ us hl => match us, hl with | [_], _ => rfl, ok_ft F14 B.set⟩
    have C16d : Callee l.prog w K mg base CX0 3 "_first_wrong" ["values", "many"] (spFW K) := ⟨f16, _, PySem.W.mg_of X G a16, F16.kp, F16.binds (ps := ["values", "many"]) fun _ _ _ _ _ _ us hl => match us, hl with | [_, _], _ => rfl, ok_fw F16 C13d C12d⟩
    have C17d : Callee l.prog w K mg base (L2.CX l.prog w) 3 "_check_unlike" ["values"] (spCU CW) := ⟨f17, _, PySem.W.mg_of X G a17, F17.kp, F17.binds (ps := ["values"]) fun _ _ _ _ _ _ us hl => match us, hl with | [_], _ => rfl, ok_cu F17 MW C14d⟩
    have C18d : Callee l.prog w K mg base (L2.CX l.prog w) 4 "check_pins" ["values", "many"] (spCP K CP CW) := ⟨f18, _, PySem.W.mg_of X G a18, F18.kp, F18.binds (ps := ["values", "many"]) fun _ _ _ _ _ _ us hl => match us, hl with | [_, _], _ => rfl, ok_cp F18 MP C16d C17d⟩
    have C19d : Callee l.prog w K mg base (L2.CX l.prog w) 5 "check_order" ["values", "many"] (spCO K CP CW CF) := ⟨f19, _, PySem.W.mg_of X G a19, F19.kp, F19.binds (ps := ["values", "many"]) fun _ _ _ _ _ _ us hl => match us, hl with | [_, _], _ => rfl, ok_co F19 B MF C18d⟩
    have C20d : Callee l.prog w K mg base (L2.CX l.prog w) 4 "check_picture_numbers" ["values", "many"] (spCP K CQ CW) := ⟨f20, _, PySem.W.mg_of X G a20, F20.kp, F20.binds (ps := ["values", "many"]) fun _ _ _ _ _ _ us hl => match us, hl with | [_, _], _ => rfl, ok_pn F20 MQ C16d C17d⟩
    have C22d : Callee l.prog w K mg base CX0 2 "grouped" ["keys"] spGr := ⟨f22, _, PySem.W.mg_of X G a22, F22.kp, F22.binds (ps := ["keys"]) fun _ _ _ _ _ _ us hl => match us, hl with | [_], _ => rfl, ok_gr F22 B⟩
    have C25d : Callee l.prog w K mg base CX0 3 "is_row" ["value", "fewest", "most"] (spRow K) := ⟨f25, _, PySem.W.mg_of X G a25, F25.kp, F25.binds (ps := ["value", "fewest", "most"]) fun _ _ _ _ _ _ us hl => match us, hl with | [_, _, _], _ => rfl, ok_row F25 B L C13d C12d⟩
    have C28d : Callee l.prog w K mg base (L2.CX l.prog w) 3 "items_of" ["text"] (spIof K CX) := ⟨f28, _, PySem.W.mg_of X G a28, F28.kp, F28.binds (ps := ["text"]) fun _ _ _ _ _ _ us hl => match us, hl with | [_], _ => rfl, ok_iof F28 B TXr FxX⟩
    have C29d : Callee l.prog w K mg base CX0 1 "_is_written" ["item"] spWr := ⟨f29, _, PySem.W.mg_of X G a29, F29.kp, F29.binds (ps := ["item"]) fun _ _ _ _ _ _ us hl => match us, hl with | [_], _ => rfl, ok_wr F29 B L60⟩
    have C30d : Callee l.prog w K mg base (L2.CX l.prog w) 3 "number_at" ["items", "at", "least", "most"] (spNa CX) := ⟨f30, _, PySem.W.mg_of X G a30, F30.kp, F30.binds (ps := ["items", "at", "least", "most"]) fun _ _ _ _ _ _ us hl => match us, hl with | [_, _, _, _], _ => rfl, ok_na F30 B TXr FxX C29d C12d⟩
    have C31d : Callee l.prog w K mg base CX0 1 "_ends_at" ["items", "at", "ends"] spEn := ⟨f31, _, PySem.W.mg_of X G a31, F31.kp, F31.binds (ps := ["items", "at", "ends"]) fun _ _ _ _ _ _ us hl => match us, hl with | [_, _, _], _ => rfl, ok_en F31 B⟩
    have C32d : Callee l.prog w K mg base (L2.CX l.prog w) 4 "row_at" ["items", "at", "fewest", "most", "ends"] (spRA CX) := ⟨f32, _, PySem.W.mg_of X G a32, F32.kp, F32.binds (ps := ["items", "at", "fewest", "most", "ends"]) fun _ _ _ _ _ _ us hl => match us, hl with | [_, _, _, _, _], _ => rfl, ok_ra F32 B TXr FxX L C31d C30d⟩
    have C37d : Callee l.prog w K mg base CX0 4 "_is_tray_row" ["value"] (spTR K) := ⟨f37, _, PySem.W.mg_of X G a37, F37.kp, F37.binds (ps := ["value"]) fun _ _ _ _ _ _ us hl => match us, hl with | [_], _ => rfl, ok_tr F37 L3 L7 C25d⟩
    have C39d : Callee l.prog w K mg base CX0 6 "_either_way" ["row"] spEW := ⟨f39, _, PySem.W.mg_of X G a39, F39.kp, F39.binds (ps := ["row"]) fun _ _ _ _ _ _ us hl => match us, hl with | [_], _ => rfl, ok_ew F39 B⟩
    have mC := PySem.W.mg_of X G gC
    have IT : IniT l.prog w K mg base C CB CF CT := ⟨fpI, _, ⟨mk, ipI, npI, kc⟩, ok_tri FpI B pt L8 MB MF TTr FxT C13d C37d, FpI.binds (ps := ["self", "rows"]) fun _ _ _ _ _ _ us hl => match us, hl with | [_, _], _ => rfl, kbn19 fun us ws h1 h2 => match us, ws, h1, h2 with | [_], [_], _, _ => rfl⟩
    have TC : Tc l.prog w K mg base C CB CF CT CP CQ CW CX := ⟨mC, pt, pn, IT, ⟨fpL, _, ok_lenP FpL B pt, ipL, npL, FpL.binds (ps := ["self"]) fun _ _ _ _ _ _ us hl => match us, hl with | [_], _ => rfl⟩, ⟨fpE, _, ok_eqP FpE B pt pn mC, ipE, npE, FpE.binds (ps := ["self", "other"]) fun _ _ _ _ _ _ us hl => match us, hl with | [_, _], _ => rfl⟩, ⟨fpS, _, ok_strP FpS B pt, ipS, npS, FpS.binds (ps := ["self"]) fun _ _ _ _ _ _ us hl => match us, hl with | [_], _ => rfl⟩, ⟨fmW, _, ⟨imW, nmW, FmW.kp⟩, ok_wrow FmW pt mC IT MB C37d, FmW.binds (ps := ["self", "places"]) fun _ _ _ _ _ _ us hl => match us, hl with | [_, _], _ => rfl, kbn19 fun us ws h1 h2 => match us, ws, h1, h2 with | [_], [_], _, _ => rfl⟩, ⟨fmP, _, ⟨imP, nmP, FmP.kp⟩, ok_pk FmP B pt mC IT C20d, FmP.binds (ps := ["self", "numbers"]) fun _ _ _ _ _ _ us hl => match us, hl with | [_, _], _ => rfl, kbn19 fun us ws h1 h2 => match us, ws, h1, h2 with | [_], [_], _, _ => rfl⟩, ⟨fmO, _, ⟨imO, nmO, FmO.kp⟩, ok_io FmO B pt mC IT C19d, FmO.binds (ps := ["self", "pins"]) fun _ _ _ _ _ _ us hl => match us, hl with | [_, _], _ => rfl, kbn19 fun us ws h1 h2 => match us, ws, h1, h2 with | [_], [_], _, _ => rfl⟩, ⟨fmK, _, ⟨imK, nmK, FmK.kp⟩, ok_kr FmK pt C22d C39d, FmK.binds (ps := ["self"]) fun _ _ _ _ _ _ us hl => match us, hl with | [_], _ => rfl⟩, ⟨fpR, _, ⟨⟨sapR, sbpR⟩, ⟨_, gppR, _, grpR⟩, FpR.kp⟩, ok_rd FpR B pt mC IT L3 L7 L8 C28d C32d, FpR.binds (ps := ["text"]) fun _ _ _ _ _ _ us hl => match us, hl with | [_], _ => rfl, kbn19 fun us ws h1 h2 => match us, ws, h1, h2 with | [], [_], _, _ => rfl⟩⟩
    have C41d : Callee l.prog w K mg base CX0 1 "_law_cask" ["_law_script"] (spLens K) := ⟨f41, _, PySem.W.mg_of X G a41, F41.kp, F41.binds (ps := ["_law_script"]) fun _ _ _ _ _ _ us hl => match us, hl with | [_], _ => rfl, ok_lens F41 B⟩
    have C42d : Callee l.prog w K mg base CX0 1 "_law_draw" ["_law_cask_here", "_law_many"] spShot := ⟨f42, _, PySem.W.mg_of X G a42, F42.kp, F42.binds (ps := ["_law_cask_here", "_law_many"]) fun _ _ _ _ _ _ us hl => match us, hl with | [_, _], _ => rfl, ok_shot F42 B⟩
    have C43d : Callee l.prog w K mg base CX0 2 "_law_of" ["_law_cask_here", "_law_some"] spPick := ⟨f43, _, PySem.W.mg_of X G a43, F43.kp, F43.binds (ps := ["_law_cask_here", "_law_some"]) fun _ _ _ _ _ _ us hl => match us, hl with | [_, _], _ => rfl, ok_pick F43 B C42d⟩
    have C44d : Callee l.prog w K mg base CX0 1 "_law_steps" ["_law_places_here"] spSt := ⟨f44, _, PySem.W.mg_of X G a44, F44.kp, F44.binds (ps := ["_law_places_here"]) fun _ _ _ _ _ _ us hl => match us, hl with | [_], _ => rfl, ok_st F44⟩
    have C45d : Callee l.prog w K mg base CX0 1 "_law_are_kin" ["_law_one", "_law_other"] spKi := ⟨f45, _, PySem.W.mg_of X G a45, F45.kp, F45.binds (ps := ["_law_one", "_law_other"]) fun _ _ _ _ _ _ us hl => match us, hl with | [_, _], _ => rfl, ok_ki F45 B⟩
    have C46d : Callee l.prog w K mg base CX0 2 "_law_places" ["_law_cask_here", "_law_pins"] spPlc := ⟨f46, _, PySem.W.mg_of X G a46, F46.kp, F46.binds (ps := ["_law_cask_here", "_law_pins"]) fun _ _ _ _ _ _ us hl => match us, hl with | [_, _], _ => rfl, ok_plc F46 B C42d⟩
    have C47d : Callee l.prog w K mg base CX0 3 "_law_rows" ["_law_cask_here"] spRs := ⟨f47, _, PySem.W.mg_of X G a47, F47.kp, F47.binds (ps := ["_law_cask_here"]) fun _ _ _ _ _ _ us hl => match us, hl with | [_], _ => rfl, ok_rs F47 B C42d C43d C46d⟩
    have C48d : Callee l.prog w K mg base CX0 2 "_law_lots" ["_law_rows_here"] spLo := ⟨f48, _, PySem.W.mg_of X G a48, F48.kp, F48.binds (ps := ["_law_rows_here"]) fun _ _ _ _ _ _ us hl => match us, hl with | [_], _ => rfl, ok_lo F48 B C44d C45d⟩
    have C50d : Callee l.prog w K mg base CX0 10 "_law_kept_right" ["_law_cask_here", "_law_rows_here"] (spKp 100 2) := ⟨f50, _, PySem.W.mg_of X G a50, F50.kp, F50.binds (ps := ["_law_cask_here", "_law_rows_here"]) fun _ _ _ _ _ _ us hl => match us, hl with | [_, _], _ => rfl, ok_kp F50 B TC C44d C48d C42d⟩
    have C52d : Callee l.prog w K mg base CX0 1 "_law_number" ["_law_item"] spNuL := ⟨f52, _, PySem.W.mg_of X G a52, F52.kp, F52.binds (ps := ["_law_item"]) fun _ _ _ _ _ _ us hl => match us, hl with | [_], _ => rfl, ok_nul F52 B⟩
    have C53d : Callee l.prog w K mg base CX0 2 "_law_place" ["_law_items"] spPL := ⟨f53, _, PySem.W.mg_of X G a53, F53.kp, F53.binds (ps := ["_law_items"]) fun _ _ _ _ _ _ us hl => match us, hl with | [_], _ => rfl, ok_pll F53 B C52d⟩
    have mH := PySem.W.mg_of X G a49
    have hm1 : (P1, qCg) ∈ [(P1, qCg), (P2, qTxr), (P3, qRf)] := by simp
    have hu1 : ∀ x ∈ [(P1, qCg), (P2, qTxr), (P3, qRf)], x.1 = P1 → x.2 = qCg := fun x hx e => by
      simp only [List.mem_cons, List.not_mem_nil, or_false] at hx
      rcases hx with rfl | rfl | rfl
      · rfl
      · exact absurd e n12.symm
      · exact absurd e n13.symm
    have TB1 := TBs (c51, P1) (by simp)
    have hm2 : (P2, qTxr) ∈ [(P1, qCg), (P2, qTxr), (P3, qRf)] := by simp
    have hu2 : ∀ x ∈ [(P1, qCg), (P2, qTxr), (P3, qRf)], x.1 = P2 → x.2 = qTxr := fun x hx e => by
      simp only [List.mem_cons, List.not_mem_nil, or_false] at hx
      rcases hx with rfl | rfl | rfl
      · exact absurd e n12
      · rfl
      · exact absurd e n23.symm
    have TB2 := TBs (c54, P2) (by simp)
    have hm3 : (P3, qRf) ∈ [(P1, qCg), (P2, qTxr), (P3, qRf)] := by simp
    have hu3 : ∀ x ∈ [(P1, qCg), (P2, qTxr), (P3, qRf)], x.1 = P3 → x.2 = qRf := fun x hx e => by
      simp only [List.mem_cons, List.not_mem_nil, or_false] at hx
      rcases hx with rfl | rfl | rfl
      · exact absurd e n13
      · exact absurd e n23
      · rfl
    have TB3 := TBs (c55, P3) (by simp)
    have C51d : Callee l.prog w K mg base CX0 10 "_law_changed_right" ["_law_cask_here", "_law_rows_here"] (spT [(P1, qCg), (P2, qTxr), (P3, qRf)] 100 40) := ⟨f51, _, PySem.W.mg_of X G a51, F51.kp, F51.binds (ps := ["_law_cask_here", "_law_rows_here"]) fun _ _ _ _ _ _ us hl => match us, hl with | [_, _], _ => rfl, ok_cg hm1 hu1 l51 cc51 TB1 B TC S M F49 mH C46d C42d⟩
    have C54d : Callee l.prog w K mg base CX0 10 "_law_texts_right" ["_law_cask_here", "_law_rows_here"] (spT [(P1, qCg), (P2, qTxr), (P3, qRf)] 100 40) := ⟨f54, _, PySem.W.mg_of X G a54, F54.kp, F54.binds (ps := ["_law_cask_here", "_law_rows_here"]) fun _ _ _ _ _ _ us hl => match us, hl with | [_, _], _ => rfl, ok_txr hm2 hu2 l54 cc54 TB2 B TC S M F49 mH C53d C42d C43d⟩
    have C55d : Callee l.prog w K mg base CX0 10 "_law_refused_right" ["_law_cask_here", "_law_rows_here"] (spT [(P1, qCg), (P2, qTxr), (P3, qRf)] 100 40) := ⟨f55, _, PySem.W.mg_of X G a55, F55.kp, F55.binds (ps := ["_law_cask_here", "_law_rows_here"]) fun _ _ _ _ _ _ us hl => match us, hl with | [_, _], _ => rfl, ok_rf hm3 hu3 l55 cc55 TB3 B TC S M F49 mH C43d⟩
    exact ok_law F56 B TC C41d C47d C50d C51d C54d C55d
end K19

open PySem PySem.W PyProof.Rows in
set_option maxRecDepth 100000 in
set_option maxHeartbeats 0 in
theorem PySem.Challenge.cw_farseen_k19_trays_made_changed_and_read_holds : PySem.Challenge.rw_farseen_k19_trays_made_changed_and_read.Holds := by
  w_on; o_law; k_head; (case hw => w_witness2)
  k_fill
  refine LamX.walk_ofTs (l := PySem.Challenge.rw_farseen_k19_trays_made_changed_and_read) (n := 63) (k := 11) (x := "_law_script") (CX := fun _ => L2.CX0) rfl (by decide) rfl ⟨rfl, by decide, by decide⟩ (fun w h Y => PySem.W.km_in_of Y) ?F (fun _ _ _ _ _ z => z)
  case F =>
    intro w mg fa h Y KX G hmg
    refine' K19.all_mk (P1 := 413) (P2 := 430) (P3 := 435) KX G hmg (PySem.W.km_tabs_of Y 413 (by decide)) (PySem.W.km_tabs_of Y 430 (by decide)) (PySem.W.km_tabs_of Y 435 (by decide)) (by decide) (by decide) (by decide) ?gC ?gCS ?gCB ?gCF ?gCP ?gCQ ?gCW ?gCT ?gCX ?gL ?g3 ?g7 ?g8 ?g60 ?ixB ?txB ?ixF ?txF ?ixV ?txV ?ixW ?txW ?ixT ?txT ?ixX ?txX ?ixQ ?ipI ?npI ?ipL ?npL ?ipE ?npE ?ipS ?npS ?imW ?nmW ?imP ?nmP ?imO ?nmO ?imK ?nmK ?sapR ?sbpR ?gppR ?grpR ?lxB ?cxB ?kxB ?lxF ?cxF ?kxF ?lxV ?cxV ?kxV ?lxW ?cxW ?kxW ?lxT ?cxT ?kxT ?lxX ?cxX ?kxX ?lpI ?cpI ?kpI ?lpL ?cpL ?kpL ?lpE ?cpE ?kpE ?lpS ?cpS ?kpS ?lmW ?cmW ?kmW ?lmP ?cmP ?kmP ?lmO ?cmO ?kmO ?lmK ?cmK ?kmK ?lpR ?cpR ?kpR ?hB ?hF ?hP ?hQ ?hW ?hT ?hX ?hC ?hp0CB ?hp0CF ?hp0CP ?hp0CQ ?hp0CW ?hp0CT ?hp0CX ?hp0N0 ?hp1CP ?hp1CQ ?hp1CW ?hp1CT ?hp1CX ?hp1N0 ?hkCFCB ?hkCPCW ?hkCQCW ?hkCQCP ?hkCXCT ?hkN0CT ?hkN0CX ?a11 ?l11 ?cc11 ?k11 ?a12 ?l12 ?cc12 ?k12 ?a13 ?l13 ?cc13 ?k13 ?a14 ?l14 ?cc14 ?k14 ?a16 ?l16 ?cc16 ?k16 ?a17 ?l17 ?cc17 ?k17 ?a18 ?l18 ?cc18 ?k18 ?a19 ?l19 ?cc19 ?k19 ?a20 ?l20 ?cc20 ?k20 ?a22 ?l22 ?cc22 ?k22 ?a25 ?l25 ?cc25 ?k25 ?a28 ?l28 ?cc28 ?k28 ?a29 ?l29 ?cc29 ?k29 ?a30 ?l30 ?cc30 ?k30 ?a31 ?l31 ?cc31 ?k31 ?a32 ?l32 ?cc32 ?k32 ?a37 ?l37 ?cc37 ?k37 ?a39 ?l39 ?cc39 ?k39 ?a41 ?l41 ?cc41 ?k41 ?a42 ?l42 ?cc42 ?k42 ?a43 ?l43 ?cc43 ?k43 ?a44 ?l44 ?cc44 ?k44 ?a45 ?l45 ?cc45 ?k45 ?a46 ?l46 ?cc46 ?k46 ?a47 ?l47 ?cc47 ?k47 ?a48 ?l48 ?cc48 ?k48 ?a49 ?l49 ?cc49 ?k49 ?a50 ?l50 ?cc50 ?k50 ?a51 ?l51 ?cc51 ?k51 ?a52 ?l52 ?cc52 ?k52 ?a53 ?l53 ?cc53 ?k53 ?a54 ?l54 ?cc54 ?k54 ?a55 ?l55 ?cc55 ?k55 ?a56 ?l56 ?cc56 ?k56 ?hd1 ?nT1 ?hd2 ?nT2 ?hd3 ?nT3 ?z_isinstance ?z_int ?z_bool ?z_list ?z_tuple ?z_all ?z_len ?z_range ?z_abs ?z_str ?z_sum ?z_min ?z_enumerate ?z_max ?z_any ?z_set
    (case gC => k_is)
    (case gCS => k_is)
    (case gCB => k_is)
    (case gCF => k_is)
    (case gCP => k_is)
    (case gCQ => k_is)
    (case gCW => k_is)
    (case gCT => k_is)
    (case gCX => k_is)
    (case gL => k_is)
    (case g3 => k_is)
    (case g7 => k_is)
    (case g8 => k_is)
    (case g60 => k_is)
    (case ixB => k_is)
    (case txB => k_is)
    (case ixF => k_is)
    (case txF => k_is)
    (case ixV => k_is)
    (case txV => k_is)
    (case ixW => k_is)
    (case txW => k_is)
    (case ixT => k_is)
    (case txT => k_is)
    (case ixX => k_is)
    (case txX => k_is)
    (case ixQ => k_is)
    (case ipI => k_is)
    (case npI => k_is)
    (case ipL => k_is)
    (case npL => k_is)
    (case ipE => k_is)
    (case npE => k_is)
    (case ipS => k_is)
    (case npS => k_is)
    (case imW => k_is)
    (case nmW => k_is)
    (case imP => k_is)
    (case nmP => k_is)
    (case imO => k_is)
    (case nmO => k_is)
    (case imK => k_is)
    (case nmK => k_is)
    (case sapR => k_is)
    (case sbpR => k_is)
    (case gppR => k_is)
    (case grpR => k_is)
    (case lxB => k_is)
    (case cxB => k_is)
    (case kxB => k_is)
    (case lxF => k_is)
    (case cxF => k_is)
    (case kxF => k_is)
    (case lxV => k_is)
    (case cxV => k_is)
    (case kxV => k_is)
    (case lxW => k_is)
    (case cxW => k_is)
    (case kxW => k_is)
    (case lxT => k_is)
    (case cxT => k_is)
    (case kxT => k_is)
    (case lxX => k_is)
    (case cxX => k_is)
    (case kxX => k_is)
    (case lpI => k_is)
    (case cpI => k_is)
    (case kpI => k_is)
    (case lpL => k_is)
    (case cpL => k_is)
    (case kpL => k_is)
    (case lpE => k_is)
    (case cpE => k_is)
    (case kpE => k_is)
    (case lpS => k_is)
    (case cpS => k_is)
    (case kpS => k_is)
    (case lmW => k_is)
    (case cmW => k_is)
    (case kmW => k_is)
    (case lmP => k_is)
    (case cmP => k_is)
    (case kmP => k_is)
    (case lmO => k_is)
    (case cmO => k_is)
    (case kmO => k_is)
    (case lmK => k_is)
    (case cmK => k_is)
    (case kmK => k_is)
    (case lpR => k_is)
    (case cpR => k_is)
    (case kpR => k_is)
    (case hB => first | kernel_rfl | k_is | rfl)
    (case hF => first | kernel_rfl | k_is | rfl)
    (case hP => first | kernel_rfl | k_is | rfl)
    (case hQ => first | kernel_rfl | k_is | rfl)
    (case hW => first | kernel_rfl | k_is | rfl)
    (case hT => first | kernel_rfl | k_is | rfl)
    (case hX => first | kernel_rfl | k_is | rfl)
    (case hC => first | kernel_rfl | k_is | rfl)
    (case hp0CB => first | kernel_rfl | k_is | rfl)
    (case hp0CF => first | kernel_rfl | k_is | rfl)
    (case hp0CP => first | kernel_rfl | k_is | rfl)
    (case hp0CQ => first | kernel_rfl | k_is | rfl)
    (case hp0CW => first | kernel_rfl | k_is | rfl)
    (case hp0CT => first | kernel_rfl | k_is | rfl)
    (case hp0CX => first | kernel_rfl | k_is | rfl)
    (case hp0N0 => first | kernel_rfl | k_is | rfl)
    (case hp1CP => first | kernel_rfl | k_is | rfl)
    (case hp1CQ => first | kernel_rfl | k_is | rfl)
    (case hp1CW => first | kernel_rfl | k_is | rfl)
    (case hp1CT => first | kernel_rfl | k_is | rfl)
    (case hp1CX => first | kernel_rfl | k_is | rfl)
    (case hp1N0 => first | kernel_rfl | k_is | rfl)
    (case hkCFCB => first | kernel_rfl | k_is | rfl)
    (case hkCPCW => first | kernel_rfl | k_is | rfl)
    (case hkCQCW => first | kernel_rfl | k_is | rfl)
    (case hkCQCP => first | kernel_rfl | k_is | rfl)
    (case hkCXCT => first | kernel_rfl | k_is | rfl)
    (case hkN0CT => first | kernel_rfl | k_is | rfl)
    (case hkN0CX => first | kernel_rfl | k_is | rfl)
    (case a11 => k_is)
    (case l11 => k_is)
    (case cc11 => k_is)
    (case k11 => k_is)
    (case a12 => k_is)
    (case l12 => k_is)
    (case cc12 => k_is)
    (case k12 => k_is)
    (case a13 => k_is)
    (case l13 => k_is)
    (case cc13 => k_is)
    (case k13 => k_is)
    (case a14 => k_is)
    (case l14 => k_is)
    (case cc14 => k_is)
    (case k14 => k_is)
    (case a16 => k_is)
    (case l16 => k_is)
    (case cc16 => k_is)
    (case k16 => k_is)
    (case a17 => k_is)
    (case l17 => k_is)
    (case cc17 => k_is)
    (case k17 => k_is)
    (case a18 => k_is)
    (case l18 => k_is)
    (case cc18 => k_is)
    (case k18 => k_is)
    (case a19 => k_is)
    (case l19 => k_is)
    (case cc19 => k_is)
    (case k19 => k_is)
    (case a20 => k_is)
    (case l20 => k_is)
    (case cc20 => k_is)
    (case k20 => k_is)
    (case a22 => k_is)
    (case l22 => k_is)
    (case cc22 => k_is)
    (case k22 => k_is)
    (case a25 => k_is)
    (case l25 => k_is)
    (case cc25 => k_is)
    (case k25 => k_is)
    (case a28 => k_is)
    (case l28 => k_is)
    (case cc28 => k_is)
    (case k28 => k_is)
    (case a29 => k_is)
    (case l29 => k_is)
    (case cc29 => k_is)
    (case k29 => k_is)
    (case a30 => k_is)
    (case l30 => k_is)
    (case cc30 => k_is)
    (case k30 => k_is)
    (case a31 => k_is)
    (case l31 => k_is)
    (case cc31 => k_is)
    (case k31 => k_is)
    (case a32 => k_is)
    (case l32 => k_is)
    (case cc32 => k_is)
    (case k32 => k_is)
    (case a37 => k_is)
    (case l37 => k_is)
    (case cc37 => k_is)
    (case k37 => k_is)
    (case a39 => k_is)
    (case l39 => k_is)
    (case cc39 => k_is)
    (case k39 => k_is)
    (case a41 => k_is)
    (case l41 => k_is)
    (case cc41 => k_is)
    (case k41 => k_is)
    (case a42 => k_is)
    (case l42 => k_is)
    (case cc42 => k_is)
    (case k42 => k_is)
    (case a43 => k_is)
    (case l43 => k_is)
    (case cc43 => k_is)
    (case k43 => k_is)
    (case a44 => k_is)
    (case l44 => k_is)
    (case cc44 => k_is)
    (case k44 => k_is)
    (case a45 => k_is)
    (case l45 => k_is)
    (case cc45 => k_is)
    (case k45 => k_is)
    (case a46 => k_is)
    (case l46 => k_is)
    (case cc46 => k_is)
    (case k46 => k_is)
    (case a47 => k_is)
    (case l47 => k_is)
    (case cc47 => k_is)
    (case k47 => k_is)
    (case a48 => k_is)
    (case l48 => k_is)
    (case cc48 => k_is)
    (case k48 => k_is)
    (case a49 => k_is)
    (case l49 => k_is)
    (case cc49 => k_is)
    (case k49 => k_is)
    (case a50 => k_is)
    (case l50 => k_is)
    (case cc50 => k_is)
    (case k50 => k_is)
    (case a51 => k_is)
    (case l51 => k_is)
    (case cc51 => k_is)
    (case k51 => k_is)
    (case a52 => k_is)
    (case l52 => k_is)
    (case cc52 => k_is)
    (case k52 => k_is)
    (case a53 => k_is)
    (case l53 => k_is)
    (case cc53 => k_is)
    (case k53 => k_is)
    (case a54 => k_is)
    (case l54 => k_is)
    (case cc54 => k_is)
    (case k54 => k_is)
    (case a55 => k_is)
    (case l55 => k_is)
    (case cc55 => k_is)
    (case k55 => k_is)
    (case a56 => k_is)
    (case l56 => k_is)
    (case cc56 => k_is)
    (case k56 => k_is)
    (case hd1 => first | kernel_rfl | rfl)
    (case nT1 => first | kernel_rfl | rfl)
    (case hd2 => first | kernel_rfl | rfl)
    (case nT2 => first | kernel_rfl | rfl)
    (case hd3 => first | kernel_rfl | rfl)
    (case nT3 => first | kernel_rfl | rfl)
    (case z_isinstance => k_is)
    (case z_int => k_is)
    (case z_bool => k_is)
    (case z_list => k_is)
    (case z_tuple => k_is)
    (case z_all => k_is)
    (case z_len => k_is)
    (case z_range => k_is)
    (case z_abs => k_is)
    (case z_str => k_is)
    (case z_sum => k_is)
    (case z_min => k_is)
    (case z_enumerate => k_is)
    (case z_max => k_is)
    (case z_any => k_is)
    (case z_set => k_is)
