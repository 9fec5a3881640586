import PyProof.Rows.All
import Wide.All
import OpenK.AllK
import Wide.FinOn
import HandS.ForMost
import HandS.IsInst
import HandS.Wide
import HandS.ExcInit
import HandS.WordsExc
import HandS.SetKeys
import HandS.Zip
import HandS.Style
import HandS.Text
import HandS.Conv
import HandS.ExcIs
import HandS.FStr
import KE.KCallOwn
import HandS.OwnEq
import PyProof.InstEq
import HandS.Defaults
import HandS.MakeKwOnly
import HandS.ExcField
import KE.KExcIs
import HandS.ExcValue
import HandS.MakeKw
import HandS.Lambda
import HandS.NoneIn
import KE.KNestM
import HandS.EndTab
import HandS.HeadWalk
import PySem.Challenge.RW_farseen_k12_pictures_turned_shifted_mult
set_option Elab.async false
set_option linter.all false
set_option maxRecDepth 100000
set_option maxHeartbeats 8000000
namespace K12
open PySem PySem.Spec PyProof.Rows L2
def top (i : Nat) : Stmt := PySem.Challenge.pw_farseen_k12_pictures_turned_shifted_mult.main.body.getD i (.Pass ⟨0, 0, 0, 0⟩)
def inClass (s : Stmt) (i : Nat) : Stmt := match s with
  | .ClassDef _ _ _ b _ _ _ _ _ _ _ => b.getD i (.Pass ⟨0, 0, 0, 0⟩)
  | _ => .Pass ⟨0, 0, 0, 0⟩
/-! ### values: kinds -/
def isI : V → Bool
  | .int _ => true
  | _ => false
/-- what is told of the class of pictures, so that isinstance asks its instances -/
structure PicC (K : PySem.W.Frag) (C : Addr) : Prop where
  cls : Cls K C
  ha : PySem.W.findIn K (.ref C) "__class__" = some (some (.builtin "object.__class__"))
  hn : PySem.W.specialIn K (.builtin "object.__class__") "__get__" = some (some (.builtin "getset_descriptor.__get__"))
  ht : PySem.W.takesIn K (.builtin "object.__class__") = some true
  hm : PySem.W.mroIn K C (.type "object") = some true
  ki : PySem.W.kitOne K (.ref C) (.type "int") = some false
  kb : PySem.W.kitOne K (.ref C) (.type "bool") = some false
  kt : PySem.W.kitOne K (.ref C) (.type "tuple") = some false
  ks : PySem.W.kitAny K (.ref C) [.type "list", .type "tuple"] = some false
/-- a value of a kind that is looked at; whether it is a list or a tuple -/
inductive Kd (K : PySem.W.Frag) (H : Hp) : V → Bool → Prop
  | non : Kd K H .non false
  | bl (b : Bool) : Kd K H (.bl b) false
  | int (i : Int) : Kd K H (.int i) false
  | str (x : Str) : Kd K H (.str x) false
  | lst {a : Addr} {xs : List V} (e : H a = some (.lst xs)) : Kd K H (.ref a) true
  | tup {a : Addr} {xs : List V} (e : H a = some (.tup xs)) : Kd K H (.ref a) true
  | dK {a : Addr} {kvs : List (Key × V)} (e : H a = some (.dK kvs)) : Kd K H (.ref a) false
  | ins {a C dx : Addr} {fs : List (Str × V)} (e : H a = some (.ins C dx fs)) (P : PicC K C) : Kd K H (.ref a) false
theorem Kd.same {K : PySem.W.Frag} {H H' : Hp} {v : V} {t : Bool} (k : Kd K H v t) (s : Same H H') : Kd K H' v t := by
  cases k with
  | non => exact .non
  | bl b => exact .bl b
  | int i => exact .int i
  | str x => exact .str x
  | lst e => exact .lst (s _ _ e)
  | tup e => exact .tup (s _ _ e)
  | dK e => exact .dK (s _ _ e)
  | ins e P => exact .ins (s _ _ e) P
theorem no_two {K : PySem.W.Frag} {x : String} (h1 : kitB x "list" = some false) (h2 : kitB x "tuple" = some false) : PySem.W.kitAny K (.type x) [.type "list", .type "tuple"] = some false :=
  kitAny_cons (kit_ty h1) (fun _ => kitAny_cons (kit_ty h2) (fun _ => kitAny_nil) (fun z => nomatch z)) (fun z => nomatch z)
/-- what isinstance is told of it -/
theorem Kd.told {K : PySem.W.Frag} {H : Hp} {v : V} {t : Bool} (k : Kd K H v t) : ∃ (u : Value) (b c : Bool), TyX K H v u ∧ PySem.W.kitOne K u (.type "int") = some b ∧ PySem.W.kitOne K u (.type "bool") = some c ∧ (b && !c) = isI v ∧ PySem.W.kitAny K u [.type "list", .type "tuple"] = some t := by
  cases k with
  | non => exact ⟨_, _, _, .base .non, kit_ty (by decide +kernel : kitB _ _ = some false), kit_ty (by decide +kernel : kitB _ _ = some false), rfl, no_two (by decide +kernel) (by decide +kernel)⟩
  | bl b => exact ⟨_, _, _, .base (.bl b), kit_ty (by decide +kernel : kitB _ _ = some true), kit_ty (by decide +kernel : kitB _ _ = some true), rfl, no_two (by decide +kernel) (by decide +kernel)⟩
  | int i => exact ⟨_, _, _, .base (.int i), kit_ty (by decide +kernel : kitB _ _ = some true), kit_ty (by decide +kernel : kitB _ _ = some false), rfl, no_two (by decide +kernel) (by decide +kernel)⟩
  | str x => exact ⟨_, _, _, .base (.str x), kit_ty (by decide +kernel : kitB _ _ = some false), kit_ty (by decide +kernel : kitB _ _ = some false), rfl, no_two (by decide +kernel) (by decide +kernel)⟩
  | lst e => exact ⟨_, _, _, .base (.lst e), kit_ty (by decide +kernel : kitB _ _ = some false), kit_ty (by decide +kernel : kitB _ _ = some false), rfl, kitAny_cons (kit_ty (by decide +kernel : kitB _ _ = some true)) (fun z => nomatch z) (fun _ => rfl)⟩
  | tup e => exact ⟨_, _, _, .base (.tup e), kit_ty (by decide +kernel : kitB _ _ = some false), kit_ty (by decide +kernel : kitB _ _ = some false), rfl, kitAny_cons (kit_ty (by decide +kernel : kitB _ _ = some false)) (fun _ => kitAny_cons (kit_ty (by decide +kernel : kitB _ _ = some true)) (fun z => nomatch z) (fun _ => rfl)) (fun z => nomatch z)⟩
  | dK e => exact ⟨_, _, _, .base (.dK e), kit_ty (by decide +kernel : kitB _ _ = some false), kit_ty (by decide +kernel : kitB _ _ = some false), rfl, no_two (by decide +kernel) (by decide +kernel)⟩
  | ins e P => exact ⟨_, _, _, .base (.ins e P.cls P.ha P.hn P.ht P.hm), P.ki, P.kb, rfl, P.ks⟩
/-- a list or a tuple of these -/
def Sq (H : Hp) (a : Addr) (xs : List V) : Prop := H a = some (.lst xs) ∨ H a = some (.tup xs)
theorem Sq.same {H H' : Hp} {a : Addr} {xs : List V} (k : Sq H a xs) (s : Same H H') : Sq H' a xs := k.elim (fun e => .inl (s _ _ e)) (fun e => .inr (s _ _ e))
theorem Sq.kd {K : PySem.W.Frag} {H : Hp} {a : Addr} {xs : List V} (k : Sq H a xs) : Kd K H (.ref a) true := k.elim (fun e => .lst e) (fun e => .tup e)
theorem same_new {H : Hp} {p : Addr} {o : HO} (h : H p = none) : Same H (upd H p o) := fun b u e => by
  rw [upd_ne (ne_of_none e h)]
  exact e
theorem Same.me {H : Hp} : Same H H := fun _ _ e => e
theorem take_more {α : Type} : ∀ {l : List α} {i : Nat} {x : α}, l[i]? = some x → l.take (i + 1) = l.take i ++ [x]
  | [], i, x, h => by simp at h
  | a :: l, 0, x, h => by
    have e : a = x := Option.some.inj h
    subst e
    rfl
  | a :: l, i + 1, x, h => by
    have ih := take_more (l := l) (i := i) (x := x) h
    show a :: l.take (i + 1) = a :: l.take i ++ [x]
    rw [ih]
    rfl
/-! ### the built-in names -/
structure Bn (mg : Str → Option Value) : Prop where
  isinstance : mg "isinstance" = none
  int : mg "int" = none
  bool : mg "bool" = none
  list : mg "list" = none
  tuple : mg "tuple" = none
  all : mg "all" = none
  len : mg "len" = none
  range : mg "range" = none
  abs : mg "abs" = none
  str : mg "str" = none
  sum : mg "sum" = none
  min : mg "min" = none
  enumerate : mg "enumerate" = none
/-- a def that may be called by its name -/
def Callee (P : Program) (w : World) (K : PySem.W.Frag) (mg : Str → Option Value) (base : Heap) (CX : CXT) (k : Nat) (x : Str) (ps : List Str) (sp : Sp) : Prop :=
  ∃ (f : Addr) (fd : FuncData), mg x = some (.ref f) ∧ PySem.W.keepIn K (.ref f) = true ∧ Binds K fd ps [] ∧ FnOk P w K mg base CX k f fd ps sp
def RB (b : Bool) (H : Hp) (Q : VK) : Prop := ∀ H', Same H H' → Q (.bl b) H'
section
variable {P : Program} {w : World} {K : PySem.W.Frag} {mg : Str → Option Value} {base : Heap}
/-! ### is_integer -/
def spInt (K : PySem.W.Frag) : Sp := fun vs H Q _ => ∃ v t, vs = [v] ∧ Kd K H v t ∧ Q (.bl (isI v)) H
abbrev sInt : Stmt := top 11
theorem scInt : FnScope ["value"] ["value"] (defScope sInt) := ⟨rfl, rfl, rfl, by decide +kernel, rfl, by decide +kernel, by decide +kernel⟩
theorem ok_int {f : Addr} {fd : FuncData} (F : Fun K "is_integer" "is_integer" sInt f fd) (B : Bn mg) : FnOk P w K mg base CX0 1 f fd ["value"] (spInt K) := by
  refine F.ok scInt (fun vs H Q E h => ?_) (fun cdv A outer s H vs Q E hr h => ?_)
  · obtain ⟨v, t, rfl, _⟩ := h
    rfl
  · obtain ⟨v, t, rfl, k, q⟩ := h
    refine ⟨_, pss_one (ps_ret (pe_and ((pe_callB (r := rIsi K) call_isi (by rfl) B.isinstance boot_isinstance (pa_cons (pv 0) (pa_cons (pe_bltn (v := .ty "int") (by rfl) B.int (by decide +kernel) rfl) pa_nil)))) (pe_one (pe_not (pe_callB (r := rIsi K) call_isi (by rfl) B.isinstance boot_isinstance (pa_cons (pv 0) (pa_cons (pe_bltn (v := .ty "bool") (by rfl) B.bool (by decide +kernel) rfl) pa_nil))))))), ?_⟩
    obtain ⟨u, b, c, ty, hb, hc, e, _⟩ := k.told
    refine ⟨_, rfl, _, _, _, _, b, rfl, .ty _, ty, hb, b, rfl, ?_⟩
    cases b with
    | true =>
      refine iteT ⟨_, rfl, _, _, _, _, c, rfl, .ty _, ty, hc, c, rfl, ?_⟩
      rw [← e] at q
      simpa using q
    | false =>
      refine iteF ?_
      rw [← e] at q
      simpa using q
/-! ### is_list -/
def spIsList (K : PySem.W.Frag) : Sp := fun vs H Q _ => ∃ v t, vs = [v] ∧ Kd K H v t ∧ RB t H Q
abbrev sIsList : Stmt := top 13
theorem scIsList : FnScope ["value"] ["value"] (defScope sIsList) := ⟨rfl, rfl, rfl, by decide +kernel, rfl, by decide +kernel, by decide +kernel⟩
theorem ok_isList {f : Addr} {fd : FuncData} (F : Fun K "is_list" "is_list" sIsList f fd) (B : Bn mg) : FnOk P w K mg base CX0 1 f fd ["value"] (spIsList K) := by
  refine F.ok scIsList (fun vs H Q E h => ?_) (fun cdv A outer s H vs Q E hr h => ?_)
  · obtain ⟨v, t, rfl, _⟩ := h
    rfl
  · obtain ⟨v, t, rfl, k, q⟩ := h
    refine ⟨_, pss_one (ps_ret (pe_callB call_isiT (by rfl) B.isinstance boot_isinstance (pa_cons (pv 0) (pa_cons (pe_tup (pa_cons (pe_bltn (v := .ty "list") (by rfl) B.list (by decide +kernel) rfl) (pa_cons (pe_bltn (v := .ty "tuple") (by rfl) B.tuple (by decide +kernel) rfl) pa_nil))) pa_nil)))), ?_⟩
    refine ⟨_, rfl, by show 2 ≤ sizeLine; decide, fun p hp => ?_⟩
    obtain ⟨u, _, _, ty, _, _, _, hs⟩ := (k.same (same_new (o := .tup [.ty "list", .ty "tuple"]) hp)).told
    exact ⟨_, p, _, _, _, t, rfl, upd_same, .cons (.ty _) (.cons (.ty _) .nil), ty, hs, q _ (same_new hp)⟩
/-! ### is_within -/
def within (v : V) (l m : Int) : Bool := match v with
  | .int n => decide (l ≤ n) && decide (n ≤ m)
  | _ => false
def spWithin (K : PySem.W.Frag) : Sp := fun vs H Q _ => ∃ v t l m, vs = [v, .int l, .int m] ∧ Kd K H v t ∧ Q (.bl (within v l m)) H
abbrev sWithin : Stmt := top 12
theorem scWithin : FnScope ["value", "least", "most"] ["value", "least", "most"] (defScope sWithin) := ⟨rfl, rfl, rfl, by decide +kernel, rfl, by decide +kernel, by decide +kernel⟩
theorem ok_within {f : Addr} {fd : FuncData} (F : Fun K "is_within" "is_within" sWithin f fd) (C1 : Callee P w K mg base CX0 1 "is_integer" ["value"] (spInt K)) : FnOk P w K mg base CX0 2 f fd ["value", "least", "most"] (spWithin K) := by
  obtain ⟨f1, fd1, m1, k1, b1, G1⟩ := C1
  refine F.ok scWithin (fun vs H Q E h => ?_) (fun cdv A outer s H vs Q E hr h => ?_)
  · obtain ⟨v, t, l, m, rfl, _⟩ := h
    rfl
  · obtain ⟨v, t, l, m, rfl, k, q⟩ := h
    refine ⟨_, (pss_cons (ps_if (pt_not (pt_val (pe_call G1 (hr.mono (by decide)) rfl m1 k1 b1 .nil pass0 (pa_cons (pv 0) pa_nil)))) (pss_one (ps_ret pe_bl)) pss_nil) (pss_one (ps_ret (pe_and ((pe_or (pe_cmpR op_isN (pv 1) pe_non (nomark _)) (pe_one (pe_cmpR op_le (pv 1) (pv 0) (nomark _))))) (pe_one ((pe_or (pe_cmpR op_isN (pv 2) pe_non (nomark _)) (pe_one (pe_cmpR op_le (pv 0) (pv 2) (nomark _)))))))))), ?_⟩
    refine ⟨_, rfl, v, t, rfl, k, _, rfl, ?_⟩
    cases e : isI v with
    | false =>
      refine iteT ?_
      have : within v l m = false := by
        cases v <;> first | rfl | cases e
      rw [this] at q
      exact q
    | true =>
      obtain ⟨n, rfl⟩ : ∃ n, v = .int n := by
        cases v <;> first | exact ⟨_, rfl⟩ | cases e
      have q : Q (.bl (decide (l ≤ n) && decide (n ≤ m))) H := q
      refine iteF ⟨_, rfl, rfl, _, rfl, iteF ⟨_, rfl, _, rfl, _, _, rfl, rfl, _, rfl, ?_⟩⟩
      by_cases hl : l ≤ n
      · rw [decide_eq_true hl] at q ⊢
        exact iteT ⟨_, rfl, rfl, _, rfl, iteF ⟨_, rfl, _, rfl, _, _, rfl, rfl, q⟩⟩
      · rw [decide_eq_false hl] at q ⊢
        exact iteF q
end
end K12

namespace K12
open PySem PySem.Spec PyProof.Rows L2
def G9 : Int := 1000000000
def inB (x : V) : Bool := within x (-G9) G9
def rowB (xs : List V) : Bool := decide (xs.length = 2) && xs.all inB
/-- a value judged as a row of two -/
inductive RowV (K : PySem.W.Frag) (H : Hp) : V → Bool → Prop
  | no {v : V} (k : Kd K H v false) : RowV K H v false
  | seq {a : Addr} {xs : List V} (hs : Sq H a xs) (hk : ∀ x ∈ xs, ∃ t, Kd K H x t) (hl : xs.length ≤ 100) : RowV K H (.ref a) (rowB xs)
theorem RowV.same {K : PySem.W.Frag} {H H' : Hp} {v : V} {b : Bool} (k : RowV K H v b) (s : Same H H') : RowV K H' v b := by
  cases k with
  | no k => exact .no (k.same s)
  | seq hs hk hl => exact .seq (hs.same s) (fun x hx => let ⟨t, k⟩ := hk x hx; ⟨t, k.same s⟩) hl
/-- a value judged as rows of two -/
inductive RowsV (K : PySem.W.Frag) (H : Hp) : V → Option (List Bool) → Prop
  | no {v : V} (k : Kd K H v false) : RowsV K H v none
  | seq {a : Addr} {xs : List V} {bs : List Bool} (hs : Sq H a xs) (hk : Paired (RowV K H) xs bs) (hl : xs.length ≤ 100) : RowsV K H (.ref a) (some bs)
theorem paired_same {K : PySem.W.Frag} {H H' : Hp} {xs : List V} {bs : List Bool} (h : Paired (RowV K H) xs bs) (s : Same H H') : Paired (RowV K H') xs bs := by
  induction h with
  | nil => exact .nil
  | cons a _ ih => exact .cons (a.same s) ih
theorem RowsV.same {K : PySem.W.Frag} {H H' : Hp} {v : V} {b : Option (List Bool)} (k : RowsV K H v b) (s : Same H H') : RowsV K H' v b := by
  cases k with
  | no k => exact .no (k.same s)
  | seq hs hk hl => exact .seq (hs.same s) (paired_same hk s) hl
def rowsB : Option (List Bool) → Bool
  | none => false
  | some bs => bs.all id
def plB : Option (List Bool) → Bool
  | none => false
  | some bs => bs.all id && decide (4 ≤ bs.length) && decide (bs.length ≤ 7)
theorem paired_get {α β : Type} {R : α → β → Prop} {xs : List α} {ys : List β} (h : Paired R xs ys) : ∀ {i : Nat} {x : α}, xs[i]? = some x → ∃ y, ys[i]? = some y ∧ R x y := by
  induction h with
  | nil =>
    intro i x e
    simp at e
  | cons a _ ih =>
    intro i x e
    cases i with
    | zero =>
      have z := Option.some.inj e
      subst z
      exact ⟨_, rfl, a⟩
    | succ i => exact ih (by simpa using e)
theorem len100 {α β : Type} {xs : List α} (h : xs.length ≤ 100) (i : Nat) (f : α → β) : ((xs.take i).map f).length < sizeLine := by
  rw [List.length_map, List.length_take]
  exact small1000 (Nat.le_trans (Nat.min_le_right _ _) (by omega))
theorem all_id {xs : List V} {f : V → Bool} : (xs.map f).all id = xs.all f := by
  rw [List.all_map]
  rfl
/-- the list that a comprehension has made so far -/
def At (H0 : Hp) (D : Addr) (ys : List V) (H : Hp) : Prop := Same H0 H ∧ H D = some (.lst ys)
theorem At.step {H0 H H1 : Hp} {D : Addr} {ys zs : List V} {y : V} (hD : H0 D = none) (p : At H0 D ys H) (s : Same H H1) (e : zs = ys ++ [y]) : At H0 D zs (upd H1 D (.lst (ys ++ [y]))) := by
  refine ⟨fun b o h => ?_, by rw [upd_same, e]⟩
  rw [upd_ne (ne_of_none h hD)]
  exact s _ _ (p.1 b o h)
section
variable {P : Program} {w : World} {K : PySem.W.Frag} {mg : Str → Option Value} {base : Heap}
/-! ### is_row -/
def spRow (K : PySem.W.Frag) : Sp := fun vs H Q _ => ∃ v b, vs = [v, .int 2, .int 2] ∧ RowV K H v b ∧ RB b H Q
abbrev sRow : Stmt := top 19
abbrev nRow : List Str := ["value", "fewest", "most", "item"]
theorem scRow : FnScope nRow ["value", "fewest", "most"] (defScope sRow) := ⟨rfl, rfl, rfl, by decide +kernel, rfl, by decide +kernel, by decide +kernel⟩
theorem ok_row {f : Addr} {fd : FuncData} (F : Fun K "is_row" "is_row" sRow f fd) (B : Bn mg) (L : ∃ t, mg "LIMIT" = some (.int 1000000000 t)) (C1 : Callee P w K mg base CX0 1 "is_list" ["value"] (spIsList K)) (C2 : Callee P w K mg base CX0 2 "is_within" ["value", "least", "most"] (spWithin K)) : FnOk P w K mg base CX0 3 f fd ["value", "fewest", "most"] (spRow K) := by
  obtain ⟨f1, fd1, m1, k1, b1, G1⟩ := C1
  obtain ⟨f2, fd2, m2, k2, b2, G2⟩ := C2
  obtain ⟨tL, mL⟩ := L
  have nd := scRow.nd
  refine F.ok scRow (fun vs H Q E h => ?_) (fun cdv A outer s H vs Q E hr h => ?_)
  · obtain ⟨v, b, rfl, _⟩ := h
    rfl
  · obtain ⟨v, b, rfl, j, q⟩ := h
    cases j with
    | no k =>
      refine ⟨_, (pss_cons (ps_if (PW.pt (pw_or (pt_not (pt_val (pe_call G1 (hr.mono (by decide)) rfl m1 k1 b1 .nil pass0 (pa_cons (pv 0) pa_nil)))) (pw_or1 (pt_not (pt_chain op_le op_le (pv 1) (pe_callB call_len_seq (by rfl) B.len PySem.boot_len (pa_cons (pv 0) pa_nil)) (pv 2)))))) (pss_one (ps_ret pe_bl)) pss_nil) (pss_one (ps_ret (pe_callB (cr_all rfl) (by rfl) B.all boot_all (pa_cons (pe_lc (own := [("item", 3)]) (g := gName 3) (tt := tYes) rfl nd (pi_list (pv 0)) (blkOk_by (N := nRow) (sc := defScope sRow) (by decide +kernel)) (fun _ _ _ _ _ => pg_name (i := 3) nd rfl (Or.inl rfl)) (fun _ _ _ _ _ => pts_nil) (fun _ _ _ _ _ => (pe_call G2 (hr.mono (by decide)) rfl m2 k2 b2 .nil pass0 (pa_cons (pv 3) (pa_cons (pe_un un_neg (pe_glob (v := .int 1000000000) rfl mL ⟨_, rfl⟩)) (pa_cons (pe_glob (v := .int 1000000000) rfl mL ⟨_, rfl⟩) pa_nil)))))) pa_nil))))), ?_⟩
      exact ⟨_, rfl, v, false, rfl, k, fun H1 s1 => ⟨_, rfl, iteT (q _ s1)⟩⟩
    | @seq a xs hs hk hl =>
      have key : ∀ H1, Same H H1 → ∀ D H2, At H1 D (xs.map fun x => V.bl (inB x)) H2 → xs.length = 2 → rAll K [.ref D] H2 Q := fun H1 s1 D H2 p h2 => by
        refine ⟨D, xs.map inB, rfl, SqL.of (by rw [p.2, List.map_map]; rfl), ?_⟩
        have e : rowB xs = (xs.map inB).all id := by
          unfold rowB
          rw [decide_eq_true h2, Bool.true_and, all_id]
        rw [← e]
        exact q _ (s1.trans p.1)
      have nok : xs.length ≠ 2 → rowB xs = false := fun h => by
        unfold rowB
        rw [decide_eq_false h]
        rfl
      have sq := hs
      rcases hs with hs | hs
      · refine ⟨_, (pss_cons (ps_if (PW.pt (pw_or (pt_not (pt_val (pe_call G1 (hr.mono (by decide)) rfl m1 k1 b1 .nil pass0 (pa_cons (pv 0) pa_nil)))) (pw_or1 (pt_not (pt_chain op_le op_le (pv 1) (pe_callB call_len_seq (by rfl) B.len PySem.boot_len (pa_cons (pv 0) pa_nil)) (pv 2)))))) (pss_one (ps_ret pe_bl)) pss_nil) (pss_one (ps_ret (pe_callB (cr_all rfl) (by rfl) B.all boot_all (pa_cons (pe_lc (own := [("item", 3)]) (g := gName 3) (tt := tYes) rfl nd (pi_list (pv 0)) (blkOk_by (N := nRow) (sc := defScope sRow) (by decide +kernel)) (fun _ _ _ _ _ => pg_name (i := 3) nd rfl (Or.inl rfl)) (fun _ _ _ _ _ => pts_nil) (fun _ _ _ _ _ => (pe_call G2 (hr.mono (by decide)) rfl m2 k2 b2 .nil pass0 (pa_cons (pv 3) (pa_cons (pe_un un_neg (pe_glob (v := .int 1000000000) rfl mL ⟨_, rfl⟩)) (pa_cons (pe_glob (v := .int 1000000000) rfl mL ⟨_, rfl⟩) pa_nil)))))) pa_nil))))), ?_⟩
        refine ⟨_, rfl, _, true, rfl, sq.kd, fun H1 s1 => ⟨_, rfl, iteF ?_⟩⟩
        refine ⟨_, rfl, _, rfl, a, xs, rfl, .inl (SqL.of (s1 _ _ hs)), _, _, rfl, rfl, _, rfl, ?_⟩
        by_cases h2 : xs.length = 2
        · rw [decide_eq_true (show (2 : Int) ≤ (xs.length : Int) by omega)]
          refine iteT ⟨_, rfl, _, _, rfl, rfl, _, rfl, ?_⟩
          rw [decide_eq_true (show (xs.length : Int) ≤ 2 by omega)]
          refine iteF ⟨_, rfl, a, rfl, ⟨_, SqL.of (s1 _ _ hs)⟩, fun D hD => ?_⟩
          refine lc_list (K := K) (a := a) (xs := xs) (fun i => At H1 D ((xs.take i).map fun x => V.bl (inB x))) ⟨same_new hD, upd_same⟩ (fun i H' _ p => SqL.of (p.1 _ _ (s1 _ _ hs))) (fun i x H' hx p => ?_) (fun H' p => ?_)
          · obtain ⟨tx, kx⟩ := hk x (List.mem_of_getElem? hx)
            refine ⟨rfl, ?_⟩
            show tCall (spWithin K) [] E0 (tCons (tVar 3) (tCons _ (tCons _ tNil))) _ H' _
            refine ⟨_, rfl, _, rfl, x, tx, _, _, rfl, (kx.same s1).same p.1, _, p.2, len100 hl _ _, p.step hD Same.me ?_⟩
            rw [take_more hx, List.map_append]
            rfl
          · rw [List.take_length] at p
            exact key H1 s1 D H' p h2
        · have q2 := q _ s1
          rw [nok h2] at q2
          by_cases h3 : (2 : Int) ≤ (xs.length : Int)
          · rw [decide_eq_true h3]
            refine iteT ⟨_, rfl, _, _, rfl, rfl, _, rfl, ?_⟩
            rw [decide_eq_false (show ¬ (xs.length : Int) ≤ 2 by omega)]
            exact iteT q2
          · rw [decide_eq_false h3]
            exact iteF ⟨_, rfl, iteT q2⟩
      · refine ⟨_, (pss_cons (ps_if (PW.pt (pw_or (pt_not (pt_val (pe_call G1 (hr.mono (by decide)) rfl m1 k1 b1 .nil pass0 (pa_cons (pv 0) pa_nil)))) (pw_or1 (pt_not (pt_chain op_le op_le (pv 1) (pe_callB call_len_seq (by rfl) B.len PySem.boot_len (pa_cons (pv 0) pa_nil)) (pv 2)))))) (pss_one (ps_ret pe_bl)) pss_nil) (pss_one (ps_ret (pe_callB (cr_all rfl) (by rfl) B.all boot_all (pa_cons (pe_lc (own := [("item", 3)]) (g := gName 3) (tt := tYes) rfl nd (pi_tup (pv 0)) (blkOk_by (N := nRow) (sc := defScope sRow) (by decide +kernel)) (fun _ _ _ _ _ => pg_name (i := 3) nd rfl (Or.inl rfl)) (fun _ _ _ _ _ => pts_nil) (fun _ _ _ _ _ => (pe_call G2 (hr.mono (by decide)) rfl m2 k2 b2 .nil pass0 (pa_cons (pv 3) (pa_cons (pe_un un_neg (pe_glob (v := .int 1000000000) rfl mL ⟨_, rfl⟩)) (pa_cons (pe_glob (v := .int 1000000000) rfl mL ⟨_, rfl⟩) pa_nil)))))) pa_nil))))), ?_⟩
        refine ⟨_, rfl, _, true, rfl, sq.kd, fun H1 s1 => ⟨_, rfl, iteF ?_⟩⟩
        refine ⟨_, rfl, _, rfl, a, xs, rfl, .inr (SqT.of (s1 _ _ hs)), _, _, rfl, rfl, _, rfl, ?_⟩
        by_cases h2 : xs.length = 2
        · rw [decide_eq_true (show (2 : Int) ≤ (xs.length : Int) by omega)]
          refine iteT ⟨_, rfl, _, _, rfl, rfl, _, rfl, ?_⟩
          rw [decide_eq_true (show (xs.length : Int) ≤ 2 by omega)]
          refine iteF ⟨_, rfl, a, rfl, ⟨_, SqT.of (s1 _ _ hs)⟩, fun D hD => ?_⟩
          refine lc_tup (K := K) (a := a) (xs := xs) (fun i => At H1 D ((xs.take i).map fun x => V.bl (inB x))) ⟨same_new hD, upd_same⟩ (fun i H' _ p => SqT.of (p.1 _ _ (s1 _ _ hs))) (fun i x H' hx p => ?_) (fun H' p => ?_)
          · obtain ⟨tx, kx⟩ := hk x (List.mem_of_getElem? hx)
            refine ⟨rfl, ?_⟩
            show tCall (spWithin K) [] E0 (tCons (tVar 3) (tCons _ (tCons _ tNil))) _ H' _
            refine ⟨_, rfl, _, rfl, x, tx, _, _, rfl, (kx.same s1).same p.1, _, p.2, len100 hl _ _, p.step hD Same.me ?_⟩
            rw [take_more hx, List.map_append]
            rfl
          · rw [List.take_length] at p
            exact key H1 s1 D H' p h2
        · have q2 := q _ s1
          rw [nok h2] at q2
          by_cases h3 : (2 : Int) ≤ (xs.length : Int)
          · rw [decide_eq_true h3]
            refine iteT ⟨_, rfl, _, _, rfl, rfl, _, rfl, ?_⟩
            rw [decide_eq_false (show ¬ (xs.length : Int) ≤ 2 by omega)]
            exact iteT q2
          · rw [decide_eq_false h3]
            exact iteF ⟨_, rfl, iteT q2⟩
/-! ### are_rows, are_places -/
def spRows (K : PySem.W.Frag) : Sp := fun vs H Q _ => ∃ v o, vs = [v, .int 2] ∧ RowsV K H v o ∧ RB (rowsB o) H Q
abbrev sRows : Stmt := top 20
abbrev nRows : List Str := ["value", "size", "row"]
theorem scRows : FnScope nRows ["value", "size"] (defScope sRows) := ⟨rfl, rfl, rfl, by decide +kernel, rfl, by decide +kernel, by decide +kernel⟩
theorem ok_rows {f : Addr} {fd : FuncData} (F : Fun K "are_rows" "are_rows" sRows f fd) (B : Bn mg) (C1 : Callee P w K mg base CX0 1 "is_list" ["value"] (spIsList K)) (C2 : Callee P w K mg base CX0 3 "is_row" ["value", "fewest", "most"] (spRow K)) : FnOk P w K mg base CX0 4 f fd ["value", "size"] (spRows K) := by
  obtain ⟨f1, fd1, m1, k1, b1, G1⟩ := C1
  obtain ⟨f2, fd2, m2, k2, b2, G2⟩ := C2
  have nd := scRows.nd
  refine F.ok scRows (fun vs H Q E h => ?_) (fun cdv A outer s H vs Q E hr h => ?_)
  · obtain ⟨v, o, rfl, _⟩ := h
    rfl
  · obtain ⟨v, o, rfl, j, q⟩ := h
    cases j with
    | no k =>
      refine ⟨_, pss_one (ps_ret (pe_and ((pe_call G1 (hr.mono (by decide)) rfl m1 k1 b1 .nil pass0 (pa_cons (pv 0) pa_nil))) (pe_one (pe_callB (cr_all rfl) (by rfl) B.all boot_all (pa_cons (pe_lc (own := [("row", 2)]) (g := gName 2) (tt := tYes) rfl nd (pi_list (pv 0)) (blkOk_by (N := nRows) (sc := defScope sRows) (by decide +kernel)) (fun _ _ _ _ _ => pg_name (i := 2) nd rfl (Or.inl rfl)) (fun _ _ _ _ _ => pts_nil) (fun _ _ _ _ _ => (pe_call G2 (hr.mono (by decide)) rfl m2 k2 b2 .nil pass0 (pa_cons (pv 2) (pa_cons (pv 1) (pa_cons (pv 1) pa_nil)))))) pa_nil))))), ?_⟩
      exact ⟨_, rfl, v, false, rfl, k, fun H1 s1 => ⟨_, rfl, iteF (q _ s1)⟩⟩
    | @seq a xs bs hs hk hl =>
      have sq := hs
      rcases hs with hs | hs
      · refine ⟨_, pss_one (ps_ret (pe_and ((pe_call G1 (hr.mono (by decide)) rfl m1 k1 b1 .nil pass0 (pa_cons (pv 0) pa_nil))) (pe_one (pe_callB (cr_all rfl) (by rfl) B.all boot_all (pa_cons (pe_lc (own := [("row", 2)]) (g := gName 2) (tt := tYes) rfl nd (pi_list (pv 0)) (blkOk_by (N := nRows) (sc := defScope sRows) (by decide +kernel)) (fun _ _ _ _ _ => pg_name (i := 2) nd rfl (Or.inl rfl)) (fun _ _ _ _ _ => pts_nil) (fun _ _ _ _ _ => (pe_call G2 (hr.mono (by decide)) rfl m2 k2 b2 .nil pass0 (pa_cons (pv 2) (pa_cons (pv 1) (pa_cons (pv 1) pa_nil)))))) pa_nil))))), ?_⟩
        refine ⟨_, rfl, _, true, rfl, sq.kd, fun H1 s1 => ⟨_, rfl, iteT ?_⟩⟩
        refine ⟨_, rfl, a, rfl, ⟨_, SqL.of (s1 _ _ hs)⟩, fun D hD => ?_⟩
        refine lc_list (K := K) (a := a) (xs := xs) (fun i => At H1 D ((bs.take i).map V.bl)) ⟨same_new hD, upd_same⟩ (fun i H' _ p => SqL.of (p.1 _ _ (s1 _ _ hs))) (fun i x H' hx p => ?_) (fun H' p => ?_)
        · obtain ⟨b, hb, rx⟩ := paired_get hk hx
          refine ⟨rfl, ?_⟩
          show tCall (spRow K) [] E0 (tCons (tVar 2) (tCons (tVar 1) (tCons (tVar 1) tNil))) _ H' _
          refine ⟨_, rfl, _, rfl, _, rfl, x, b, rfl, (rx.same s1).same p.1, fun H2 s2 => ⟨_, s2 _ _ p.2, len100 (by rw [← Paired.length hk]; exact hl) _ _, p.step hD s2 ?_⟩⟩
          rw [take_more hb, List.map_append]
          rfl
        · rw [Paired.length hk, List.take_length] at p
          exact ⟨D, bs, rfl, SqL.of p.2, q _ (s1.trans p.1)⟩
      · refine ⟨_, pss_one (ps_ret (pe_and ((pe_call G1 (hr.mono (by decide)) rfl m1 k1 b1 .nil pass0 (pa_cons (pv 0) pa_nil))) (pe_one (pe_callB (cr_all rfl) (by rfl) B.all boot_all (pa_cons (pe_lc (own := [("row", 2)]) (g := gName 2) (tt := tYes) rfl nd (pi_tup (pv 0)) (blkOk_by (N := nRows) (sc := defScope sRows) (by decide +kernel)) (fun _ _ _ _ _ => pg_name (i := 2) nd rfl (Or.inl rfl)) (fun _ _ _ _ _ => pts_nil) (fun _ _ _ _ _ => (pe_call G2 (hr.mono (by decide)) rfl m2 k2 b2 .nil pass0 (pa_cons (pv 2) (pa_cons (pv 1) (pa_cons (pv 1) pa_nil)))))) pa_nil))))), ?_⟩
        refine ⟨_, rfl, _, true, rfl, sq.kd, fun H1 s1 => ⟨_, rfl, iteT ?_⟩⟩
        refine ⟨_, rfl, a, rfl, ⟨_, SqT.of (s1 _ _ hs)⟩, fun D hD => ?_⟩
        refine lc_tup (K := K) (a := a) (xs := xs) (fun i => At H1 D ((bs.take i).map V.bl)) ⟨same_new hD, upd_same⟩ (fun i H' _ p => SqT.of (p.1 _ _ (s1 _ _ hs))) (fun i x H' hx p => ?_) (fun H' p => ?_)
        · obtain ⟨b, hb, rx⟩ := paired_get hk hx
          refine ⟨rfl, ?_⟩
          show tCall (spRow K) [] E0 (tCons (tVar 2) (tCons (tVar 1) (tCons (tVar 1) tNil))) _ H' _
          refine ⟨_, rfl, _, rfl, _, rfl, x, b, rfl, (rx.same s1).same p.1, fun H2 s2 => ⟨_, s2 _ _ p.2, len100 (by rw [← Paired.length hk]; exact hl) _ _, p.step hD s2 ?_⟩⟩
          rw [take_more hb, List.map_append]
          rfl
        · rw [Paired.length hk, List.take_length] at p
          exact ⟨D, bs, rfl, SqL.of p.2, q _ (s1.trans p.1)⟩
def spPlaces (K : PySem.W.Frag) : Sp := fun vs H Q _ => ∃ v o, vs = [v, .int 2] ∧ RowsV K H v o ∧ RB (plB o) H Q
abbrev sPlaces : Stmt := top 21
theorem scPlaces : FnScope ["value", "size"] ["value", "size"] (defScope sPlaces) := ⟨rfl, rfl, rfl, by decide +kernel, rfl, by decide +kernel, by decide +kernel⟩
theorem ok_places {f : Addr} {fd : FuncData} (F : Fun K "are_places" "are_places" sPlaces f fd) (B : Bn mg) (C1 : Callee P w K mg base CX0 4 "are_rows" ["value", "size"] (spRows K)) : FnOk P w K mg base CX0 5 f fd ["value", "size"] (spPlaces K) := by
  obtain ⟨f1, fd1, m1, k1, b1, G1⟩ := C1
  refine F.ok scPlaces (fun vs H Q E h => ?_) (fun cdv A outer s H vs Q E hr h => ?_)
  · obtain ⟨v, o, rfl, _⟩ := h
    rfl
  · obtain ⟨v, o, rfl, j, q⟩ := h
    refine ⟨_, pss_one (ps_ret (pe_and ((pe_call G1 (hr.mono (by decide)) rfl m1 k1 b1 .nil pass0 (pa_cons (pv 0) (pa_cons (pv 1) pa_nil)))) (pe_one (pe_chain op_le op_le pe_int (pe_callB call_len_seq (by rfl) B.len PySem.boot_len (pa_cons (pv 0) pa_nil)) pe_int)))), ?_⟩
    refine ⟨_, rfl, _, rfl, v, o, rfl, j, fun H1 s1 => ⟨_, rfl, ?_⟩⟩
    have q2 := q _ s1
    cases hb : rowsB o with
    | false =>
      have e : plB o = false := by
        cases o with
        | none => rfl
        | some bs =>
          have hb : bs.all id = false := hb
          show (bs.all id && _ && _) = false
          rw [hb]
          rfl
      rw [e] at q2
      exact iteF q2
    | true =>
      cases j with
      | no k => cases hb
      | @seq a xs bs hs hk hl =>
        have hb : bs.all id = true := hb
        have el : xs.length = bs.length := Paired.length hk
        have e : plB (some bs) = (decide (4 ≤ bs.length) && decide (bs.length ≤ 7)) := by
          show (bs.all id && _ && _) = _
          rw [hb, Bool.true_and]
        rw [e] at q2
        refine iteT ⟨_, rfl, a, xs, rfl, hs.elim (fun z => .inl (SqL.of (s1 _ _ z))) (fun z => .inr (SqT.of (s1 _ _ z))), _, _, rfl, rfl, _, rfl, ?_⟩
        by_cases h4 : 4 ≤ bs.length
        · rw [decide_eq_true h4, Bool.true_and] at q2
          rw [decide_eq_true (show (4 : Int) ≤ (xs.length : Int) by omega)]
          refine iteT ⟨_, _, rfl, rfl, ?_⟩
          have e7 : decide ((xs.length : Int) ≤ 7) = decide (bs.length ≤ 7) := by
            rw [Bool.eq_iff_iff, decide_eq_true_iff, decide_eq_true_iff]
            omega
          rw [← e7] at q2
          exact q2
        · rw [decide_eq_false h4, Bool.false_and] at q2
          rw [decide_eq_false (show ¬ (4 : Int) ≤ (xs.length : Int) by omega)]
          exact iteF q2
end
end K12

namespace K12
open PySem PySem.Spec PyProof.Rows L2
/-- a tuple of pairs -/
def Pr (H : Hp) (a : Addr) (p : Int × Int) : Prop := H a = some (.tup [.int p.1, .int p.2])
def PT (H : Hp) (t : Addr) (ps : List (Int × Int)) : Prop := ∃ ts : List Addr, H t = some (.tup (ts.map V.ref)) ∧ Paired (Pr H) ts ps
def it (k : Nat) (p : Int × Int) : Int := if k = 0 then p.1 else p.2
/-- the steps from pin 0, across (0) and up (1) -/
def sk (k : Nat) (ps : List (Int × Int)) : List Int := (ps.drop 1).map fun p => it k p - it k (ps.headD (0, 0))
def rTu (K : PySem.W.Frag) : List V → Hp → VK → Prop := fun xs H Q => ∃ p ys, xs = [.ref p] ∧ ((SqL K H p ys ∧ ∀ l, H l = none → Q (.ref l) (upd H l (.tup ys))) ∨ (SqT K H p ys ∧ Q (.ref p) H))
theorem call_tu {X : Cx} : CallR X (.type "tuple") (rTu X.K) := call_tuple_of
def rLi (K : PySem.W.Frag) : List V → Hp → VK → Prop := fun xs H Q => ∃ p ys, xs = [.ref p] ∧ (SqL K H p ys ∨ SqT K H p ys) ∧ ∀ l, H l = none → Q (.ref l) (upd H l (.lst ys))
theorem call_li {X : Cx} : CallR X (.type "list") (rLi X.K) := call_list_of
section
variable {X : Cx} {K : PySem.W.Frag}
theorem call_tuK (h : X.K = K := by rfl) : CallR X (.type "tuple") (rTu K) := by subst h; exact call_tu
theorem call_liK (h : X.K = K := by rfl) : CallR X (.type "list") (rLi K) := by subst h; exact call_li
theorem sl_tupK (h : X.K = K := by rfl) : SlR X (rSlT K) := by subst h; exact sl_tup
theorem sl_listK (h : X.K = K := by rfl) : SlR X (rSlL K) := by subst h; exact sl_list
theorem ix_tupK (h : X.K = K := by rfl) : IxR X (rIxT K) := by subst h; exact ix_tup
theorem ix_listK (h : X.K = K := by rfl) : IxR X (rIxL K) := by subst h; exact ix_list
theorem pi_tupK {tg l : Expr} {tl : TE} (K : PySem.W.Frag) (hl : PE X l tl) (h : X.K = K := by rfl) : PI X tg l (iTup K tl) := by subst h; exact pi_tup hl
theorem pi_listK {tg l : Expr} {tl : TE} (K : PySem.W.Frag) (hl : PE X l tl) (h : X.K = K := by rfl) : PI X tg l (iList K tl) := by subst h; exact pi_list hl
theorem ix_seqK (h : X.K = K := by rfl) : IxR X (rIx K) := by subst h; exact ix_seq
end
theorem sIx1 (n : Nat) : HT.sIx n 0 (some 1) = min 1 n := HT.sIx_nat n 0 1
theorem cut1 {xs : List V} (h : 1 ≤ xs.length) : cutV xs (some 1) none = xs.drop 1 := by
  unfold cutV
  have e : HT.sIx xs.length 0 (some 1) = 1 := by
    rw [sIx1]
    omega
  rw [e]
  show (xs.drop 1).take (xs.length - 1) = _
  rw [List.take_of_length_le (by rw [List.length_drop]; exact Nat.le_refl _)]
theorem it_at {k : Nat} (hk : k < 2) (p : Int × Int) : atI [V.int p.1, V.int p.2] (0 + (k : Int)) = some (.int (it k p)) := by
  match k, hk with
  | 0, _ => rfl
  | 1, _ => rfl
theorem PT.len {H : Hp} {ts : List Addr} {ps : List (Int × Int)} (h : Paired (Pr H) ts ps) : ts.length = ps.length := Paired.length h
theorem paired_of {α β : Type} {R : α → β → Prop} {xs : List α} {ys : List β} (h : Paired R xs ys) {i : Nat} {y : β} (e : ys[i]? = some y) : ∃ x, xs[i]? = some x ∧ R x y := by
  induction h generalizing i with
  | nil => simp at e
  | cons a _ ih =>
    cases i with
    | zero =>
      have z := Option.some.inj e
      subst z
      exact ⟨_, rfl, a⟩
    | succ i => exact ih (by simpa using e)
section
variable {P : Program} {w : World} {K : PySem.W.Frag} {mg : Str → Option Value} {base : Heap}
/-! ### steps_along -/
def spSteps : Sp := fun vs H Q _ => ∃ (t : Addr) (ps : List (Int × Int)), vs = [.ref t] ∧ PT H t ps ∧ 4 ≤ ps.length ∧ ps.length ≤ 7 ∧
  ∀ H' u r0 r1, Same H H' → H' u = some (.tup [.ref r0, .ref r1]) → H' r0 = some (.tup ((sk 0 ps).map V.int)) → H' r1 = some (.tup ((sk 1 ps).map V.int)) → Q (.ref u) H'
abbrev sSteps : Stmt := top 23
abbrev nSteps : List Str := ["places", "start", "k", "place"]
theorem scSteps : FnScope nSteps ["places"] (defScope sSteps) := ⟨rfl, rfl, rfl, by decide +kernel, rfl, by decide +kernel, by decide +kernel⟩
abbrev scS1 : Scope := { kind := .function, names := [(".0", .local), ("k", .cell), ("tuple", .globalImplicit), ("places", .cell), ("start", .cell)], isGenerator := false, isCoroutine := false }
theorem ok_steps {f : Addr} {fd : FuncData} (F : Fun K "steps_along" "steps_along" sSteps f fd) (B : Bn mg) : FnOk P w K mg base CX0 1 f fd ["places"] spSteps := by
  have nd := scSteps.nd
  refine F.ok scSteps (fun vs H Q E h => ?_) (fun cdv A outer s H vs Q E hr h => ?_)
  · obtain ⟨t, ps, rfl, _⟩ := h
    rfl
  · obtain ⟨t, ps, rfl, pt, l4, l7, q⟩ := h
    refine ⟨_, (pss_cons (ps_set (i := 1) nd rfl (Or.inr rfl) (pe_ix ix_tup (pv 0) (pe_int) (fun _ _ => rfl))) (pss_one (ps_ret (pe_callTy (T := "tuple") (r := rTu K) call_tuK (by rfl) B.tuple (by decide +kernel) (pa_cons (pe_lc (own := [("k", 2)]) (g := gName 2) (tt := tYes) rfl nd (pi_range1 rfl B.range (pa_cons ((pe_callB call_len_seq (by rfl) B.len PySem.boot_len (pa_cons (pv 1) pa_nil))) pa_nil)) (blkOk_by (N := nSteps) (sc := defScope sSteps) (by decide +kernel)) (fun _ _ _ _ _ => pg_name (i := 2) nd rfl (Or.inr rfl)) (fun _ _ _ _ _ => pts_nil)
        (fun _ _ _ _ _ => (pe_callTy (T := "tuple") (r := rTu K) call_tuK (by rfl) B.tuple (by decide +kernel) (pa_cons (pe_lc (own := [("place", 3)]) (g := gName 3) (tt := tYes) rfl nd (pi_tupK K (pe_slice (r := rSlT K) sl_tupK (pv 0) (po_some pe_int) (po_none))) (blkOk_by (N := nSteps) (sc := scS1) (by decide +kernel)) (fun _ _ _ _ _ => pg_name (i := 3) nd rfl (Or.inl rfl)) (fun _ _ _ _ _ => pts_nil)
          (fun _ _ _ _ _ => pe_op op_sub (pe_ix (r := rIxT K) ix_tupK (pv 3) (pv 2) (fun _ _ => rfl)) (pe_ix (r := rIxT K) ix_tupK (pv 1) (pv 2) (fun _ _ => rfl)))) pa_nil)))) pa_nil))))), ?_⟩
    obtain ⟨ts, ht, hp⟩ := pt
    have lt : ts.length = ps.length := Paired.length hp
    obtain ⟨p0, pz, rfl⟩ : ∃ p0 pz, ps = p0 :: pz := by
      cases ps with
      | nil => exact absurd l4 (by decide)
      | cons a b => exact ⟨a, b, rfl⟩
    obtain ⟨t0, e0, h0⟩ := paired_of hp (i := 0) (y := p0) rfl
    have h0 : H t0 = some (.tup [.int p0.1, .int p0.2]) := h0
    refine ⟨_, rfl, t, _, 0, .ref t0, rfl, rfl, SqT.of ht, atI_nat (j := 0) (by rw [List.getElem?_map, e0]; rfl), ?_⟩
    refine ⟨_, rfl, t0, _, rfl, .inr (SqT.of h0), 2, rfl, by decide, by decide, fun D hD => ?_⟩
    have sD := same_new (o := .lst []) hD
    refine lc_range (lo := 0) (n := 2) (fun i H' => Same H H' ∧ ∃ rs : List Addr, rs.length = i ∧ H' D = some (.lst (rs.map V.ref)) ∧ ∀ j r, rs[j]? = some r → H' r = some (.tup ((sk j (p0 :: pz)).map V.int))) ⟨sD, [], rfl, upd_same, fun j r e => by simp at e⟩ (fun k H1 hk pk => ?_) (fun H1 pk => ?_)
    · obtain ⟨s1, rs, lr, hd, hr⟩ := pk
      refine ⟨rfl, ?_⟩
      refine ⟨_, rfl, _, rfl, t, _, rfl, SqT.of (s1 _ _ ht), ?_, fun c hc => ?_⟩
      · rw [List.length_map]
        intro z
        have z1 := z.1
        have : HT.sIx ts.length 0 (some 1) = 1 := by
          rw [sIx1]
          simp only [List.length_cons] at lt
          omega
        omega
      have l1 : 1 ≤ (ts.map V.ref).length := by
        rw [List.length_map, lt]
        simp
      rw [cut1 l1]
      have sc := same_new (o := .tup ((ts.map V.ref).drop 1)) hc
      have wc : upd H1 c (.tup ((ts.map V.ref).drop 1)) c = some (.tup ((ts.map V.ref).drop 1)) := upd_same
      generalize upd H1 c (.tup ((ts.map V.ref).drop 1)) = H2 at sc wc ⊢
      have s2 := s1.trans sc
      refine ⟨c, rfl, ⟨_, SqT.of wc⟩, fun D2 hD2 => ?_⟩
      refine lc_tup (K := K) (a := c) (xs := (ts.map V.ref).drop 1) (fun i => At H2 D2 (((sk k (p0 :: pz)).take i).map V.int)) ⟨same_new hD2, upd_same⟩ (fun i H' _ p => SqT.of (p.1 _ _ wc)) (fun i x H' hx p => ?_) (fun H' p => ?_)
      · obtain ⟨z, hz⟩ : ∃ z, pz[i]? = some z := by
          rw [List.getElem?_drop, List.getElem?_map] at hx
          have : 1 + i < ts.length := by
            rcases Nat.lt_or_ge (1 + i) ts.length with h | h
            · exact h
            · rw [List.getElem?_eq_none h] at hx
              cases hx
          simp only [List.length_cons] at lt
          exact ⟨pz[i], List.getElem?_eq_getElem (by omega)⟩
        obtain ⟨tz, ez, hzz⟩ := paired_of hp (i := 1 + i) (y := z) (by rw [Nat.add_comm]; exact hz)
        have hzz : H tz = some (.tup [.int z.1, .int z.2]) := hzz
        have ex : x = .ref tz := by
          rw [List.getElem?_drop, List.getElem?_map, ez] at hx
          exact (Option.some.inj hx).symm
        subst ex
        refine ⟨rfl, ?_⟩
        refine ⟨_, rfl, _, rfl, tz, _, _, _, rfl, rfl, SqT.of ((s2.trans p.1) _ _ hzz), it_at hk z, _, rfl, _, rfl, t0, _, _, _, rfl, rfl, SqT.of ((s2.trans p.1) _ _ h0), it_at hk p0, _, _, rfl, rfl, _, p.2, ?_, p.step hD2 Same.me ?_⟩
        · rw [List.length_map, List.length_take]
          refine small1000 (Nat.le_trans (Nat.min_le_right _ _) ?_)
          simp only [sk, List.length_map, List.length_drop, List.length_cons] at l7 ⊢
          omega
        · have es : (sk k (p0 :: pz))[i]? = some (it k z - it k p0) := by
            show (List.map _ pz)[i]? = _
            rw [List.getElem?_map, hz]
            rfl
          rw [take_more es, List.map_append]
          rfl
      · have el : ((ts.map V.ref).drop 1).length = (sk k (p0 :: pz)).length := by
          simp only [sk, List.length_map, List.length_drop, List.length_cons] at lt ⊢
          omega
        rw [el, List.take_length] at p
        obtain ⟨s3, hD3⟩ := p
        refine ⟨D2, _, rfl, .inl ⟨SqL.of hD3, fun r nr => ?_⟩⟩
        have s4 := s3.trans (same_new (o := .tup ((sk k (p0 :: pz)).map V.int)) nr)
        have s5 := sc.trans s4
        have hd5 := s5 _ _ hd
        refine ⟨_, hd5, by rw [List.length_map]; exact small1000 (by omega), fun b o e => ?_, rs ++ [r], by simp [lr], ?_, fun j u e => ?_⟩
        · rw [upd_ne (ne_of_none e hD)]
          exact s5 _ _ (s1 _ _ e)
        · rw [upd_same, List.map_append]
          rfl
        · have nuD : ∀ {u : Addr} {ys : List V}, (upd H' r (.tup ((sk k (p0 :: pz)).map V.int))) u = some (.tup ys) → u ≠ D := fun h => L2.ne_of h hd5 (by intro z; cases z)
          by_cases hj : j < rs.length
          · rw [List.getElem?_append_left hj] at e
            have e2 := s5 _ _ (hr j u e)
            rw [upd_ne (nuD e2)]
            exact e2
          · have hj2 : j = rs.length := by
              rcases Nat.lt_or_ge j (rs ++ [r]).length with h | h
              · simp at h
                omega
              · rw [List.getElem?_eq_none h] at e
                cases e
            subst hj2
            rw [List.getElem?_append_right (Nat.le_refl _), Nat.sub_self] at e
            have eu : r = u := Option.some.inj e
            subst eu
            rw [upd_ne (nuD upd_same), lr]
            exact upd_same
    · obtain ⟨s1, rs, lr, hd, hr⟩ := pk
      obtain ⟨r0, r1, rfl⟩ : ∃ r0 r1, rs = [r0, r1] := by
        match rs, lr with
        | [a, b], _ => exact ⟨a, b, rfl⟩
      refine ⟨D, _, rfl, .inl ⟨SqL.of hd, fun u nu => ?_⟩⟩
      have s2 := same_new (o := .tup ([r0, r1].map V.ref)) nu
      exact q _ u r0 r1 (s1.trans s2) upd_same (s2 _ _ (hr 0 r0 rfl)) (s2 _ _ (hr 1 r1 rfl))
end
end K12

namespace K12
open PySem PySem.Spec PyProof.Rows L2
def crs (xs ys : List Int) (i j : Nat) : Int := xs.getD i 0 * ys.getD j 0 - ys.getD i 0 * xs.getD j 0
/-- all pins on one line -/
def thin (xs ys : List Int) : Prop := ∀ i j, i < j → j < xs.length → crs xs ys i j = 0
theorem cross_zero {x y a b c d : Int} (hxy : x ≠ 0 ∨ y ≠ 0) (h1 : x * b - y * a = 0) (h2 : x * d - y * c = 0) : a * d - b * c = 0 := by
  have e1 : x * b = y * a := by omega
  have e2 : x * d = y * c := by omega
  rcases hxy with h | h
  · have : x * (a * d - b * c) = 0 := by
      have : x * (a * d - b * c) = a * (x * d) - (x * b) * c := by grind
      rw [this, e1, e2]
      grind
    rcases Int.mul_eq_zero.mp this with z | z
    · exact absurd z h
    · exact z
  · have : y * (a * d - b * c) = 0 := by
      have : y * (a * d - b * c) = (y * a) * d - b * (y * c) := by grind
      rw [this, ← e1, ← e2]
      grind
    rcases Int.mul_eq_zero.mp this with z | z
    · exact absurd z h
    · exact z
theorem thin_all {xs ys : List Int} (h : ∀ i, i < xs.length → xs.getD i 0 = 0 ∧ ys.getD i 0 = 0) : thin xs ys := fun i j hij hj => by
  unfold crs
  rw [(h i (by omega)).1, (h i (by omega)).2]
  omega
theorem thin_one {xs ys : List Int} {a : Nat} (ha : a < xs.length) (hz : ∀ i, i < a → xs.getD i 0 = 0 ∧ ys.getD i 0 = 0) (hn : xs.getD a 0 ≠ 0 ∨ ys.getD a 0 ≠ 0) (hm : ∀ j, a < j → j < xs.length → crs xs ys a j = 0) : thin xs ys := fun i j hij hj => by
  rcases Nat.lt_trichotomy i a with h | h | h
  · unfold crs
    rw [(hz i h).1, (hz i h).2]
    omega
  · rw [h]
    exact hm j (by omega) hj
  · have h1 := hm i h (by omega)
    have h2 := hm j (by omega) hj
    unfold crs at h1 h2 ⊢
    have z := cross_zero (x := xs.getD a 0) (y := ys.getD a 0) (a := xs.getD i 0) (b := ys.getD i 0) (c := xs.getD j 0) (d := ys.getD j 0) hn h1 h2
    exact z
theorem ints_at {ns : List Int} {i : Nat} (h : i < ns.length) : atI (ns.map V.int) (i : Int) = some (.int (ns.getD i 0)) := atI_nat (by rw [List.getElem?_map, List.getElem?_eq_getElem h, List.getD_eq_getElem?_getD, List.getElem?_eq_getElem h]; rfl)
def Bd (ns : List Int) : Prop := ∀ n ∈ ns, -(2 ^ 40) < n ∧ n < 2 ^ 40
theorem Bd.get {ns : List Int} (h : Bd ns) (i : Nat) : -(2 ^ 40) < ns.getD i 0 ∧ ns.getD i 0 < 2 ^ 40 := by
  rw [List.getD_eq_getElem?_getD]
  cases e : ns[i]? with
  | none => exact ⟨by decide, by decide⟩
  | some n => exact h n (List.mem_of_getElem? e)
end K12

namespace K12
open PySem PySem.Spec PyProof.Rows L2
/-- what the products have in row i and column j -/
def pg (xs ys : List Int) (i j : Nat) : Int := xs.getD i 0 * xs.getD j 0 + ys.getD i 0 * ys.getD j 0
theorem pg_sym (xs ys : List Int) (i j : Nat) : pg xs ys i j = pg xs ys j i := by
  unfold pg
  rw [Int.mul_comm (xs.getD i 0), Int.mul_comm (ys.getD i 0)]
def mrow (m : Nat → Nat → Int) (n i : Nat) : List Int := (List.range n).map (m i)
def MatL (fs : List Addr) (m : Nat → Nat → Int) (n : Nat) (H : Hp) : Prop := ∀ (j : Nat) (f : Addr), fs[j]? = some f → H f = some (.lst ((mrow m n j).map V.int))
def MatT (H : Hp) (t : Addr) (m : Nat → Nat → Int) (n : Nat) : Prop := ∃ rs : List Addr, rs.length = n ∧ H t = some (.tup (rs.map V.ref)) ∧ ∀ (j : Nat) (r : Addr), rs[j]? = some r → H r = some (.tup ((mrow m n j).map V.int))
def put (m : Nat → Nat → Int) (a b : Nat) (v : Int) : Nat → Nat → Int := fun i j => if i = a ∧ j = b then v else m i j
theorem mrow_len (m : Nat → Nat → Int) (n i : Nat) : (mrow m n i).length = n := by
  unfold mrow
  rw [List.length_map, List.length_range]
theorem mrow_set {m : Nat → Nat → Int} {n a b : Nat} {v : Int} (hb : b < n) : ((mrow m n a).map V.int).set b (.int v) = (mrow (put m a b v) n a).map V.int := by
  apply List.ext_getElem?
  intro j
  unfold mrow
  rw [List.getElem?_set]
  by_cases hj : b = j
  · subst hj
    rw [if_pos rfl, if_pos (by simp [hb])]
    rw [List.getElem?_map, List.getElem?_map, List.getElem?_range hb]
    simp [put]
  · rw [if_neg hj]
    rw [List.getElem?_map, List.getElem?_map, List.getElem?_map, List.getElem?_map]
    cases e : (List.range n)[j]? with
    | none => rfl
    | some k =>
      have : k = j := by
        have h : j < n := by
          rcases Nat.lt_or_ge j n with h | h
          · exact h
          · rw [List.getElem?_eq_none (by rw [List.length_range]; exact h)] at e
            cases e
        rw [List.getElem?_range h] at e
        exact (Option.some.inj e).symm
      subst this
      simp [put, show ¬ k = b from fun z => hj z.symm]
theorem mrow_put {m : Nat → Nat → Int} {n a b i : Nat} {v : Int} (h : i ≠ a) : mrow (put m a b v) n i = mrow m n i := by
  unfold mrow
  refine List.map_congr_left fun j _ => ?_
  unfold put
  rw [if_neg (fun z => h z.1)]
theorem nodup_at {fs : List Addr} (nd : fs.Nodup) {i j : Nat} {f : Addr} (h1 : fs[i]? = some f) (h2 : fs[j]? = some f) : i = j := by
  have a : i < fs.length := by
    rcases Nat.lt_or_ge i fs.length with h | h
    · exact h
    · rw [List.getElem?_eq_none h] at h1
      cases h1
  exact (List.getElem?_inj a nd).mp (h1.trans h2.symm)
theorem MatL.put {fs : List Addr} {m : Nat → Nat → Int} {n a b : Nat} {H : Hp} {f : Addr} {v : Int} (M : MatL fs m n H) (nd : fs.Nodup) (hf : fs[a]? = some f) (hb : b < n) :
    MatL fs (K12.put m a b v) n (upd H f (.lst (((mrow m n a).map V.int).set b (.int v)))) := fun j g hg => by
  by_cases e : g = f
  · subst e
    have : j = a := nodup_at nd hg hf
    subst this
    rw [upd_same, mrow_set hb]
  · have ne : j ≠ a := fun z => e (by rw [z, hf] at hg; exact (Option.some.inj hg).symm)
    rw [upd_ne e, mrow_put ne]
    exact M j g hg
theorem mrow_congr {m m' : Nat → Nat → Int} {n i : Nat} (h : ∀ j, j < n → m i j = m' i j) : mrow m n i = mrow m' n i := by
  unfold mrow
  exact List.map_congr_left fun j hj => h j (List.mem_range.mp hj)
theorem zeros (n : Nat) : (List.replicate n [V.int 0]).flatten = ((mrow (fun _ _ => 0) n 0).map V.int) := by
  unfold mrow
  induction n with
  | zero => rfl
  | succ n ih =>
    rw [List.replicate_succ', List.flatten_append, ih, List.range_succ, List.map_append, List.map_append]
    rfl
theorem ixN_nat {n j : Nat} (h : j < n) : ixN n (j : Int) = some j := by
  unfold ixN
  first
    | (rw [if_neg (by omega), if_pos (by omega)]; simp)
    | (simp; omega)
    | (split <;> simp_all <;> omega)
end K12

namespace K12
open PySem PySem.Spec PyProof.Rows L2
section
variable {P : Program} {w : World} {K : PySem.W.Frag} {mg : Str → Option Value} {base : Heap}
/-- two rows of as many numbers, in a tuple -/
def Two (H : Hp) (u : Addr) (xs ys : List Int) : Prop := ∃ r0 r1, H u = some (.tup [.ref r0, .ref r1]) ∧ H r0 = some (.tup (xs.map V.int)) ∧ H r1 = some (.tup (ys.map V.int))
theorem Two.same {H H' : Hp} {u : Addr} {xs ys : List Int} (h : Two H u xs ys) (s : Same H H') : Two H' u xs ys := let ⟨r0, r1, a, b, c⟩ := h; ⟨r0, r1, s _ _ a, s _ _ b, s _ _ c⟩
/-! ### products_of -/
def spProd : Sp := fun vs H Q _ => ∃ (u : Addr) (xs ys : List Int), vs = [.ref u] ∧ Two H u xs ys ∧ ys.length = xs.length ∧ 1 ≤ xs.length ∧ xs.length ≤ 7 ∧ Bd xs ∧ Bd ys ∧
  ∀ H' t, Same H H' → MatT H' t (pg xs ys) xs.length → Q (.ref t) H'
abbrev sProd : Stmt := top 25
abbrev nProd : List Str := ["rows", "width", "found", "a", "b", "told", "_", "row"]
theorem scProd : FnScope nProd ["rows"] (defScope sProd) := ⟨rfl, rfl, rfl, by decide +kernel, rfl, by decide +kernel, by decide +kernel⟩
theorem ok_prod {f : Addr} {fd : FuncData} (F : Fun K "products_of" "products_of" sProd f fd) (B : Bn mg) : FnOk P w K mg base CX0 1 f fd ["rows"] spProd := by
  have nd := scProd.nd
  refine F.ok scProd (fun vs H Q E h => ?_) (fun cdv A outer s H vs Q E hr h => ?_)
  · obtain ⟨u, xs, ys, rfl, _⟩ := h
    rfl
  · obtain ⟨u, xs, ys, rfl, ⟨r0, r1, hu, h0, h1⟩, ly, l1, l7, bx, by', q⟩ := h
    refine ⟨_, (pss_cons (ps_set (i := 1) nd rfl (Or.inr rfl) (pe_callB call_len_seq (by rfl) B.len PySem.boot_len (pa_cons ((pe_ix ix_tup (pv 0) (pe_int) (fun _ _ => rfl))) pa_nil))) (pss_cons (ps_setLc (i := 2) (own := [("_", 6)]) (g := gName 6) (tt := tYes) rfl nd rfl rfl (sw_true rfl rfl rfl (by decide +kernel)) (pi_range1 rfl B.range (pa_cons (pv 1) pa_nil)) (blkOk_by (N := nProd) (sc := defScope sProd) (by decide +kernel)) (fun _ _ _ _ _ => pg_name (i := 6) nd rfl (Or.inl rfl)) (fun _ _ _ _ _ => pts_nil) (fun _ _ _ _ _ => pe_op op_rep (pe_lst (pa_cons (pe_int) pa_nil)) (pv 1))) (pss_cons (ps_for PassesOwn.never rfl (pi_range1 rfl B.range (pa_cons (pv 1) pa_nil)) (pg_name (i := 3) nd rfl (Or.inr rfl)) (pss_one (ps_for PassesOwn.never rfl (pi_range1 rfl B.range (pa_cons (pe_op op_add (pv 3) pe_int) pa_nil)) (pg_name (i := 4) nd rfl (Or.inr rfl)) (pss_cons ((ps_set (i := 5) nd rfl (Or.inl rfl) (pe_callB (cr_sum rfl) (by rfl) B.sum (by decide +kernel) (pa_cons (pe_lc (own := [("row", 7)]) (g := gName 7) (tt := tYes) rfl nd (pi_tup (pv 0)) (blkOk_by (N := nProd) (sc := defScope sProd) (by decide +kernel)) (fun _ _ _ _ _ => pg_name (i := 7) nd rfl (Or.inl rfl)) (fun _ _ _ _ _ => pts_nil) (fun _ _ _ _ _ => pe_op op_mul (pe_ix (r := rIxT K) ix_tupK (pv 7) (pv 3) (fun _ _ => rfl)) (pe_ix (r := rIxT K) ix_tupK (pv 7) (pv 4) (fun _ _ => rfl)))) pa_nil)))) (pss_cons (ps_asg (pv 5) (pg_sub (pe_ix ix_list (pv 2) (pv 3) (fun _ _ => rfl)) (pv 4) set_list)) (pss_one (ps_asg (pv 5) (pg_sub (pe_ix ix_list (pv 2) (pv 4) (fun _ _ => rfl)) (pv 3) set_list)))))))) (pss_one (ps_ret (pe_callTy (T := "tuple") (r := rTu K) call_tuK (by rfl) B.tuple (by decide +kernel) (pa_cons (pe_lc (own := [("row", 7)]) (g := gName 7) (tt := tYes) rfl nd (pi_list (pv 2)) (blkOk_by (N := nProd) (sc := defScope sProd) (by decide +kernel)) (fun _ _ _ _ _ => pg_name (i := 7) nd rfl (Or.inl rfl)) (fun _ _ _ _ _ => pts_nil) (fun _ _ _ _ _ => (pe_callTy (T := "tuple") (r := rTu K) call_tuK (by rfl) B.tuple (by decide +kernel) (pa_cons (pv 7) pa_nil)))) pa_nil))))))), ?_⟩
    obtain ⟨n, hn⟩ : ∃ n, n = xs.length := ⟨_, rfl⟩
    refine ⟨_, rfl, u, _, 0, .ref r0, rfl, rfl, SqT.of hu, rfl, r0, _, rfl, .inr (SqT.of h0), ?_⟩
    rw [List.length_map, ← hn]
    rw [← hn] at l1 l7 ly
    refine ⟨_, rfl, (n : Int), rfl, by omega, by omega, fun D hD => ?_⟩
    rw [Int.toNat_natCast]
    refine lc_range (lo := 0) (n := n) (fun i H' => Same H H' ∧ ∃ fs : List Addr, fs.length = i ∧ H' D = some (.lst (fs.map V.ref)) ∧ fs.Nodup ∧ (∀ f ∈ fs, f ≠ D ∧ H f = none) ∧ MatL fs (fun _ _ => 0) n H') ⟨same_new hD, [], rfl, upd_same, List.nodup_nil, fun f h => absurd h List.not_mem_nil, fun j f e => by simp at e⟩ (fun i H1 hi pk => ?_) (fun H1 pk => ?_)
    · obtain ⟨s1, fs, lf, hd, ndf, nf, M⟩ := pk
      refine ⟨rfl, ?_⟩
      refine ⟨by show 1 ≤ sizeLine; decide, fun l hl => ?_⟩
      have s2 := same_new (o := .lst [V.int 0]) hl
      refine ⟨_, rfl, l, (n : Int), _, rfl, rfl, upd_same, by omega, by omega, by show 1 * (n : Int).toNat ≤ sizeLine; rw [Int.toNat_natCast, Nat.one_mul]; exact Nat.le_of_lt (small1000 (by omega)), fun g hg => ?_⟩
      rw [Int.toNat_natCast, zeros]
      have s3 := s2.trans (same_new (o := .lst ((mrow (fun _ _ => 0) n 0).map V.int)) hg)
      have hg1 : H1 g = none := s2.free hg
      have wg : (upd (upd H1 l (.lst [V.int 0])) g (.lst ((mrow (fun _ _ => 0) n 0).map V.int))) g = some (.lst ((mrow (fun _ _ => 0) n 0).map V.int)) := upd_same
      generalize upd (upd H1 l (.lst [V.int 0])) g (.lst ((mrow (fun _ _ => 0) n 0).map V.int)) = H3 at s3 wg ⊢
      have gD : g ≠ D := (ne_of_none hd hg1).symm
      refine ⟨_, s3 _ _ hd, by rw [List.length_map]; exact small1000 (by omega), fun b o e => ?_, fs ++ [g], by simp [lf], ?_, ?_, fun f hf => ?_, fun j f e => ?_⟩
      · rw [upd_ne (ne_of_none e hD)]
        exact s3 _ _ (s1 _ _ e)
      · rw [upd_same, List.map_append]
        rfl
      · rw [List.nodup_append]
        refine ⟨ndf, by simp, fun a ha b hb => ?_⟩
        rw [List.mem_singleton.mp hb]
        obtain ⟨j, e⟩ := List.getElem?_of_mem ha
        exact ne_of_none (M j a e) hg1
      · rcases List.mem_append.mp hf with h | h
        · exact nf f h
        · rw [List.mem_singleton.mp h]
          exact ⟨gD, s1.free hg1⟩
      · have fD : f ≠ D := by
          rcases List.mem_append.mp (List.mem_of_getElem? e) with h | h
          · exact (nf f h).1
          · rw [List.mem_singleton.mp h]
            exact gD
        rw [upd_ne fD]
        by_cases hj : j < fs.length
        · rw [List.getElem?_append_left hj] at e
          exact s3 _ _ (M j f e)
        · have hj2 : j = fs.length := by
            rcases Nat.lt_or_ge j (fs ++ [g]).length with h | h
            · simp at h
              omega
            · rw [List.getElem?_eq_none h] at e
              cases e
          subst hj2
          rw [List.getElem?_append_right (Nat.le_refl _), Nat.sub_self] at e
          have eu : g = f := Option.some.inj e
          subst eu
          exact wg
    · obtain ⟨s1, fs, lf, hd, ndf, nf, M⟩ := pk
      refine ⟨_, rfl, (n : Int), rfl, by omega, by omega, ?_⟩
      rw [Int.toNat_natCast]
      refine for_range (lo := 0) (n := n) (fun a σ H2 => Same H H2 ∧ H2 D = some (.lst (fs.map V.ref)) ∧ (∃ m, MatL fs m n H2 ∧ ∀ i j, i < a → j < a → m i j = pg xs ys i j) ∧ ∃ c3 c4 c5 c6 c7, σ = [some (.ref u), some (.int n), some (.ref D), c3, c4, c5, c6, c7])
        ⟨s1, hd, ⟨_, M, fun i j h => absurd h (Nat.not_lt_zero i)⟩, _, _, _, _, _, rfl⟩ (fun a σ H2 ha p => ?_) (fun σ H2 p => ?_)
      · obtain ⟨s2, hd2, ⟨m, M2, g2⟩, c3, c4, c5, c6, c7, rfl⟩ := p
        have z0 : (0 : Int) + (a : Int) = (a : Int) := by omega
        rw [z0]
        refine ⟨_, rfl, _, _, rfl, rfl, (a : Int) + 1, rfl, by omega, by omega, ?_⟩
        have en : ((a : Int) + 1).toNat = a + 1 := by omega
        rw [en]
        refine for_range (lo := 0) (n := a + 1) (fun b σ H3 => Same H H3 ∧ H3 D = some (.lst (fs.map V.ref)) ∧ (∃ m, MatL fs m n H3 ∧ (∀ i j, i < a → j < a → m i j = pg xs ys i j) ∧ ∀ j, j < b → m a j = pg xs ys a j ∧ m j a = pg xs ys j a) ∧ ∃ d4 d5 d6 d7, σ = [some (.ref u), some (.int n), some (.ref D), some (.int a), d4, d5, d6, d7])
          ⟨s2, hd2, ⟨m, M2, g2, fun j h => absurd h (Nat.not_lt_zero j)⟩, _, _, _, _, rfl⟩ (fun b σ H3 hb p => ?_) (fun σ H3 p => ?_)
        · obtain ⟨s3, hd3, ⟨m, M3, g3, k3⟩, d4, d5, d6, d7, rfl⟩ := p
          have zb : (0 : Int) + (b : Int) = (b : Int) := by omega
          rw [zb]
          refine ⟨_, rfl, u, rfl, ⟨_, SqT.of (s3 _ _ hu)⟩, fun L hL => ?_⟩
          refine lc_tup (K := K) (a := u) (xs := [.ref r0, .ref r1]) (fun i => At H3 L (([xs.getD a 0 * xs.getD b 0, ys.getD a 0 * ys.getD b 0].take i).map V.int)) ⟨same_new hL, upd_same⟩ (fun i H' _ p => SqT.of (p.1 _ _ (s3 _ _ hu))) (fun i x H' hx p => ?_) (fun H' p => ?_)
          · refine ⟨rfl, ?_⟩
            match i, hx with
            | 0, hx =>
              have ex : V.ref r0 = x := Option.some.inj hx
              subst ex
              refine ⟨_, rfl, _, rfl, r0, _, _, _, rfl, rfl, SqT.of (p.1 _ _ (s3 _ _ h0)), ints_at (by omega), _, rfl, _, rfl, r0, _, _, _, rfl, rfl, SqT.of (p.1 _ _ (s3 _ _ h0)), ints_at (by omega), _, _, rfl, rfl, .inl ?_, _, p.2, by show 0 < sizeLine; decide, p.step hL Same.me rfl⟩
              have := bx.get a
              exact ⟨by omega, by omega⟩
            | 1, hx =>
              have ex : V.ref r1 = x := Option.some.inj hx
              subst ex
              refine ⟨_, rfl, _, rfl, r1, _, _, _, rfl, rfl, SqT.of (p.1 _ _ (s3 _ _ h1)), ints_at (by omega), _, rfl, _, rfl, r1, _, _, _, rfl, rfl, SqT.of (p.1 _ _ (s3 _ _ h1)), ints_at (by omega), _, _, rfl, rfl, .inl ?_, _, p.2, by show 1 < sizeLine; decide, p.step hL Same.me rfl⟩
              have := by'.get a
              exact ⟨by omega, by omega⟩
          · obtain ⟨sL, wL⟩ := p
            refine ⟨L, [xs.getD a 0 * xs.getD b 0, ys.getD a 0 * ys.getD b 0], rfl, SqL.of wL, ?_⟩
            have es : [xs.getD a 0 * xs.getD b 0, ys.getD a 0 * ys.getD b 0].sum = pg xs ys a b := by
              show _ + (_ + 0) = _
              rw [Int.add_zero]
              rfl
            rw [es]
            have M4 : MatL fs m n H' := fun j g e => sL _ _ (M3 j g e)
            have hd4 := sL _ _ hd3
            have s4 := s3.trans sL
            obtain ⟨fa, efa⟩ : ∃ fa, fs[a]? = some fa := ⟨fs[a], List.getElem?_eq_getElem (by omega)⟩
            obtain ⟨fb, efb⟩ : ∃ fb, fs[b]? = some fb := ⟨fs[b], List.getElem?_eq_getElem (by omega)⟩
            have nfa := nf fa (List.mem_of_getElem? efa)
            have nfb := nf fb (List.mem_of_getElem? efb)
            have iat : ∀ {i : Nat} {g : Addr}, fs[i]? = some g → atI (fs.map V.ref) (i : Int) = some (.ref g) := fun e => atI_nat (by rw [List.getElem?_map, e]; rfl)
            refine ⟨_, rfl, _, rfl, _, rfl, D, _, _, _, rfl, rfl, SqL.of hd4, iat efa, _, rfl, fa, _, _, b, rfl, rfl, M4 a fa efa, by rw [List.length_map, mrow_len]; exact ixN_nat (by omega), ?_⟩
            have M5 := M4.put ndf efa (b := b) (v := pg xs ys a b) (by omega)
            have s5 : Same H (upd H' fa (.lst (((mrow m n a).map V.int).set b (.int (pg xs ys a b))))) := fun c o e => by
              rw [upd_ne (ne_of_none e nfa.2)]
              exact s4 _ _ e
            have hd5 : (upd H' fa (.lst (((mrow m n a).map V.int).set b (.int (pg xs ys a b))))) D = some (.lst (fs.map V.ref)) := by
              rw [upd_ne nfa.1.symm]
              exact hd4
            generalize upd H' fa (.lst (((mrow m n a).map V.int).set b (.int (pg xs ys a b)))) = H5 at M5 s5 hd5 ⊢
            refine ⟨_, rfl, _, rfl, _, rfl, D, _, _, _, rfl, rfl, SqL.of hd5, iat efb, _, rfl, fb, _, _, a, rfl, rfl, M5 b fb efb, by rw [List.length_map, mrow_len]; exact ixN_nat ha, ?_⟩
            have M6 := M5.put ndf efb (b := a) (v := pg xs ys a b) ha
            refine ⟨fun c o e => ?_, ?_, ⟨_, M6, fun i j hi hj => ?_, fun j hj => ?_⟩, _, _, _, _, rfl⟩
            · rw [upd_ne (ne_of_none e nfb.2)]
              exact s5 _ _ e
            · rw [upd_ne nfb.1.symm]
              exact hd5
            · unfold put
              rw [if_neg (by omega), if_neg (by omega)]
              exact g3 i j hi hj
            · have hs := pg_sym xs ys a b
              unfold put
              by_cases ej : j = b
              · subst ej
                constructor
                · by_cases eab : a = j
                  · rw [if_pos ⟨eab, eab.symm⟩]
                  · rw [if_neg (fun z => eab z.1), if_pos ⟨rfl, rfl⟩]
                · rw [if_pos ⟨rfl, rfl⟩]
                  exact hs
              · have kj := k3 j (by omega)
                constructor
                · rw [if_neg (by omega), if_neg (by omega)]
                  exact kj.1
                · rw [if_neg (by omega), if_neg (by omega)]
                  exact kj.2
        · obtain ⟨s3, hd3, ⟨m, M3, g3, k3⟩, d4, d5, d6, d7, rfl⟩ := p
          refine ⟨s3, hd3, ⟨m, M3, fun i j hi hj => ?_⟩, _, _, _, _, _, rfl⟩
          by_cases ei : i = a
          · rw [ei]
            exact (k3 j hj).1
          · by_cases ej : j = a
            · rw [ej]
              exact (k3 i hi).2
            · exact g3 i j (by omega) (by omega)
      · obtain ⟨s2, hd2, ⟨m, M2, g2⟩, c3, c4, c5, c6, c7, rfl⟩ := p
        refine ⟨_, rfl, D, rfl, ⟨_, SqL.of hd2⟩, fun L hL => ?_⟩
        refine lc_list (K := K) (a := D) (xs := fs.map V.ref) (fun i H' => Same H2 H' ∧ ∃ rs : List Addr, rs.length = i ∧ H' L = some (.lst (rs.map V.ref)) ∧ ∀ j r, rs[j]? = some r → H' r = some (.tup ((mrow (pg xs ys) n j).map V.int))) ⟨same_new hL, [], rfl, upd_same, fun j r e => by simp at e⟩ (fun i H' _ p => SqL.of (p.1 _ _ hd2)) (fun i x H' hx p => ?_) (fun H' p => ?_)
        · obtain ⟨s3, rs, lr, hL3, hr⟩ := p
          have hi : i < fs.length := by
            rcases Nat.lt_or_ge i fs.length with h | h
            · exact h
            · rw [List.getElem?_eq_none (by rw [List.length_map]; exact h)] at hx
              cases hx
          obtain ⟨g, eg⟩ : ∃ g, fs[i]? = some g := ⟨fs[i], List.getElem?_eq_getElem hi⟩
          have ex : x = .ref g := by
            rw [List.getElem?_map, eg] at hx
            exact (Option.some.inj hx).symm
          subst ex
          refine ⟨rfl, ?_⟩
          refine ⟨_, rfl, g, _, rfl, .inl ⟨SqL.of (s3 _ _ (M2 i g eg)), fun r nr => ?_⟩⟩
          have em : mrow m n i = mrow (pg xs ys) n i := mrow_congr fun j hj => g2 i j (by omega) hj
          rw [em]
          have s4 := same_new (o := .tup ((mrow (pg xs ys) n i).map V.int)) nr
          have wr : upd H' r (.tup ((mrow (pg xs ys) n i).map V.int)) r = some (.tup ((mrow (pg xs ys) n i).map V.int)) := upd_same
          generalize upd H' r (.tup ((mrow (pg xs ys) n i).map V.int)) = H4 at s4 wr ⊢
          have hL4 := s4 _ _ hL3
          refine ⟨_, hL4, by rw [List.length_map]; exact small1000 (by omega), fun b o e => ?_, rs ++ [r], by simp [lr], ?_, fun j v e => ?_⟩
          · rw [upd_ne (ne_of_none e hL)]
            exact s4 _ _ (s3 _ _ e)
          · rw [upd_same, List.map_append]
            rfl
          · have nvL : ∀ {v : Addr} {zs : List V}, H4 v = some (.tup zs) → v ≠ L := fun h => L2.ne_of h hL4 (by intro z; cases z)
            by_cases hj : j < rs.length
            · rw [List.getElem?_append_left hj] at e
              have e2 := s4 _ _ (hr j v e)
              rw [upd_ne (nvL e2)]
              exact e2
            · have hj2 : j = rs.length := by
                rcases Nat.lt_or_ge j (rs ++ [r]).length with h | h
                · simp at h
                  omega
                · rw [List.getElem?_eq_none h] at e
                  cases e
              subst hj2
              rw [List.getElem?_append_right (Nat.le_refl _), Nat.sub_self] at e
              have eu : r = v := Option.some.inj e
              subst eu
              rw [upd_ne (nvL wr), lr]
              exact wr
        · obtain ⟨s3, rs, lr, hL3, hr⟩ := p
          rw [List.length_map, lf] at lr
          refine ⟨L, _, rfl, .inl ⟨SqL.of hL3, fun t nt => ?_⟩⟩
          have s4 := same_new (o := .tup (rs.map V.ref)) nt
          refine q _ t ((s2.trans s3).trans s4) ?_
          rw [← hn]
          exact ⟨rs, lr, upd_same, fun j r e => s4 _ _ (hr j r e)⟩
end
end K12

namespace K12
open PySem PySem.Spec PyProof.Rows L2
/-! ### BadPicture -/
structure BrTxt (K : PySem.W.Frag) (mg : Str → Option Value) (C fI : Addr) : Prop where
  oex : OexC K C
  mgC : mg "BadPicture" = some (.ref C)
  noP : PySem.W.findIn K (.ref C) "part" = some none
  iC : PySem.W.findIn K (.ref C) "__init__" = some (some (.ref fI))
  tI : PySem.W.typeIn K (.ref fI) = some (.type "function")
/-- a BadPicture is raised: its own dict d tells the part -/
def Rz (C : Addr) (z : Str) (H : Hp) (E : XK) : Prop := ∀ d H', Same H H' → H d = none → H' d = some (.xd [(("part" : Str), .str z)]) → E (.ref C) (some d) H'
theorem raised {H H1 : Hp} {C a dx : Addr} {z : Str} {E : XK} (h : Rz C z H E) (s1 : Same H H1) (ha : H1 a = none) (hd : upd H1 a (exo a C none) dx = none) (ne : dx ≠ a) :
    E (.ref C) (some dx) (upd (L2.del (upd (upd (upd H1 a (exo a C none)) dx (exd dx [(("part" : Str), V.str z)])) a (exo a C (some dx))) a) dx (.xd [(("part" : Str), V.str z)])) := by
  have hd1 : H1 dx = none := by
    rw [upd_ne ne] at hd
    exact hd
  refine h dx _ (fun b o e => ?_) (s1.free hd1) upd_same
  have e1 := s1 b o e
  have nb : b ≠ dx := ne_of_none e1 hd1
  have na : b ≠ a := ne_of_none e1 ha
  rw [upd_ne nb, del_ne na, upd_ne na, upd_ne nb, upd_ne na]
  exact e1
theorem RB.same {z : Bool} {H H1 : Hp} {Q : VK} (h : RB z H Q) (s : Same H H1) : RB z H1 Q := fun H' s' => h H' (s.trans s')
/-- all but what stands at a -/
def Kp (a : Addr) (H H' : Hp) : Prop := ∀ b o, b ≠ a → H b = some o → H' b = some o
theorem Kp.of {a : Addr} {H H' : Hp} (s : Same H H') : Kp a H H' := fun b o _ e => s b o e
theorem Kp.trans {a : Addr} {H H1 H2 : Hp} (x : Kp a H H1) (y : Kp a H1 H2) : Kp a H H2 := fun b o n e => y b o n (x b o n e)
theorem Kp.set {a : Addr} {H : Hp} {o : HO} : Kp a H (upd H a o) := fun b u n e => by rw [upd_ne n]; exact e
/-! ### places that are right -/
def OkP (ps : List (Int × Int)) : Prop := 4 ≤ ps.length ∧ ps.length ≤ 7 ∧ ∀ p ∈ ps, -G9 ≤ p.1 ∧ p.1 ≤ G9 ∧ -G9 ≤ p.2 ∧ p.2 ≤ G9
def PlA (H : Hp) (x : V) (p : Int × Int) : Prop := ∃ r, x = .ref r ∧ Sq H r [.int p.1, .int p.2]
/-- a list or a tuple of pairs, lists or tuples -/
def Pls (H : Hp) (v : V) (ps : List (Int × Int)) : Prop := ∃ b xs, v = .ref b ∧ Sq H b xs ∧ Paired (PlA H) xs ps
theorem PlA.same {H H' : Hp} {x : V} {p : Int × Int} (h : PlA H x p) (s : Same H H') : PlA H' x p := let ⟨r, e, q⟩ := h; ⟨r, e, q.same s⟩
theorem paired_mono {α β : Type} {R S : α → β → Prop} {xs : List α} {ys : List β} (h : Paired R xs ys) (i : ∀ x y, R x y → S x y) : Paired S xs ys := by
  induction h with
  | nil => exact .nil
  | cons a _ ih => exact .cons (i _ _ a) ih
theorem Pls.same {H H' : Hp} {v : V} {ps : List (Int × Int)} (h : Pls H v ps) (s : Same H H') : Pls H' v ps := let ⟨b, xs, e, q, k⟩ := h; ⟨b, xs, e, q.same s, paired_mono k fun _ _ z => z.same s⟩
theorem inB_of {n : Int} (h : -G9 ≤ n) (h2 : n ≤ G9) : inB (.int n) = true := by
  show (decide (-G9 ≤ n) && decide (n ≤ G9)) = true
  rw [decide_eq_true h, decide_eq_true h2]
  rfl
theorem pl_rows {K : PySem.W.Frag} {H : Hp} {xs : List V} {ps : List (Int × Int)} (h : Paired (PlA H) xs ps) (b : ∀ p ∈ ps, -G9 ≤ p.1 ∧ p.1 ≤ G9 ∧ -G9 ≤ p.2 ∧ p.2 ≤ G9) : Paired (RowV K H) xs (ps.map fun _ => true) := by
  induction h with
  | nil => exact .nil
  | @cons x p xs ps a _ ih =>
    refine .cons ?_ (ih fun q hq => b q (List.mem_cons_of_mem _ hq))
    obtain ⟨r, rfl, q⟩ := a
    obtain ⟨b1, b2, b3, b4⟩ := b p List.mem_cons_self
    have z : RowV K H (.ref r) (rowB [.int p.1, .int p.2]) := .seq q (fun x hx => by
      rcases List.mem_cons.mp hx with e | e
      · rw [e]
        exact ⟨_, .int _⟩
      · rw [List.mem_singleton.mp e]
        exact ⟨_, .int _⟩) (by show 2 ≤ 100; decide)
    have e : rowB [V.int p.1, V.int p.2] = true := by
      show (decide _ && (inB _ && (inB _ && true))) = true
      rw [inB_of b1 b2, inB_of b3 b4]
      rfl
    rw [e] at z
    exact z
theorem Pls.rows {K : PySem.W.Frag} {H : Hp} {v : V} {ps : List (Int × Int)} (h : Pls H v ps) (ok : OkP ps) : RowsV K H v (some (ps.map fun _ => true)) ∧ plB (some (ps.map fun _ => true)) = true := by
  obtain ⟨b, xs, rfl, q, k⟩ := h
  refine ⟨.seq q (pl_rows k ok.2.2) ?_, ?_⟩
  · rw [Paired.length k]
    exact Nat.le_trans ok.2.1 (by decide)
  · have h1 := ok.1
    have h2 := ok.2.1
    have e : (ps.map fun _ => true).all id = true := by
      rw [List.all_map]
      exact List.all_eq_true.mpr fun _ _ => rfl
    show (_ && decide _ && decide _) = true
    rw [e, List.length_map, decide_eq_true h1, decide_eq_true h2]
    rfl
/-! ### pictures -/
structure PicT (K : PySem.W.Frag) (C : Addr) : Prop where
  pc : PicC K C
  n1 : NoAttr K C "places"
  n2 : NoAttr K C "pins"
  n3 : NoAttr K C "rows"
/-- at a: the picture with these places -/
def PicF (H : Hp) (C a : Addr) (ps : List (Int × Int)) : Prop := ∃ dx t u, H a = some (.ins C dx [("places", .ref t), ("pins", .int ps.length), ("rows", .ref u)]) ∧ PT H t ps ∧ Two H u (sk 0 ps) (sk 1 ps)
theorem PT.same {H H' : Hp} {t : Addr} {ps : List (Int × Int)} (h : PT H t ps) (s : Same H H') : PT H' t ps := let ⟨ts, a, b⟩ := h; ⟨ts, s _ _ a, paired_mono b fun _ _ z => s _ _ z⟩
theorem PicF.same {H H' : Hp} {C a : Addr} {ps : List (Int × Int)} (h : PicF H C a ps) (s : Same H H') : PicF H' C a ps := let ⟨dx, t, u, e, p, q⟩ := h; ⟨dx, t, u, s _ _ e, p.same s, q.same s⟩
theorem PT.kp {H H' : Hp} {t a C dx : Addr} {fs : List (Str × V)} {ps : List (Int × Int)} (h : PT H t ps) (ha : H a = some (.ins C dx fs)) (k : Kp a H H') : PT H' t ps := by
  obtain ⟨ts, e, b⟩ := h
  have ne : ∀ {x : Addr} {xs : List V}, H x = some (.tup xs) → x ≠ a := fun h => L2.ne_of h ha (by intro z; cases z)
  exact ⟨ts, k _ _ (ne e) e, paired_mono b fun _ _ z => k _ _ (ne z) z⟩
theorem Two.kp {H H' : Hp} {u a C dx : Addr} {fs : List (Str × V)} {xs ys : List Int} (h : Two H u xs ys) (ha : H a = some (.ins C dx fs)) (k : Kp a H H') : Two H' u xs ys := by
  obtain ⟨r0, r1, e, e0, e1⟩ := h
  have ne : ∀ {x : Addr} {xs : List V}, H x = some (.tup xs) → x ≠ a := fun h => L2.ne_of h ha (by intro z; cases z)
  exact ⟨r0, r1, k _ _ (ne e) e, k _ _ (ne e0) e0, k _ _ (ne e1) e1⟩
section
variable {P : Program} {w : World} {K : PySem.W.Frag} {mg : Str → Option Value} {base : Heap} {C CB fB : Addr}
def spBI (K : PySem.W.Frag) (C : Addr) : Sp := fun vs H Q _ => ∃ (a : Addr) (y : V), vs = [.ref a, y] ∧ OexC K C ∧ PySem.W.findIn K (.ref C) "part" = some none ∧ H a = some (exo a C none) ∧
  ∀ dx, H dx = none → dx ≠ a → Q .non (upd (upd H dx (exd dx [(("part" : Str), y)])) a (exo a C (some dx)))
abbrev sBI : Stmt := inClass (top 4) 0
theorem scBI : FnScope ["self", "part"] ["self", "part"] (defScope sBI) := ⟨rfl, rfl, rfl, by decide +kernel, rfl, by decide +kernel, by decide +kernel⟩
theorem ok_bi {f C : Addr} {fd : FuncData} (F : Fun K "__init__" "BadPicture.__init__" sBI f fd) : FnOk P w K mg base CX0 1 f fd ["self", "part"] (spBI K C) := by
  refine F.ok scBI (fun vs H Q E h => ?_) (fun cdv A outer s H vs Q E hr h => ?_)
  · obtain ⟨a, y, rfl, _⟩ := h
    rfl
  · obtain ⟨a, y, rfl, T, no, ha, q⟩ := h
    refine ⟨_, pss_one (ps_ost (pv 0) (pv 1)), ?_⟩
    exact ⟨_, rfl, _, rfl, a, C, rfl, T, no, .inl ⟨ha, q⟩⟩
/-! ### Picture.__init__ -/
def spPI (K : PySem.W.Frag) (C CB : Addr) : Sp := fun vs H Q E => ∃ (a dx : Addr) (v : V), vs = [.ref a, v] ∧ H a = some (.ins C dx []) ∧
  ((∃ ps, Pls H v ps ∧ OkP ps ∧ ∀ H', Kp a H H' → PicF H' C a ps → Q .non H') ∨ (∃ o, RowsV K H v o ∧ plB o = false ∧ Rz CB "places" H E))
abbrev sPI : Stmt := inClass (top 37) 0
abbrev nPI : List Str := ["self", "places", "place"]
theorem scPI : FnScope nPI ["self", "places"] (defScope sPI) := ⟨rfl, rfl, rfl, by decide +kernel, rfl, by decide +kernel, by decide +kernel⟩
theorem ok_pi {f : Addr} {fd fdB : FuncData} (F : Fun K "__init__" "Picture.__init__" sPI f fd) (B : Bn mg) (T : PicT K C) (TB : BrTxt K mg CB fB) (FB : Fun K "__init__" "BadPicture.__init__" sBI fB fdB) (C1 : Callee P w K mg base CX0 5 "are_places" ["value", "size"] (spPlaces K)) (C2 : Callee P w K mg base CX0 1 "steps_along" ["places"] spSteps) :
    FnOk P w K mg base (L2.CX P w) 6 f fd ["self", "places"] (spPI K C CB) := by
  obtain ⟨f1, fd1, m1, k1, b1, G1⟩ := C1
  obtain ⟨f2, fd2, m2, k2, b2, G2⟩ := C2
  have GB : FnOk P w K mg base CX0 1 fB fdB ["self", "part"] (spBI K CB) := ok_bi FB
  have bB : Binds K fdB ["self", "part"] [] := FB.binds (ps := ["self", "part"]) fun _ _ _ _ _ _ us hl => match us, hl with | [_, _], _ => rfl
  have nd := scPI.nd
  refine F.okX scPI (fun vs H Q E h => ?_) (fun cdv A outer s H vs Q E hr h => ?_)
  · obtain ⟨a, dx, v, rfl, _⟩ := h
    rfl
  · obtain ⟨a, dx, v, rfl, ha, h⟩ := h
    rcases h with ⟨ps, pls, ok, q⟩ | ⟨o, ro, po, r⟩
    · obtain ⟨ro, po⟩ := pls.rows (K := K) ok
      obtain ⟨b, xs, rfl, hs, hk⟩ := pls
      have lx : xs.length = ps.length := Paired.length hk
      have step : ∀ {H1 H' : Hp} {D : Addr} {i : Nat} {x : V} {ts : List Addr}, Same H H1 → H1 D = none → Same H1 H' → xs[i]? = some x → ts.length = i → H' D = some (.lst (ts.map V.ref)) → (∀ (j : Nat) t p, ts[j]? = some t → ps[j]? = some p → Pr H' t p) →
          ∃ g, x = .ref g ∧ ((∃ zs, H' g = some (.lst zs) ∧ (∃ p, ps[i]? = some p ∧ zs = [.int p.1, .int p.2])) ∨ (∃ p, ps[i]? = some p ∧ H' g = some (.tup [.int p.1, .int p.2]))) := fun s1 _ s2 hx _ _ _ => by
        obtain ⟨p, hp, g, rfl, e⟩ := paired_get hk hx
        refine ⟨g, rfl, ?_⟩
        rcases e with e | e
        · exact .inl ⟨_, s2 _ _ (s1 _ _ e), p, hp, rfl⟩
        · exact .inr ⟨p, hp, s2 _ _ (s1 _ _ e)⟩
      have grow : ∀ {H1 H' H2 : Hp} {D g : Addr} {i : Nat} {ts : List Addr} {p : Int × Int}, H1 D = none → Same H1 H' → Same H' H2 → ts.length = i → H' D = some (.lst (ts.map V.ref)) → (∀ (j : Nat) t p, ts[j]? = some t → ps[j]? = some p → Pr H' t p) → ps[i]? = some p → Pr H2 g p →
          ∃ acc, H2 D = some (.lst acc) ∧ acc.length < sizeLine ∧ (Same H1 (upd H2 D (.lst (acc ++ [V.ref g]))) ∧ ∃ ts' : List Addr, ts'.length = i + 1 ∧ (upd H2 D (.lst (acc ++ [V.ref g]))) D = some (.lst (ts'.map V.ref)) ∧ ∀ (j : Nat) t p, ts'[j]? = some t → ps[j]? = some p → Pr (upd H2 D (.lst (acc ++ [V.ref g]))) t p) := fun {H1 H' H2 D g i ts p} hD s2 s3 lt hd ht hp hg => by
        have hd2 := s3 _ _ hd
        have hi : i < ps.length := by
          rcases Nat.lt_or_ge i ps.length with h | h
          · exact h
          · rw [List.getElem?_eq_none h] at hp
            cases hp
        have ok7 := ok.2.1
        refine ⟨_, hd2, by rw [List.length_map]; exact small1000 (by omega), fun c o e => ?_, ts ++ [g], by simp [lt], ?_, fun j t p' et ep => ?_⟩
        · rw [upd_ne (ne_of_none e hD)]
          exact s3 _ _ (s2 _ _ e)
        · rw [upd_same, List.map_append]
          rfl
        · have nD : ∀ {t : Addr} {zs : List V}, H2 t = some (.tup zs) → t ≠ D := fun h => L2.ne_of h hd2 (by intro z; cases z)
          unfold Pr
          by_cases hj : j < ts.length
          · rw [List.getElem?_append_left hj] at et
            have e2 : H2 t = some (.tup [.int p'.1, .int p'.2]) := s3 _ _ (ht j t p' et ep)
            rw [upd_ne (nD e2)]
            exact e2
          · have hj2 : j = ts.length := by
              rcases Nat.lt_or_ge j (ts ++ [g]).length with h | h
              · simp at h
                omega
              · rw [List.getElem?_eq_none h] at et
                cases et
            subst hj2
            rw [List.getElem?_append_right (Nat.le_refl _), Nat.sub_self] at et
            have eu : g = t := Option.some.inj et
            subst eu
            rw [lt] at ep
            rw [hp] at ep
            have e3 : p = p' := Option.some.inj ep
            subst e3
            have hg : H2 g = some (.tup [.int p.1, .int p.2]) := hg
            rw [upd_ne (nD hg)]
            exact hg
      have fin : ∀ {H1 H' : Hp} {D : Addr} {ts : List Addr}, Same H H1 → Same H1 H' → ts.length = ps.length → H' D = some (.lst (ts.map V.ref)) → (∀ (j : Nat) t p, ts[j]? = some t → ps[j]? = some p → Pr H' t p) → ∀ t H2, H' t = none → H2 = upd H' t (.tup (ts.map V.ref)) → (PT H2 t ps ∧ Same H H2) := fun {H1 H' D ts} s1 s2 lt hd ht t H2 nt e2 => by
        subst e2
        have s3 := same_new (o := .tup (ts.map V.ref)) nt
        refine ⟨⟨ts, upd_same, ?_⟩, (s1.trans s2).trans s3⟩
        have : ∀ (as : List Addr) (qs : List (Int × Int)), as.length = qs.length → (∀ (j : Nat) t p, as[j]? = some t → qs[j]? = some p → Pr H' t p) → Paired (Pr (upd H' t (.tup (ts.map V.ref)))) as qs := by
          intro as
          induction as with
          | nil =>
            intro qs l _
            cases qs with
            | nil => exact .nil
            | cons _ _ => cases l
          | cons c as ih =>
            intro qs l h
            cases qs with
            | nil => cases l
            | cons p qs => exact .cons (s3 _ _ (h 0 c p rfl rfl)) (ih qs (by simpa using l) fun j t p e1 e2 => h (j + 1) t p (by simpa using e1) (by simpa using e2))
        exact this ts ps lt ht
      rcases hs with hs | hs
      · refine ⟨_, (pss_cons (ps_if (pt_not (pt_val (pe_call G1 (hr.mono (by decide)) rfl m1 k1 b1 .nil pass0 (pa_cons (pv 1) (pa_cons (pe_int) pa_nil))))) (pss_one (ps_raise rfl (takes_of rfl rfl rfl rfl) (pmk_oex TB.oex TB.iC TB.tI GB (hr.mono (by decide)) bB .nil pass0 rfl TB.mgC (pa_cons pe_str pa_nil)))) pss_nil) (pss_cons (ps_fld (pv 0) (pe_callTy (T := "tuple") (r := rTu K) call_tuK (by rfl) B.tuple (by decide +kernel) (pa_cons (pe_lc (own := [("place", 2)]) (g := gName 2) (tt := tYes) rfl nd (pi_list (pv 1)) (blkOk_by (N := nPI) (sc := defScope sPI) (by decide +kernel)) (fun _ _ _ _ _ => pg_name (i := 2) nd rfl (Or.inl rfl)) (fun _ _ _ _ _ => pts_nil) (fun _ _ _ _ _ => (pe_callTy (T := "tuple") (r := rTu K) call_tuK (by rfl) B.tuple (by decide +kernel) (pa_cons (pv 2) pa_nil)))) pa_nil)) rfl) (pss_cons (ps_fld (pv 0) (pe_callB call_len_seq (by rfl) B.len PySem.boot_len (pa_cons (pe_fld (pv 0) rfl) pa_nil)) rfl) (pss_one (ps_fld (pv 0) (pe_call G2 (hr.mono (by decide)) rfl m2 k2 b2 .nil pass0 (pa_cons (pe_fld (pv 0) rfl) pa_nil)) rfl))))), ?_⟩
        refine ⟨_, rfl, _, _, rfl, ro, fun H1 s1 => ⟨_, rfl, ?_⟩⟩
        rw [po]
        refine iteF ?_
        refine ⟨_, rfl, b, rfl, ⟨_, SqL.of (s1 _ _ hs)⟩, fun D hD => ?_⟩
        refine lc_list (K := K) (a := b) (xs := xs) (fun i H' => Same H1 H' ∧ ∃ ts : List Addr, ts.length = i ∧ H' D = some (.lst (ts.map V.ref)) ∧ ∀ (j : Nat) t p, ts[j]? = some t → ps[j]? = some p → Pr H' t p) ⟨same_new hD, [], rfl, upd_same, fun j t p e => by simp at e⟩ (fun i H' _ p => SqL.of (p.1 _ _ (s1 _ _ hs))) (fun i x H' hx p => ?_) (fun H' p => ?_)
        · obtain ⟨s2, ts, lt, hd, ht⟩ := p
          refine ⟨rfl, ?_⟩
          obtain ⟨g, rfl, ⟨zs, hg, p, hp, rfl⟩ | ⟨p, hp, hg⟩⟩ := step s1 hD s2 hx lt hd ht
          · exact ⟨_, rfl, g, _, rfl, .inl ⟨SqL.of hg, fun r nr => grow hD s2 (same_new nr) lt hd ht hp upd_same⟩⟩
          · exact ⟨_, rfl, g, _, rfl, .inr ⟨SqT.of hg, grow hD s2 Same.me lt hd ht hp hg⟩⟩
        · obtain ⟨s2, ts, lt, hd, ht⟩ := p
          rw [lx] at lt
          refine ⟨D, _, rfl, .inl ⟨SqL.of hd, fun t nt => ?_⟩⟩
          obtain ⟨ptn, s3⟩ := fin s1 s2 lt hd ht t _ nt rfl
          generalize upd H' t (.tup (ts.map V.ref)) = H3 at ptn s3 ⊢
          have ha3 := s3 _ _ ha
          refine ⟨_, rfl, a, C, dx, [], rfl, ha3, T.pc.cls, T.n1, by show 0 < 1000; decide, ?_⟩
          have pt4 := ptn.kp ha3 (Kp.set (o := .ins C dx (putF "places" (.ref t) [])))
          have ha4 : upd H3 a (.ins C dx (putF "places" (.ref t) [])) a = some (.ins C dx [("places", .ref t)]) := upd_same
          have k4 : Kp a H (upd H3 a (.ins C dx (putF "places" (.ref t) []))) := (Kp.of s3).trans Kp.set
          generalize upd H3 a (.ins C dx (putF "places" (.ref t) [])) = H4 at pt4 ha4 k4 ⊢
          obtain ⟨ts2, e2, pr2⟩ := pt4
          have l2 : (ts2.map V.ref).length = ps.length := by
            rw [List.length_map]
            exact Paired.length pr2
          refine ⟨_, rfl, a, C, dx, _, .ref t, rfl, ha4, T.pc.cls, T.n1, rfl, t, _, rfl, .inr (SqT.of e2), ?_⟩
          rw [l2]
          refine ⟨_, rfl, a, C, dx, _, rfl, ha4, T.pc.cls, T.n2, by show 1 < 1000; decide, ?_⟩
          have pt5 := PT.kp ⟨ts2, e2, pr2⟩ ha4 (Kp.set (o := .ins C dx (putF "pins" (.int ps.length) [("places", .ref t)])))
          have ha5 : upd H4 a (.ins C dx (putF "pins" (.int ps.length) [("places", .ref t)])) a = some (.ins C dx [("places", .ref t), ("pins", .int ps.length)]) := upd_same
          have k5 : Kp a H (upd H4 a (.ins C dx (putF "pins" (.int ps.length) [("places", .ref t)]))) := k4.trans Kp.set
          generalize upd H4 a (.ins C dx (putF "pins" (.int ps.length) [("places", .ref t)])) = H5 at pt5 ha5 k5 ⊢
          refine ⟨_, rfl, a, C, dx, _, .ref t, rfl, ha5, T.pc.cls, T.n1, rfl, t, ps, rfl, pt5, ok.1, ok.2.1, fun H6 u r0 r1 s6 hu h0 h1 => ?_⟩
          have ha6 := s6 _ _ ha5
          refine ⟨_, rfl, a, C, dx, _, rfl, ha6, T.pc.cls, T.n3, by show 2 < 1000; decide, ?_⟩
          refine q _ ((k5.trans (Kp.of s6)).trans Kp.set) ⟨dx, t, u, upd_same, (pt5.same s6).kp ha6 Kp.set, Two.kp ⟨r0, r1, hu, h0, h1⟩ ha6 Kp.set⟩
      · refine ⟨_, (pss_cons (ps_if (pt_not (pt_val (pe_call G1 (hr.mono (by decide)) rfl m1 k1 b1 .nil pass0 (pa_cons (pv 1) (pa_cons (pe_int) pa_nil))))) (pss_one (ps_raise rfl (takes_of rfl rfl rfl rfl) (pmk_oex TB.oex TB.iC TB.tI GB (hr.mono (by decide)) bB .nil pass0 rfl TB.mgC (pa_cons pe_str pa_nil)))) pss_nil) (pss_cons (ps_fld (pv 0) (pe_callTy (T := "tuple") (r := rTu K) call_tuK (by rfl) B.tuple (by decide +kernel) (pa_cons (pe_lc (own := [("place", 2)]) (g := gName 2) (tt := tYes) rfl nd (pi_tup (pv 1)) (blkOk_by (N := nPI) (sc := defScope sPI) (by decide +kernel)) (fun _ _ _ _ _ => pg_name (i := 2) nd rfl (Or.inl rfl)) (fun _ _ _ _ _ => pts_nil) (fun _ _ _ _ _ => (pe_callTy (T := "tuple") (r := rTu K) call_tuK (by rfl) B.tuple (by decide +kernel) (pa_cons (pv 2) pa_nil)))) pa_nil)) rfl) (pss_cons (ps_fld (pv 0) (pe_callB call_len_seq (by rfl) B.len PySem.boot_len (pa_cons (pe_fld (pv 0) rfl) pa_nil)) rfl) (pss_one (ps_fld (pv 0) (pe_call G2 (hr.mono (by decide)) rfl m2 k2 b2 .nil pass0 (pa_cons (pe_fld (pv 0) rfl) pa_nil)) rfl))))), ?_⟩
        refine ⟨_, rfl, _, _, rfl, ro, fun H1 s1 => ⟨_, rfl, ?_⟩⟩
        rw [po]
        refine iteF ?_
        refine ⟨_, rfl, b, rfl, ⟨_, SqT.of (s1 _ _ hs)⟩, fun D hD => ?_⟩
        refine lc_tup (K := K) (a := b) (xs := xs) (fun i H' => Same H1 H' ∧ ∃ ts : List Addr, ts.length = i ∧ H' D = some (.lst (ts.map V.ref)) ∧ ∀ (j : Nat) t p, ts[j]? = some t → ps[j]? = some p → Pr H' t p) ⟨same_new hD, [], rfl, upd_same, fun j t p e => by simp at e⟩ (fun i H' _ p => SqT.of (p.1 _ _ (s1 _ _ hs))) (fun i x H' hx p => ?_) (fun H' p => ?_)
        · obtain ⟨s2, ts, lt, hd, ht⟩ := p
          refine ⟨rfl, ?_⟩
          obtain ⟨g, rfl, ⟨zs, hg, p, hp, rfl⟩ | ⟨p, hp, hg⟩⟩ := step s1 hD s2 hx lt hd ht
          · exact ⟨_, rfl, g, _, rfl, .inl ⟨SqL.of hg, fun r nr => grow hD s2 (same_new nr) lt hd ht hp upd_same⟩⟩
          · exact ⟨_, rfl, g, _, rfl, .inr ⟨SqT.of hg, grow hD s2 Same.me lt hd ht hp hg⟩⟩
        · obtain ⟨s2, ts, lt, hd, ht⟩ := p
          rw [lx] at lt
          refine ⟨D, _, rfl, .inl ⟨SqL.of hd, fun t nt => ?_⟩⟩
          obtain ⟨ptn, s3⟩ := fin s1 s2 lt hd ht t _ nt rfl
          generalize upd H' t (.tup (ts.map V.ref)) = H3 at ptn s3 ⊢
          have ha3 := s3 _ _ ha
          refine ⟨_, rfl, a, C, dx, [], rfl, ha3, T.pc.cls, T.n1, by show 0 < 1000; decide, ?_⟩
          have pt4 := ptn.kp ha3 (Kp.set (o := .ins C dx (putF "places" (.ref t) [])))
          have ha4 : upd H3 a (.ins C dx (putF "places" (.ref t) [])) a = some (.ins C dx [("places", .ref t)]) := upd_same
          have k4 : Kp a H (upd H3 a (.ins C dx (putF "places" (.ref t) []))) := (Kp.of s3).trans Kp.set
          generalize upd H3 a (.ins C dx (putF "places" (.ref t) [])) = H4 at pt4 ha4 k4 ⊢
          obtain ⟨ts2, e2, pr2⟩ := pt4
          have l2 : (ts2.map V.ref).length = ps.length := by
            rw [List.length_map]
            exact Paired.length pr2
          refine ⟨_, rfl, a, C, dx, _, .ref t, rfl, ha4, T.pc.cls, T.n1, rfl, t, _, rfl, .inr (SqT.of e2), ?_⟩
          rw [l2]
          refine ⟨_, rfl, a, C, dx, _, rfl, ha4, T.pc.cls, T.n2, by show 1 < 1000; decide, ?_⟩
          have pt5 := PT.kp ⟨ts2, e2, pr2⟩ ha4 (Kp.set (o := .ins C dx (putF "pins" (.int ps.length) [("places", .ref t)])))
          have ha5 : upd H4 a (.ins C dx (putF "pins" (.int ps.length) [("places", .ref t)])) a = some (.ins C dx [("places", .ref t), ("pins", .int ps.length)]) := upd_same
          have k5 : Kp a H (upd H4 a (.ins C dx (putF "pins" (.int ps.length) [("places", .ref t)]))) := k4.trans Kp.set
          generalize upd H4 a (.ins C dx (putF "pins" (.int ps.length) [("places", .ref t)])) = H5 at pt5 ha5 k5 ⊢
          refine ⟨_, rfl, a, C, dx, _, .ref t, rfl, ha5, T.pc.cls, T.n1, rfl, t, ps, rfl, pt5, ok.1, ok.2.1, fun H6 u r0 r1 s6 hu h0 h1 => ?_⟩
          have ha6 := s6 _ _ ha5
          refine ⟨_, rfl, a, C, dx, _, rfl, ha6, T.pc.cls, T.n3, by show 2 < 1000; decide, ?_⟩
          refine q _ ((k5.trans (Kp.of s6)).trans Kp.set) ⟨dx, t, u, upd_same, (pt5.same s6).kp ha6 Kp.set, Two.kp ⟨r0, r1, hu, h0, h1⟩ ha6 Kp.set⟩
    · refine ⟨_, (pss_cons (ps_if (pt_not (pt_val (pe_call G1 (hr.mono (by decide)) rfl m1 k1 b1 .nil pass0 (pa_cons (pv 1) (pa_cons (pe_int) pa_nil))))) (pss_one (ps_raise rfl (takes_of rfl rfl rfl rfl) (pmk_oex TB.oex TB.iC TB.tI GB (hr.mono (by decide)) bB .nil pass0 rfl TB.mgC (pa_cons pe_str pa_nil)))) pss_nil) (pss_cons (ps_fld (pv 0) (pe_callTy (T := "tuple") (r := rTu K) call_tuK (by rfl) B.tuple (by decide +kernel) (pa_cons (pe_lc (own := [("place", 2)]) (g := gName 2) (tt := tYes) rfl nd (pi_list (pv 1)) (blkOk_by (N := nPI) (sc := defScope sPI) (by decide +kernel)) (fun _ _ _ _ _ => pg_name (i := 2) nd rfl (Or.inl rfl)) (fun _ _ _ _ _ => pts_nil) (fun _ _ _ _ _ => (pe_callTy (T := "tuple") (r := rTu K) call_tuK (by rfl) B.tuple (by decide +kernel) (pa_cons (pv 2) pa_nil)))) pa_nil)) rfl) (pss_cons (ps_fld (pv 0) (pe_callB call_len_seq (by rfl) B.len PySem.boot_len (pa_cons (pe_fld (pv 0) rfl) pa_nil)) rfl) (pss_one (ps_fld (pv 0) (pe_call G2 (hr.mono (by decide)) rfl m2 k2 b2 .nil pass0 (pa_cons (pe_fld (pv 0) rfl) pa_nil)) rfl))))), ?_⟩
      refine ⟨_, rfl, _, _, rfl, ro, fun H1 s1 => ⟨_, rfl, ?_⟩⟩
      rw [po]
      refine iteT ⟨by show 1 ≤ 1000; decide, fun e he => ?_⟩
      exact ⟨e, _, rfl, TB.oex, TB.noP, upd_same, fun dx hdx ne => ⟨rfl, dx, _, upd_same, by rw [upd_ne ne]; exact upd_same, by rw [upd_ne ne] at hdx; exact hdx, raised r s1 he hdx ne⟩⟩
end
end K12

namespace K12
open PySem PySem.Spec PyProof.Rows L2
/-! ### places as data -/
def en (p : Int × Int) : PyData := .tuple [.int p.1, .int p.2]
def enc (ps : List (Int × Int)) : PyData := .tuple (ps.map en)
theorem enc_lay : ∀ ps : List (Int × Int), PyData.canLayAll0 (ps.map en) = true
  | [] => rfl
  | p :: ps => by
    show (PyData.canLay0 (en p) && PyData.canLayAll0 (ps.map en)) = true
    rw [enc_lay ps]
    rfl
theorem enc_depth : ∀ ps : List (Int × Int), PyData.depthAll (ps.map en) ≤ 1
  | [] => by decide
  | p :: ps => by
    show max (PyData.depth (en p)) (PyData.depthAll (ps.map en)) ≤ 1
    have h := enc_depth ps
    have e : PyData.depth (en p) = 1 := rfl
    omega
theorem enc_shaped (ps : List (Int × Int)) : SeqAt.shaped (enc ps) = true := by
  show (PyData.canLayAll0 (ps.map en) && decide (PyData.depthAll (ps.map en) + 1 ≤ 64)) = true
  rw [enc_lay, Bool.true_and, decide_eq_true_iff]
  have := enc_depth ps
  omega
theorem en_eqv (p q : Int × Int) : PyData.eqv (en p) (en q) = decide (p = q) := by
  show (p.1 == q.1 && (p.2 == q.2 && true)) = _
  obtain ⟨a, b⟩ := p
  obtain ⟨c, d⟩ := q
  rw [Bool.and_true, Bool.eq_iff_iff, decide_eq_true_iff, Bool.and_eq_true, beq_iff_eq, beq_iff_eq, Prod.mk.injEq]
theorem enc_eqv : ∀ ps qs : List (Int × Int), PyData.eqvAll (ps.map en) (qs.map en) = decide (ps = qs)
  | [], [] => rfl
  | [], _ :: _ => rfl
  | _ :: _, [] => rfl
  | p :: ps, q :: qs => by
    show (PyData.eqv (en p) (en q) && PyData.eqvAll (ps.map en) (qs.map en)) = _
    rw [en_eqv, enc_eqv ps qs, Bool.eq_iff_iff, Bool.and_eq_true, decide_eq_true_iff, decide_eq_true_iff, decide_eq_true_iff, List.cons.injEq]
theorem dp_pairs {K : PySem.W.Frag} {H : Hp} {ts : List Addr} {ps : List (Int × Int)} (h : Paired (Pr H) ts ps) : DpAll K H (ts.map V.ref) (ps.map en) := by
  induction h with
  | nil => exact .nil
  | cons a _ ih => exact .cons (.tup (SqT.of a) (.cons (.int _) (.cons (.int _) .nil))) ih
theorem PT.dp {K : PySem.W.Frag} {H : Hp} {t : Addr} {ps : List (Int × Int)} (h : PT H t ps) : Dp K H (.ref t) (enc ps) := let ⟨_, e, p⟩ := h; .tup (SqT.of e) (dp_pairs p)
theorem sk_bd {ps : List (Int × Int)} (ok : OkP ps) (k : Nat) : Bd (sk k ps) := fun n hn => by
  unfold sk at hn
  obtain ⟨p, hp, rfl⟩ := List.mem_map.mp hn
  have b1 := ok.2.2 p (List.mem_of_mem_drop hp)
  have b2 : -G9 ≤ (ps.headD (0, 0)).1 ∧ (ps.headD (0, 0)).1 ≤ G9 ∧ -G9 ≤ (ps.headD (0, 0)).2 ∧ (ps.headD (0, 0)).2 ≤ G9 := by
    cases ps with
    | nil => exact absurd ok.1 (by decide)
    | cons q qs => exact ok.2.2 q List.mem_cons_self
  unfold it
  have e : G9 = 1000000000 := rfl
  split <;> constructor <;> omega
theorem sk_len (k : Nat) (ps : List (Int × Int)) : (sk k ps).length = ps.length - 1 := by
  unfold sk
  rw [List.length_map, List.length_drop]
/-! ### values that are no pictures -/
inductive Np (H : Hp) : V → String → Prop
  | non : Np H .non "NoneType"
  | str (z : Str) : Np H (.str z) "str"
  | lst {a : Addr} {xs : List V} (e : H a = some (.lst xs)) : Np H (.ref a) "list"
  | tup {a : Addr} {xs : List V} (e : H a = some (.tup xs)) : Np H (.ref a) "tuple"
theorem Np.ty {K : PySem.W.Frag} {H : Hp} {v : V} {t : String} (k : Np H v t) : TyX K H v (.type t) := by
  cases k with
  | non => exact .base .non
  | str z => exact .base (.str z)
  | lst e => exact .base (.lst e)
  | tup e => exact .base (.tup e)
theorem Np.same {H H' : Hp} {v : V} {t : String} (k : Np H v t) (s : Same H H') : Np H' v t := by
  cases k with
  | non => exact .non
  | str z => exact .str z
  | lst e => exact .lst (s _ _ e)
  | tup e => exact .tup (s _ _ e)
/-- what the class tells of other kinds -/
structure PicN (K : PySem.W.Frag) (C : Addr) : Prop where
  k : ∀ t ∈ ["NoneType", "str", "list", "tuple"], PySem.W.kitOne K (.type t) (.ref C) = some false ∧ PySem.W.notFirst K C (.type t) = true
  ne : PySem.W.findIn K (.ref C) "__ne__" = some (some (.builtin "object.__ne__"))
theorem PicN.of {K : PySem.W.Frag} {C : Addr} {H : Hp} {v : V} {t : String} (N : PicN K C) (k : Np H v t) : PySem.W.kitOne K (.type t) (.ref C) = some false ∧ PySem.W.notFirst K C (.type t) = true := by
  cases k with
  | non => exact N.k _ (by decide)
  | str z => exact N.k _ (by decide)
  | lst e => exact N.k _ (by decide)
  | tup e => exact N.k _ (by decide)
/-- whether a picture equals it -/
def Eqs (H : Hp) (C : Addr) (ps : List (Int × Int)) (y : V) (b : Bool) : Prop := (∃ t, Np H y t ∧ b = false) ∨ (∃ q qs, y = .ref q ∧ PicF H C q qs ∧ b = decide (ps = qs))
theorem kit_self {K : PySem.W.Frag} {C : Addr} : PySem.W.kitOne K (.ref C) (.ref C) = some true := by
  unfold PySem.W.kitOne
  rw [if_pos (beq_self_eq_true _)]
theorem PicF.ty {K : PySem.W.Frag} {H : Hp} {C a : Addr} {ps : List (Int × Int)} (h : PicF H C a ps) (T : PicT K C) : TyX K H (.ref a) (.ref C) := let ⟨_, _, _, e, _⟩ := h; .base (.ins e T.pc.cls T.pc.ha T.pc.hn T.pc.ht T.pc.hm)
section
variable {P : Program} {w : World} {K : PySem.W.Frag} {mg : Str → Option Value} {base : Heap} {C : Addr}
/-! ### Picture.__eq__ -/
def spEqP (C : Addr) : Sp := fun vs H Q _ => ∃ (a : Addr) (y : V) (ps : List (Int × Int)) (b : Bool), vs = [.ref a, y] ∧ PicF H C a ps ∧ Eqs H C ps y b ∧ Q (.bl b) H
abbrev sEqP : Stmt := inClass (top 37) 1
theorem scEqP : FnScope ["self", "other"] ["self", "other"] (defScope sEqP) := ⟨rfl, rfl, rfl, by decide +kernel, rfl, by decide +kernel, by decide +kernel⟩
theorem ok_eqP {f : Addr} {fd : FuncData} (F : Fun K "__eq__" "Picture.__eq__" sEqP f fd) (B : Bn mg) (T : PicT K C) (N : PicN K C) (mC : mg "Picture" = some (.ref C)) : FnOk P w K mg base CX0 1 f fd ["self", "other"] (spEqP C) := by
  refine F.ok scEqP (fun vs H Q E h => ?_) (fun cdv A outer s H vs Q E hr h => ?_)
  · obtain ⟨a, y, ps, b, rfl, _⟩ := h
    rfl
  · obtain ⟨a, y, ps, b, rfl, hp, he, q⟩ := h
    refine ⟨_, pss_one (ps_ret (pe_and (pe_callB (r := rIsi K) call_isi (by rfl) B.isinstance boot_isinstance (pa_cons (pv 1) (pa_cons (pe_glob (v := .ref C) rfl mC rfl) pa_nil))) (pe_one (pe_cmpR (op_eqD hr.units) (pe_fld (pv 0) rfl) (pe_fld (pv 1) rfl) (nomark _))))), ?_⟩
    rcases he with ⟨t, np, rfl⟩ | ⟨c, qs, rfl, hq, rfl⟩
    · exact ⟨_, rfl, _, _, _, _, false, rfl, .own _, np.ty, (N.of np).1, _, rfl, iteF q⟩
    · refine ⟨_, rfl, _, _, _, _, true, rfl, .own _, hq.ty T, kit_self, _, rfl, iteT ?_⟩
      obtain ⟨dx, t, u, ha, ht, _⟩ := hp
      obtain ⟨dx2, t2, u2, hc, ht2, _⟩ := hq
      refine ⟨_, rfl, a, C, dx, _, .ref t, rfl, ha, T.pc.cls, T.n1, rfl, _, rfl, c, C, dx2, _, .ref t2, rfl, hc, T.pc.cls, T.n1, rfl, _, _, ht.dp, ht2.dp, enc_shaped _, enc_shaped _, ?_⟩
      have e : PyData.eqv (enc ps) (enc qs) = decide (ps = qs) := enc_eqv ps qs
      rw [e]
      exact q
/-! ### Picture.products, Picture.is_thin -/
def spPP (C : Addr) : Sp := fun vs H Q _ => ∃ (a : Addr) (ps : List (Int × Int)), vs = [.ref a] ∧ PicF H C a ps ∧ OkP ps ∧ ∀ H' t, Same H H' → MatT H' t (pg (sk 0 ps) (sk 1 ps)) (ps.length - 1) → Q (.ref t) H'
abbrev sPP : Stmt := inClass (top 37) 4
theorem scPP : FnScope ["self"] ["self"] (defScope sPP) := ⟨rfl, rfl, rfl, by decide +kernel, rfl, by decide +kernel, by decide +kernel⟩
theorem ok_pp {f : Addr} {fd : FuncData} (F : Fun K "products" "Picture.products" sPP f fd) (T : PicT K C) (C1 : Callee P w K mg base CX0 1 "products_of" ["rows"] spProd) : FnOk P w K mg base CX0 2 f fd ["self"] (spPP C) := by
  obtain ⟨f1, fd1, m1, k1, b1, G1⟩ := C1
  refine F.ok scPP (fun vs H Q E h => ?_) (fun cdv A outer s H vs Q E hr h => ?_)
  · obtain ⟨a, ps, rfl, _⟩ := h
    rfl
  · obtain ⟨a, ps, rfl, hp, ok, q⟩ := h
    refine ⟨_, pss_one (ps_ret (pe_call G1 (hr.mono (by decide)) rfl m1 k1 b1 .nil pass0 (pa_cons (pe_fld (pv 0) rfl) pa_nil))), ?_⟩
    obtain ⟨dx, t, u, ha, ht, hu⟩ := hp
    have l4 := ok.1
    have l7 := ok.2.1
    have e0 := sk_len 0 ps
    refine ⟨_, rfl, a, C, dx, _, .ref u, rfl, ha, T.pc.cls, T.n3, rfl, u, _, _, rfl, hu, by rw [sk_len, sk_len], by omega, by omega, sk_bd ok 0, sk_bd ok 1, fun H' t s m => q H' t s ?_⟩
    rw [e0] at m
    exact m
end
end K12

namespace K12
open PySem PySem.Spec PyProof.Rows L2
theorem str_len (a b : Str) : (a ++ b).length = a.length + b.length := by
  show (a.cps ++ b.cps).size = a.cps.size + b.cps.size
  exact Array.size_append
def tJoined (ts : List TE) : TE := fun σ H Q => tJs ts Str.empty σ H fun out H1 => Q (.str out) H1
theorem pe_joinedN {X : Cx} {v1 v2 : Expr} {rest : List Expr} {ts : List TE} {pos : Pos} (h : PJ X (v1 :: v2 :: rest) ts) : PE X (.JoinedStr (v1 :: v2 :: rest) pos) (tJoined ts) := pe_joined h
def rJn (K : PySem.W.Frag) : V → List V → Hp → VK → Prop := fun x xs H Q => ∃ a p, ∃ ys : List Str, x = .str a ∧ xs = [.ref p] ∧ (SqL K H p (ys.map V.str) ∨ SqT K H p (ys.map V.str)) ∧ (ys.map (·.length)).sum + ys.length * a.length ≤ 16777216 ∧ Q (.str (Txt.join a ys)) H
theorem pe_joinN {X : Cx} {o e : Expr} {to te : TE} {apos pos : Pos} (ho : PE X o to) (he : PE X e te) (hs : starEach [e] X.env = [(false, eval e X.env)] := by rfl) (hbase : attributeBase o "join" X.env (eval o X.env) = eval o X.env := by rfl) (hline : (apos.endLine == pos.line) = true := by rfl) :
    PE X (.Call (.Attribute o "join" apos) [e] [] pos) (tM1 (rJn X.K) to te) := pe_join ho he hs hbase hline
section
variable {P : Program} {w : World} {K : PySem.W.Frag} {mg : Str → Option Value} {base : Heap} {C : Addr}
/-! ### Picture.__str__ -/
def spStrP (C : Addr) : Sp := fun vs H Q _ => ∃ (a : Addr) (ps : List (Int × Int)), vs = [.ref a] ∧ PicF H C a ps ∧ OkP ps ∧ ∀ z H', Same H H' → Q (.str z) H'
abbrev sStrP : Stmt := inClass (top 37) 2
abbrev nStrP : List Str := ["self", "x", "y"]
theorem scStrP : FnScope nStrP ["self"] (defScope sStrP) := ⟨rfl, rfl, rfl, by decide +kernel, rfl, by decide +kernel, by decide +kernel⟩
theorem log_small {n : Int} (h : -G9 ≤ n) (h2 : n ≤ G9) : n.natAbs.log2 < 1920 := Nat.lt_trans (PySem.Flt.log2_lt_of (k := 31) (by decide) (by have : G9 = 1000000000 := rfl; omega)) (by decide)
theorem ok_strP {f : Addr} {fd : FuncData} (F : Fun K "__str__" "Picture.__str__" sStrP f fd) (T : PicT K C) : FnOk P w K mg base CX0 1 f fd ["self"] (spStrP C) := by
  have nd := scStrP.nd
  refine F.ok scStrP (fun vs H Q E h => ?_) (fun cdv A outer s H vs Q E hr h => ?_)
  · obtain ⟨a, ps, rfl, _⟩ := h
    rfl
  · obtain ⟨a, ps, rfl, hp, ok, q⟩ := h
    refine ⟨_, pss_one (ps_ret (pe_joinN pe_str (pe_lc (own := [("x", 1), ("y", 2)]) (g := gTup K 2 (gCons (gName 1) (gCons (gName 2) gNil))) (tt := tYes) rfl nd (pi_tup (pe_fld (pv 0) rfl)) (blkOk_by (N := nStrP) (sc := defScope sStrP) (by decide +kernel)) (fun _ _ _ _ _ => pg_tup rfl (pgs_cons (pg_name (i := 1) nd rfl (Or.inl rfl)) (pgs_cons (pg_name (i := 2) nd rfl (Or.inl rfl)) pgs_nil))) (fun _ _ _ _ _ => pts_nil)
      (fun _ _ _ _ _ => pe_joinedN (.cons (pe_fmt (pv 1)) (.cons pe_str (.cons (pe_fmt (pv 2)) .nil))))))), ?_⟩
    obtain ⟨dx, t, u, ha, ⟨ts, ht, hk⟩, hu⟩ := hp
    have lt : ts.length = ps.length := Paired.length hk
    have l7 := ok.2.1
    refine ⟨⟨_, rfl⟩, ?_⟩
    refine ⟨_, rfl, a, C, dx, _, .ref t, rfl, ha, T.pc.cls, T.n1, rfl, t, rfl, ⟨_, SqT.of ht⟩, fun D hD => ?_⟩
    refine lc_tup (K := K) (a := t) (xs := ts.map V.ref) (fun i H' => Same H H' ∧ ∃ ys : List Str, ys.length = i ∧ H' D = some (.lst (ys.map V.str)) ∧ ∀ y ∈ ys, y.length ≤ 4000) ⟨same_new hD, [], rfl, upd_same, fun y h => absurd h List.not_mem_nil⟩ (fun i H' _ p => SqT.of (p.1 _ _ ht)) (fun i x H' hx p => ?_) (fun H' p => ?_)
    · obtain ⟨s1, ys, ly, hd, hb⟩ := p
      have hi : i < ts.length := by
        rcases Nat.lt_or_ge i ts.length with h | h
        · exact h
        · rw [List.getElem?_eq_none (by rw [List.length_map]; exact h)] at hx
          cases hx
      obtain ⟨pp, hpp, hpr⟩ := paired_get hk (i := i) (x := ts[i]) (List.getElem?_eq_getElem hi)
      have hpr : H ts[i] = some (.tup [.int pp.1, .int pp.2]) := hpr
      have ex : x = .ref ts[i] := by
        rw [List.getElem?_map, List.getElem?_eq_getElem hi] at hx
        exact (Option.some.inj hx).symm
      subst ex
      obtain ⟨g1, g2, g3, g4⟩ := ok.2.2 pp (List.mem_of_getElem? hpp)
      have lx := log_small g1 g2
      have ly2 := log_small g3 g4
      have tx := int_text_len_1921 lx
      have ty := int_text_len_1921 ly2
      refine ⟨ts[i], _, rfl, SqT.of (s1 _ _ hpr), rfl, _, _, rfl, _, _, rfl, rfl, ?_⟩
      refine ⟨rfl, ?_⟩
      have e0 : (Str.empty).length = 0 := rfl
      have e1 : (Str.ofString " ").length = 1 := by decide +kernel
      have big : ∀ n, n ≤ 4000 → n ≤ sizeLine := fun n h => Nat.le_of_lt (Nat.lt_of_le_of_lt h (by decide))
      refine ⟨_, rfl, .inr ⟨_, rfl, lx, _, rfl, ?_, _, rfl, ?_, _, rfl, .inr ⟨_, rfl, ly2, _, rfl, ?_, _, hd, by rw [List.length_map]; exact small1000 (by omega), fun b o e => ?_, ys ++ [_], by simp [ly], by rw [upd_same, List.map_append]; rfl, fun y hy => ?_⟩⟩⟩
      · rw [str_len]
        exact big _ (by omega)
      · rw [str_len, str_len]
        exact big _ (by omega)
      · rw [str_len, str_len, str_len]
        exact big _ (by omega)
      · rw [upd_ne (ne_of_none e hD)]
        exact s1 _ _ e
      · rcases List.mem_append.mp hy with h | h
        · exact hb y h
        · rw [List.mem_singleton.mp h, str_len, str_len, str_len]
          omega
    · obtain ⟨s1, ys, ly, hd, hb⟩ := p
      refine ⟨_, D, ys, rfl, rfl, .inl (SqL.of hd), ?_, q _ _ s1⟩
      rw [List.length_map, lt] at ly
      have e3 : (Str.ofString " / ").length = 3 := by decide +kernel
      have sm : ∀ ys : List Str, (∀ y ∈ ys, y.length ≤ 4000) → (ys.map (·.length)).sum ≤ 4000 * ys.length := fun ys => by
        induction ys with
        | nil => exact fun _ => Nat.le_refl _
        | cons y ys ih =>
          intro h
          have h1 := h y List.mem_cons_self
          have h2 := ih fun z hz => h z (List.mem_cons_of_mem _ hz)
          rw [List.map_cons, List.sum_cons, List.length_cons]
          omega
      have h1 := sm ys hb
      rw [e3]
      omega
end
end K12

namespace K12
open PySem PySem.Spec PyProof.Rows L2
/-! ### a call of a def in places where no expression stands -/
section
variable {X : Cx} {k : Nat} {f : Addr} {fd : FuncData} {ps : List Str} {sp : Sp}
theorem Env0.around {P : Program} {w : World} {K : PySem.W.Frag} {mg : Str → Option Value} {base : Heap} {A A' : Around} {st : List Env} {s : Shared} {H : Hp} (e : Env0 P w K mg base A st s H) (h : A'.frames = A.frames) : Env0 P w K mg base A' st s H := ⟨by rw [h]; exact e.frames, e.mod, e.bs, e.bsz, e.funs, e.frf, e.hok, e.bare⟩
theorem run_at {A : Around} {pins : List (Addr × Obj)} {σ : L2.St} {H : Hp} {s : Shared} {Q : VK} {us : List Value} {vs : List V} (F : FnOk X.prog X.w X.K X.mg X.base CX0 k f fd ps sp) (hr : Room k A) (hf : A.frames = X.A.frames) (hb : Binds X.K fd ps [])
    (I : Inv X pins σ H s) (r : Vals vs us) (h : sp vs H Q (fun _ _ _ => False)) : wpAny (model X.prog X.w) A (call (.ref f) us) (EP X pins σ Q) X.xe s := by
  have hl := F.len _ _ _ _ h
  refine wpAny_call (codeAny_mono (F.run A X.stack s H ⟨us, []⟩ us vs Q _ hr (Env0.around I.env0 hf) (by
    have := hb s us I.kIn (by rw [List.append_nil, ← r.length]; exact hl)
    rw [List.append_nil] at this
    exact this) r h) fun r s' hq => ?_)
  cases r with
  | error e => exact False.elim hq
  | ok fl =>
    cases fl with
    | ret u => exact I.after hq
    | next => exact False.elim hq
    | brk => exact False.elim hq
    | cont => exact False.elim hq
end
section
variable {prog : Program} {w : World} {A : Around} {E : Value → Shared → Prop} {h : Heap} {g : Array GenState} {d : Drawn} {t : Nat} {os : OsState} {K : PySem.W.Frag} {x C : Addr} {ob : Obj} {od : Option Obj}
theorem special_in {name : Str} {id : String} {args : List Value} {Q : Option Value → Shared → Prop} (Y : K.In h) (J : PySem.W.InstAt h x ob C od) (ha : PySem.W.findIn K (.ref C) name = some (some (.builtin id))) (S : Slot "object" name id)
    (go : wpAny (model prog w) A (call (.builtin id) (.ref x :: args)) (fun v => Q (some v)) E ⟨h, g, d, t, os⟩) : wpAny (model prog w) A (callSpecialIfBound? (.ref x) name args) Q E ⟨h, g, d, t, os⟩ := by
  simp only [callSpecialIfBound?, bindSpecialIfBound?]
  refine wpAny_holding (wpAny_bind (wpAny_bind ?_))
  unfold specialOf
  refine wpAny_bind (J.type.at ((PySem.W.looks_findIn Y ha).at ?_))
  simp only [S.bind]
  refine wpAny_bind (wpAny_askSetting (wpAny_ite ?_))
  have fin : wpAny (model prog w) A (call (.builtin id) ([.ref x] ++ args) >>= fun v => pure (some v)) Q E ⟨h, g, d, t, os⟩ :=
    wpAny_bind (wpAny_mono go (fun v z hz => wpAny_pure hz) fun _ _ hz => hz)
  split
  · exact wpAny_bind (wpAny_pure (wpAny_pure fin))
  · exact wpAny_tryCatch (wpAny_bind (wpAny_pure (wpAny_pure fin)))
end
/-! ### == and != of pictures -/
def rEqP (K : PySem.W.Frag) (C : Addr) : R2 := fun x y H Q => ∃ (a : Addr) (ps : List (Int × Int)) (b : Bool), x = .ref a ∧ PicF H C a ps ∧ Eqs H C ps y b ∧ Q (.bl b) H
def rNeP (K : PySem.W.Frag) (C : Addr) : R2 := fun x y H Q => ∃ (a : Addr) (ps : List (Int × Int)) (b : Bool), x = .ref a ∧ PicF H C a ps ∧ Eqs H C ps y b ∧ Q (.bl (!b)) H
section
variable {X : Cx} {C fE : Addr} {fd : FuncData}
theorem pic_inst {pins : List (Addr × Obj)} {σ : L2.St} {H : Hp} {s : Shared} {a : Addr} {ps : List (Int × Int)} (I : Inv X pins σ H s) (h : PicF H C a ps) : ∃ (ob : Obj) (od : Obj), PySem.W.InstAt s.heap a ob C (some od) := by
  obtain ⟨dx, t, u, e, _⟩ := h
  obtain ⟨mA, J, _⟩ := ins_get I.hok e
  obtain ⟨od, J, _⟩ := J.look
  exact ⟨_, od, J⟩
theorem eqs_type {pins : List (Addr × Obj)} {σ : L2.St} {H : Hp} {s : Shared} {y : V} {u : Value} {b : Bool} {ps : List (Int × Int)} (I : Inv X pins σ H s) (N : PicN X.K C) (ry : RelV y u) (h : Eqs H C ps y b) :
    ∃ tb, PySem.W.Looks (model X.prog X.w) s.heap (typeOf u) tb ∧ PySem.W.notFirst X.K C tb = true := by
  rcases h with ⟨t, np, _⟩ | ⟨q, qs, rfl, hq, _⟩
  · obtain ⟨P, Z, p, _⟩ := kit_of I ry np.ty
    exact ⟨_, Z.ty _ _ I.kIn p, (N.of np).2⟩
  · obtain rfl : u = Value.ref q := ry
    obtain ⟨ob, od, J⟩ := pic_inst I hq
    exact ⟨_, J.type, by simp [PySem.W.notFirst]⟩
theorem op_eqP (G : FnOk X.prog X.w X.K X.mg X.base CX0 1 fE fd ["self", "other"] (spEqP C)) (hs : PySem.W.findIn X.K (.ref C) "__eq__" = some (some (.ref fE))) (hf : PySem.W.isFn X.K (.ref fE) = true) (hb : Binds X.K fd ["self", "other"] []) (N : PicN X.K C) (hr : Room 2 X.A) :
    OpR X (compareOp .Eq) (rEqP X.K C) := by
  intro pins s σ H x y v u Q I rx ry h
  obtain ⟨a, ps, b, rfl, hp, he, q⟩ := h
  obtain rfl : v = Value.ref a := rx
  obtain ⟨ob, od, J⟩ := pic_inst I hp
  obtain ⟨tb, L, nf⟩ := eqs_type I N ry he
  obtain ⟨m, hF⟩ := I.fr
  refine PySem.W.cmp_K (op := .Eq) (tb := tb) hr.units0 hF I.ok.mod.kin J L nf hs hf ?_
  refine wpAny_mono (run_at (vs := [.ref a, y]) (us := [.ref a, u]) (Q := fun r H' => r = .bl b ∧ Q (.bl b) H') G (hr.mono (by decide)) rfl hb I (.cons rfl (.cons ry .nil)) ⟨a, y, ps, b, rfl, hp, he, rfl, q⟩) (fun r s' hq => ?_) fun _ _ z => z
  obtain ⟨v, H', I', rv, ev, q'⟩ := hq
  subst ev
  obtain rfl : r = Value.bool b := rv
  exact ⟨.bl b, H', I', rfl, q'⟩
theorem op_neP (G : FnOk X.prog X.w X.K X.mg X.base CX0 1 fE fd ["self", "other"] (spEqP C)) (hs : PySem.W.findIn X.K (.ref C) "__eq__" = some (some (.ref fE))) (hf : PySem.W.isFn X.K (.ref fE) = true) (hb : Binds X.K fd ["self", "other"] []) (N : PicN X.K C) (T : PicT X.K C) (hr : Room 3 X.A) :
    OpR X (compareOp .NotEq) (rNeP X.K C) := by
  intro pins s σ H x y v u Q I rx ry h
  obtain ⟨a, ps, b, rfl, hp, he, q⟩ := h
  obtain rfl : v = Value.ref a := rx
  obtain ⟨ob, od, J⟩ := pic_inst I hp
  obtain ⟨tb, L, nf⟩ := eqs_type I N ry he
  have hu : X.A.units + 1 < cLine := hu_of hr
  have isO : PySem.W.Looks (model X.prog X.w) s.heap (isInstance (.ref a) (.type "object")) true := J.type.andThen (PySem.W.looks_mroIn I.kIn T.pc.hm)
  have neDone : ∀ {Q' : Fin → Shared → Prop}, (∀ s', (∃ H', Inv X pins σ H' s' ∧ Q (.bl (!b)) H') → Q' (.done (.ret (.bool (!b)))) s') → wpAny (model X.prog X.w) X.A.in1 (Builtin.«object.__ne__» ⟨[.ref a, u], []⟩) Q' X.xe s := fun {Q'} k => by
    unfold Builtin.«object.__ne__»
    have go : wpAny (model X.prog X.w) X.A.in1 (callSpecialIfBound? (.ref a) (Str.ofString "__eq__") [u]) (fun r s' => r = some (.bool b) ∧ ∃ H', Inv X pins σ H' s' ∧ Q (.bl (!b)) H') X.xe s :=
      PySem.W.ifBound_K I.kIn J hs hf (wpAny_mono (run_at (A := X.A.in1) (vs := [.ref a, y]) (us := [.ref a, u]) (Q := fun r H' => r = .bl b ∧ Q (.bl (!b)) H') G (hr.mono (by decide : 2 ≤ 3)).in1 rfl hb I (.cons rfl (.cons ry .nil)) ⟨a, y, ps, b, rfl, hp, he, rfl, q⟩) (fun r s' hq => by
        obtain ⟨v, H', I', rv, ev, q'⟩ := hq
        subst ev
        obtain rfl : r = Value.bool b := rv
        exact ⟨rfl, H', I', q'⟩) fun _ _ z => z)
    repeat (first
      | with_reducible refine wpAny_cRoomFor (show X.A.in1.units < cLine from hu) ?_
      | (refine wpAny_bind (m := callSpecialIfBound? (.ref a) (Str.ofString "__eq__") [u]) (wpAny_mono go (fun r s' hr => by
          obtain ⟨rfl, hq⟩ := hr
          have z := k s' hq
          repeat (first | exact z | exact wpAny_pure z | exact wpAny_truthy_bool z | (refine wpAny_bind (m := truthy (.bool _)) (wpAny_truthy_bool ?_)) | wp_step)) fun _ _ e => e))
      | wp_step)
  have tryDone : wpAny (model X.prog X.w) X.A (tryCompare (.ref a) "__ne__" u) (fun r s' => r = some (.bool (!b)) ∧ ∃ H', Inv X pins σ H' s' ∧ Q (.bl (!b)) H') X.xe s := by
    simp only [tryCompare]
    obtain ⟨hp', g, d, t, os⟩ := s
    refine wpAny_bind (special_in I.kIn J N.ne F.cmp_object.ne (wpAny_call (codeAny_call_builtin F.cmp_object.ne.plain F.cmpEntry_ne (PySem.W.check_slot F.cmpKind_ne F.cmpSplit_ne isO (F.cmpArgs_ne _ _) (neDone (fun s' hq => ?_))))))
    exact wpAny_pure ⟨rfl, hq⟩
  show wpAny _ _ (richCompare .NotEq (.ref a) u) _ _ s
  unfold richCompare
  simp only [oneThing_ref, cmpInfo_NotEq]
  refine wpAny_holding (wpAny_bind (wpAny_cRoomFor (Nat.lt_of_succ_lt hu) ?_))
  refine wpAny_bind (J.type.here (wpAny_bind (L.here ?_)))
  split
  · rename_i q'
    have e : PySem.W.subIn X.K tb (.ref C) = some false := by
      unfold PySem.W.notFirst at nf
      rcases Bool.or_eq_true_iff.mp nf with e | e
      · rw [beq_iff_eq.mp e] at q'; simp at q'
      · exact beq_iff_eq.mp e
    refine wpAny_bind ((PySem.W.looks_subIn I.kIn e).here ?_)
    simp only [Bool.false_eq_true, if_false]
    refine wpAny_bind (wpAny_mono tryDone (fun r s' z => ?_) fun _ _ e => e)
    obtain ⟨rfl, H', I', hq⟩ := z
    exact wpAny_pure ⟨.bl (!b), H', I', rfl, hq⟩
  · refine wpAny_bind (wpAny_pure ?_)
    simp only [Bool.false_eq_true, if_false]
    refine wpAny_bind (wpAny_mono tryDone (fun r s' z => ?_) fun _ _ e => e)
    obtain ⟨rfl, H', I', hq⟩ := z
    exact wpAny_pure ⟨.bl (!b), H', I', rfl, hq⟩
end
end K12

namespace K12
open PySem PySem.Spec PyProof.Rows L2
/-! ### str(picture) -/
def rStrP (C : Addr) : List V → Hp → VK → Prop := fun xs H Q => ∃ (a : Addr) (ps : List (Int × Int)), xs = [.ref a] ∧ PicF H C a ps ∧ OkP ps ∧ ∀ z H', Same H H' → Q (.str z) H'
section
variable {X : Cx} {C fS : Addr} {fd : FuncData}
theorem call_strP (G : FnOk X.prog X.w X.K X.mg X.base CX0 1 fS fd ["self"] (spStrP C)) (hs : PySem.W.findIn X.K (.ref C) "__str__" = some (some (.ref fS))) (hf : PySem.W.isFn X.K (.ref fS) = true) (hb : Binds X.K fd ["self"] []) (hr : Room 3 X.A) : CallR X (.type "str") (rStrP C) := by
  intro pins s σ H xs us Q I r h
  obtain ⟨a, ps, rfl, hp, ok, q⟩ := h
  obtain ⟨u, rfl, ru⟩ := vals1 r
  obtain rfl : u = Value.ref a := ru
  obtain ⟨ob, od, J⟩ := pic_inst I hp
  have hu : X.A.in1.in1.units < cLine := by
    have := hr.un
    show X.A.units + 1 + 1 < cLine
    omega
  refine PySem.W.kso_call hu I.kIn J hs hf (wpAny_mono (run_at (A := X.A.in1.in1) (vs := [.ref a]) (us := [.ref a]) (Q := fun r H' => ∃ z, r = .str z ∧ Q (.str z) H') G (hr.in1.in1) rfl hb I (.cons rfl .nil) ⟨a, ps, rfl, hp, ok, fun z H' s' => ⟨z, rfl, q z H' s'⟩⟩) (fun r s' hq => ?_) fun _ _ z => z)
  obtain ⟨v, H', I', rv, z, ev, q'⟩ := hq
  subst ev
  obtain ⟨t, rfl⟩ := rv
  exact ⟨.str z, H', I', ⟨t, rfl⟩, q'⟩
end
/-! ### a picture is made -/
/-- a new picture with these places -/
def NewP (C : Addr) (ps : List (Int × Int)) (H : Hp) (Q : VK) : Prop := ∀ a H', Same H H' → H a = none → PicF H' C a ps → Q (.ref a) H'
/-- how a picture is made of a value: of places, or refused -/
def MkP (K : PySem.W.Frag) (C CB : Addr) (v : V) (H : Hp) (Q : VK) (E : XK) : Prop := (∃ ps, Pls H v ps ∧ OkP ps ∧ NewP C ps H Q) ∨ (∃ o, RowsV K H v o ∧ plB o = false ∧ Rz CB "places" H E)
theorem rz_same {C : Addr} {z : Str} {H H1 : Hp} {E : XK} (h : Rz C z H E) (s : Same H H1) : Rz C z H1 E := fun d H' s' n e => h d H' (s.trans s') (s.free n) e
theorem mk_in {K : PySem.W.Frag} {C CB : Addr} {v : V} {H : Hp} {Q : VK} {E : XK} (m : MkP K C CB v H Q E) : ∀ x dx, H x = none → H dx = none → dx ≠ x → spPI K C CB [.ref x, v] (upd (upd H dx (.own x)) x (.ins C dx [])) (fun r H2 => r = .non ∧ Q (.ref x) H2) E := fun x dx hx hdx ne => by
  have s0 : Same H (upd (upd H dx (.own x)) x (.ins C dx [])) := fun b o e => by
    rw [upd_ne (ne_of_none e hx), upd_ne (ne_of_none e hdx)]
    exact e
  refine ⟨x, dx, v, rfl, upd_same, ?_⟩
  rcases m with ⟨ps, pls, ok, n⟩ | ⟨o, ro, po, r⟩
  · exact .inl ⟨ps, pls.same s0, ok, fun H' k p => ⟨rfl, n x H' (fun b o e => k b o (ne_of_none e hx) (s0 _ _ e)) hx p⟩⟩
  · exact .inr ⟨o, ro.same s0, po, rz_same r s0⟩
/-- the class of pictures, as its callers see it -/
structure Pc (P : Program) (w : World) (K : PySem.W.Frag) (mg : Str → Option Value) (base : Heap) (C CB : Addr) : Prop where
  mgC : mg "Picture" = some (.ref C)
  t : PicT K C
  n : PicN K C
  ini : ∃ (fI : Addr) (fd : FuncData), Mk K C fI ∧ FnOk P w K mg base (L2.CX P w) 6 fI fd ["self", "places"] (spPI K C CB) ∧ Binds K fd ["self", "places"] [] ∧ KBn K fd ["self", "places"] 1 ["places"] (fun us ws => us ++ ws) (fun vs zs => vs ++ zs)
  eq : ∃ (fE : Addr) (fd : FuncData), FnOk P w K mg base CX0 1 fE fd ["self", "other"] (spEqP C) ∧ PySem.W.findIn K (.ref C) "__eq__" = some (some (.ref fE)) ∧ PySem.W.isFn K (.ref fE) = true ∧ Binds K fd ["self", "other"] []
  st : ∃ (fS : Addr) (fd : FuncData), FnOk P w K mg base CX0 1 fS fd ["self"] (spStrP C) ∧ PySem.W.findIn K (.ref C) "__str__" = some (some (.ref fS)) ∧ PySem.W.isFn K (.ref fS) = true ∧ Binds K fd ["self"] []
  pp : ∃ (f : Addr) (fd : FuncData), Meth K C "products" f ∧ FnOk P w K mg base CX0 2 f fd ["self"] (spPP C) ∧ Binds K fd ["self"] []
section
variable {X : Cx} {C CB : Addr} {x : Str} {e : Expr} {es : List Expr} {kws : List Keyword} {t tk : TA} {p pos : Pos}
/-- Picture(e), which is not refused -/
def tMkP (K : PySem.W.Frag) (C CB : Addr) (E : XK) (t : TA) : TE := fun σ H Q => t σ H fun vs H1 => ∃ v, vs = [v] ∧ MkP K C CB v H1 Q E
theorem pe_mkP {E : XK} (T : Pc X.prog X.w X.K X.mg X.base C CB) (hr : Room 7 X.A) (hx : Passes (L2.CX X.prog X.w) X E) (hg : Gl X "Picture") (ha : PA X (e :: es) t) (he : starEach (e :: es) X.env = (false, eval e X.env) :: starEach es X.env := by rfl) (hpl : (backTo pos (starEach es X.env)).any (·.1) = false := by rfl) :
    PE X (.Call (.Name "Picture" p) (e :: es) [] pos) (tMkP X.K C CB E t) := by
  obtain ⟨fI, fd, M, G, b, _⟩ := T.ini
  refine ⟨fun pins s σ H Q I h => ?_⟩
  refine wpAny_Call_Name_kw (ld_glob I hg T.mgC ?_ (by decide))
  refine PySem.W.callWith_K (h₀ := X.base) I.ok.mod.kin M.kp (thn (ha.run pos pins s σ H _ I h) fun us s1 ⟨vs, H1, I1, r, v, ev, m⟩ => ⟨I1.kIn, ?_⟩) he hpl
  subst ev
  exact run_make (dvs := []) (ds := []) M G hr b .nil hx I1 r (mk_in m)
/-- Picture(places=e) -/
theorem pe_mkPK {E : XK} (T : Pc X.prog X.w X.K X.mg X.base C CB) (hr : Room 7 X.A) (hx : Passes (L2.CX X.prog X.w) X E) (hg : Gl X "Picture") (hkw : PK X kws tk)
    (hall : (backToKw pos (keywordEach kws X.env)).all (·.1.isSome) = true := by rfl) (hks : (backToKw pos (keywordEach kws X.env)).filterMap (·.1) = (["places"] : List Str) := by rfl)
    (hpl : ((backTo pos (starEach [] X.env)).any (·.1) || (backToKw pos (keywordEach kws X.env)).any (·.1.isNone)) = false := by rfl) :
    PE X (.Call (.Name "Picture" p) [] kws pos) (tMkP X.K C CB E tk) := by
  obtain ⟨fI, fd, M, G, _, b⟩ := T.ini
  refine ⟨fun pins s σ H Q I h => ?_⟩
  refine wpAny_Call_Name_kw (ld_glob I hg T.mgC ?_ (by decide))
  refine PySem.W.callWith_KW0 (h₀ := X.base) I.ok.mod.kin M.kp hall ?_ hpl
  refine thn (hkw.run pos pins s σ H _ I h) fun ws s2 ⟨zs, H2, I2, rz, v, ev, m⟩ => ⟨I2.kIn, ?_⟩
  subst ev
  rw [hks]
  exact run_makeN (n := 0) (us := []) (vs := []) M G hr b hx I2 .nil rz rfl rfl (mk_in m)
/-- as run_make, what is raised being wished for at the caller's slots -/
def tMkPS (K : PySem.W.Frag) (C CB : Addr) (E : L2.St → XK) (t : TA) : TE := fun σ H Q => t σ H fun vs H1 => ∃ v, vs = [v] ∧ MkP K C CB v H1 Q (E σ)
theorem pe_mkPS {E : L2.St → XK} (T : Pc X.prog X.w X.K X.mg X.base C CB) (hr : Room 7 X.A) (hx : ∀ σ, PassesAt (L2.CX X.prog X.w) X σ (E σ)) (hg : Gl X "Picture") (ha : PA X (e :: es) t) (he : starEach (e :: es) X.env = (false, eval e X.env) :: starEach es X.env := by rfl) (hpl : (backTo pos (starEach es X.env)).any (·.1) = false := by rfl) :
    PE X (.Call (.Name "Picture" p) (e :: es) [] pos) (tMkPS X.K C CB E t) := by
  obtain ⟨fI, fd, M, G, b, _⟩ := T.ini
  refine ⟨fun pins s σ H Q I h => ?_⟩
  refine wpAny_Call_Name_kw (ld_glob I hg T.mgC ?_ (by decide))
  refine PySem.W.callWith_K (h₀ := X.base) I.ok.mod.kin M.kp (thn (ha.run pos pins s σ H _ I h) fun us s1 ⟨vs, H1, I1, r, v, ev, m⟩ => ⟨I1.kIn, ?_⟩) he hpl
  subst ev
  have hq := mk_in m (s1.heap.objs.size + 1) s1.heap.objs.size (I1.hok.fresh (Nat.le_succ _)) (I1.hok.fresh (Nat.le_refl _)) (Nat.ne_of_lt (Nat.lt_succ_self _))
  have I2 := Inv.made (C := C) I1
  have r2 : Vals [V.ref (s1.heap.objs.size + 1), v] (Value.ref (s1.heap.objs.size + 1) :: us) := .cons rfl r
  have hl : (Value.ref (s1.heap.objs.size + 1) :: us ++ []).length = (["self", "places"] : List Str).length := by
    rw [List.append_nil, ← r2.length]
    rfl
  have bb := b _ (Value.ref (s1.heap.objs.size + 1) :: us) I2.kIn hl
  rw [List.append_nil] at bb
  refine wpAny_call (make_map (f := fI) I1.kIn M.makes M.init (beq_iff_eq.mp M.fn) (codeAny_mono (G.run _ X.stack _ _ ⟨Value.ref (s1.heap.objs.size + 1) :: us, []⟩ (Value.ref (s1.heap.objs.size + 1) :: us) _ _ (E σ) (hr.make C us [])
    (I2.env0.make C us []) bb r2 hq) fun r s' hq' => ?_))
  cases r with
  | error e => exact hx σ pins _ _ e s' I2 hq'
  | ok fl =>
    cases fl with
    | ret u =>
      obtain ⟨v, H', I3, rv, ev, q3⟩ := I2.after hq'
      subst ev
      exact ⟨rv, ⟨V.ref (s1.heap.objs.size + 1), H', I3, rfl, q3⟩⟩
    | next => exact False.elim hq'
    | brk => exact False.elim hq'
    | cont => exact False.elim hq'
end
end K12

namespace K12
open PySem PySem.Spec PyProof.Rows L2
/-! ### floor division by any divisor but 0 -/
def CDivWN (_ j : Int) : Prop := j ≠ 0 ∧ j.natAbs.log2 < 9000
theorem op_fdivWN {X : Cx} : OpR X (binaryOp .FloorDiv) (rI CDivWN fun i j => .int (i.fdiv j)) := opI fun _ _ _ _ _ _ _ hc q => floordiv_int hc.1 q (.inl (PyProof.noPylong_of_log2 hc.2))
theorem cdiv_of {i j : Int} {b : Nat} (h : j ≠ 0) (hb : j.natAbs < 2 ^ b) (h0 : 0 < b) (h9 : b ≤ 9000) : CDivWN i j := ⟨h, Nat.lt_of_lt_of_le (PySem.Flt.log2_lt_of h0 hb) h9⟩
/-! ### the lens -/
/-- but at p all stands as it stood, and what draws keeps its cells -/
def SB (p : Addr) (H H' : Hp) : Prop := (∀ b o, b ≠ p → H b = some o → H' b = some o) ∧ ∀ c x y, H p = some (.lst [.ref c, x, y]) → ∃ x' y', H' p = some (.lst [.ref c, x', y'])
theorem SB.refl (p : Addr) (H : Hp) : SB p H H := ⟨fun _ _ _ h => h, fun _ _ _ h => ⟨_, _, h⟩⟩
theorem SB.trans {p : Addr} {H H1 H2 : Hp} (a : SB p H H1) (b : SB p H1 H2) : SB p H H2 := ⟨fun c o n h => b.1 c o n (a.1 c o n h), fun c x y h => let ⟨_, _, h1⟩ := a.2 c x y h; b.2 _ _ _ h1⟩
theorem SB.of {p : Addr} {H H' : Hp} (s : Same H H') : SB p H H' := ⟨fun b o _ h => s b o h, fun _ _ _ h => ⟨_, _, s _ _ h⟩⟩
theorem SB.set {p c : Addr} {x y x' y' : V} {H : Hp} (e : H p = some (.lst [.ref c, x, y])) : SB p H (upd H p (.lst [.ref c, x', y'])) := ⟨fun b o n h => by
  rw [upd_ne n]
  exact h, fun d _ _ h => by
  rw [e] at h
  have z := V.ref.inj (List.cons.inj (HO.lst.inj (Option.some.inj h))).1
  exact ⟨x', y', by rw [upd_same, z]⟩⟩
/-- the lens at p, of n turns at most -/
def Lens (H : Hp) (p : Addr) (n : Nat) : Prop := ∃ (c : Addr) (ns : List Int) (spot store : Int), H p = some (.lst [.ref c, .int spot, .int store]) ∧ H c = some (.lst (ns.map V.int)) ∧ c ≠ p ∧ 0 ≤ spot ∧ spot ≤ n
theorem Lens.same {H H' : Hp} {p : Addr} {n : Nat} (v : Lens H p n) (s : Same H H') : Lens H' p n := by
  obtain ⟨c, ns, a, b, h1, h2, h⟩ := v
  exact ⟨c, ns, a, b, s _ _ h1, s _ _ h2, h⟩
theorem Lens.le {H : Hp} {p : Addr} {n m : Nat} (v : Lens H p n) (h : n ≤ m) : Lens H p m := by
  obtain ⟨c, ns, a, b, h1, h2, h3, h4, h5⟩ := v
  exact ⟨c, ns, a, b, h1, h2, h3, h4, by omega⟩
theorem Lens.at {H : Hp} {p : Addr} {n : Nat} (v : Lens H p n) : ∃ (c : Addr) (a b : Int), H p = some (.lst [.ref c, .int a, .int b]) := by
  obtain ⟨c, ns, a, b, h1, _⟩ := v
  exact ⟨c, a, b, h1⟩
/-- a thing made later is no part of what draws -/
theorem Lens.upd {H4 H : Hp} {p D : Addr} {n n4 : Nat} {o : HO} (v : Lens H p n) (v4 : Lens H4 p n4) (s : SB p H4 H) (hD : H4 D = none) : Lens (upd H D o) p n := by
  obtain ⟨c, ns, x, y, h1, h2, h3, h4, h5⟩ := v
  obtain ⟨c4, ms, x4, y4, g1, g2, g3, _⟩ := v4
  obtain ⟨x', y', e⟩ := s.2 _ _ _ g1
  rw [h1] at e
  have z : c = c4 := V.ref.inj (List.cons.inj (HO.lst.inj (Option.some.inj e))).1
  subst z
  exact ⟨c, ns, x, y, by rw [upd_ne (ne_of_none g1 hD)]; exact h1, by rw [upd_ne (ne_of_none g2 hD)]; exact h2, h3, h4, h5⟩
/-- a comprehension without a test keeps every item -/
theorem yes_of {T N : Hp → Prop} {σ : L2.St} {H : Hp} (h : T H) : tYes σ H fun b H3 => if b = true then T H3 else N H3 := by
  show if true = true then T H else N H
  rw [if_pos rfl]
  exact h
theorem cut_ints (ns : List Int) (lo hi : Option Int) : ∃ ms : List Int, cutV (ns.map V.int) lo hi = ms.map V.int ∧ ms.length ≤ ns.length := by
  refine ⟨(ns.drop (HT.sIx (ns.map V.int).length 0 lo)).take (HT.sIx (ns.map V.int).length (ns.map V.int).length hi - HT.sIx (ns.map V.int).length 0 lo), ?_, ?_⟩
  · unfold cutV
    rw [List.map_take, List.map_drop]
  · rw [List.length_take, List.length_drop]
    omega
theorem get_ints {ns : List Int} {i : Nat} {x : V} (h : (ns.map V.int)[i]? = some x) : ∃ z, ns[i]? = some z ∧ x = .int z := by
  rw [List.getElem?_map] at h
  cases e : ns[i]? with
  | none =>
    rw [e] at h
    cases h
  | some z =>
    rw [e] at h
    exact ⟨z, rfl, (Option.some.inj h).symm⟩
theorem dp_ints {K : PySem.W.Frag} {H : Hp} : ∀ ns : List Int, DpAll K H (ns.map V.int) (ns.map PyData.int)
  | [] => .nil
  | n :: ns => .cons (.int n) (dp_ints ns)
theorem ix_cells {ns : List Int} {spot : Int} (h0 : 0 ≤ spot) (hn : ns ≠ []) : ∃ z, atI (ns.map V.int) (spot % (ns.map V.int).length) = some (.int z) := by
  have hl : 0 < ns.length := List.length_pos_iff.mpr hn
  have e1 := Int.emod_nonneg spot (show ((ns.map V.int).length : Int) ≠ 0 by rw [List.length_map]; omega)
  have e2 := Int.emod_lt_of_pos spot (show (0 : Int) < ((ns.map V.int).length : Int) by rw [List.length_map]; omega)
  obtain ⟨j, hj⟩ := Int.eq_ofNat_of_zero_le e1
  have hj2 : j < ns.length := by
    rw [List.length_map] at hj e2
    omega
  refine ⟨ns[j], ?_⟩
  rw [hj]
  refine atI_nat ?_
  rw [List.getElem?_map, List.getElem?_eq_getElem hj2]
  rfl
section
variable {P : Program} {w : World} {K : PySem.W.Frag} {mg : Str → Option Value} {base : Heap}
def spLens (K : PySem.W.Frag) : Sp := fun vs H Q _ => ∃ (a : Addr) (ns : List Int), vs = [.ref a] ∧ SqL K H a (ns.map V.int) ∧ ns.length ≤ 63 ∧ ∀ H' p, Same H H' → H p = none → Lens H' p 0 → Q (.ref p) H'
abbrev sLens : Stmt := top 41
theorem scLens : FnScope ["_law_script", "_law_cell"] ["_law_script"] (defScope sLens) := ⟨rfl, rfl, rfl, by decide +kernel, rfl, by decide +kernel, by decide +kernel⟩
theorem ok_lens {f : Addr} {fd : FuncData} (F : Fun K "_law_lens" "_law_lens" sLens f fd) (B : Bn mg) : FnOk P w K mg base CX0 1 f fd ["_law_script"] (spLens K) := by
  refine F.ok scLens (fun vs H Q E h => ?_) (fun cdv A outer s H vs Q E hr h => ?_)
  · obtain ⟨a, ns, rfl, _⟩ := h
    rfl
  · obtain ⟨a, ns, rfl, hS, hl, q⟩ := h
    refine ⟨_, pss_one (ps_ret (pe_lst (pa_cons (pe_lc (own := [("_law_cell", 1)]) (g := gName 1) (tt := tYes) rfl scLens.nd (pi_list (pe_slice sl_list (pv 0) po_none (po_some pe_int))) (blkOk_by (N := ["_law_script", "_law_cell"]) (sc := defScope sLens) (by decide +kernel)) (fun _ _ _ _ _ => pg_name (i := 1) scLens.nd rfl (Or.inl rfl)) (fun _ _ _ _ _ => pts_nil)
      (fun _ _ _ _ _ => pe_callTy call_int1 (by rfl) B.int boot_int (pa_cons (pv 1) pa_nil))) (pa_cons pe_int (pa_cons pe_int pa_nil))))), ?_⟩
    obtain ⟨ms, em, hm⟩ := cut_ints ns none (some 61)
    refine ⟨_, rfl, 61, rfl, a, _, rfl, hS, fun p hp => ?_⟩
    rw [em]
    refine ⟨p, rfl, ⟨_, SqL.of upd_same⟩, fun D hD => ?_⟩
    refine lc_list (K := K) (a := p) (xs := ms.map V.int) (fun i H' => Same (upd H p (.lst (ms.map V.int))) H' ∧ H' D = some (.lst ((ms.map V.int).take i))) ⟨same_new hD, upd_same⟩ (fun i H' _ p' => SqL.of (p'.1 _ _ upd_same)) (fun i x H' hx p' => ?_) (fun H' p' => ?_)
    · obtain ⟨z, _, rfl⟩ := get_ints hx
      refine ⟨rfl, yes_of ?_⟩
      refine ⟨_, rfl, .inl ⟨z, rfl, _, p'.2, ?_, ?_, ?_⟩⟩
      · rw [List.length_take, List.length_map]
        exact small1000 (by omega)
      · intro b o e
        rw [upd_ne (ne_of_none e hD)]
        exact p'.1 b o e
      · rw [upd_same, take_more hx]
    · have e := p'.2
      rw [List.take_length] at e
      refine ⟨by show 3 ≤ sizeLine; decide, fun t ht => ?_⟩
      have s0 : Same H (upd H p (.lst (ms.map V.int))) := same_new hp
      refine q _ t ((s0.trans p'.1).trans (same_new ht)) (s0.free (p'.1.free ht)) ⟨D, ms, 0, 0, upd_same, ?_, ne_of_none e ht, by decide, by decide⟩
      rw [upd_ne (ne_of_none e ht)]
      exact e
theorem mix_lt (x : Int) : 0 ≤ x % 2147483587 ∧ x % 2147483587 < 2147483587 := ⟨Int.emod_nonneg _ (by decide), Int.emod_lt_of_pos _ (by decide)⟩
theorem mixmul (x j : Int) : CMul (x % 2147483587) j := .inl ⟨by have := mix_lt x; omega, by have := mix_lt x; omega⟩
theorem pw5 (x : Int) {spot : Int} (h0 : 0 ≤ spot) (h1 : spot < 60000) : CPow (x % 2147483563 + 81013 * spot + 3121) 5 := by
  have a := Int.emod_nonneg x (show (2147483563 : Int) ≠ 0 by decide)
  have b := Int.emod_lt_of_pos x (show (0 : Int) < 2147483563 by decide)
  exact ⟨by decide, by decide, by omega⟩
theorem pw3 (y spot : Int) (a : 0 ≤ y) (b : y < 2147483587) (h0 : 0 ≤ spot) (h1 : spot < 60000) : CPow (y * (2 * spot + 1913) + 40151 * spot * spot + 81013) 3 := by
  have c1 : y * (2 * spot + 1913) ≤ 2147483587 * 121913 := Int.mul_le_mul (by omega) (by omega) (by omega) (by omega)
  have c0 : 0 ≤ y * (2 * spot + 1913) := Int.mul_nonneg a (by omega)
  have d1 : 40151 * spot * spot ≤ 40151 * 60000 * 60000 := Int.mul_le_mul (by omega) (by omega) (by omega) (by omega)
  have d0 : 0 ≤ 40151 * spot * spot := Int.mul_nonneg (by omega) h0
  exact ⟨by decide, by decide, by omega⟩
def spShot : Sp := fun vs H Q _ => ∃ (p : Addr) (m : Int) (n : Nat), vs = [.ref p, .int m] ∧ Lens H p n ∧ n < 60000 ∧ 0 < m ∧ m.natAbs < 2 ^ 64 ∧ ∀ H' d, SB p H H' → Lens H' p (n + 1) → 0 ≤ d → d < m → Q (.int d) H'
abbrev sShot : Stmt := top 42
abbrev nShot : List Str := ["_law_lens_here", "_law_many", "_law_rest", "_law_turn", "_law_cell", "_law_mixed"]
theorem scShot : FnScope nShot ["_law_lens_here", "_law_many"] (defScope sShot) := ⟨rfl, rfl, rfl, by decide +kernel, rfl, by decide +kernel, by decide +kernel⟩
theorem ok_shot {f : Addr} {fd : FuncData} (F : Fun K "_law_shot" "_law_shot" sShot f fd) (B : Bn mg) : FnOk P w K mg base CX0 1 f fd ["_law_lens_here", "_law_many"] spShot := by
  refine F.ok scShot (fun vs H Q E h => ?_) (fun cdv A outer s H vs Q E hr h => ?_)
  · obtain ⟨p, m, n, rfl, _⟩ := h
    rfl
  · obtain ⟨p, m, n, rfl, ⟨c, ns, spot, store, hp, hc, npc, h0, h1⟩, hn, hm0, hm, q⟩ := h
    have nd := scShot.nd
    refine ⟨_, (pss_cons (ps_if (pt_cmpR op_gt (pe_ix ix_list (pv 0) (pe_int) (fun _ _ => rfl)) pe_int (nomark _))
        (pss_cons ((ps_set (i := 2) nd rfl (Or.inl rfl) ((pe_ix ix_list (pv 0) (pe_int) (fun _ _ => rfl))))) (pss_cons (ps_asg (pe_op op_fdivWN (pe_callTy call_int1 (by rfl) B.int boot_int (pa_cons (pv 2) pa_nil)) (pv 1)) (pg_sub (pv 0) pe_int set_list)) (pss_one (ps_ret (pe_op op_mod (pe_callTy call_int1 (by rfl) B.int boot_int (pa_cons (pv 2) pa_nil)) (pv 1)))))) pss_nil) (pss_cons ((ps_set (i := 3) nd rfl (Or.inl rfl) ((pe_ix ix_list (pv 0) (pe_int) (fun _ _ => rfl))))) (pss_cons (ps_asg (pe_op op_add (pv 3) pe_int) (pg_sub (pv 0) pe_int set_list)) (pss_cons ((ps_set (i := 4) nd rfl (Or.inl rfl) (pe_op op_add (pe_op op_mul pe_int (pv 3)) pe_int))) (pss_cons (ps_if (pt_cmpR (op_neD hr.units) (pe_ix ix_list (pv 0) (pe_int) (fun _ _ => rfl)) (pe_lst pa_nil) (nomark _))
        (pss_one ((ps_set (i := 4) nd rfl (Or.inl rfl) ((pe_ix ix_list ((pe_ix ix_list (pv 0) (pe_int) (fun _ _ => rfl))) (pe_op op_mod (pe_callTy call_int1 (by rfl) B.int boot_int (pa_cons (pv 3) pa_nil)) (pe_callB call_len_seq (by rfl) B.len PySem.boot_len (pa_cons ((pe_ix ix_list (pv 0) (pe_int) (fun _ _ => rfl))) pa_nil))) (fun _ _ => rfl)))))) pss_nil) (pss_cons (ps_if (PW.pt (pw_and (pt_cmpR op_lt (pv 3) (pe_callB call_len_seq (by rfl) B.len PySem.boot_len (pa_cons ((pe_ix ix_list (pv 0) (pe_int) (fun _ _ => rfl))) pa_nil)) (nomark _)) (pw_and1 (pt_cmpR op_ge (pe_callB call_abs (by rfl) B.abs (by decide +kernel) (pa_cons (pv 4) pa_nil)) (pe_op op_pow pe_int pe_int) (nomark _)))))
        (pss_cons ((ps_set (i := 2) nd rfl (Or.inl rfl) (pe_op op_add (pe_op op_mul pe_int (pe_op op_sub (pe_callB call_abs (by rfl) B.abs (by decide +kernel) (pa_cons (pv 4) pa_nil)) (pe_op op_pow pe_int pe_int))) (pe_callTy call_int1 (by rfl) B.int boot_int (pa_cons (pe_cmpR op_lt (pv 4) pe_int (nomark _)) pa_nil))))) (pss_cons (ps_asg (pe_op op_fdivWN (pe_callTy call_int1 (by rfl) B.int boot_int (pa_cons (pv 2) pa_nil)) (pv 1)) (pg_sub (pv 0) pe_int set_list)) (pss_one (ps_ret (pe_op op_mod (pe_callTy call_int1 (by rfl) B.int boot_int (pa_cons (pv 2) pa_nil)) (pv 1)))))) pss_nil) (pss_cons ((ps_set (i := 5) nd rfl (Or.inl rfl) (pe_op op_mod (pe_callTy call_int1 (by rfl) B.int boot_int (pa_cons (pe_op op_pow (pe_op op_add (pe_op op_add (pe_op op_mod (pe_callTy call_int1 (by rfl) B.int boot_int (pa_cons (pv 4) pa_nil)) pe_int) (pe_op op_mul pe_int (pv 3))) pe_int) pe_int) pa_nil)) pe_int))) (pss_cons ((ps_set (i := 5) nd rfl (Or.inl rfl) (pe_op op_mod (pe_callTy call_int1 (by rfl) B.int boot_int (pa_cons (pe_op op_pow (pe_op op_add (pe_op op_add (pe_op op_mul (pv 5) (pe_op op_add (pe_op op_mul pe_int (pv 3)) pe_int)) (pe_op op_mul (pe_op op_mul pe_int (pv 3)) (pv 3))) pe_int) pe_int) pa_nil)) pe_int))) (pss_one (ps_ret (pe_op op_mod (pe_callTy call_int1 (by rfl) B.int boot_int (pa_cons (pe_op op_fdiv (pv 5) pe_int) pa_nil)) (pv 1)))))))))))), ?_⟩
    have hdm : ∀ x : Int, CDivWN x m := fun x => cdiv_of (by omega) hm (by decide) (by decide)
    refine ⟨_, rfl, p, _, 2, _, rfl, rfl, SqL.of hp, rfl, _, _, rfl, rfl, _, rfl, ?_⟩
    have fin : ∀ (x st sp : Int) (H1 : Hp), H1 p = some (.lst [.ref c, .int sp, .int st]) → SB p H H1 → 0 ≤ sp → sp ≤ (n + 1 : Nat) → Q (.int (x % m)) H1 := fun x st sp H1 e s1 h0 h1 =>
      q _ _ s1 ⟨c, ns, sp, st, e, s1.1 _ _ npc hc, npc, h0, h1⟩ (Int.emod_nonneg _ (by omega)) (Int.emod_lt_of_pos _ hm0)
    by_cases hpos : 0 < store
    · rw [decide_eq_true hpos]
      refine iteT ⟨_, rfl, p, _, 2, _, rfl, rfl, SqL.of hp, rfl, ?_⟩
      refine ⟨_, rfl, .inl ⟨_, rfl, _, rfl, _, _, rfl, rfl, hdm _, ?_⟩⟩
      refine ⟨_, rfl, p, _, 2, 2, rfl, rfl, hp, rfl, ?_⟩
      refine ⟨_, rfl, .inl ⟨_, rfl, _, rfl, _, _, rfl, rfl, hm0, ?_⟩⟩
      exact fin store _ spot _ upd_same (SB.set hp) h0 (by omega)
    · rw [decide_eq_false hpos]
      refine iteF ⟨_, rfl, p, _, 1, _, rfl, rfl, SqL.of hp, rfl, ?_⟩
      refine ⟨_, rfl, _, _, rfl, rfl, _, rfl, p, _, 1, 1, rfl, rfl, hp, rfl, ?_⟩
      have hp1 : (upd H p (.lst [.ref c, .int (spot + 1), .int store])) p = some (.lst [.ref c, .int (spot + 1), .int store]) := upd_same
      have s1 : SB p H (upd H p (.lst [.ref c, .int (spot + 1), .int store])) := SB.set hp
      have e1 : upd H p (.lst (List.set [V.ref c, V.int spot, V.int store] 1 (V.int (spot + 1)))) = upd H p (.lst [.ref c, .int (spot + 1), .int store]) := rfl
      generalize hH1 : upd H p (.lst [.ref c, .int (spot + 1), .int store]) = H1 at hp1 s1 e1
      rw [e1]
      refine ⟨_, rfl, _, _, rfl, rfl, .inl ⟨by decide, by decide⟩, _, _, rfl, rfl, ?_⟩
      have hc1 := s1.1 _ _ npc hc
      refine ⟨_, rfl, p, _, 0, _, rfl, rfl, SqL.of hp1, rfl, Nat.zero_le _, fun l hl' => ?_⟩
      have hp2 : upd H1 l (.lst []) p = some (.lst [.ref c, .int (spot + 1), .int store]) := same_new hl' _ _ hp1
      have hc2 : upd H1 l (.lst []) c = some (.lst (ns.map V.int)) := same_new hl' _ _ hc1
      have s2 : SB p H (upd H1 l (.lst [])) := s1.trans (SB.of (same_new hl'))
      have hl2 : upd H1 l (.lst []) l = some (.lst []) := upd_same
      have hsn : spot < 60000 := by omega
      clear hl'
      generalize upd H1 l (.lst []) = H2 at hp2 hc2 s2 hl2
      refine ⟨.list (ns.map PyData.int), .list [], .lst (SqL.of hc2) (dp_ints ns), .lst (SqL.of hl2) .nil, PySem.W.ke_shaped_ints ns, by decide, _, rfl, ?_⟩
      by_cases hnn : ns = []
      · have e : (!PyData.eqv (.list (ns.map PyData.int)) (.list [])) = false := by subst hnn; rfl
        rw [e]
        refine iteF ?_
        generalize 40151 * spot + 3121 = x
        refine ⟨_, rfl, _, rfl, p, _, 0, _, rfl, rfl, SqL.of hp2, rfl, c, _, rfl, .inl (SqL.of hc2), _, _, rfl, rfl, _, rfl, ?_⟩
        refine ite2 (fun ha => ?_) (fun ha => ?_)
        · refine ⟨_, rfl, _, rfl, _, _, rfl, rfl, ⟨by decide, by decide, by decide⟩, _, _, rfl, rfl, _, rfl, ?_⟩
          refine ite2 (fun hb => ?_) (fun hb => ?_)
          · refine ⟨_, rfl, _, rfl, _, _, rfl, rfl, ⟨by decide, by decide, by decide⟩, _, _, rfl, rfl, _, _, rfl, rfl, .inl ⟨by decide, by decide⟩, _, rfl, _, _, rfl, rfl, .inr ⟨_, rfl, _, _, rfl, rfl, ?_⟩⟩
            refine ⟨_, rfl, .inl ⟨_, rfl, _, rfl, _, _, rfl, rfl, hdm _, ?_⟩⟩
            refine ⟨_, rfl, p, _, 2, 2, rfl, rfl, hp2, rfl, ?_⟩
            refine ⟨_, rfl, .inl ⟨_, rfl, _, rfl, _, _, rfl, rfl, hm0, ?_⟩⟩
            exact fin _ _ (spot + 1) _ upd_same (s2.trans (SB.set hp2)) (by omega) (by omega)
          · refine ⟨_, rfl, .inl ⟨_, rfl, _, _, rfl, rfl, (by show (0 : Int) < 2147483563; decide), _, rfl, _, _, rfl, rfl, .inl ⟨by decide, by decide⟩, _, _, rfl, rfl, _, _, rfl, rfl, _, _, rfl, rfl, pw5 _ h0 hsn, .inl ⟨_, rfl, _, _, rfl, rfl, (by show (0 : Int) < 2147483587; decide), ?_⟩⟩⟩
            refine ⟨_, rfl, _, rfl, _, _, rfl, rfl, .inl ⟨by decide, by decide⟩, _, _, rfl, rfl, _, _, rfl, rfl, mixmul _ _, _, rfl, _, _, rfl, rfl, .inl ⟨by decide, by decide⟩, _, rfl, _, _, rfl, rfl, .inr ⟨by omega, by omega⟩, _, _, rfl, rfl, _, _, rfl, rfl, _, _, rfl, rfl, pw3 _ spot (mix_lt _).1 (mix_lt _).2 h0 hsn, .inl ⟨_, rfl, _, _, rfl, rfl, (by show (0 : Int) < 2147483549; decide), ?_⟩⟩
            refine ⟨_, rfl, _, _, rfl, rfl, ⟨by decide, by decide⟩, .inl ⟨_, rfl, _, rfl, _, _, rfl, rfl, hm0, ?_⟩⟩
            exact fin _ _ _ _ hp2 s2 (by omega) (by omega)
        · refine iteF ?_
          refine ⟨_, rfl, .inl ⟨_, rfl, _, _, rfl, rfl, (by show (0 : Int) < 2147483563; decide), _, rfl, _, _, rfl, rfl, .inl ⟨by decide, by decide⟩, _, _, rfl, rfl, _, _, rfl, rfl, _, _, rfl, rfl, pw5 _ h0 hsn, .inl ⟨_, rfl, _, _, rfl, rfl, (by show (0 : Int) < 2147483587; decide), ?_⟩⟩⟩
          refine ⟨_, rfl, _, rfl, _, _, rfl, rfl, .inl ⟨by decide, by decide⟩, _, _, rfl, rfl, _, _, rfl, rfl, mixmul _ _, _, rfl, _, _, rfl, rfl, .inl ⟨by decide, by decide⟩, _, rfl, _, _, rfl, rfl, .inr ⟨by omega, by omega⟩, _, _, rfl, rfl, _, _, rfl, rfl, _, _, rfl, rfl, pw3 _ spot (mix_lt _).1 (mix_lt _).2 h0 hsn, .inl ⟨_, rfl, _, _, rfl, rfl, (by show (0 : Int) < 2147483549; decide), ?_⟩⟩
          refine ⟨_, rfl, _, _, rfl, rfl, ⟨by decide, by decide⟩, .inl ⟨_, rfl, _, rfl, _, _, rfl, rfl, hm0, ?_⟩⟩
          exact fin _ _ _ _ hp2 s2 (by omega) (by omega)
      · have e : (!PyData.eqv (.list (ns.map PyData.int)) (.list [])) = true := by
          cases ns with
          | nil => exact absurd rfl hnn
          | cons => rfl
        rw [e]
        obtain ⟨z, hz⟩ := ix_cells (ns := ns) h0 hnn
        refine iteT ⟨_, rfl, p, _, 0, _, rfl, rfl, SqL.of hp2, rfl, _, rfl, .inl ⟨_, rfl, _, rfl, p, _, 0, _, rfl, rfl, SqL.of hp2, rfl, c, _, rfl, .inl (SqL.of hc2), _, _, rfl, rfl, ?_, c, _, _, _, rfl, rfl, SqL.of hc2, hz, ?_⟩⟩
        · rw [List.length_map]
          have := List.length_pos_iff.mpr hnn
          omega
        generalize z = x
        refine ⟨_, rfl, _, rfl, p, _, 0, _, rfl, rfl, SqL.of hp2, rfl, c, _, rfl, .inl (SqL.of hc2), _, _, rfl, rfl, _, rfl, ?_⟩
        refine ite2 (fun ha => ?_) (fun ha => ?_)
        · refine ⟨_, rfl, _, rfl, _, _, rfl, rfl, ⟨by decide, by decide, by decide⟩, _, _, rfl, rfl, _, rfl, ?_⟩
          refine ite2 (fun hb => ?_) (fun hb => ?_)
          · refine ⟨_, rfl, _, rfl, _, _, rfl, rfl, ⟨by decide, by decide, by decide⟩, _, _, rfl, rfl, _, _, rfl, rfl, .inl ⟨by decide, by decide⟩, _, rfl, _, _, rfl, rfl, .inr ⟨_, rfl, _, _, rfl, rfl, ?_⟩⟩
            refine ⟨_, rfl, .inl ⟨_, rfl, _, rfl, _, _, rfl, rfl, hdm _, ?_⟩⟩
            refine ⟨_, rfl, p, _, 2, 2, rfl, rfl, hp2, rfl, ?_⟩
            refine ⟨_, rfl, .inl ⟨_, rfl, _, rfl, _, _, rfl, rfl, hm0, ?_⟩⟩
            exact fin _ _ (spot + 1) _ upd_same (s2.trans (SB.set hp2)) (by omega) (by omega)
          · refine ⟨_, rfl, .inl ⟨_, rfl, _, _, rfl, rfl, (by show (0 : Int) < 2147483563; decide), _, rfl, _, _, rfl, rfl, .inl ⟨by decide, by decide⟩, _, _, rfl, rfl, _, _, rfl, rfl, _, _, rfl, rfl, pw5 _ h0 hsn, .inl ⟨_, rfl, _, _, rfl, rfl, (by show (0 : Int) < 2147483587; decide), ?_⟩⟩⟩
            refine ⟨_, rfl, _, rfl, _, _, rfl, rfl, .inl ⟨by decide, by decide⟩, _, _, rfl, rfl, _, _, rfl, rfl, mixmul _ _, _, rfl, _, _, rfl, rfl, .inl ⟨by decide, by decide⟩, _, rfl, _, _, rfl, rfl, .inr ⟨by omega, by omega⟩, _, _, rfl, rfl, _, _, rfl, rfl, _, _, rfl, rfl, pw3 _ spot (mix_lt _).1 (mix_lt _).2 h0 hsn, .inl ⟨_, rfl, _, _, rfl, rfl, (by show (0 : Int) < 2147483549; decide), ?_⟩⟩
            refine ⟨_, rfl, _, _, rfl, rfl, ⟨by decide, by decide⟩, .inl ⟨_, rfl, _, rfl, _, _, rfl, rfl, hm0, ?_⟩⟩
            exact fin _ _ _ _ hp2 s2 (by omega) (by omega)
        · refine iteF ?_
          refine ⟨_, rfl, .inl ⟨_, rfl, _, _, rfl, rfl, (by show (0 : Int) < 2147483563; decide), _, rfl, _, _, rfl, rfl, .inl ⟨by decide, by decide⟩, _, _, rfl, rfl, _, _, rfl, rfl, _, _, rfl, rfl, pw5 _ h0 hsn, .inl ⟨_, rfl, _, _, rfl, rfl, (by show (0 : Int) < 2147483587; decide), ?_⟩⟩⟩
          refine ⟨_, rfl, _, rfl, _, _, rfl, rfl, .inl ⟨by decide, by decide⟩, _, _, rfl, rfl, _, _, rfl, rfl, mixmul _ _, _, rfl, _, _, rfl, rfl, .inl ⟨by decide, by decide⟩, _, rfl, _, _, rfl, rfl, .inr ⟨by omega, by omega⟩, _, _, rfl, rfl, _, _, rfl, rfl, _, _, rfl, rfl, pw3 _ spot (mix_lt _).1 (mix_lt _).2 h0 hsn, .inl ⟨_, rfl, _, _, rfl, rfl, (by show (0 : Int) < 2147483549; decide), ?_⟩⟩
          refine ⟨_, rfl, _, _, rfl, rfl, ⟨by decide, by decide⟩, .inl ⟨_, rfl, _, rfl, _, _, rfl, rfl, hm0, ?_⟩⟩
          exact fin _ _ _ _ hp2 s2 (by omega) (by omega)
/-! ### _law_pick -/
def spPick : Sp := fun vs H Q _ => ∃ (p a : Addr) (n : Nat) (xs : List V), vs = [.ref p, .ref a] ∧ Lens H p n ∧ n < 60000 ∧ H a = some (.lst xs) ∧ a ≠ p ∧ 0 < xs.length ∧ xs.length ≤ 1000 ∧ ∀ H' x, SB p H H' → Lens H' p (n + 1) → x ∈ xs → Q x H'
abbrev sPick : Stmt := top 43
theorem scPick : FnScope ["_law_lens_here", "_law_some"] ["_law_lens_here", "_law_some"] (defScope sPick) := ⟨rfl, rfl, rfl, by decide +kernel, rfl, by decide +kernel, by decide +kernel⟩
theorem ok_pick {f : Addr} {fd : FuncData} (F : Fun K "_law_pick" "_law_pick" sPick f fd) (B : Bn mg) (C1 : Callee P w K mg base CX0 1 "_law_shot" ["_law_lens_here", "_law_many"] spShot) : FnOk P w K mg base CX0 2 f fd ["_law_lens_here", "_law_some"] spPick := by
  obtain ⟨f1, fd1, m1, k1, b1, G1⟩ := C1
  refine F.ok scPick (fun vs H Q E h => ?_) (fun cdv A outer s H vs Q E hr h => ?_)
  · obtain ⟨p, a, n, xs, rfl, _⟩ := h
    rfl
  · obtain ⟨p, a, n, xs, rfl, hv, hn, ha, nap, h0, h1, q⟩ := h
    refine ⟨_, pss_one (ps_ret (pe_ix ix_list (pv 1) ((pe_call G1 (hr.mono (by decide)) rfl m1 k1 b1 .nil pass0 (pa_cons (pv 0) (pa_cons ((pe_callB call_len_seq (by rfl) B.len PySem.boot_len (pa_cons (pv 1) pa_nil))) pa_nil)))) (fun _ _ => rfl))), ?_⟩
    refine ⟨_, rfl, _, rfl, _, rfl, a, xs, rfl, .inl (SqL.of ha), p, _, n, rfl, hv, hn, by omega, by rw [Int.natAbs_natCast]; exact Nat.lt_of_le_of_lt h1 (by decide), fun H' d s1 v1 d0 d1 => ?_⟩
    obtain ⟨j, rfl⟩ := Int.eq_ofNat_of_zero_le d0
    have hj : j < xs.length := by omega
    exact ⟨a, xs, _, xs[j], rfl, rfl, SqL.of (s1.1 _ _ nap ha), atI_nat (List.getElem?_eq_getElem hj), q _ _ s1 v1 (List.getElem_mem hj)⟩
end
end K12

namespace K12
open PySem PySem.Spec PyProof.Rows L2
/-! ### a list of pairs -/
def LP (H : Hp) (a : Addr) (ts : List Addr) (ps : List (Int × Int)) : Prop := H a = some (.lst (ts.map V.ref)) ∧ Paired (Pr H) ts ps
theorem Lens.not_tup {H : Hp} {p a : Addr} {n : Nat} {xs : List V} (v : Lens H p n) (h : H a = some (.tup xs)) : a ≠ p := by
  obtain ⟨c, x, y, e⟩ := v.at
  exact L2.ne_of h e (by intro z; cases z)
theorem Lens.not_none {H : Hp} {p a : Addr} {n : Nat} (v : Lens H p n) (h : H a = none) : a ≠ p := by
  obtain ⟨c, x, y, e⟩ := v.at
  exact (ne_of_none e h).symm
theorem Pr.sb {H H' : Hp} {p a : Addr} {n : Nat} {q : Int × Int} (h : Pr H a q) (v : Lens H p n) (s : SB p H H') : Pr H' a q := s.1 _ _ (v.not_tup h) h
theorem prs_sb {H H' : Hp} {p : Addr} {n : Nat} {ts : List Addr} {ps : List (Int × Int)} (h : Paired (Pr H) ts ps) (v : Lens H p n) (s : SB p H H') : Paired (Pr H') ts ps := paired_mono h fun _ _ z => z.sb v s
theorem LP.sb {H H' : Hp} {p a : Addr} {n : Nat} {ts : List Addr} {ps : List (Int × Int)} (h : LP H a ts ps) (v : Lens H p n) (na : a ≠ p) (s : SB p H H') : LP H' a ts ps := ⟨s.1 _ _ na h.1, prs_sb h.2 v s⟩
theorem LP.same {H H' : Hp} {a : Addr} {ts : List Addr} {ps : List (Int × Int)} (h : LP H a ts ps) (s : Same H H') : LP H' a ts ps := ⟨s _ _ h.1, paired_mono h.2 fun _ _ z => s _ _ z⟩
theorem paired_snoc {α β : Type} {R : α → β → Prop} {xs : List α} {ys : List β} {x : α} {y : β} (h : Paired R xs ys) (r : R x y) : Paired R (xs ++ [x]) (ys ++ [y]) := by
  induction h with
  | nil => exact .cons r .nil
  | cons a _ ih => exact .cons a ih
theorem prs_upd {H : Hp} {D : Addr} {xs zs : List V} {ts : List Addr} {ps : List (Int × Int)} (hd : H D = some (.lst xs)) (h : Paired (Pr H) ts ps) : Paired (Pr (upd H D (.lst zs))) ts ps := paired_mono h fun t q z => by
  have z : H t = some (.tup [.int q.1, .int q.2]) := z
  show upd H D (.lst zs) t = _
  rw [upd_ne (L2.ne_of z hd (by intro z; cases z))]
  exact z
theorem LP.snoc {H : Hp} {D g : Addr} {ts : List Addr} {ps : List (Int × Int)} {q : Int × Int} (h : LP H D ts ps) (r : Pr H g q) : LP (upd H D (.lst (ts.map V.ref ++ [V.ref g]))) D (ts ++ [g]) (ps ++ [q]) :=
  ⟨by rw [upd_same, List.map_append]; rfl, prs_upd h.1 (paired_snoc h.2 r)⟩
theorem LP.len {H : Hp} {D : Addr} {ts : List Addr} {ps : List (Int × Int)} (h : LP H D ts ps) : ts.length = ps.length := Paired.length h.2
theorem SB.upd {H4 H : Hp} {p D : Addr} {o : HO} {n : Nat} (v4 : Lens H4 p n) (s : SB p H4 H) (hD : H4 D = none) : SB p H4 (upd H D o) := ⟨fun b o n h => by
  rw [upd_ne (ne_of_none h hD)]
  exact s.1 _ _ n h, fun c x y h => by
  obtain ⟨x', y', e⟩ := s.2 c x y h
  exact ⟨x', y', by rw [upd_ne (ne_of_none h hD)]; exact e⟩⟩
/-- all in reach -/
def InB (B : Int) (ps : List (Int × Int)) : Prop := ∀ p ∈ ps, -B ≤ p.1 ∧ p.1 ≤ B ∧ -B ≤ p.2 ∧ p.2 ≤ B
theorem InB.snoc {B : Int} {ps : List (Int × Int)} {a b : Int} (h : InB B ps) (h1 : -B ≤ a) (h2 : a ≤ B) (h3 : -B ≤ b) (h4 : b ≤ B) : InB B (ps ++ [(a, b)]) := fun p hp => by
  rcases List.mem_append.mp hp with e | e
  · exact h p e
  · rw [List.mem_singleton.mp e]
    exact ⟨h1, h2, h3, h4⟩
theorem InB.nil {B : Int} : InB B [] := fun p h => by cases h
theorem InB.le {B C : Int} {ps : List (Int × Int)} (h : InB B ps) (l : B ≤ C) : InB C ps := fun p hp => by
  have := h p hp
  exact ⟨by omega, by omega, by omega, by omega⟩
theorem InB.set {B : Int} {ps : List (Int × Int)} {j : Nat} {a b : Int} (h : InB B ps) (h1 : -B ≤ a) (h2 : a ≤ B) (h3 : -B ≤ b) (h4 : b ≤ B) : InB B (ps.set j (a, b)) := fun p hp => by
  rcases List.mem_or_eq_of_mem_set hp with e | e
  · exact h p e
  · rw [e]
    exact ⟨h1, h2, h3, h4⟩
theorem paired_set {α β : Type} {R : α → β → Prop} {xs : List α} {ys : List β} {x : α} {y : β} (h : Paired R xs ys) (r : R x y) : ∀ j, Paired R (xs.set j x) (ys.set j y) := by
  induction h with
  | nil => exact fun _ => .nil
  | cons a t ih => exact fun j => match j with
    | 0 => .cons r t
    | j + 1 => .cons a (ih j)
theorem LP.set {H : Hp} {D g : Addr} {ts : List Addr} {ps : List (Int × Int)} {q : Int × Int} (h : LP H D ts ps) (r : Pr H g q) (j : Nat) : LP (upd H D (.lst ((ts.map V.ref).set j (V.ref g)))) D (ts.set j g) (ps.set j q) :=
  ⟨by rw [upd_same, List.map_set], prs_upd h.1 (paired_set h.2 r j)⟩
theorem LP.mem {H : Hp} {D : Addr} {ts : List Addr} {ps : List (Int × Int)} {x : V} (h : LP H D ts ps) (hx : x ∈ ts.map V.ref) : ∃ g q, x = .ref g ∧ q ∈ ps ∧ Pr H g q := by
  obtain ⟨g, hg, rfl⟩ := List.mem_map.mp hx
  obtain ⟨i, hi⟩ := List.mem_iff_getElem?.mp hg
  obtain ⟨q, hq, r⟩ := paired_get h.2 hi
  exact ⟨g, q, rfl, List.mem_of_getElem? hq, r⟩
theorem LP.at {H : Hp} {D : Addr} {ts : List Addr} {ps : List (Int × Int)} {i : Nat} (h : LP H D ts ps) (hi : i < ps.length) : ∃ g q, (ts.map V.ref)[i]? = some (.ref g) ∧ ps[i]? = some q ∧ Pr H g q := by
  obtain ⟨g, hg, r⟩ := paired_of h.2 (List.getElem?_eq_getElem hi)
  exact ⟨g, _, by rw [List.getElem?_map, hg]; rfl, List.getElem?_eq_getElem hi, r⟩
theorem mul_small {a b : Int} (h1 : -4 ≤ a) (h2 : a ≤ 4) (h3 : -3 ≤ b) (h4 : b ≤ 3) : -12 ≤ a * b ∧ a * b ≤ 12 := by
  have : a = -4 ∨ a = -3 ∨ a = -2 ∨ a = -1 ∨ a = 0 ∨ a = 1 ∨ a = 2 ∨ a = 3 ∨ a = 4 := by omega
  rcases this with rfl | rfl | rfl | rfl | rfl | rfl | rfl | rfl | rfl <;> omega
/-- what a comprehension of pairs keeps: m shots a turn -/
def Gw (B : Int) (p D : Addr) (H0 : Hp) (n m i : Nat) (H : Hp) : Prop := SB p H0 H ∧ Lens H p (n + m * i) ∧ ∃ ts ps, ps.length = i ∧ LP H D ts ps ∧ InB B ps
theorem gw_nil {B : Int} {p D : Addr} {H0 : Hp} {n m : Nat} (v : Lens H0 p n) (hD : H0 D = none) : Gw B p D H0 n m 0 (upd H0 D (.lst [])) := ⟨SB.of (same_new hD), (v.same (same_new hD)).le (Nat.le_add_right _ _), [], [], rfl, ⟨upd_same, .nil⟩, InB.nil⟩
theorem gw_step {B : Int} {p D g : Addr} {H0 H' H2 : Hp} {n m i k : Nat} {a b : Int} {ts : List Addr} {ps : List (Int × Int)} (v0 : Lens H0 p k) (hD : H0 D = none) (s : SB p H0 H') (v' : Lens H' p (n + m * i)) (l : ps.length = i) (lp : LP H' D ts ps) (b9 : InB B ps) (hi : i < 7)
    (s2 : SB p H' H2) (v2 : Lens H2 p (n + m * i + m)) (hg : Pr H2 g (a, b)) (h1 : -B ≤ a) (h2 : a ≤ B) (h3 : -B ≤ b) (h4 : b ≤ B) :
    ∃ acc, H2 D = some (.lst acc) ∧ acc.length < sizeLine ∧ Gw B p D H0 n m (i + 1) (upd H2 D (.lst (acc ++ [V.ref g]))) := by
  have nD : D ≠ p := v0.not_none hD
  have lp2 := lp.sb v' nD s2
  exact ⟨_, lp2.1, by rw [List.length_map, lp.len, l]; exact small1000 (by omega), (s.trans s2).upd v0 hD, (v2.upd v0 (s.trans s2) hD).le (by rw [Nat.mul_add]; omega), _, _, by rw [List.length_append, l]; rfl, lp2.snoc hg, b9.snoc h1 h2 h3 h4⟩
section
variable {P : Program} {w : World} {K : PySem.W.Frag} {mg : Str → Option Value} {base : Heap}
/-! ### _law_places -/
/-- places of four to seven pins, none beyond a million -/
def spPlc : Sp := fun vs H Q _ => ∃ (p : Addr) (n : Nat), vs = [.ref p] ∧ Lens H p n ∧ n + 60 < 60000 ∧ ∀ H' a ts ps, SB p H H' → Lens H' p (n + 30) → a ≠ p → LP H' a ts ps → 4 ≤ ps.length → ps.length ≤ 7 → InB 1000000 ps → Q (.ref a) H'
abbrev sPlc : Stmt := top 44
abbrev nPlc : List Str := ["_law_lens_here", "_law_pins", "_law_most", "_law_pin"]
theorem scPlc : FnScope nPlc ["_law_lens_here"] (defScope sPlc) := ⟨rfl, rfl, rfl, by decide +kernel, rfl, by decide +kernel, by decide +kernel⟩
theorem ok_plc {f : Addr} {fd : FuncData} (F : Fun K "_law_places" "_law_places" sPlc f fd) (B : Bn mg) (C1 : Callee P w K mg base CX0 1 "_law_shot" ["_law_lens_here", "_law_many"] spShot) (C2 : Callee P w K mg base CX0 2 "_law_pick" ["_law_lens_here", "_law_some"] spPick) :
    FnOk P w K mg base CX0 3 f fd ["_law_lens_here"] spPlc := by
  obtain ⟨f1, fd1, m1, k1, b1, G1⟩ := C1
  obtain ⟨f2, fd2, m2, k2, b2, G2⟩ := C2
  have nd := scPlc.nd
  refine F.ok scPlc (fun vs H Q E h => ?_) (fun cdv A outer s H vs Q E hr h => ?_)
  · obtain ⟨p, n, rfl, _⟩ := h
    rfl
  · obtain ⟨p, n, rfl, hv, hn, q⟩ := h
    refine ⟨_, (pss_cons (ps_asg (pe_tup (pa_cons (pe_op op_add pe_int (pe_call G1 (hr.mono (by decide)) rfl m1 k1 b1 .nil pass0 (pa_cons (pv 0) (pa_cons (pe_int) pa_nil)))) (pa_cons ((pe_call G2 (hr.mono (by decide)) rfl m2 k2 b2 .nil pass0 (pa_cons (pv 0) (pa_cons (pe_lst (pa_cons (pe_int) (pa_cons (pe_int) (pa_cons (pe_int) (pa_cons (pe_int) (pa_cons (pe_op op_pow pe_int pe_int) pa_nil)))))) pa_nil)))) pa_nil))) (pg_tup rfl (pgs_cons ((pg_name (i := 1) nd rfl (Or.inl rfl))) (pgs_cons (pg_name (i := 2) nd rfl (Or.inr rfl)) pgs_nil)))) (pss_one (ps_ret (pe_lc (own := [("_law_pin", 3)]) (g := gName 3) (tt := tYes) rfl nd (pi_range1 rfl B.range (pa_cons (pv 1) pa_nil)) (blkOk_by (N := nPlc) (sc := defScope sPlc) (by decide +kernel)) (fun _ _ _ _ _ => (pg_name (i := 3) nd rfl (Or.inl rfl))) (fun _ _ _ _ _ => pts_nil)
        (fun _ _ _ _ _ => pe_tup (pa_cons (pe_op op_sub (pe_call G1 (hr.mono (by decide)) rfl m1 k1 b1 .nil pass0 (pa_cons (pv 0) (pa_cons (pe_op op_add (pe_op op_mul pe_int (pv 2)) pe_int) pa_nil))) (pv 2)) (pa_cons (pe_op op_sub (pe_call G1 (hr.mono (by decide)) rfl m1 k1 b1 .nil pass0 (pa_cons (pv 0) (pa_cons (pe_op op_add (pe_op op_mul pe_int (pv 2)) pe_int) pa_nil))) (pv 2)) pa_nil))))))), ?_⟩
    refine ⟨_, rfl, p, 4, _, rfl, hv, by omega, by decide, by decide, fun H1 d s1 v1 d0 d1 => ⟨_, _, rfl, rfl, ?_⟩⟩
    obtain ⟨k, rfl⟩ := Int.eq_ofNat_of_zero_le d0
    have k3 : k ≤ 3 := by omega
    refine ⟨_, rfl, _, _, rfl, rfl, ⟨by decide, by decide, by decide⟩, by show 5 ≤ sizeLine; decide, fun l3 nl3 => ?_⟩
    have e6 : (10 : Int) ^ (Int.toNat 6) = 1000000 := by decide
    have sl3 := same_new (o := .lst [V.int 3, V.int 3, V.int 9, V.int 999, V.int ((10 : Int) ^ (Int.toNat 6))]) nl3
    refine ⟨p, l3, _, _, rfl, v1.same sl3, by omega, upd_same, v1.not_none nl3, by show 0 < 5; decide, by show 5 ≤ 1000; decide, fun H4 y s4 v4 hy => ?_⟩
    obtain ⟨m, rfl, m0, m9⟩ : ∃ m : Int, y = .int m ∧ 2 ≤ m ∧ m ≤ 1000000 := by
      simp only [List.mem_cons, List.not_mem_nil, or_false] at hy
      rcases hy with rfl | rfl | rfl | rfl | rfl
      · exact ⟨3, rfl, by decide, by decide⟩
      · exact ⟨3, rfl, by decide, by decide⟩
      · exact ⟨9, rfl, by decide, by decide⟩
      · exact ⟨999, rfl, by decide, by decide⟩
      · exact ⟨_, rfl, by rw [e6]; decide, by rw [e6]; decide⟩
    refine ⟨by show 2 ≤ sizeLine; decide, fun t5 nt5 => ?_⟩
    have st5 := same_new (o := .tup [V.int (4 + (k : Int)), V.int m]) nt5
    have v5 := v4.same st5
    have s5 : SB p H (upd H4 t5 (.tup [V.int (4 + (k : Int)), V.int m])) := s1.trans ((SB.of sl3).trans (s4.trans (SB.of st5)))
    refine ⟨t5, _, rfl, SqT.of upd_same, rfl, _, _, rfl, _, _, rfl, rfl, ?_⟩
    generalize upd H4 t5 (.tup [V.int (4 + (k : Int)), V.int m]) = H5 at v5 s5 ⊢
    refine ⟨_, rfl, (4 + (k : Int)), rfl, by omega, by omega, fun D hD => ?_⟩
    rw [show (4 + (k : Int)).toNat = 4 + k by omega]
    refine lc_range (lo := 0) (n := 4 + k) (Gw 1000000 p D H5 (n + 2) 2) (gw_nil v5 hD) (fun i H' hi pv => ?_) (fun H6 pv => ?_)
    · obtain ⟨s, v, ts, ps, l, lp, b9⟩ := pv
      refine ⟨rfl, ?_⟩
      refine ⟨_, rfl, _, rfl, _, _, rfl, rfl, .inl ⟨by decide, by decide⟩, _, _, rfl, rfl, p, _, _, rfl, v, by omega, by omega, by omega, fun Ha x sa va xa xb => ⟨_, rfl, _, _, rfl, rfl, ?_⟩⟩
      refine ⟨_, rfl, _, rfl, _, _, rfl, rfl, .inl ⟨by decide, by decide⟩, _, _, rfl, rfl, p, _, _, rfl, va, by omega, by omega, by omega, fun Hb y sb vb ya yb => ⟨_, rfl, _, _, rfl, rfl, ?_⟩⟩
      refine ⟨by show 2 ≤ sizeLine; decide, fun g hg => ?_⟩
      have sg := same_new (o := .tup [V.int (x - m), V.int (y - m)]) hg
      exact gw_step v5 hD s v l lp b9 (by omega) ((sa.trans sb).trans (SB.of sg)) ((vb.same sg).le (by omega)) upd_same (by omega) (by omega) (by omega) (by omega)
    obtain ⟨s, v, ts, ps, l, lp, b9⟩ := pv
    exact q _ _ _ _ (s5.trans s) (v.le (by omega)) (v5.not_none hD) lp (by omega) (by omega) b9
end
end K12

namespace K12
open PySem PySem.Spec PyProof.Rows L2
section
variable {P : Program} {w : World} {K : PySem.W.Frag} {mg : Str → Option Value} {base : Heap}
/-! ### _law_two -/
def spTw : Sp := fun vs H Q _ => ∃ (p : Addr) (n : Nat), vs = [.ref p] ∧ Lens H p n ∧ n + 10 < 60000 ∧ ∀ H' t (q : Int × Int), SB p H H' → Lens H' p (n + 3) → Pr H' t q → -1000 ≤ q.1 → q.1 ≤ 1000 → -1000 ≤ q.2 → q.2 ≤ 1000 → Q (.ref t) H'
abbrev sTw : Stmt := top 45
abbrev nTw : List Str := ["_law_lens_here", "_law_way"]
theorem scTw : FnScope nTw ["_law_lens_here"] (defScope sTw) := ⟨rfl, rfl, rfl, by decide +kernel, rfl, by decide +kernel, by decide +kernel⟩
theorem ok_tw {f : Addr} {fd : FuncData} (F : Fun K "_law_two" "_law_two" sTw f fd) (B : Bn mg) (C1 : Callee P w K mg base CX0 1 "_law_shot" ["_law_lens_here", "_law_many"] spShot) (C2 : Callee P w K mg base CX0 2 "_law_pick" ["_law_lens_here", "_law_some"] spPick) : FnOk P w K mg base CX0 3 f fd ["_law_lens_here"] spTw := by
  obtain ⟨f1, fd1, m1, k1, b1, G1⟩ := C1
  obtain ⟨f2, fd2, m2, k2, b2, G2⟩ := C2
  have nd := scTw.nd
  refine F.ok scTw (fun vs H Q E h => ?_) (fun cdv A outer s H vs Q E hr h => ?_)
  · obtain ⟨p, n, rfl, _⟩ := h
    rfl
  · obtain ⟨p, n, rfl, hv, hn, q⟩ := h
    refine ⟨_, (pss_cons ((ps_set (i := 1) nd rfl (Or.inl rfl) ((pe_call G1 (hr.mono (by decide)) rfl m1 k1 b1 .nil pass0 (pa_cons (pv 0) (pa_cons (pe_int) pa_nil)))))) (pss_cons (ps_if (pt_cmpR op_lt (pv 1) pe_int (nomark _)) (pss_one (ps_ret (pe_tup (pa_cons (pe_op op_sub (pe_call G1 (hr.mono (by decide)) rfl m1 k1 b1 .nil pass0 (pa_cons (pv 0) (pa_cons (pe_int) pa_nil))) pe_int) (pa_cons (pe_op op_sub (pe_call G1 (hr.mono (by decide)) rfl m1 k1 b1 .nil pass0 (pa_cons (pv 0) (pa_cons (pe_int) pa_nil))) pe_int) pa_nil))))) pss_nil) (pss_cons (ps_if (pt_cmpR op_eq (pv 1) (pe_int) (nomark _)) (pss_one (ps_ret (pe_call G2 (hr.mono (by decide)) rfl m2 k2 b2 .nil pass0 (pa_cons (pv 0) (pa_cons (pe_lst (pa_cons (pe_tup (pa_cons (pe_int) (pa_cons (pe_int) pa_nil))) (pa_cons (pe_tup (pa_cons (pe_un un_neg pe_int) (pa_cons (pe_int) pa_nil))) (pa_cons (pe_tup (pa_cons (pe_int) (pa_cons (pe_un un_neg pe_int) pa_nil))) (pa_cons (pe_tup (pa_cons (pe_int) (pa_cons (pe_un un_neg pe_int) pa_nil))) (pa_cons (pe_tup (pa_cons (pe_un un_neg pe_int) (pa_cons (pe_int) pa_nil))) (pa_cons (pe_tup (pa_cons (pe_int) (pa_cons (pe_int) pa_nil))) pa_nil))))))) pa_nil))))) pss_nil) (pss_one (ps_ret (pe_ifExp (pt_cmpR op_eq (pv 1) (pe_int) (nomark _)) (pe_tup (pa_cons (pe_int) (pa_cons (pe_int) pa_nil))) (pe_tup (pa_cons (pe_op op_sub (pe_call G1 (hr.mono (by decide)) rfl m1 k1 b1 .nil pass0 (pa_cons (pv 0) (pa_cons (pe_int) pa_nil))) pe_int) (pa_cons (pe_op op_sub (pe_call G1 (hr.mono (by decide)) rfl m1 k1 b1 .nil pass0 (pa_cons (pv 0) (pa_cons (pe_int) pa_nil))) pe_int) pa_nil))))))))), ?_⟩
    refine ⟨_, rfl, p, 6, _, rfl, hv, by omega, by decide, by decide, fun H0 d s0 v0 d0 d1 => ?_⟩
    refine ⟨_, rfl, _, _, rfl, rfl, _, rfl, ?_⟩
    refine ite2 (fun h3 => ?_) (fun h3 => ?_)
    · refine ⟨_, rfl, p, 7, _, rfl, v0, by omega, by decide, by decide, fun H1 x s1 v1 x0 x1 => ⟨_, _, rfl, rfl, ?_⟩⟩
      refine ⟨_, rfl, p, 7, _, rfl, v1, by omega, by decide, by decide, fun H2 y s2 v2 y0 y1 => ⟨_, _, rfl, rfl, ?_⟩⟩
      refine ⟨by show 2 ≤ sizeLine; decide, fun t nt => ?_⟩
      have st := same_new (o := .tup [V.int (x - 3), V.int (y - 3)]) nt
      refine q _ t (x - 3, y - 3) (s0.trans (s1.trans (s2.trans (SB.of st)))) (v2.same st) upd_same ?_ ?_ ?_ ?_
      · show -1000 ≤ x - 3
        omega
      · show x - 3 ≤ 1000
        omega
      · show -1000 ≤ y - 3
        omega
      · show y - 3 ≤ 1000
        omega
    · refine ⟨_, rfl, rfl, _, rfl, ?_⟩
      by_cases h4 : d = 3
      · rw [decide_eq_true (show V.int d = V.int 3 by rw [h4])]
        obtain ⟨vc, vx, vy, hq0⟩ := v0.at
        refine iteT ⟨_, rfl, ?_⟩
        refine ⟨by show 2 ≤ sizeLine; decide, fun u1 n1 => ?_⟩
        have s1 := same_new (o := .tup [V.int 3, V.int 4]) n1
        have g1 : upd H0 u1 (.tup [V.int 3, V.int 4]) u1 = some (.tup [V.int 3, V.int 4]) := upd_same
        have np1 : u1 ≠ p := (ne_of_none hq0 n1).symm
        have hq1 := s1 _ _ hq0
        generalize upd H0 u1 (.tup [V.int 3, V.int 4]) = M1 at s1 g1 hq1 ⊢
        refine ⟨_, rfl, by show 2 ≤ sizeLine; decide, fun u2 n2 => ?_⟩
        have s2 := same_new (o := .tup [V.int (-4), V.int 3]) n2
        have g2 : upd M1 u2 (.tup [V.int (-4), V.int 3]) u2 = some (.tup [V.int (-4), V.int 3]) := upd_same
        have np2 : u2 ≠ p := (ne_of_none hq1 n2).symm
        have hq2 := s2 _ _ hq1
        generalize upd M1 u2 (.tup [V.int (-4), V.int 3]) = M2 at s2 g2 hq2 ⊢
        refine ⟨_, rfl, by show 2 ≤ sizeLine; decide, fun u3 n3 => ?_⟩
        have s3 := same_new (o := .tup [V.int 5, V.int (-12)]) n3
        have g3 : upd M2 u3 (.tup [V.int 5, V.int (-12)]) u3 = some (.tup [V.int 5, V.int (-12)]) := upd_same
        have np3 : u3 ≠ p := (ne_of_none hq2 n3).symm
        have hq3 := s3 _ _ hq2
        generalize upd M2 u3 (.tup [V.int 5, V.int (-12)]) = M3 at s3 g3 hq3 ⊢
        refine ⟨_, rfl, by show 2 ≤ sizeLine; decide, fun u4 n4 => ?_⟩
        have s4 := same_new (o := .tup [V.int 0, V.int (-1)]) n4
        have g4 : upd M3 u4 (.tup [V.int 0, V.int (-1)]) u4 = some (.tup [V.int 0, V.int (-1)]) := upd_same
        have np4 : u4 ≠ p := (ne_of_none hq3 n4).symm
        have hq4 := s4 _ _ hq3
        generalize upd M3 u4 (.tup [V.int 0, V.int (-1)]) = M4 at s4 g4 hq4 ⊢
        refine ⟨_, rfl, by show 2 ≤ sizeLine; decide, fun u5 n5 => ?_⟩
        have s5 := same_new (o := .tup [V.int (-1), V.int 0]) n5
        have g5 : upd M4 u5 (.tup [V.int (-1), V.int 0]) u5 = some (.tup [V.int (-1), V.int 0]) := upd_same
        have np5 : u5 ≠ p := (ne_of_none hq4 n5).symm
        have hq5 := s5 _ _ hq4
        generalize upd M4 u5 (.tup [V.int (-1), V.int 0]) = M5 at s5 g5 hq5 ⊢
        refine ⟨by show 2 ≤ sizeLine; decide, fun u6 n6 => ?_⟩
        have s6 := same_new (o := .tup [V.int 1, V.int 0]) n6
        have g6 : upd M5 u6 (.tup [V.int 1, V.int 0]) u6 = some (.tup [V.int 1, V.int 0]) := upd_same
        have np6 : u6 ≠ p := (ne_of_none hq5 n6).symm
        have hq6 := s6 _ _ hq5
        generalize upd M5 u6 (.tup [V.int 1, V.int 0]) = M6 at s6 g6 hq6 ⊢
        have sA : Same H0 M6 := (((((s1).trans s2).trans s3).trans s4).trans s5).trans s6
        have z1 := s6 _ _ (s5 _ _ (s4 _ _ (s3 _ _ (s2 _ _ (g1)))))
        have z2 := s6 _ _ (s5 _ _ (s4 _ _ (s3 _ _ (g2))))
        have z3 := s6 _ _ (s5 _ _ (s4 _ _ (g3)))
        have z4 := s6 _ _ (s5 _ _ (g4))
        have z5 := s6 _ _ (g5)
        have z6 := g6
        refine ⟨by show 6 ≤ sizeLine; decide, fun l nl => ?_⟩
        have sl := same_new (o := .lst [V.ref u1, V.ref u2, V.ref u3, V.ref u4, V.ref u5, V.ref u6]) nl
        have nlp := (ne_of_none hq6 nl).symm
        refine ⟨p, l, _, _, rfl, (v0.same sA).same sl, by omega, upd_same, nlp, by show 0 < 6; decide, by show 6 ≤ 1000; decide, fun H2 x s2 v2 hx => ?_⟩
        have k : ∀ {b : Addr} {o : HO}, b ≠ p → M6 b = some o → H2 b = some o := fun nb e => s2.1 _ _ nb (sl _ _ e)
        have s3 : SB p H H2 := s0.trans ((SB.of (sA.trans sl)).trans s2)
        have v3 := v2.le (show n + 1 + 1 ≤ n + 3 by omega)
        simp only [List.mem_cons, List.not_mem_nil, or_false] at hx
        rcases hx with rfl | rfl | rfl | rfl | rfl | rfl
        · exact q _ u1 (3, 4) s3 v3 (k np1 z1) (by decide) (by decide) (by decide) (by decide)
        · exact q _ u2 (-4, 3) s3 v3 (k np2 z2) (by decide) (by decide) (by decide) (by decide)
        · exact q _ u3 (5, -12) s3 v3 (k np3 z3) (by decide) (by decide) (by decide) (by decide)
        · exact q _ u4 (0, -1) s3 v3 (k np4 z4) (by decide) (by decide) (by decide) (by decide)
        · exact q _ u5 (-1, 0) s3 v3 (k np5 z5) (by decide) (by decide) (by decide) (by decide)
        · exact q _ u6 (1, 0) s3 v3 (k np6 z6) (by decide) (by decide) (by decide) (by decide)
      · rw [decide_eq_false (fun z => h4 (V.int.inj z))]
        refine iteF ⟨_, rfl, rfl, _, rfl, ?_⟩
        by_cases h5 : d = 4
        · rw [decide_eq_true (show V.int d = V.int 4 by rw [h5])]
          refine iteT ⟨by show 2 ≤ sizeLine; decide, fun t nt => ?_⟩
          have st := same_new (o := .tup [V.int 0, V.int 0]) nt
          exact q _ t (0, 0) (s0.trans (SB.of st)) ((v0.same st).le (by omega)) upd_same (by decide) (by decide) (by decide) (by decide)
        · rw [decide_eq_false (fun z => h5 (V.int.inj z))]
          refine iteF ⟨_, rfl, p, 2001, _, rfl, v0, by omega, by decide, by decide, fun H1 x s1 v1 x0 x1 => ⟨_, _, rfl, rfl, ?_⟩⟩
          refine ⟨_, rfl, p, 2001, _, rfl, v1, by omega, by decide, by decide, fun H2 y s2 v2 y0 y1 => ⟨_, _, rfl, rfl, ?_⟩⟩
          refine ⟨by show 2 ≤ sizeLine; decide, fun t nt => ?_⟩
          have st := same_new (o := .tup [V.int (x - 1000), V.int (y - 1000)]) nt
          refine q _ t (x - 1000, y - 1000) (s0.trans (s1.trans (s2.trans (SB.of st)))) (v2.same st) upd_same ?_ ?_ ?_ ?_
          · show -1000 ≤ x - 1000
            omega
          · show x - 1000 ≤ 1000
            omega
          · show -1000 ≤ y - 1000
            omega
          · show y - 1000 ≤ 1000
            omega
end
end K12

namespace K12
open PySem PySem.Spec PyProof.Rows L2
theorem sameUpd {H H' : Hp} {D : Addr} {o : HO} (s : Same H H') (n : H D = none) : Same H (upd H' D o) := fun b u e => by
  rw [upd_ne (ne_of_none e n)]
  exact s _ _ e
/-- places, each led to another one -/
def Lm (H0 : Hp) (D : Addr) (f : Int × Int → Int × Int) (ps : List (Int × Int)) (i : Nat) (H : Hp) : Prop := Same H0 H ∧ ∃ us, LP H D us ((ps.map f).take i)
theorem lm_nil {H0 : Hp} {D : Addr} {f : Int × Int → Int × Int} {ps : List (Int × Int)} (hD : H0 D = none) : Lm H0 D f ps 0 (upd H0 D (.lst [])) := ⟨same_new hD, [], upd_same, .nil⟩
theorem lm_step {H0 H' H2 : Hp} {D g : Addr} {f : Int × Int → Int × Int} {ps : List (Int × Int)} {i : Nat} {q : Int × Int} (hD : H0 D = none) (l7 : ps.length ≤ 7) (c : Lm H0 D f ps i H') (hq : ps[i]? = some q) (s : Same H' H2) (hg : Pr H2 g (f q)) :
    ∃ acc, H2 D = some (.lst acc) ∧ acc.length < sizeLine ∧ Lm H0 D f ps (i + 1) (upd H2 D (.lst (acc ++ [V.ref g]))) := by
  obtain ⟨s0, us, lp⟩ := c
  have lp2 := lp.same s
  have z := lp2.snoc hg
  rw [← take_more (show (ps.map f)[i]? = some (f q) by rw [List.getElem?_map, hq]; rfl)] at z
  exact ⟨_, lp2.1, by rw [List.length_map, lp2.len]; exact small1000 (Nat.le_trans (List.length_take_le' _ _) (by rw [List.length_map]; omega)), sameUpd (s0.trans s) hD, _, z⟩
theorem lm_end {H0 H : Hp} {D : Addr} {f : Int × Int → Int × Int} {ps : List (Int × Int)} (c : Lm H0 D f ps ps.length H) : Same H0 H ∧ ∃ us, LP H D us (ps.map f) := by
  obtain ⟨s, us, lp⟩ := c
  rw [List.take_of_length_le (by rw [List.length_map]; exact Nat.le_refl _)] at lp
  exact ⟨s, us, lp⟩
/-- where a turn puts a place -/
def trn (x y : Int) (p : Int × Int) : Int × Int := (x * p.1 - y * p.2, y * p.1 + x * p.2)
section
variable {P : Program} {w : World} {K : PySem.W.Frag} {mg : Str → Option Value} {base : Heap}
/-! ### _law_at -/
def spAt : Sp := fun vs H Q _ => ∃ (a : Addr) (x y : Int) (ts : List Addr) (ps : List (Int × Int)), vs = [.ref a, .int x, .int y] ∧ LP H a ts ps ∧ ps.length ≤ 7 ∧ InB (2 ^ 60) ps ∧ ∀ H' b us, Same H H' → H b = none → LP H' b us (ps.map (trn x y)) → Q (.ref b) H'
abbrev sAt : Stmt := top 46
abbrev nAt : List Str := ["_law_places_here", "_law_x", "_law_y", "_law_place"]
theorem scAt : FnScope nAt ["_law_places_here", "_law_x", "_law_y"] (defScope sAt) := ⟨rfl, rfl, rfl, by decide +kernel, rfl, by decide +kernel, by decide +kernel⟩
theorem ok_at {f : Addr} {fd : FuncData} (F : Fun K "_law_at" "_law_at" sAt f fd) (B : Bn mg) : FnOk P w K mg base CX0 1 f fd ["_law_places_here", "_law_x", "_law_y"] spAt := by
  have nd := scAt.nd
  refine F.ok scAt (fun vs H Q E h => ?_) (fun cdv A outer s H vs Q E hr h => ?_)
  · obtain ⟨a, x, y, ts, ps, rfl, _⟩ := h
    rfl
  · obtain ⟨a, x, y, ts, ps, rfl, lp, l7, b6, q⟩ := h
    refine ⟨_, pss_one (ps_ret (pe_lc (own := [("_law_place", 3)]) (g := gName 3) (tt := tYes) rfl nd (pi_list (pv 0)) (blkOk_by (N := nAt) (sc := defScope sAt) (by decide +kernel)) (fun _ _ _ _ _ => (pg_name (i := 3) nd rfl (Or.inl rfl))) (fun _ _ _ _ _ => pts_nil)
      (fun _ _ _ _ _ => pe_tup (pa_cons (pe_op op_sub (pe_op op_mul (pv 1) (pe_ix (r := rIxT K) ix_tupK (pv 3) (pe_int) (fun _ _ => rfl))) (pe_op op_mul (pv 2) (pe_ix (r := rIxT K) ix_tupK (pv 3) (pe_int) (fun _ _ => rfl)))) (pa_cons (pe_op op_add (pe_op op_mul (pv 2) (pe_ix (r := rIxT K) ix_tupK (pv 3) (pe_int) (fun _ _ => rfl))) (pe_op op_mul (pv 1) (pe_ix (r := rIxT K) ix_tupK (pv 3) (pe_int) (fun _ _ => rfl)))) pa_nil))))), ?_⟩
    refine ⟨_, rfl, a, rfl, ⟨_, SqL.of lp.1⟩, fun D hD => ?_⟩
    refine lc_list (K := K) (a := a) (xs := ts.map V.ref) (Lm H D (trn x y) ps) (lm_nil hD) (fun i H' _ p => SqL.of (p.1 _ _ lp.1)) (fun i v H' hx p => ?_) (fun H' p => ?_)
    · have hi : i < ps.length := by
        have := (List.getElem?_eq_some_iff.mp hx).1
        rw [List.length_map, lp.len] at this
        exact this
      obtain ⟨g, q1, eg, eq, hg⟩ := lp.at hi
      rw [eg] at hx
      have ev : V.ref g = v := Option.some.inj hx
      subst ev
      have hg : H' g = some (.tup [.int q1.1, .int q1.2]) := p.1 _ _ hg
      obtain ⟨c1, c2, c3, c4⟩ := b6 q1 (List.mem_of_getElem? eq)
      refine ⟨rfl, _, rfl, _, rfl, g, _, 0, _, rfl, rfl, SqT.of hg, rfl, _, _, rfl, rfl, .inr ⟨by omega, by omega⟩, _, rfl, _, rfl, g, _, 1, _, rfl, rfl, SqT.of hg, rfl, _, _, rfl, rfl, .inr ⟨by omega, by omega⟩, _, _, rfl, rfl, ?_⟩
      refine ⟨_, rfl, _, rfl, g, _, 0, _, rfl, rfl, SqT.of hg, rfl, _, _, rfl, rfl, .inr ⟨by omega, by omega⟩, _, rfl, _, rfl, g, _, 1, _, rfl, rfl, SqT.of hg, rfl, _, _, rfl, rfl, .inr ⟨by omega, by omega⟩, _, _, rfl, rfl, ?_⟩
      exact ⟨by show 2 ≤ sizeLine; decide, fun n nn => lm_step hD l7 p eq (same_new nn) upd_same⟩
    · rw [List.length_map, lp.len] at p
      obtain ⟨s, us, lpu⟩ := lm_end p
      exact q _ D us s hD lpu
end
end K12

namespace K12
open PySem PySem.Spec PyProof.Rows L2
/-- what the top has written of a class x of errors with one part -/
structure ErT (K : PySem.W.Frag) (mg : Str → Option Value) (x : Str) (C fI : Addr) : Prop where
  oex : OexC K C
  mgC : mg x = some (.ref C)
  noP : PySem.W.findIn K (.ref C) "part" = some none
  iC : PySem.W.findIn K (.ref C) "__init__" = some (some (.ref fI))
  tI : PySem.W.typeIn K (.ref fI) = some (.type "function")
section
variable {P : Program} {w : World} {K : PySem.W.Frag} {mg : Str → Option Value} {base : Heap} {C CB CN fN : Addr}
/-! ### BadNumber, check_integer -/
abbrev sNI : Stmt := inClass (top 3) 0
theorem scNI : FnScope ["self", "part"] ["self", "part"] (defScope sNI) := ⟨rfl, rfl, rfl, by decide +kernel, rfl, by decide +kernel, by decide +kernel⟩
theorem ok_ni {f C : Addr} {fd : FuncData} (F : Fun K "__init__" "BadNumber.__init__" sNI f fd) : FnOk P w K mg base CX0 1 f fd ["self", "part"] (spBI K C) := by
  refine F.ok scNI (fun vs H Q E h => ?_) (fun cdv A outer s H vs Q E hr h => ?_)
  · obtain ⟨a, y, rfl, _⟩ := h
    rfl
  · obtain ⟨a, y, rfl, T, no, ha, q⟩ := h
    refine ⟨_, pss_one (ps_ost (pv 0) (pv 1)), ?_⟩
    exact ⟨_, rfl, _, rfl, a, C, rfl, T, no, .inl ⟨ha, q⟩⟩
def spCI (K : PySem.W.Frag) (CN : Addr) : Sp := fun vs H Q E => ∃ (v : V) (t : Bool) (z : Str), vs = [v, .str z] ∧ Kd K H v t ∧ (isI v = true → Q .non H) ∧ (isI v = false → Rz CN z H E)
abbrev sCI : Stmt := top 15
theorem scCI : FnScope ["value", "part"] ["value", "part"] (defScope sCI) := ⟨rfl, rfl, rfl, by decide +kernel, rfl, by decide +kernel, by decide +kernel⟩
theorem ok_ci {f : Addr} {fd fdN : FuncData} (F : Fun K "check_integer" "check_integer" sCI f fd) (TN : ErT K mg "BadNumber" CN fN) (FN : Fun K "__init__" "BadNumber.__init__" sNI fN fdN) (C1 : Callee P w K mg base CX0 1 "is_integer" ["value"] (spInt K)) : FnOk P w K mg base (L2.CX P w) 3 f fd ["value", "part"] (spCI K CN) := by
  obtain ⟨f1, fd1, m1, k1, b1, G1⟩ := C1
  have GN : FnOk P w K mg base CX0 1 fN fdN ["self", "part"] (spBI K CN) := ok_ni FN
  have bN : Binds K fdN ["self", "part"] [] := FN.binds (ps := ["self", "part"]) fun _ _ _ _ _ _ us hl => match us, hl with | [_, _], _ => rfl
  have nd := scCI.nd
  refine F.okX scCI (fun vs H Q E h => ?_) (fun cdv A outer s H vs Q E hr h => ?_)
  · obtain ⟨v, t, z, rfl, _⟩ := h
    rfl
  · obtain ⟨v, t, z, rfl, kd, hy, hn⟩ := h
    refine ⟨_, pss_one (ps_if (pt_not (pt_val (pe_call G1 (hr.mono (by decide)) rfl m1 k1 b1 .nil pass0 (pa_cons (pv 0) pa_nil)))) (pss_one (ps_raise rfl (takes_of rfl rfl rfl rfl) (pmk_oex TN.oex TN.iC TN.tI GN (hr.mono (by decide)) bN .nil pass0 rfl TN.mgC (pa_cons (pv 1) pa_nil)))) pss_nil), ?_⟩
    refine ⟨_, rfl, v, t, rfl, kd, _, rfl, ?_⟩
    cases e : isI v with
    | true => exact iteF (hy e)
    | false =>
      refine iteT ⟨_, rfl, by show 1 ≤ 1000; decide, fun x hx => ?_⟩
      exact ⟨x, _, rfl, TN.oex, TN.noP, upd_same, fun dx hdx ne => ⟨rfl, dx, _, upd_same, by rw [upd_ne ne]; exact upd_same, by rw [upd_ne ne] at hdx; exact hdx, raised (hn e) Same.me hx hdx ne⟩⟩
end
end K12

namespace K12
open PySem PySem.Spec PyProof.Rows L2
def mir (p : Int × Int) : Int × Int := (-p.1, p.2)
theorem mir_ok {ps : List (Int × Int)} (ok : OkP ps) : OkP (ps.map mir) := ⟨by rw [List.length_map]; exact ok.1, by rw [List.length_map]; exact ok.2.1, fun p hp => by
  obtain ⟨q, hq, rfl⟩ := List.mem_map.mp hp
  obtain ⟨h1, h2, h3, h4⟩ := ok.2.2 q hq
  exact ⟨by show -G9 ≤ -q.1; omega, by show -q.1 ≤ G9; omega, h3, h4⟩⟩
theorem pla_prs {H : Hp} {ts : List Addr} {ps : List (Int × Int)} (h : Paired (Pr H) ts ps) : Paired (PlA H) (ts.map V.ref) ps := by
  induction h with
  | nil => exact .nil
  | cons a _ ih => exact .cons ⟨_, rfl, .inr a⟩ ih
theorem LP.pls {H : Hp} {a : Addr} {ts : List Addr} {ps : List (Int × Int)} (h : LP H a ts ps) : Pls H (.ref a) ps := ⟨a, _, rfl, .inl h.1, pla_prs h.2⟩
section
variable {P : Program} {w : World} {K : PySem.W.Frag} {mg : Str → Option Value} {base : Heap} {C CB : Addr}
/-! ### Picture.mirrored -/
def spMir (C : Addr) : Sp := fun vs H Q _ => ∃ (a : Addr) (ps : List (Int × Int)), vs = [.ref a] ∧ PicF H C a ps ∧ OkP ps ∧ NewP C (ps.map mir) H Q
abbrev sMir : Stmt := inClass (top 37) 8
abbrev nMir : List Str := ["self", "a", "b"]
theorem scMir : FnScope nMir ["self"] (defScope sMir) := ⟨rfl, rfl, rfl, by decide +kernel, rfl, by decide +kernel, by decide +kernel⟩
theorem ok_mir {f : Addr} {fd : FuncData} (F : Fun K "mirrored" "Picture.mirrored" sMir f fd) (B : Bn mg) (T : PicT K C) (mC : mg "Picture" = some (.ref C)) (ini : ∃ (fI : Addr) (fd : FuncData), Mk K C fI ∧ FnOk P w K mg base (L2.CX P w) 6 fI fd ["self", "places"] (spPI K C CB) ∧ Binds K fd ["self", "places"] []) : FnOk P w K mg base CX0 8 f fd ["self"] (spMir C) := by
  obtain ⟨fI, fdI, M, G, b⟩ := ini
  have cl := T.pc.cls
  have nd := scMir.nd
  refine F.ok scMir (fun vs H Q E h => ?_) (fun cdv A outer s H vs Q E hr h => ?_)
  · obtain ⟨a, ps, rfl, _⟩ := h
    rfl
  · obtain ⟨a, ps, rfl, pf, ok, q⟩ := h
    refine ⟨_, pss_one (ps_ret (pe_make (E := E0) M G (hr.mono (by decide)) rfl mC b .nil passL (pa_cons (pe_lc (own := [("a", 1), ("b", 2)]) (g := gTup K 2 (gCons (gName 1) (gCons (gName 2) gNil))) (tt := tYes) rfl nd (pi_tup (pe_fld (pv 0) rfl)) (blkOk_by (N := nMir) (sc := defScope sMir) (by decide +kernel)) (fun _ _ _ _ _ => pg_tup rfl (pgs_cons (pg_name (i := 1) nd rfl (Or.inl rfl)) (pgs_cons (pg_name (i := 2) nd rfl (Or.inl rfl)) pgs_nil))) (fun _ _ _ _ _ => pts_nil)
      (fun _ _ _ _ _ => pe_tup (pa_cons (pe_un un_neg (pv 1)) (pa_cons (pv 2) pa_nil)))) pa_nil))), ?_⟩
    obtain ⟨dx, t, u, ha, ⟨us, ht, pr⟩, _⟩ := id pf
    have l7 := ok.2.1
    refine ⟨_, rfl, a, C, dx, _, .ref t, rfl, ha, cl, T.n1, rfl, t, rfl, ⟨_, SqT.of ht⟩, fun D hD => ?_⟩
    refine lc_tup (K := K) (a := t) (xs := us.map V.ref) (Lm H D mir ps) (lm_nil hD) (fun i H' _ p => SqT.of (p.1 _ _ ht)) (fun i v H' hx p => ?_) (fun H' p => ?_)
    · have hi : i < ps.length := by
        have := (List.getElem?_eq_some_iff.mp hx).1
        rw [List.length_map, Paired.length pr] at this
        exact this
      obtain ⟨g, hg1, hg⟩ := paired_of pr (List.getElem?_eq_getElem hi)
      rw [List.getElem?_map, hg1] at hx
      have ev : V.ref g = v := Option.some.inj hx
      subst ev
      have eq := List.getElem?_eq_getElem hi
      generalize ps[i] = q1 at hg eq
      have hg : H' g = some (.tup [.int q1.1, .int q1.2]) := p.1 _ _ hg
      refine ⟨g, _, rfl, SqT.of hg, rfl, _, _, rfl, _, _, rfl, rfl, rfl, _, rfl, _, rfl, _, rfl, by show 2 ≤ sizeLine; decide, fun n nn => ?_⟩
      exact lm_step hD l7 p eq (same_new nn) upd_same
    · rw [List.length_map, Paired.length pr] at p
      obtain ⟨s, vs, lpv⟩ := lm_end p
      exact mk_in (.inl ⟨_, lpv.pls, mir_ok ok, fun x H2 s2 n2 pf2 => q x H2 (s.trans s2) (s.free n2) pf2⟩)
end
end K12

namespace K12
open PySem PySem.Spec PyProof.Rows L2
/-! ### TooMany -/
/-- the exception at a has these fields, its own dict is new -/
def ErN (H H' : Hp) (C : Addr) (fs : List (Str × V)) (a : Addr) : Prop := ∃ d, H d = none ∧ d ≠ a ∧ H' a = some (exo a C (some d)) ∧ H' d = some (exd d fs)
def spIn2 (K : PySem.W.Frag) (f g : Str) : Sp := fun vs H Q _ => ∃ (a C : Addr) (v u : V), vs = [.ref a, v, u] ∧ OexC K C ∧ PySem.W.findIn K (.ref C) f = some none ∧ PySem.W.findIn K (.ref C) g = some none ∧ H a = some (exo a C none) ∧
  ∀ H', (∀ b o, b ≠ a → H b = some o → H' b = some o) → ErN H H' C [(g, u), (f, v)] a → Q .non H'
theorem two_fields {H : Hp} {a C : Addr} {f g : Str} {v u : V} {Q : VK} (q : ∀ H', (∀ b o, b ≠ a → H b = some o → H' b = some o) → ErN H H' C [(g, u), (f, v)] a → Q .non H') :
    ∀ dx, H dx = none → dx ≠ a → Q .non (upd (upd (upd H dx (exd dx [(f, v)])) a (exo a C (some dx))) dx (exd dx [(g, u), (f, v)])) := fun dx n ne => by
  refine q _ (fun b o nb e => ?_) ⟨dx, n, ne, ?_, upd_same⟩
  · rw [upd_ne (ne_of_none e n), upd_ne nb, upd_ne (ne_of_none e n)]
    exact e
  · rw [upd_ne ne.symm]
    exact upd_same
/-- an error of the class at C with these fields is raised -/
def RzF (C : Addr) (fs : List (Str × V)) (H : Hp) (E : XK) : Prop := ∀ d H', Same H H' → H' d = some (.xd fs) → E (.ref C) (some d) H'
theorem rzf_of {C a d : Addr} {fs : List (Str × V)} {H H2 : Hp} {E : XK} (r : RzF C fs H E) (na : H a = none) (k : ∀ b o, b ≠ a → upd H a (exo a C none) b = some o → H2 b = some o) (nd : upd H a (exo a C none) d = none) (ne : d ≠ a) :
    E (.ref C) (some d) (upd (L2.del H2 a) d (.xd fs)) := by
  have hd : H d = none := by
    rw [upd_ne ne] at nd
    exact nd
  refine r d _ (fun b o e => ?_) upd_same
  have b1 : b ≠ d := ne_of_none e hd
  have b2 : b ≠ a := ne_of_none e na
  rw [upd_ne b1, del_ne b2]
  exact k b o b2 (by rw [upd_ne b2]; exact e)
/-- what the top has written of TooMany -/
structure TmT (K : PySem.W.Frag) (mg : Str → Option Value) (C fI : Addr) : Prop where
  oex : OexC K C
  mgC : mg "TooMany" = some (.ref C)
  no1 : PySem.W.findIn K (.ref C) "what" = some none
  no2 : PySem.W.findIn K (.ref C) "most" = some none
  iC : PySem.W.findIn K (.ref C) "__init__" = some (some (.ref fI))
  tI : PySem.W.typeIn K (.ref fI) = some (.type "function")
/-- a place's numbers without their signs -/
def abL (q : Int × Int) : List Int := [if q.1 < 0 then -q.1 else q.1, if q.2 < 0 then -q.2 else q.2]
theorem abL_max (q : Int × Int) : ∃ m, m ∈ abL q ∧ (∀ y ∈ abL q, y ≤ m) ∧ ((1000000000 < m) ↔ ¬ (-G9 ≤ q.1 ∧ q.1 ≤ G9 ∧ -G9 ≤ q.2 ∧ q.2 ≤ G9)) := by
  have eG : G9 = 1000000000 := rfl
  obtain ⟨a, b⟩ := q
  unfold abL
  obtain ⟨x, hx⟩ : ∃ x, x = if a < 0 then -a else a := ⟨_, rfl⟩
  obtain ⟨y, hy⟩ : ∃ y, y = if b < 0 then -b else b := ⟨_, rfl⟩
  have h1 : (a < 0 ∧ x = -a) ∨ (0 ≤ a ∧ x = a) := by
    rw [hx]
    split
    · exact .inl ⟨by assumption, rfl⟩
    · exact .inr ⟨by omega, rfl⟩
  have h2 : (b < 0 ∧ y = -b) ∨ (0 ≤ b ∧ y = b) := by
    rw [hy]
    split
    · exact .inl ⟨by assumption, rfl⟩
    · exact .inr ⟨by omega, rfl⟩
  show ∃ m, m ∈ [if a < 0 then -a else a, if b < 0 then -b else b] ∧ _
  rw [← hx, ← hy]
  by_cases h : x ≤ y
  · refine ⟨y, by simp, fun z hz => ?_, ?_⟩
    · simp only [List.mem_cons, List.not_mem_nil, or_false] at hz
      rcases hz with rfl | rfl <;> omega
    · show _ ↔ ¬ (-G9 ≤ a ∧ a ≤ G9 ∧ -G9 ≤ b ∧ b ≤ G9)
      omega
  · refine ⟨x, by simp, fun z hz => ?_, ?_⟩
    · simp only [List.mem_cons, List.not_mem_nil, or_false] at hz
      rcases hz with rfl | rfl <;> omega
    · show _ ↔ ¬ (-G9 ≤ a ∧ a ≤ G9 ∧ -G9 ≤ b ∧ b ≤ G9)
      omega
section
variable {P : Program} {w : World} {K : PySem.W.Frag} {mg : Str → Option Value} {base : Heap} {CT fT : Addr}
abbrev sTI : Stmt := inClass (top 8) 0
theorem scTI : FnScope ["self", "what", "most"] ["self", "what", "most"] (defScope sTI) := ⟨rfl, rfl, rfl, by decide +kernel, rfl, by decide +kernel, by decide +kernel⟩
theorem ok_ti {f : Addr} {fd : FuncData} (F : Fun K "__init__" "TooMany.__init__" sTI f fd) : FnOk P w K mg base CX0 1 f fd ["self", "what", "most"] (spIn2 K "what" "most") := by
  refine F.ok scTI (fun vs H Q E h => ?_) (fun cdv A outer s H vs Q E hr h => ?_)
  · obtain ⟨a, C, v, u, rfl, _⟩ := h
    rfl
  · obtain ⟨a, C, v, u, rfl, T, no1, no2, ha, q⟩ := h
    refine ⟨_, pss_cons (ps_ost (pv 0) (pv 1)) (pss_one (ps_ost (pv 0) (pv 2))), _, rfl, _, rfl, a, C, rfl, T, no1, .inl ⟨ha, fun dx n ne => ?_⟩⟩
    exact ⟨_, rfl, _, rfl, a, C, rfl, T, no2, .inr ⟨dx, _, upd_same, by rw [upd_ne ne]; exact upd_same, (by show 1 ≤ 900; decide), two_fields q dx n ne⟩⟩
/-! ### check_room -/
def far : List (Str × V) := [("most", .int 1000000000), ("what", .str "places")]
def spCR (CT : Addr) : Sp := fun vs H Q E => ∃ (a : Addr) (ts : List Addr) (ps : List (Int × Int)), vs = [.ref a] ∧ LP H a ts ps ∧ ps.length ≤ 7 ∧ (InB G9 ps → ∀ H', Same H H' → Q .non H') ∧ (¬ InB G9 ps → RzF CT far H E)
abbrev sCR : Stmt := top 22
abbrev nCR : List Str := ["places", "place", "number"]
theorem scCR : FnScope nCR ["places"] (defScope sCR) := ⟨rfl, rfl, rfl, by decide +kernel, rfl, by decide +kernel, by decide +kernel⟩
theorem ok_cr {f : Addr} {fd fdT : FuncData} (F : Fun K "check_room" "check_room" sCR f fd) (B : Bn mg) (hmax : mg "max" = none) (L : ∃ t, mg "LIMIT" = some (.int 1000000000 t)) (TT : TmT K mg CT fT) (FT : Fun K "__init__" "TooMany.__init__" sTI fT fdT) : FnOk P w K mg base (L2.CX P w) 3 f fd ["places"] (spCR CT) := by
  obtain ⟨tL, mL⟩ := L
  have GT : FnOk P w K mg base CX0 1 fT fdT ["self", "what", "most"] (spIn2 K "what" "most") := ok_ti FT
  have bT : Binds K fdT ["self", "what", "most"] [] := FT.binds (ps := ["self", "what", "most"]) fun _ _ _ _ _ _ us hl => match us, hl with | [_, _, _], _ => rfl
  have nd := scCR.nd
  refine F.okX scCR (fun vs H Q E h => ?_) (fun cdv A outer s H vs Q E hr h => ?_)
  · obtain ⟨a, ts, ps, rfl, _⟩ := h
    rfl
  · obtain ⟨a, ts, ps, rfl, lp, l7, hy, hn⟩ := h
    refine ⟨_, pss_one (ps_for (passes_of rfl) rfl (pi_list (pv 0)) (pg_name (i := 1) nd rfl (Or.inl rfl)) (pss_one (ps_if (pt_cmpR op_gt (pe_callB (cr_max rfl) (by rfl) hmax (by decide +kernel) (pa_cons (pe_lc (own := [("number", 2)]) (g := gName 2) (tt := tYes) rfl nd (pi_tup (pv 1)) (blkOk_by (N := nCR) (sc := defScope sCR) (by decide +kernel)) (fun _ _ _ _ _ => (pg_name (i := 2) nd rfl (Or.inl rfl))) (fun _ _ _ _ _ => pts_nil) (fun _ _ _ _ _ => (pe_callB call_abs (by rfl) B.abs (by decide +kernel) (pa_cons (pv 2) pa_nil)))) pa_nil)) (pe_glob (v := .int 1000000000) rfl mL ⟨_, rfl⟩) (nomark _))
      (pss_one (ps_raise rfl (takes_of rfl rfl rfl rfl) (pmk_oex TT.oex TT.iC TT.tI GT (hr.mono (by decide)) bT .nil pass0 rfl TT.mgC (pa_cons (pe_str) (pa_cons (pe_glob (v := .int 1000000000) rfl mL ⟨_, rfl⟩) pa_nil))))) pss_nil))), ?_⟩
    refine ⟨_, rfl, a, rfl, ⟨_, SqL.of lp.1⟩, ?_⟩
    refine for_list (K := K) (a := a) (xs := ts.map V.ref) (fun i σ H' => Same H H' ∧ InB G9 (ps.take i) ∧ ∃ c, σ = [some (.ref a), c, none]) ⟨Same.me, (fun q h => by cases h), _, rfl⟩ (fun i _ _ _ p => SqL.of (p.1 _ _ lp.1)) (fun i v σ H' hx p => ?_) (fun σ H' p => ?_)
    · obtain ⟨s, hb, c, rfl⟩ := p
      have hi : i < ps.length := by
        have := (List.getElem?_eq_some_iff.mp hx).1
        rw [List.length_map, lp.len] at this
        exact this
      obtain ⟨g, q, eg, eq, hg⟩ := lp.at hi
      rw [eg] at hx
      have ev : V.ref g = v := Option.some.inj hx
      subst ev
      have hg : H' g = some (.tup [.int q.1, .int q.2]) := s _ _ hg
      refine ⟨_, rfl, g, rfl, ⟨_, SqT.of hg⟩, fun D hD => ?_⟩
      refine lc_tup (K := K) (a := g) (xs := [V.int q.1, V.int q.2]) (fun j => At H' D (((abL q).take j).map V.int)) ⟨same_new hD, upd_same⟩ (fun i H2 _ p => SqT.of (p.1 _ _ hg)) (fun j x H2 hx2 p => ?_) (fun H2 p => ?_)
      · have lt : ∀ n, (((abL q).take n).map V.int).length < sizeLine := fun n => by
          rw [List.length_map]
          exact small1000 (Nat.le_trans (List.length_take_le' _ _) (by show 2 ≤ 1000; decide))
        match j, hx2 with
        | 0, hx2 =>
          have e : V.int q.1 = x := Option.some.inj hx2
          subst e
          exact ⟨rfl, _, rfl, q.1, rfl, _, p.2, lt 0, p.step hD Same.me rfl⟩
        | 1, hx2 =>
          have e : V.int q.2 = x := Option.some.inj hx2
          subst e
          exact ⟨rfl, _, rfl, q.2, rfl, _, p.2, lt 1, p.step hD Same.me rfl⟩
        | j + 2, hx2 => cases hx2
      · have s2 := s.trans p.1
        obtain ⟨M, hM, hMx, hMb⟩ := abL_max q
        refine ⟨D, abL q, rfl, SqL.of p.2, by show 0 < 2; decide, fun m hm hmx => ?_⟩
        have em : m = M := by
          have h1 := hMx m hm
          have h2 := hmx M hM
          omega
        subst em
        refine ⟨_, _, rfl, rfl, _, rfl, ?_⟩
        by_cases hf : 1000000000 < m
        · rw [decide_eq_true hf]
          have nb : ¬ InB G9 ps := fun h => hMb.mp hf (h q (List.mem_of_getElem? eq))
          have r : RzF CT far H2 E := fun d H3 s3 e3 => hn nb d H3 (s2.trans s3) e3
          refine iteT ⟨by show 2 ≤ 1000; decide, fun e na => ?_⟩
          refine ⟨e, CT, _, _, rfl, TT.oex, TT.no1, TT.no2, upd_same, fun H3 k ⟨d, nd, ne, h1, h2⟩ => ⟨rfl, d, _, h1, h2, ?_, rzf_of r na k nd ne⟩⟩
          rw [upd_ne ne] at nd
          exact nd
        · rw [decide_eq_false hf]
          refine iteF ⟨s2, fun x hx => ?_, _, rfl⟩
          rw [take_more eq] at hx
          rcases List.mem_append.mp hx with h | h
          · exact hb x h
          · rw [List.mem_singleton.mp h]
            exact Decidable.not_not.mp fun z => hf (hMb.mpr z)
    · obtain ⟨s, hb, c, rfl⟩ := p
      rw [List.length_map, lp.len, List.take_length] at hb
      exact hy hb _ s
end
end K12

namespace K12
open PySem PySem.Spec PyProof.Rows L2
section
variable {P : Program} {w : World} {K : PySem.W.Frag} {mg : Str → Option Value} {base : Heap} {C CB CT : Addr}
/-! ### _with_room -/
/-- a picture is made of places, or one is too far -/
def RoomP (C CT : Addr) (ps : List (Int × Int)) (H : Hp) (Q : VK) (E : XK) : Prop := (InB G9 ps → NewP C ps H Q) ∧ (¬ InB G9 ps → RzF CT far H E)
def spWR (C CT : Addr) : Sp := fun vs H Q E => ∃ (a : Addr) (ts : List Addr) (ps : List (Int × Int)), vs = [.ref a] ∧ LP H a ts ps ∧ 4 ≤ ps.length ∧ ps.length ≤ 7 ∧ RoomP C CT ps H Q E
abbrev sWR : Stmt := top 38
theorem scWR : FnScope ["places"] ["places"] (defScope sWR) := ⟨rfl, rfl, rfl, by decide +kernel, rfl, by decide +kernel, by decide +kernel⟩
theorem ok_wr {f : Addr} {fd : FuncData} (F : Fun K "_with_room" "_with_room" sWR f fd) (C1 : Callee P w K mg base (L2.CX P w) 3 "check_room" ["places"] (spCR CT)) (mC : mg "Picture" = some (.ref C)) (ini : ∃ (fI : Addr) (fd : FuncData), Mk K C fI ∧ FnOk P w K mg base (L2.CX P w) 6 fI fd ["self", "places"] (spPI K C CB) ∧ Binds K fd ["self", "places"] []) : FnOk P w K mg base (L2.CX P w) 8 f fd ["places"] (spWR C CT) := by
  obtain ⟨f1, fd1, m1, k1, b1, G1⟩ := C1
  obtain ⟨fI, fdI, M, G, b⟩ := ini
  refine F.okX scWR (fun vs H Q E h => ?_) (fun cdv A outer s H vs Q E hr h => ?_)
  · obtain ⟨a, ts, ps, rfl, _⟩ := h
    rfl
  · obtain ⟨a, ts, ps, rfl, lp, l4, l7, hy, hn⟩ := h
    refine ⟨_, (pss_cons (ps_expr (pe_callS (E := fun _ => E) G1 (hr.mono (by decide)) rfl m1 k1 b1 (fun σ => passAt (takes_of rfl rfl rfl rfl) σ) (pa_cons (pv 0) pa_nil))) (pss_one (ps_ret (pe_make (E := E0) M G (hr.mono (by decide)) rfl mC b .nil passL (pa_cons (pv 0) pa_nil))))), ?_⟩
    refine ⟨_, rfl, a, ts, ps, rfl, lp, l7, fun h9 H1 s1 => ?_, hn⟩
    refine ⟨_, rfl, mk_in (.inl ⟨ps, (lp.same s1).pls, ⟨l4, l7, h9⟩, fun x H2 s2 n2 pf2 => hy h9 x H2 (s1.trans s2) (s1.free n2) pf2⟩)⟩
end
end K12

namespace K12
open PySem PySem.Spec PyProof.Rows L2
theorem RoomP.same {C CT : Addr} {ps : List (Int × Int)} {H H1 : Hp} {Q : VK} {E : XK} (h : RoomP C CT ps H Q E) (s : Same H H1) : RoomP C CT ps H1 Q E :=
  ⟨fun b a H2 s2 n p => h.1 b a H2 (s.trans s2) (s.free n) p, fun b d H2 s2 e => h.2 b d H2 (s.trans s2) e⟩
def shf (x y : Int) (p : Int × Int) : Int × Int := (p.1 + x, p.2 + y)
def tms (n : Int) (p : Int × Int) : Int × Int := (n * p.1, n * p.2)
section
variable {P : Program} {w : World} {K : PySem.W.Frag} {mg : Str → Option Value} {base : Heap} {C CB CT CN : Addr}
/-- two numbers are checked, and the places that f makes of them are taken or too far -/
def spXY (K : PySem.W.Frag) (C CT CN : Addr) (f : Int → Int → Int × Int → Int × Int) : Sp := fun vs H Q E => ∃ (a : Addr) (x y : V) (tx ty : Bool) (ps : List (Int × Int)), vs = [.ref a, x, y] ∧ PicF H C a ps ∧ OkP ps ∧ Kd K H x tx ∧ Kd K H y ty ∧
  (isI x = false → Rz CN "x" H E) ∧ (∀ i, x = .int i → isI y = false → Rz CN "y" H E) ∧ (∀ i j, x = .int i → y = .int j → RoomP C CT (ps.map (f i j)) H Q E)
theorem int_of {x : V} (h : isI x = true) : ∃ i, x = .int i := by
  cases x <;> first | exact ⟨_, rfl⟩ | cases h
/-! ### Picture.shifted -/
abbrev sSh : Stmt := inClass (top 37) 6
abbrev nSh : List Str := ["self", "x", "y", "a", "b"]
theorem scSh : FnScope nSh ["self", "x", "y"] (defScope sSh) := ⟨rfl, rfl, rfl, by decide +kernel, rfl, by decide +kernel, by decide +kernel⟩
theorem ok_sh {f : Addr} {fd : FuncData} (F : Fun K "shifted" "Picture.shifted" sSh f fd) (T : PicT K C) (C1 : Callee P w K mg base (L2.CX P w) 3 "check_integer" ["value", "part"] (spCI K CN)) (C2 : Callee P w K mg base (L2.CX P w) 8 "_with_room" ["places"] (spWR C CT)) : FnOk P w K mg base (L2.CX P w) 9 f fd ["self", "x", "y"] (spXY K C CT CN shf) := by
  obtain ⟨f1, fd1, m1, k1, b1, G1⟩ := C1
  obtain ⟨f2, fd2, m2, k2, b2, G2⟩ := C2
  have cl := T.pc.cls
  have nd := scSh.nd
  have eG : G9 = 1000000000 := rfl
  refine F.okX scSh (fun vs H Q E h => ?_) (fun cdv A outer s H vs Q E hr h => ?_)
  · obtain ⟨a, x, y, tx, ty, ps, rfl, _⟩ := h
    rfl
  · obtain ⟨a, x, y, tx, ty, ps, rfl, pf, ok, kx, ky, hx, hy, hz⟩ := h
    refine ⟨_, (pss_cons (ps_expr (pe_callS (E := fun _ => E) G1 (hr.mono (by decide)) rfl m1 k1 b1 (fun σ => passAt (takes_of rfl rfl rfl rfl) σ) (pa_cons (pv 1) (pa_cons (pe_str) pa_nil)))) (pss_cons (ps_expr (pe_callS (E := fun _ => E) G1 (hr.mono (by decide)) rfl m1 k1 b1 (fun σ => passAt (takes_of rfl rfl rfl rfl) σ) (pa_cons (pv 2) (pa_cons (pe_str) pa_nil)))) (pss_one (ps_ret (pe_callS (E := fun _ => E) G2 (hr.mono (by decide)) rfl m2 k2 b2 (fun σ => passAt (takes_of rfl rfl rfl rfl) σ) (pa_cons (pe_lc (own := [("a", 3), ("b", 4)]) (g := gTup K 2 (gCons (gName 3) (gCons (gName 4) gNil))) (tt := tYes) rfl nd (pi_tup (pe_fld (pv 0) rfl)) (blkOk_by (N := nSh) (sc := defScope sSh) (by decide +kernel)) (fun _ _ _ _ _ => pg_tup rfl (pgs_cons (pg_name (i := 3) nd rfl (Or.inl rfl)) (pgs_cons (pg_name (i := 4) nd rfl (Or.inl rfl)) pgs_nil))) (fun _ _ _ _ _ => pts_nil)
        (fun _ _ _ _ _ => pe_tup (pa_cons (pe_op op_add (pv 3) (pv 1)) (pa_cons (pe_op op_add (pv 4) (pv 2)) pa_nil)))) pa_nil)))))), ?_⟩
    refine ⟨_, rfl, x, tx, "x", rfl, kx, fun ix => ?_, hx⟩
    obtain ⟨i, rfl⟩ := int_of ix
    refine ⟨_, rfl, y, ty, "y", rfl, ky, fun iy => ?_, hy i rfl⟩
    obtain ⟨j, rfl⟩ := int_of iy
    obtain ⟨dx, t, u, ha, ⟨us, ht, pr⟩, _⟩ := id pf
    have l4 := ok.1
    have l7 := ok.2.1
    refine ⟨_, rfl, a, C, dx, _, .ref t, rfl, ha, cl, T.n1, rfl, t, rfl, ⟨_, SqT.of ht⟩, fun D hD => ?_⟩
    refine lc_tup (K := K) (a := t) (xs := us.map V.ref) (Lm H D (shf i j) ps) (lm_nil hD) (fun i H' _ p => SqT.of (p.1 _ _ ht)) (fun n v H' hx p => ?_) (fun H' p => ?_)
    · have hi : n < ps.length := by
        have := (List.getElem?_eq_some_iff.mp hx).1
        rw [List.length_map, Paired.length pr] at this
        exact this
      obtain ⟨g, hg1, hg⟩ := paired_of pr (List.getElem?_eq_getElem hi)
      rw [List.getElem?_map, hg1] at hx
      have ev : V.ref g = v := Option.some.inj hx
      subst ev
      have eq := List.getElem?_eq_getElem hi
      have bq := ok.2.2 _ (List.getElem_mem hi)
      generalize ps[n] = q1 at hg eq bq
      obtain ⟨c1, c2, c3, c4⟩ := bq
      have hg : H' g = some (.tup [.int q1.1, .int q1.2]) := p.1 _ _ hg
      refine ⟨g, _, rfl, SqT.of hg, rfl, _, _, rfl, _, _, rfl, rfl, rfl, _, rfl, _, rfl, _, _, rfl, rfl, _, rfl, _, rfl, _, _, rfl, rfl, by show 2 ≤ sizeLine; decide, fun n nn => ?_⟩
      exact lm_step hD l7 p eq (same_new nn) upd_same
    · rw [List.length_map, Paired.length pr] at p
      obtain ⟨s, vs, lpv⟩ := lm_end p
      exact ⟨D, vs, _, rfl, lpv, by rw [List.length_map]; exact l4, by rw [List.length_map]; exact l7, (hz i j rfl rfl).same s⟩
/-! ### Picture.turned -/
abbrev sTu : Stmt := inClass (top 37) 7
abbrev nTu : List Str := ["self", "x", "y", "a", "b"]
theorem scTu : FnScope nTu ["self", "x", "y"] (defScope sTu) := ⟨rfl, rfl, rfl, by decide +kernel, rfl, by decide +kernel, by decide +kernel⟩
theorem ok_tu {f : Addr} {fd : FuncData} (F : Fun K "turned" "Picture.turned" sTu f fd) (T : PicT K C) (C1 : Callee P w K mg base (L2.CX P w) 3 "check_integer" ["value", "part"] (spCI K CN)) (C2 : Callee P w K mg base (L2.CX P w) 8 "_with_room" ["places"] (spWR C CT)) : FnOk P w K mg base (L2.CX P w) 9 f fd ["self", "x", "y"] (spXY K C CT CN trn) := by
  obtain ⟨f1, fd1, m1, k1, b1, G1⟩ := C1
  obtain ⟨f2, fd2, m2, k2, b2, G2⟩ := C2
  have cl := T.pc.cls
  have nd := scTu.nd
  have eG : G9 = 1000000000 := rfl
  refine F.okX scTu (fun vs H Q E h => ?_) (fun cdv A outer s H vs Q E hr h => ?_)
  · obtain ⟨a, x, y, tx, ty, ps, rfl, _⟩ := h
    rfl
  · obtain ⟨a, x, y, tx, ty, ps, rfl, pf, ok, kx, ky, hx, hy, hz⟩ := h
    refine ⟨_, (pss_cons (ps_expr (pe_callS (E := fun _ => E) G1 (hr.mono (by decide)) rfl m1 k1 b1 (fun σ => passAt (takes_of rfl rfl rfl rfl) σ) (pa_cons (pv 1) (pa_cons (pe_str) pa_nil)))) (pss_cons (ps_expr (pe_callS (E := fun _ => E) G1 (hr.mono (by decide)) rfl m1 k1 b1 (fun σ => passAt (takes_of rfl rfl rfl rfl) σ) (pa_cons (pv 2) (pa_cons (pe_str) pa_nil)))) (pss_one (ps_ret (pe_callS (E := fun _ => E) G2 (hr.mono (by decide)) rfl m2 k2 b2 (fun σ => passAt (takes_of rfl rfl rfl rfl) σ) (pa_cons (pe_lc (own := [("a", 3), ("b", 4)]) (g := gTup K 2 (gCons (gName 3) (gCons (gName 4) gNil))) (tt := tYes) rfl nd (pi_tup (pe_fld (pv 0) rfl)) (blkOk_by (N := nTu) (sc := defScope sTu) (by decide +kernel)) (fun _ _ _ _ _ => pg_tup rfl (pgs_cons (pg_name (i := 3) nd rfl (Or.inl rfl)) (pgs_cons (pg_name (i := 4) nd rfl (Or.inl rfl)) pgs_nil))) (fun _ _ _ _ _ => pts_nil)
        (fun _ _ _ _ _ => pe_tup (pa_cons (pe_op op_sub (pe_op op_mul (pv 1) (pv 3)) (pe_op op_mul (pv 2) (pv 4))) (pa_cons (pe_op op_add (pe_op op_mul (pv 2) (pv 3)) (pe_op op_mul (pv 1) (pv 4))) pa_nil)))) pa_nil)))))), ?_⟩
    refine ⟨_, rfl, x, tx, "x", rfl, kx, fun ix => ?_, hx⟩
    obtain ⟨i, rfl⟩ := int_of ix
    refine ⟨_, rfl, y, ty, "y", rfl, ky, fun iy => ?_, hy i rfl⟩
    obtain ⟨j, rfl⟩ := int_of iy
    obtain ⟨dx, t, u, ha, ⟨us, ht, pr⟩, _⟩ := id pf
    have l4 := ok.1
    have l7 := ok.2.1
    refine ⟨_, rfl, a, C, dx, _, .ref t, rfl, ha, cl, T.n1, rfl, t, rfl, ⟨_, SqT.of ht⟩, fun D hD => ?_⟩
    refine lc_tup (K := K) (a := t) (xs := us.map V.ref) (Lm H D (trn i j) ps) (lm_nil hD) (fun i H' _ p => SqT.of (p.1 _ _ ht)) (fun n v H' hx p => ?_) (fun H' p => ?_)
    · have hi : n < ps.length := by
        have := (List.getElem?_eq_some_iff.mp hx).1
        rw [List.length_map, Paired.length pr] at this
        exact this
      obtain ⟨g, hg1, hg⟩ := paired_of pr (List.getElem?_eq_getElem hi)
      rw [List.getElem?_map, hg1] at hx
      have ev : V.ref g = v := Option.some.inj hx
      subst ev
      have eq := List.getElem?_eq_getElem hi
      have bq := ok.2.2 _ (List.getElem_mem hi)
      generalize ps[n] = q1 at hg eq bq
      obtain ⟨c1, c2, c3, c4⟩ := bq
      have hg : H' g = some (.tup [.int q1.1, .int q1.2]) := p.1 _ _ hg
      refine ⟨g, _, rfl, SqT.of hg, rfl, _, _, rfl, _, _, rfl, rfl, rfl, _, rfl, _, rfl, _, _, rfl, rfl, .inr ⟨by omega, by omega⟩, _, rfl, _, rfl, _, _, rfl, rfl, .inr ⟨by omega, by omega⟩, _, _, rfl, rfl, _, rfl, _, rfl, _, _, rfl, rfl, .inr ⟨by omega, by omega⟩, _, rfl, _, rfl, _, _, rfl, rfl, .inr ⟨by omega, by omega⟩, _, _, rfl, rfl, by show 2 ≤ sizeLine; decide, fun n nn => ?_⟩
      exact lm_step hD l7 p eq (same_new nn) upd_same
    · rw [List.length_map, Paired.length pr] at p
      obtain ⟨s, vs, lpv⟩ := lm_end p
      exact ⟨D, vs, _, rfl, lpv, by rw [List.length_map]; exact l4, by rw [List.length_map]; exact l7, (hz i j rfl rfl).same s⟩
end
end K12

namespace K12
open PySem PySem.Spec PyProof.Rows L2
section
variable {P : Program} {w : World} {K : PySem.W.Frag} {mg : Str → Option Value} {base : Heap} {C CB CT CN : Addr}
/-! ### Picture.times -/
def spTi (K : PySem.W.Frag) (C CT CN : Addr) : Sp := fun vs H Q E => ∃ (a : Addr) (x : V) (tx : Bool) (ps : List (Int × Int)), vs = [.ref a, x] ∧ PicF H C a ps ∧ OkP ps ∧ Kd K H x tx ∧ (isI x = false → Rz CN "number" H E) ∧ (∀ i, x = .int i → RoomP C CT (ps.map (tms i)) H Q E)
abbrev sTi : Stmt := inClass (top 37) 9
abbrev nTi : List Str := ["self", "number", "a", "b"]
theorem scTi : FnScope nTi ["self", "number"] (defScope sTi) := ⟨rfl, rfl, rfl, by decide +kernel, rfl, by decide +kernel, by decide +kernel⟩
theorem ok_tms {f : Addr} {fd : FuncData} (F : Fun K "times" "Picture.times" sTi f fd) (T : PicT K C) (C1 : Callee P w K mg base (L2.CX P w) 3 "check_integer" ["value", "part"] (spCI K CN)) (C2 : Callee P w K mg base (L2.CX P w) 8 "_with_room" ["places"] (spWR C CT)) : FnOk P w K mg base (L2.CX P w) 9 f fd ["self", "number"] (spTi K C CT CN) := by
  obtain ⟨f1, fd1, m1, k1, b1, G1⟩ := C1
  obtain ⟨f2, fd2, m2, k2, b2, G2⟩ := C2
  have cl := T.pc.cls
  have nd := scTi.nd
  have eG : G9 = 1000000000 := rfl
  refine F.okX scTi (fun vs H Q E h => ?_) (fun cdv A outer s H vs Q E hr h => ?_)
  · obtain ⟨a, x, tx, ps, rfl, _⟩ := h
    rfl
  · obtain ⟨a, x, tx, ps, rfl, pf, ok, kx, hx, hz⟩ := h
    refine ⟨_, (pss_cons (ps_expr (pe_callS (E := fun _ => E) G1 (hr.mono (by decide)) rfl m1 k1 b1 (fun σ => passAt (takes_of rfl rfl rfl rfl) σ) (pa_cons (pv 1) (pa_cons (pe_str) pa_nil)))) (pss_one (ps_ret (pe_callS (E := fun _ => E) G2 (hr.mono (by decide)) rfl m2 k2 b2 (fun σ => passAt (takes_of rfl rfl rfl rfl) σ) (pa_cons (pe_lc (own := [("a", 2), ("b", 3)]) (g := gTup K 2 (gCons (gName 2) (gCons (gName 3) gNil))) (tt := tYes) rfl nd (pi_tup (pe_fld (pv 0) rfl)) (blkOk_by (N := nTi) (sc := defScope sTi) (by decide +kernel)) (fun _ _ _ _ _ => pg_tup rfl (pgs_cons (pg_name (i := 2) nd rfl (Or.inl rfl)) (pgs_cons (pg_name (i := 3) nd rfl (Or.inl rfl)) pgs_nil))) (fun _ _ _ _ _ => pts_nil)
        (fun _ _ _ _ _ => pe_tup (pa_cons (pe_op op_mul (pv 1) (pv 2)) (pa_cons (pe_op op_mul (pv 1) (pv 3)) pa_nil)))) pa_nil))))), ?_⟩
    refine ⟨_, rfl, x, tx, "number", rfl, kx, fun ix => ?_, hx⟩
    obtain ⟨i, rfl⟩ := int_of ix
    obtain ⟨dx, t, u, ha, ⟨us, ht, pr⟩, _⟩ := id pf
    have l4 := ok.1
    have l7 := ok.2.1
    refine ⟨_, rfl, a, C, dx, _, .ref t, rfl, ha, cl, T.n1, rfl, t, rfl, ⟨_, SqT.of ht⟩, fun D hD => ?_⟩
    refine lc_tup (K := K) (a := t) (xs := us.map V.ref) (Lm H D (tms i) ps) (lm_nil hD) (fun i H' _ p => SqT.of (p.1 _ _ ht)) (fun n v H' hx p => ?_) (fun H' p => ?_)
    · have hi : n < ps.length := by
        have := (List.getElem?_eq_some_iff.mp hx).1
        rw [List.length_map, Paired.length pr] at this
        exact this
      obtain ⟨g, hg1, hg⟩ := paired_of pr (List.getElem?_eq_getElem hi)
      rw [List.getElem?_map, hg1] at hx
      have ev : V.ref g = v := Option.some.inj hx
      subst ev
      have eq := List.getElem?_eq_getElem hi
      have bq := ok.2.2 _ (List.getElem_mem hi)
      generalize ps[n] = q1 at hg eq bq
      obtain ⟨c1, c2, c3, c4⟩ := bq
      have hg : H' g = some (.tup [.int q1.1, .int q1.2]) := p.1 _ _ hg
      refine ⟨g, _, rfl, SqT.of hg, rfl, _, _, rfl, _, _, rfl, rfl, rfl, _, rfl, _, rfl, _, _, rfl, rfl, .inr ⟨by omega, by omega⟩, _, rfl, _, rfl, _, _, rfl, rfl, .inr ⟨by omega, by omega⟩, by show 2 ≤ sizeLine; decide, fun n nn => ?_⟩
      exact lm_step hD l7 p eq (same_new nn) upd_same
    · rw [List.length_map, Paired.length pr] at p
      obtain ⟨s, vs, lpv⟩ := lm_end p
      exact ⟨D, vs, _, rfl, lpv, by rw [List.length_map]; exact l4, by rw [List.length_map]; exact l7, (hz i rfl).same s⟩
end
end K12

namespace K12
open PySem PySem.Spec PyProof.Rows L2
def ab (i : Int) : Int := if i < 0 then -i else i
theorem ab_le {i B : Int} : ab i ≤ B ↔ -B ≤ i ∧ i ≤ B := by
  unfold ab
  split <;> omega
theorem ab_nn (i : Int) : 0 ≤ ab i := by
  unfold ab
  split <;> omega
def mx (q : Int × Int) : Int := if ab q.1 < ab q.2 then ab q.2 else ab q.1
theorem mx_le {q : Int × Int} {B : Int} : mx q ≤ B ↔ -B ≤ q.1 ∧ q.1 ≤ B ∧ -B ≤ q.2 ∧ q.2 ≤ B := by
  have h1 := @ab_le q.1 B
  have h2 := @ab_le q.2 B
  unfold mx
  split
  · constructor
    · intro h
      have a := h1.mp (by omega)
      have b := h2.mp h
      exact ⟨a.1, a.2, b.1, b.2⟩
    · rintro ⟨_, _, h3, h4⟩
      exact h2.mpr ⟨h3, h4⟩
  · constructor
    · intro h
      have a := h1.mp h
      have b := h2.mp (by omega)
      exact ⟨a.1, a.2, b.1, b.2⟩
    · rintro ⟨h3, h4, _, _⟩
      exact h1.mpr ⟨h3, h4⟩
section
variable {P : Program} {w : World} {K : PySem.W.Frag} {mg : Str → Option Value} {base : Heap}
/-! ### _law_farthest -/
def spFar : Sp := fun vs H Q _ => ∃ (a : Addr) (ts : List Addr) (ps : List (Int × Int)), vs = [.ref a] ∧ LP H a ts ps ∧ 1 ≤ ps.length ∧ ps.length ≤ 7 ∧ ∀ H' m, Same H H' → 0 ≤ m → (∀ B, m ≤ B ↔ InB B ps) → Q (.int m) H'
abbrev sFar : Stmt := top 47
abbrev nFar : List Str := ["_law_places_here", "_law_place"]
theorem scFar : FnScope nFar ["_law_places_here"] (defScope sFar) := ⟨rfl, rfl, rfl, by decide +kernel, rfl, by decide +kernel, by decide +kernel⟩
theorem ok_far {f : Addr} {fd : FuncData} (F : Fun K "_law_farthest" "_law_farthest" sFar f fd) (B : Bn mg) (hmax : mg "max" = none) : FnOk P w K mg base CX0 1 f fd ["_law_places_here"] spFar := by
  have nd := scFar.nd
  refine F.ok scFar (fun vs H Q E h => ?_) (fun cdv A outer s H vs Q E hr h => ?_)
  · obtain ⟨a, ts, ps, rfl, _⟩ := h
    rfl
  · obtain ⟨a, ts, ps, rfl, lp, l1, l7, q⟩ := h
    refine ⟨_, pss_one (ps_ret (pe_callB (cr_max rfl) (by rfl) hmax (by decide +kernel) (pa_cons (pe_lc (own := [("_law_place", 1)]) (g := gName 1) (tt := tYes) rfl nd (pi_list (pv 0)) (blkOk_by (N := nFar) (sc := defScope sFar) (by decide +kernel)) (fun _ _ _ _ _ => (pg_name (i := 1) nd rfl (Or.inl rfl))) (fun _ _ _ _ _ => pts_nil)
      (fun _ _ _ _ _ => pe_callB (call_max2 rfl) (by rfl) hmax (by decide +kernel) (pa_cons ((pe_callB call_abs (by rfl) B.abs (by decide +kernel) (pa_cons ((pe_ix (r := rIxT K) ix_tupK (pv 1) (pe_int) (fun _ _ => rfl))) pa_nil))) (pa_cons ((pe_callB call_abs (by rfl) B.abs (by decide +kernel) (pa_cons ((pe_ix (r := rIxT K) ix_tupK (pv 1) (pe_int) (fun _ _ => rfl))) pa_nil))) pa_nil)))) pa_nil))), ?_⟩
    refine ⟨_, rfl, a, rfl, ⟨_, SqL.of lp.1⟩, fun D hD => ?_⟩
    refine lc_list (K := K) (a := a) (xs := ts.map V.ref) (fun i => At H D (((ps.map mx).take i).map V.int)) ⟨same_new hD, upd_same⟩ (fun i H' _ p => SqL.of (p.1 _ _ lp.1)) (fun i v H' hx p => ?_) (fun H' p => ?_)
    · have hi : i < ps.length := by
        have := (List.getElem?_eq_some_iff.mp hx).1
        rw [List.length_map, lp.len] at this
        exact this
      obtain ⟨g, q1, eg, eq, hg⟩ := lp.at hi
      rw [eg] at hx
      have ev : V.ref g = v := Option.some.inj hx
      subst ev
      have hg : H' g = some (.tup [.int q1.1, .int q1.2]) := p.1 _ _ hg
      refine ⟨rfl, _, rfl, g, _, 0, _, rfl, rfl, SqT.of hg, rfl, q1.1, rfl, _, rfl, g, _, 1, _, rfl, rfl, SqT.of hg, rfl, q1.2, rfl, ab q1.1, ab q1.2, rfl, _, p.2, by rw [List.length_map]; exact small1000 (Nat.le_trans (List.length_take_le' _ _) (by rw [List.length_map]; omega)), p.step hD Same.me ?_⟩
      rw [take_more (show (ps.map mx)[i]? = some (mx q1) by rw [List.getElem?_map, eq]; rfl), List.map_append]
      rfl
    · rw [List.length_map, lp.len, List.take_of_length_le (by rw [List.length_map]; exact Nat.le_refl _)] at p
      refine ⟨D, ps.map mx, rfl, SqL.of p.2, by rw [List.length_map]; omega, fun m hm hmx => ?_⟩
      obtain ⟨q1, hq1, rfl⟩ := List.mem_map.mp hm
      refine q H' _ p.1 ?_ (fun B => ⟨fun h x hx => mx_le.mp (Int.le_trans (hmx _ (List.mem_map.mpr ⟨x, hx, rfl⟩)) h), fun h => mx_le.mpr (h q1 hq1)⟩)
      have h1 := ab_nn q1.1
      have h2 := ab_nn q1.2
      show 0 ≤ if ab q1.1 < ab q1.2 then ab q1.2 else ab q1.1
      split <;> assumption
end
end K12

namespace K12
open PySem PySem.Spec PyProof.Rows L2
section
variable {P : Program} {w : World} {K : PySem.W.Frag} {mg : Str → Option Value} {base : Heap}
/-! ### _law_due -/
/-- places, or that one is too far -/
def spDue : Sp := fun vs H Q _ => ∃ (a : Addr) (ts : List Addr) (ps : List (Int × Int)), vs = [.ref a] ∧ LP H a ts ps ∧ 1 ≤ ps.length ∧ ps.length ≤ 7 ∧ (InB G9 ps → ∀ H', Same H H' → Q (.ref a) H') ∧
  (¬ InB G9 ps → ∀ H' t, Same H H' → H' t = some (.tup [.str "places", .int 1000000000]) → Q (.ref t) H')
abbrev sDue : Stmt := top 49
theorem scDue : FnScope ["_law_places_here"] ["_law_places_here"] (defScope sDue) := ⟨rfl, rfl, rfl, by decide +kernel, rfl, by decide +kernel, by decide +kernel⟩
theorem ok_due {f : Addr} {fd : FuncData} (F : Fun K "_law_due" "_law_due" sDue f fd) (C1 : Callee P w K mg base CX0 1 "_law_farthest" ["_law_places_here"] spFar) : FnOk P w K mg base CX0 2 f fd ["_law_places_here"] spDue := by
  obtain ⟨f1, fd1, m1, k1, b1, G1⟩ := C1
  refine F.ok scDue (fun vs H Q E h => ?_) (fun cdv A outer s H vs Q E hr h => ?_)
  · obtain ⟨a, ts, ps, rfl, _⟩ := h
    rfl
  · obtain ⟨a, ts, ps, rfl, lp, l1, l7, hy, hn⟩ := h
    refine ⟨_, pss_one (ps_ret (pe_ifExp (pt_cmpR op_le (pe_call G1 (hr.mono (by decide)) rfl m1 k1 b1 .nil pass0 (pa_cons (pv 0) pa_nil)) (pe_op op_pow pe_int pe_int) (nomark _)) (pv 0) (pe_tup (pa_cons (pe_str) (pa_cons (pe_op op_pow pe_int pe_int) pa_nil))))), ?_⟩
    have e9 : (10 : Int) ^ (Int.toNat 9) = 1000000000 := by decide
    refine ⟨_, rfl, a, ts, ps, rfl, lp, l1, l7, fun H1 m s1 m0 hm => ?_⟩
    refine ⟨_, _, rfl, rfl, ⟨by decide, by decide, by decide⟩, _, _, rfl, rfl, _, rfl, ?_⟩
    by_cases h : m ≤ (10 : Int) ^ (Int.toNat 9)
    · rw [decide_eq_true (show m ≤ (fun i j : Int => i ^ j.toNat) 10 9 from h)]
      rw [e9] at h
      exact iteT ⟨_, rfl, hy ((hm _).mp h) _ s1⟩
    · rw [decide_eq_false (show ¬ m ≤ (fun i j : Int => i ^ j.toNat) 10 9 from h)]
      rw [e9] at h
      refine iteF ⟨_, _, rfl, rfl, ⟨by decide, by decide, by decide⟩, by show 2 ≤ sizeLine; decide, fun t nt => ?_⟩
      refine hn (fun b => h ((hm _).mpr b)) _ t (s1.trans (same_new nt)) ?_
      rw [← e9]
      exact upd_same
end
end K12

namespace K12
open PySem PySem.Spec PyProof.Rows L2
/-- the steps from pin 0 -/
def stp (ps : List (Int × Int)) : List (Int × Int) := (ps.drop 1).map fun p => (p.1 - (ps.headD (0, 0)).1, p.2 - (ps.headD (0, 0)).2)
theorem stp_len (ps : List (Int × Int)) : (stp ps).length = ps.length - 1 := by
  unfold stp
  rw [List.length_map, List.length_drop]
theorem stp_fst (ps : List (Int × Int)) : (stp ps).map (·.1) = sk 0 ps := by
  unfold stp sk
  rw [List.map_map]
  rfl
theorem stp_snd (ps : List (Int × Int)) : (stp ps).map (·.2) = sk 1 ps := by
  unfold stp sk
  rw [List.map_map]
  rfl
theorem stp_sk {ps : List (Int × Int)} {i : Nat} {q : Int × Int} (h : (stp ps)[i]? = some q) : (sk 0 ps).getD i 0 = q.1 ∧ (sk 1 ps).getD i 0 = q.2 := by
  rw [← stp_fst, ← stp_snd, List.getD_eq_getElem?_getD, List.getD_eq_getElem?_getD, List.getElem?_map, List.getElem?_map, h]
  exact ⟨rfl, rfl⟩
theorem stp_bd {ps : List (Int × Int)} (ok : OkP ps) {i : Nat} {q : Int × Int} (h : (stp ps)[i]? = some q) : (-(2 ^ 40) < q.1 ∧ q.1 < 2 ^ 40) ∧ (-(2 ^ 40) < q.2 ∧ q.2 < 2 ^ 40) := by
  obtain ⟨e1, e2⟩ := stp_sk h
  rw [← e1, ← e2]
  exact ⟨(sk_bd ok 0).get i, (sk_bd ok 1).get i⟩
theorem refs_ne {H : Hp} {a r : Addr} {rs : List Addr} {x : Int} {zs : List V} (h : H a = some (.lst (rs.map V.ref))) (e : H r = some (.lst (.int x :: zs))) : r ≠ a := fun z => by
  subst z
  rw [h] at e
  have e := HO.lst.inj (Option.some.inj e)
  cases rs with
  | nil => cases e
  | cons _ _ => cases (List.cons.inj e).1
theorem mrow_head {m : Nat → Nat → Int} {n j : Nat} (h : 0 < n) : ∃ x zs, (mrow m n j).map V.int = .int x :: zs := by
  cases e : mrow m n j with
  | nil =>
    have : (mrow m n j).length = n := by
      unfold mrow
      rw [List.length_map, List.length_range]
    rw [e] at this
    cases n with
    | zero => cases h
    | succ n => cases this
  | cons x zs => exact ⟨x, zs.map V.int, rfl⟩
/-- a list of lists: the table m of n rows -/
def MatP (H : Hp) (t : Addr) (m : Nat → Nat → Int) (n : Nat) : Prop := ∃ rs : List Addr, rs.length = n ∧ H t = some (.lst (rs.map V.ref)) ∧ ∀ (j : Nat) (r : Addr), rs[j]? = some r → H r = some (.lst ((mrow m n j).map V.int))
section
variable {P : Program} {w : World} {K : PySem.W.Frag} {mg : Str → Option Value} {base : Heap}
/-! ### _law_products -/
def spLP : Sp := fun vs H Q _ => ∃ (a : Addr) (ts : List Addr) (ps : List (Int × Int)), vs = [.ref a] ∧ LP H a ts ps ∧ OkP ps ∧ ∀ H' t, Same H H' → MatP H' t (pg (sk 0 ps) (sk 1 ps)) (ps.length - 1) → Q (.ref t) H'
abbrev sLP : Stmt := top 50
abbrev nLP : List Str := ["_law_places_here", "_law_steps", "_law_place", "_law_step", "_law_its"]
theorem scLP : FnScope nLP ["_law_places_here"] (defScope sLP) := ⟨rfl, rfl, rfl, by decide +kernel, rfl, by decide +kernel, by decide +kernel⟩
abbrev scP1 : Scope := { kind := .function, names := [(".0", .local), ("_law_step", .cell), ("_law_steps", .cell)], isGenerator := false, isCoroutine := false }
theorem ok_lp {f : Addr} {fd : FuncData} (F : Fun K "_law_products" "_law_products" sLP f fd) (B : Bn mg) : FnOk P w K mg base CX0 1 f fd ["_law_places_here"] spLP := by
  have nd := scLP.nd
  refine F.ok scLP (fun vs H Q E h => ?_) (fun cdv A outer s H vs Q E hr h => ?_)
  · obtain ⟨a, ts, ps, rfl, _⟩ := h
    rfl
  · obtain ⟨a, ts, ps, rfl, lp, ok, q⟩ := h
    have l4 := ok.1
    have l7 := ok.2.1
    refine ⟨_, (pss_cons (ps_set (i := 1) nd rfl (Or.inr rfl) (pe_lc (own := [("_law_place", 2)]) (g := gName 2) (tt := tYes) rfl nd (pi_listK K (pe_slice (r := rSlL K) sl_listK (pv 0) (po_some pe_int) (po_none))) (blkOk_by (N := nLP) (sc := defScope sLP) (by decide +kernel)) (fun _ _ _ _ _ => (pg_name (i := 2) nd rfl (Or.inl rfl))) (fun _ _ _ _ _ => pts_nil)
        (fun _ _ _ _ _ => pe_tup (pa_cons (pe_op op_sub (pe_ix (r := rIxT K) ix_tupK (pv 2) (pe_int) (fun _ _ => rfl)) (pe_ix (r := rIxT K) ix_tupK ((pe_ix (r := rIxL K) ix_listK (pv 0) (pe_int) (fun _ _ => rfl))) (pe_int) (fun _ _ => rfl))) (pa_cons (pe_op op_sub (pe_ix (r := rIxT K) ix_tupK (pv 2) (pe_int) (fun _ _ => rfl)) (pe_ix (r := rIxT K) ix_tupK ((pe_ix (r := rIxL K) ix_listK (pv 0) (pe_int) (fun _ _ => rfl))) (pe_int) (fun _ _ => rfl))) pa_nil))))) (pss_one (ps_ret (pe_lc (own := [("_law_step", 3)]) (g := gName 3) (tt := tYes) rfl nd (pi_list (pv 1)) (blkOk_by (N := nLP) (sc := defScope sLP) (by decide +kernel)) (fun _ _ _ _ _ => pg_name (i := 3) nd rfl (Or.inr rfl)) (fun _ _ _ _ _ => pts_nil)
        (fun _ _ _ _ _ => pe_lc (own := [("_law_its", 4)]) (g := gName 4) (tt := tYes) rfl nd (pi_listK K (pv 1)) (blkOk_by (N := nLP) (sc := scP1) (by decide +kernel)) (fun _ _ _ _ _ => pg_name (i := 4) nd rfl (Or.inl rfl)) (fun _ _ _ _ _ => pts_nil)
          (fun _ _ _ _ _ => pe_op op_add (pe_op op_mul (pe_ix (r := rIxT K) ix_tupK (pv 3) (pe_int) (fun _ _ => rfl)) (pe_ix (r := rIxT K) ix_tupK (pv 4) (pe_int) (fun _ _ => rfl))) (pe_op op_mul (pe_ix (r := rIxT K) ix_tupK (pv 3) (pe_int) (fun _ _ => rfl)) (pe_ix (r := rIxT K) ix_tupK (pv 4) (pe_int) (fun _ _ => rfl))))))))), ?_⟩
    have lt := lp.len
    obtain ⟨t0, p0, e0, z0, h0⟩ := lp.at (i := 0) (by omega)
    have h0 : H t0 = some (.tup [.int p0.1, .int p0.2]) := h0
    refine ⟨_, rfl, _, rfl, a, _, rfl, SqL.of lp.1, fun c hc => ?_⟩
    rw [cut1 (by rw [List.length_map]; omega)]
    have sc := same_new (o := .lst ((ts.map V.ref).drop 1)) hc
    have wc : upd H c (.lst ((ts.map V.ref).drop 1)) c = some (.lst ((ts.map V.ref).drop 1)) := upd_same
    generalize upd H c (.lst ((ts.map V.ref).drop 1)) = H1 at sc wc ⊢
    refine ⟨c, rfl, ⟨_, SqL.of wc⟩, fun D hD => ?_⟩
    have hh : ps.headD (0, 0) = p0 := by
      cases ps with
      | nil => cases z0
      | cons x xs => exact Option.some.inj z0
    refine lc_list (K := K) (a := c) (xs := (ts.map V.ref).drop 1) (fun i H' => Same H1 H' ∧ ∃ us, LP H' D us ((stp ps).take i)) ⟨same_new hD, [], upd_same, .nil⟩ (fun i H' _ p => SqL.of (p.1 _ _ wc)) (fun i x H' hx p => ?_) (fun H' p => ?_)
    · obtain ⟨s1, us, lpu⟩ := p
      rw [List.getElem?_drop] at hx
      have hi : 1 + i < ps.length := by
        have := (List.getElem?_eq_some_iff.mp hx).1
        rw [List.length_map] at this
        omega
      obtain ⟨g, q1, eg, eq, hg⟩ := lp.at hi
      rw [eg] at hx
      have ex : x = .ref g := (Option.some.inj hx).symm
      subst ex
      have hg : H g = some (.tup [.int q1.1, .int q1.2]) := hg
      have s2 := sc.trans s1
      refine ⟨rfl, ?_⟩
      refine ⟨_, rfl, g, _, 0, _, rfl, rfl, SqT.of (s2 _ _ hg), rfl, _, rfl, a, _, 0, _, rfl, rfl, SqL.of (s2 _ _ lp.1), atI_nat (j := 0) e0, t0, _, 0, _, rfl, rfl, SqT.of (s2 _ _ h0), rfl, _, _, rfl, rfl, ?_⟩
      refine ⟨_, rfl, g, _, 1, _, rfl, rfl, SqT.of (s2 _ _ hg), rfl, _, rfl, a, _, 0, _, rfl, rfl, SqL.of (s2 _ _ lp.1), atI_nat (j := 0) e0, t0, _, 1, _, rfl, rfl, SqT.of (s2 _ _ h0), rfl, _, _, rfl, rfl, ?_⟩
      refine ⟨by show 2 ≤ sizeLine; decide, fun n hn => ?_⟩
      have sn := same_new (o := .tup [V.int (q1.1 - p0.1), V.int (q1.2 - p0.2)]) hn
      have lpn := lpu.same sn
      have eS : (stp ps)[i]? = some (q1.1 - p0.1, q1.2 - p0.2) := by
        unfold stp
        rw [List.getElem?_map, List.getElem?_drop, eq, hh]
        rfl
      have z := lpn.snoc (g := n) (q := (q1.1 - p0.1, q1.2 - p0.2)) upd_same
      rw [← take_more eS] at z
      refine ⟨_, lpn.1, by rw [List.length_map, lpn.len]; exact small1000 (Nat.le_trans (List.length_take_le _ _) (by omega)), fun b o e => ?_, _, z⟩
      rw [upd_ne (ne_of_none e hD)]
      exact sn _ _ (s1 _ _ e)
    obtain ⟨s1, us, lpu⟩ := p
    rw [List.take_of_length_le (by rw [stp_len, List.length_drop, List.length_map]; omega)] at lpu
    have s01 := sc.trans s1
    obtain ⟨m, hm⟩ : ∃ m, m = pg (sk 0 ps) (sk 1 ps) := ⟨_, rfl⟩
    obtain ⟨n, hn⟩ : ∃ n, n = ps.length - 1 := ⟨_, rfl⟩
    rw [← hm, ← hn] at q
    have lsp := stp_len ps
    have usn : (us.map V.ref).length = n := by
      rw [List.length_map, lpu.len, lsp, hn]
    have mat : ∀ {i j : Nat} {q1 q2 : Int × Int}, (stp ps)[i]? = some q1 → (stp ps)[j]? = some q2 → q1.1 * q2.1 + q1.2 * q2.2 = m i j := fun {i j q1 q2} e1 e2 => by
      obtain ⟨a1, a2⟩ := stp_sk e1
      obtain ⟨b1, b2⟩ := stp_sk e2
      rw [hm]
      unfold pg
      rw [a1, a2, b1, b2]
    have step2 : ∀ {H2 : Hp} {i : Nat} {x : V}, Same H' H2 → (us.map V.ref)[i]? = some x → ∃ (g : Addr) (q : Int × Int), x = .ref g ∧ H2 g = some (.tup [.int q.1, .int q.2]) ∧ (stp ps)[i]? = some q := fun {H2 i x} s0 hx => by
      have hi : i < (stp ps).length := by
        have := (List.getElem?_eq_some_iff.mp hx).1
        rw [List.length_map, lpu.len] at this
        exact this
      obtain ⟨g, q, eg, eq, hg⟩ := lpu.at hi
      rw [eg] at hx
      exact ⟨g, q, (Option.some.inj hx).symm, s0 _ _ hg, eq⟩
    refine ⟨_, rfl, D, rfl, ⟨_, SqL.of lpu.1⟩, fun D4 hD4 => ?_⟩
    refine lc_list (K := K) (a := D) (xs := us.map V.ref) (fun i H2 => Same H' H2 ∧ ∃ rows : List Addr, rows.length = i ∧ H2 D4 = some (.lst (rows.map V.ref)) ∧ ∀ (j : Nat) r, rows[j]? = some r → H2 r = some (.lst ((mrow m n j).map V.int))) ⟨same_new hD4, [], rfl, upd_same, fun j r e => by simp at e⟩ (fun i H2 _ p => SqL.of (p.1 _ _ lpu.1)) (fun i x H2 hx p => ?_) (fun H2 p => ?_)
    · obtain ⟨s2, rows, lr, hd, hrw⟩ := p
      obtain ⟨g, q1, rfl, hg, eq1⟩ := step2 s2 hx
      refine ⟨rfl, _, rfl, D, rfl, ⟨_, SqL.of (s2 _ _ lpu.1)⟩, fun D5 hD5 => ?_⟩
      refine lc_list (K := K) (a := D) (xs := us.map V.ref) (fun j => At H2 D5 (((mrow m n i).take j).map V.int)) ⟨same_new hD5, upd_same⟩ (fun i H3 _ p => SqL.of (p.1 _ _ (s2 _ _ lpu.1))) (fun j x H3 hx2 p => ?_) (fun H3 p => ?_)
      · obtain ⟨g2, q2, rfl, hg2, eq2⟩ := step2 (s2.trans p.1) hx2
        have hg1 := p.1 _ _ hg
        obtain ⟨⟨c1, c2⟩, c3, c4⟩ := stp_bd ok eq1
        refine ⟨rfl, _, rfl, g, _, 0, _, rfl, rfl, SqT.of hg1, rfl, _, rfl, g2, _, 0, _, rfl, rfl, SqT.of hg2, rfl, _, _, rfl, rfl, .inl ⟨by omega, by omega⟩, ?_⟩
        refine ⟨_, rfl, g, _, 1, _, rfl, rfl, SqT.of hg1, rfl, _, rfl, g2, _, 1, _, rfl, rfl, SqT.of hg2, rfl, _, _, rfl, rfl, .inl ⟨by omega, by omega⟩, _, _, rfl, rfl, ?_⟩
        have hj : j < n := by
          have := (List.getElem?_eq_some_iff.mp hx2).1
          omega
        have er : (mrow m n i)[j]? = some (m i j) := by
          unfold mrow
          rw [List.getElem?_map, List.getElem?_range hj]
          rfl
        refine ⟨_, p.2, by rw [List.length_map]; exact small1000 (Nat.le_trans (List.length_take_le' _ _) (by unfold mrow; rw [List.length_map, List.length_range]; omega)), p.step hD5 Same.me ?_⟩
        rw [take_more er, List.map_append, ← mat eq1 eq2]
        rfl
      · rw [usn, List.take_of_length_le (by unfold mrow; rw [List.length_map, List.length_range]; exact Nat.le_refl _)] at p
        have hd2 := p.1 _ _ hd
        have hi : i < n := by
          have := (List.getElem?_eq_some_iff.mp hx).1
          omega
        refine ⟨_, hd2, by rw [List.length_map]; exact small1000 (by omega), sameUpd (s2.trans p.1) hD4, rows ++ [D5], by simp [lr], by rw [upd_same, List.map_append]; rfl, fun j u e => ?_⟩
        have nuD : ∀ {u : Addr} {k : Nat}, H3 u = some (.lst ((mrow m n k).map V.int)) → u ≠ D4 := fun {u k} h => by
          obtain ⟨x, zs, e⟩ := mrow_head (m := m) (j := k) (show 0 < n by omega)
          rw [e] at h
          exact refs_ne hd2 h
        by_cases hj : j < rows.length
        · rw [List.getElem?_append_left hj] at e
          have e2 := p.1 _ _ (hrw j u e)
          rw [upd_ne (nuD e2)]
          exact e2
        · have hj2 : j = rows.length := by
            rcases Nat.lt_or_ge j (rows ++ [D5]).length with h | h
            · simp at h
              omega
            · rw [List.getElem?_eq_none h] at e
              cases e
          subst hj2
          rw [List.getElem?_append_right (Nat.le_refl _), Nat.sub_self] at e
          have eu : D5 = u := Option.some.inj e
          subst eu
          rw [upd_ne (nuD p.2), lr]
          exact p.2
    · obtain ⟨s2, rows, lr, hd, hrw⟩ := p
      rw [usn] at lr
      exact q _ D4 (s01.trans s2) ⟨rows, lr, hd, hrw⟩
end
end K12

namespace K12
open PySem PySem.Spec PyProof.Rows L2
/-! ### tables as data -/
def iL (ns : List Int) : PyData := .list (ns.map PyData.int)
theorem ints_lay : ∀ ns : List Int, PyData.canLayAll0 (ns.map PyData.int) = true
  | [] => rfl
  | n :: ns => by
    show (PyData.canLay0 (.int n) && PyData.canLayAll0 (ns.map PyData.int)) = true
    rw [ints_lay ns]
    rfl
theorem ints_depth : ∀ ns : List Int, PyData.depthAll (ns.map PyData.int) ≤ 0
  | [] => by decide
  | n :: ns => by
    show max (PyData.depth (.int n)) (PyData.depthAll (ns.map PyData.int)) ≤ 0
    have h := ints_depth ns
    have e : PyData.depth (.int n) = 0 := rfl
    omega
theorem iLs_lay : ∀ rs : List (List Int), PyData.canLayAll0 (rs.map iL) = true
  | [] => rfl
  | r :: rs => by
    show (PyData.canLayAll0 (r.map PyData.int) && PyData.canLayAll0 (rs.map iL)) = true
    rw [iLs_lay rs, ints_lay r]
    rfl
theorem iLs_depth : ∀ rs : List (List Int), PyData.depthAll (rs.map iL) ≤ 1
  | [] => by decide
  | r :: rs => by
    show max (PyData.depthAll (r.map PyData.int) + 1) (PyData.depthAll (rs.map iL)) ≤ 1
    have h := iLs_depth rs
    have h2 := ints_depth r
    omega
theorem iLs_shaped (rs : List (List Int)) : SeqAt.shaped (.list (rs.map iL)) = true := by
  show (PyData.canLayAll0 (rs.map iL) && decide (PyData.depthAll (rs.map iL) + 1 ≤ 64)) = true
  rw [iLs_lay, Bool.true_and, decide_eq_true_iff]
  have := iLs_depth rs
  omega
theorem ints_self : ∀ ns : List Int, PyData.eqvAll (ns.map PyData.int) (ns.map PyData.int) = true
  | [] => rfl
  | n :: ns => by
    show ((n == n) && PyData.eqvAll (ns.map PyData.int) (ns.map PyData.int)) = true
    rw [ints_self ns, beq_self_eq_true]
    rfl
theorem iLs_self : ∀ rs : List (List Int), PyData.eqvAll (rs.map iL) (rs.map iL) = true
  | [] => rfl
  | r :: rs => by
    show (PyData.eqvAll (r.map PyData.int) (r.map PyData.int) && PyData.eqvAll (rs.map iL) (rs.map iL)) = true
    rw [ints_self r, iLs_self rs]
    rfl
def tab (m : Nat → Nat → Int) (n : Nat) : List (List Int) := (List.range n).map (mrow m n)
theorem MatP.dp {K : PySem.W.Frag} {H : Hp} {t : Addr} {m : Nat → Nat → Int} {n : Nat} (h : MatP H t m n) : Dp K H (.ref t) (.list ((tab m n).map iL)) := by
  obtain ⟨rs, l, e, r⟩ := h
  refine .lst (SqL.of e) ?_
  have go : ∀ (rs : List Addr) (zs : List (List Int)), rs.length = zs.length → (∀ (j : Nat) x z, rs[j]? = some x → zs[j]? = some z → H x = some (.lst (z.map V.int))) → DpAll K H (rs.map V.ref) (zs.map iL) := by
    intro rs
    induction rs with
    | nil =>
      intro zs l _
      cases zs with
      | nil => exact .nil
      | cons _ _ => cases l
    | cons x rs ih =>
      intro zs l h
      cases zs with
      | nil => cases l
      | cons z zs => exact .cons (.lst (SqL.of (h 0 x z rfl rfl)) (dp_ints z)) (ih zs (by simpa using l) fun j x z e1 e2 => h (j + 1) x z (by simpa using e1) (by simpa using e2))
  refine go rs _ (by unfold tab; rw [List.length_map, List.length_range, l]) fun j x z e1 e2 => ?_
  have hj : j < n := by
    have := (List.getElem?_eq_some_iff.mp e1).1
    omega
  unfold tab at e2
  rw [List.getElem?_map, List.getElem?_range hj] at e2
  rw [← Option.some.inj e2]
  exact r j x e1
theorem matp_same {H H' : Hp} {a : Addr} {m : Nat → Nat → Int} {n : Nat} (h : MatP H a m n) (s : Same H H') : MatP H' a m n := let ⟨rs, l, e, r⟩ := h; ⟨rs, l, s _ _ e, fun j x z => s _ _ (r j x z)⟩
/-- what a comprehension that makes a table keeps -/
def Tb (H0 : Hp) (D : Addr) (m : Nat → Nat → Int) (n i : Nat) (H : Hp) : Prop := Same H0 H ∧ ∃ rows : List Addr, rows.length = i ∧ H D = some (.lst (rows.map V.ref)) ∧ ∀ (j : Nat) r, rows[j]? = some r → H r = some (.lst ((mrow m n j).map V.int))
theorem tb_nil {H0 : Hp} {D : Addr} {m : Nat → Nat → Int} {n : Nat} (hD : H0 D = none) : Tb H0 D m n 0 (upd H0 D (.lst [])) := ⟨same_new hD, [], rfl, upd_same, fun j r e => by simp at e⟩
theorem tb_step {H0 H2 H3 : Hp} {D r : Addr} {m : Nat → Nat → Int} {n i : Nat} (hD : H0 D = none) (c : Tb H0 D m n i H2) (hi : i < n) (h7 : n ≤ 7) (s : Same H2 H3) (hr : H3 r = some (.lst ((mrow m n i).map V.int))) :
    ∃ acc, H3 D = some (.lst acc) ∧ acc.length < sizeLine ∧ Tb H0 D m n (i + 1) (upd H3 D (.lst (acc ++ [V.ref r]))) := by
  obtain ⟨s0, rows, lr, hd, hrw⟩ := c
  have hd2 := s _ _ hd
  refine ⟨_, hd2, by rw [List.length_map]; exact small1000 (by omega), sameUpd (s0.trans s) hD, rows ++ [r], by simp [lr], by rw [upd_same, List.map_append]; rfl, fun j u e => ?_⟩
  have nuD : ∀ {u : Addr} {k : Nat}, H3 u = some (.lst ((mrow m n k).map V.int)) → u ≠ D := fun {u k} h => by
    obtain ⟨x, zs, e⟩ := mrow_head (m := m) (j := k) (show 0 < n by omega)
    rw [e] at h
    exact refs_ne hd2 h
  by_cases hj : j < rows.length
  · rw [List.getElem?_append_left hj] at e
    have e2 := s _ _ (hrw j u e)
    rw [upd_ne (nuD e2)]
    exact e2
  · have hj2 : j = rows.length := by
      rcases Nat.lt_or_ge j (rows ++ [r]).length with h | h
      · simp at h
        omega
      · rw [List.getElem?_eq_none h] at e
        cases e
    subst hj2
    rw [List.getElem?_append_right (Nat.le_refl _), Nat.sub_self] at e
    have eu : r = u := Option.some.inj e
    subst eu
    rw [upd_ne (nuD hr), lr]
    exact hr
theorem bd_at {ps : List (Int × Int)} (ok : OkP ps) (k i : Nat) : ((sk k ps).getD i 0).natAbs ≤ 2000000000 := by
  rw [List.getD_eq_getElem?_getD]
  cases e : (sk k ps)[i]? with
  | none => decide
  | some x =>
    have hn := List.mem_of_getElem? e
    unfold sk at hn
    obtain ⟨p, hp, rfl⟩ := List.mem_map.mp hn
    have b1 := ok.2.2 p (List.mem_of_mem_drop hp)
    have b2 : -G9 ≤ (ps.headD (0, 0)).1 ∧ (ps.headD (0, 0)).1 ≤ G9 ∧ -G9 ≤ (ps.headD (0, 0)).2 ∧ (ps.headD (0, 0)).2 ≤ G9 := by
      cases ps with
      | nil => exact absurd ok.1 (by decide)
      | cons q qs => exact ok.2.2 q List.mem_cons_self
    show (it k p - it k (ps.headD (0, 0))).natAbs ≤ 2000000000
    unfold it
    have e : G9 = 1000000000 := rfl
    split <;> omega
theorem pg_b {ps : List (Int × Int)} (ok : OkP ps) (i j : Nat) : -(2 ^ 64) < pg (sk 0 ps) (sk 1 ps) i j ∧ pg (sk 0 ps) (sk 1 ps) i j < 2 ^ 64 := by
  have h1 := Nat.mul_le_mul (bd_at ok 0 i) (bd_at ok 0 j)
  have h2 := Nat.mul_le_mul (bd_at ok 1 i) (bd_at ok 1 j)
  rw [← Int.natAbs_mul] at h1 h2
  unfold pg
  omega
section
variable {P : Program} {w : World} {K : PySem.W.Frag} {mg : Str → Option Value} {base : Heap} {C CB : Addr}
/-! ### _law_are_times -/
def spTm (C : Addr) : Sp := fun vs H Q _ => ∃ (a b : Addr) (k : Int) (ts : List Addr) (ps qs : List (Int × Int)), vs = [.ref a, .ref b, .int k] ∧ PicF H C a qs ∧ OkP qs ∧ LP H b ts ps ∧ OkP ps ∧ qs.length = ps.length ∧
  (∀ i j, i < ps.length - 1 → j < ps.length - 1 → pg (sk 0 qs) (sk 1 qs) i j = k * pg (sk 0 ps) (sk 1 ps) i j) ∧ RB true H Q
abbrev sTm : Stmt := top 51
abbrev nTm : List Str := ["_law_picture", "_law_places_here", "_law_number", "_law_row", "_law_one"]
theorem scTm : FnScope nTm ["_law_picture", "_law_places_here", "_law_number"] (defScope sTm) := ⟨rfl, rfl, rfl, by decide +kernel, rfl, by decide +kernel, by decide +kernel⟩
abbrev scT1 : Scope := { kind := .function, names := [(".0", .local), ("_law_row", .local), ("_law_number", .cell)], isGenerator := false, isCoroutine := false }
theorem ok_tm {f : Addr} {fd : FuncData} (F : Fun K "_law_are_times" "_law_are_times" sTm f fd) (B : Bn mg) (cl : Cls K C) (pp : ∃ (f : Addr) (fd : FuncData), Meth K C "products" f ∧ FnOk P w K mg base CX0 2 f fd ["self"] (spPP C) ∧ Binds K fd ["self"] []) (C1 : Callee P w K mg base CX0 1 "_law_products" ["_law_places_here"] spLP) : FnOk P w K mg base CX0 3 f fd ["_law_picture", "_law_places_here", "_law_number"] (spTm C) := by
  obtain ⟨f1, fd1, m1, k1, b1, G1⟩ := C1
  obtain ⟨fp, fdp, Mp, GP, bp⟩ := pp
  have nd := scTm.nd
  refine F.ok scTm (fun vs H Q E h => ?_) (fun cdv A outer s H vs Q E hr h => ?_)
  · obtain ⟨a, b, k, ts, ps, qs, rfl, _⟩ := h
    rfl
  · obtain ⟨a, b, k, ts, ps, qs, rfl, pf, okq, lp, okp, lq, hk, q⟩ := h
    refine ⟨_, pss_one (ps_ret (pe_cmpR (op_eqD hr.units) (pe_lc (own := [("_law_row", 3)]) (g := gName 3) (tt := tYes) rfl nd (pi_tup (pe_meth0 (pv 0) cl Mp GP (hr.mono (by decide)) bp .nil pass0)) (blkOk_by (N := nTm) (sc := defScope sTm) (by decide +kernel)) (fun _ _ _ _ _ => (pg_name (i := 3) nd rfl (Or.inl rfl))) (fun _ _ _ _ _ => pts_nil) (fun _ _ _ _ _ => (pe_callTy (T := "list") (r := rLi K) call_liK (by rfl) B.list (by decide +kernel) (pa_cons (pv 3) pa_nil)))) (pe_lc (own := [("_law_row", 3)]) (g := gName 3) (tt := tYes) rfl nd (pi_list (pe_call G1 (hr.mono (by decide)) rfl m1 k1 b1 .nil pass0 (pa_cons (pv 1) pa_nil))) (blkOk_by (N := nTm) (sc := defScope sTm) (by decide +kernel)) (fun _ _ _ _ _ => (pg_name (i := 3) nd rfl (Or.inl rfl))) (fun _ _ _ _ _ => pts_nil)
        (fun _ _ _ _ _ => pe_lc (own := [("_law_one", 4)]) (g := gName 4) (tt := tYes) rfl nd (pi_listK K (pv 3)) (blkOk_by (N := nTm) (sc := scT1) (by decide +kernel)) (fun _ _ _ _ _ => pg_name (i := 4) nd rfl (Or.inl rfl)) (fun _ _ _ _ _ => pts_nil) (fun _ _ _ _ _ => pe_op op_mul (pv 2) (pv 4)))) (nomark _))), ?_⟩
    obtain ⟨dx, _, _, ha, _⟩ := id pf
    have l4 := okp.1
    have l7 := okp.2.1
    obtain ⟨m, hm⟩ : ∃ m, m = pg (sk 0 qs) (sk 1 qs) := ⟨_, rfl⟩
    obtain ⟨m2, hm2⟩ : ∃ m2, m2 = pg (sk 0 ps) (sk 1 ps) := ⟨_, rfl⟩
    obtain ⟨n, hn⟩ : ∃ n, n = ps.length - 1 := ⟨_, rfl⟩
    rw [← hm, ← hm2, ← hn] at hk
    refine ⟨_, rfl, a, dx, _, rfl, ha, rfl, a, qs, rfl, pf, okq, fun H1 t s1 mt => ?_⟩
    rw [← hm, lq, ← hn] at mt
    obtain ⟨rs, lr, ht, hr1⟩ := mt
    refine ⟨t, rfl, ⟨_, SqT.of ht⟩, fun D hD => ?_⟩
    refine lc_tup (K := K) (a := t) (xs := rs.map V.ref) (Tb H1 D m n) (tb_nil hD) (fun i H' _ p => SqT.of (p.1 _ _ ht)) (fun i x H' hx p => ?_) (fun H2 p => ?_)
    · have hi : i < rs.length := by
        have := (List.getElem?_eq_some_iff.mp hx).1
        rw [List.length_map] at this
        exact this
      rw [List.getElem?_map, List.getElem?_eq_getElem hi] at hx
      have ex : V.ref rs[i] = x := Option.some.inj hx
      subst ex
      have hr2 := p.1 _ _ (hr1 i _ (List.getElem?_eq_getElem hi))
      exact ⟨rfl, _, rfl, rs[i], _, rfl, .inr (SqT.of hr2), fun l nl => tb_step hD p (by omega) (by omega) (same_new nl) upd_same⟩
    rw [List.length_map, lr] at p
    obtain ⟨s2, rows, lrow, hd, hrw⟩ := p
    have s12 := s1.trans s2
    have mD : MatP H2 D m n := ⟨rows, lrow, hd, hrw⟩
    refine ⟨_, rfl, b, ts, ps, rfl, lp.same s12, okp, fun H3 u s3 mp => ?_⟩
    rw [← hm2, ← hn] at mp
    obtain ⟨rs2, lr2, hu, hr2⟩ := mp
    refine ⟨u, rfl, ⟨_, SqL.of hu⟩, fun D2 hD2 => ?_⟩
    refine lc_list (K := K) (a := u) (xs := rs2.map V.ref) (Tb H3 D2 m n) (tb_nil hD2) (fun i H' _ p => SqL.of (p.1 _ _ hu)) (fun i x H' hx p => ?_) (fun H4 p => ?_)
    · have hi : i < rs2.length := by
        have := (List.getElem?_eq_some_iff.mp hx).1
        rw [List.length_map] at this
        exact this
      rw [List.getElem?_map, List.getElem?_eq_getElem hi] at hx
      have ex : V.ref rs2[i] = x := Option.some.inj hx
      subst ex
      have hr3 := p.1 _ _ (hr2 i _ (List.getElem?_eq_getElem hi))
      refine ⟨rfl, _, rfl, rs2[i], rfl, ⟨_, SqL.of hr3⟩, fun D3 hD3 => ?_⟩
      refine lc_list (K := K) (a := rs2[i]) (xs := (mrow m2 n i).map V.int) (fun j => At H' D3 (((mrow m n i).take j).map V.int)) ⟨same_new hD3, upd_same⟩ (fun i H3 _ p => SqL.of (p.1 _ _ hr3)) (fun j y H5 hy p5 => ?_) (fun H5 p5 => ?_)
      · have hj : j < n := by
          have := (List.getElem?_eq_some_iff.mp hy).1
          unfold mrow at this
          rw [List.length_map, List.length_map, List.length_range] at this
          exact this
        have ey : y = .int (m2 i j) := by
          unfold mrow at hy
          rw [List.getElem?_map, List.getElem?_map, List.getElem?_range hj] at hy
          exact (Option.some.inj hy).symm
        subst ey
        have er : (mrow m n i)[j]? = some (m i j) := by
          unfold mrow
          rw [List.getElem?_map, List.getElem?_range hj]
          rfl
        refine ⟨rfl, _, rfl, _, rfl, _, _, rfl, rfl, .inr (by rw [hm2]; exact pg_b okp i j), _, p5.2, by rw [List.length_map]; exact small1000 (Nat.le_trans (List.length_take_le' _ _) (by unfold mrow; rw [List.length_map, List.length_range]; omega)), p5.step hD3 Same.me ?_⟩
        rw [take_more er, List.map_append, hk i j (by omega) hj]
        rfl
      · have ml : ((mrow m2 n i).map V.int).length = n := by
          unfold mrow
          rw [List.length_map, List.length_map, List.length_range]
        rw [ml, List.take_of_length_le (by unfold mrow; rw [List.length_map, List.length_range]; exact Nat.le_refl _)] at p5
        exact tb_step hD2 p (by omega) (by omega) p5.1 p5.2
    rw [List.length_map, lr2] at p
    obtain ⟨s4, rows2, lrow2, hd2, hrw2⟩ := p
    have s24 := s3.trans s4
    refine ⟨_, _, (matp_same mD s24).dp, MatP.dp ⟨rows2, lrow2, hd2, hrw2⟩, iLs_shaped _, iLs_shaped _, ?_⟩
    have e : PyData.eqv (.list ((tab m n).map iL)) (.list ((tab m n).map iL)) = true := iLs_self _
    rw [e]
    exact q _ (s12.trans s24)
end
end K12

namespace K12
open PySem PySem.Spec PyProof.Rows L2
/-! ### an exception that was caught and is kept by a name -/
/-- the exception object at a, of the class cls, its own dict d -/
def Held (cls : Value) (d : Option Addr) (a : Addr) : HO := .ext fun h => ∃ (ob : Obj) (fv : Array Value), h.get? a = some ob ∧ Zc cls d ob ∧ ob.data = .fields fv
section
variable {X : Cx} {pins : List (Addr × Obj)} {σ : L2.St} {H : Hp} {s : Shared} {a : Addr} {ob : Obj} {fv : Array Value} {cls : Value} {d : Option Addr}
/-- a pinned exception that is newer than the frame is tracked from here on -/
theorem track (I : Inv X ((a, ob) :: pins) σ H s) (hz : Zc cls d ob) (hd : ob.data = .fields fv) (n0 : X.s_0.heap.get? a = none) (np : ∀ p ∈ X.pn ++ pins, p.1 ≠ a) : Inv X pins σ (upd H a (Held cls d a)) s := by
  obtain ⟨ha, hn, hL, hF, _⟩ := I.pin (a, ob) (List.mem_append_right _ List.mem_cons_self)
  have ha : s.heap.get? a = some ob := ha
  have hn : H a = none := hn
  have hL : a ≠ X.env.locals := hL
  have new : ObjOk X.prog X.w (upd H a (Held cls d a)) s.heap a (Held cls d a) := ⟨⟨ob, fv, ha, hz, hd⟩, ⟨ob, ha⟩, fun _ _ ⟨o, v, e, r⟩ k => ⟨o, v, k o e, r⟩⟩
  have old : ∀ b o, X.s_0.heap.get? b = some o → b ≠ a := fun b o e z => by
    rw [z, n0] at e
    cases e
  have tr : ∀ b o, H b = some o → upd H a (Held cls d a) b = some o := fun b o e => by
    rw [upd_ne (ne_of_none e hn)]
    exact e
  have B := I.base
  refine ⟨I.ok, I.os, I.bare, ⟨B.keep, B.slot, fun b o e n x => ?_, B.there, fun b xs e => tr _ _ (B.tups b xs e), fun b o u e => tr _ _ (B.frzs b o u e), fun b ps e => ?_⟩, I.loc, I.cell, ?_, fun x c e => ?_, fun p hp => ?_, HOk.laidN I.hok (fun _ _ q => q) hn new, I.len⟩
  · rw [upd_ne (old b o e)]
    exact B.free b o e n x
  · obtain ⟨m, q⟩ := B.tbls b ps e
    exact ⟨m, tr _ _ q⟩
  · rw [upd_ne hL.symm]
    exact I.free
  · have nc : c ≠ a := fun z => by
      obtain ⟨v, o, q, q2⟩ := I.cell x c e
      rw [z, ha] at q
      cases q
      rw [hd] at q2
      cases q2
    rw [upd_ne nc]
    exact I.freeC x c e
  · have hp2 : p ∈ X.pn ++ ((a, ob) :: pins) := by
      rcases List.mem_append.mp hp with z | z
      · exact List.mem_append_left _ z
      · exact List.mem_append_right _ (List.mem_cons_of_mem _ z)
    obtain ⟨e1, e2, e3⟩ := I.pin p hp2
    exact ⟨e1, by rw [upd_ne (np p hp)]; exact e2, e3⟩
/-- isinstance(e, C) of a kept exception of just this class, and its field -/
theorem held_at (I : Inv X pins σ H s) (e : H a = some (Held cls d a)) : ∃ ob fv, s.heap.get? a = some ob ∧ Zc cls d ob ∧ ob.data = .fields fv := by
  have z : ObjOk X.prog X.w H s.heap a (.ext fun h => ∃ (ob : Obj) (fv : Array Value), h.get? a = some ob ∧ Zc cls d ob ∧ ob.data = .fields fv) := I.hok a _ e
  exact z.1
end
/-! ### try: .. except C as n: y = n -/
/-- what the clause wishes of what its body raises: it is C's, and behind it y (slot j) keeps it -/
def wKeep (K : PySem.W.Frag) (c : Value) (i j m : Nat) (D : Ends) : WX := fun cls d σ H =>
  PySem.W.exmOne K cls c = some true ∧ ∀ a, H a = none → σ.length = m → D.nx (((σ.set i (some (.ref a))).set j (some (.ref a))).set i none) (upd H a (Held cls d a))
section
variable {X : Cx} {x n y : Str} {c : Value} {i j : Nat} {body : List Stmt} {np px py ap hp tp : Pos} {tb : WX → TS}
theorem ps_try_keep (stk : X.stack = X.env :: X.outer) (fra : X.env.frame = some X.env.locals) (noex : X.ex = []) (nod : X.N.Nodup) (atI : X.N[i]? = some n) (atJ : X.N[j]? = some y) (kn : X.env.kindOf n = some .local) (ly : Loc X.env.scope y) (fy : X.fn y = true ∨ X.env.scope.names.lookup y = some .local) (nm : Names X x c)
    (hi : i < X.N.length) (d1 : (n == ("__debug__" : Str)) = false) (d2 : (n == ("__classdict__" : Str)) = false)
    (run : ∀ (W : WX) (pn : List (Addr × Obj)) (xe : Value → Shared → Prop), Takes (X.tr pn xe) W → PassesOwn (model X.prog X.w) X.A X.env xe → PSs (X.tr pn xe) body (tb W)) :
    PS X (.Try body [.ExceptHandler (some (.Name x np)) (some n) [.Assign [.Name y py] (.Name n px) ap] hp] [] [] tp) (fun D σ H => tb (wKeep X.K c i j X.N.length D) D σ H) := by
  refine ⟨fun pins s σ H D I wish => ?_⟩
  have good := I.ok
  have lone : Loc X.env.scope n := .inl kn
  have frames : X.A.frames = some (X.env :: X.outer) := by rw [good.frames, stk]
  refine wpAny_Try_except (wpAny_mono ((run (wKeep X.K c i j X.N.length D) (X.pn ++ pins) (fun e z => wpAny (model X.prog X.w) X.A (noteFrame e X.env) (fun _ z2 => wpAny (model X.prog X.w) X.A (setFlight e none)
      (fun _ z3 => wpAny (model X.prog X.w) X.A (handleBy e X.env [.ExceptHandler (some (.Name x np)) (some n) [.Assign [.Name y py] (.Name n px) ap] hp]) (SP X pins D) X.xe z3) X.xe z2) X.xe z) (fun u sT air => ?_) PassesOwn.looking).run [] s σ H D (I.toTry _) wish) (fun fl sE hE => ?_) (fun _ _ z => z))
  · obtain ⟨a, B, sG, pG, σG, HG, cls, d, rfl, JG, ground, slots, sky, free, hos, bare, ematch, keep⟩ := air
    have J : Inv X pins σG HG sG := JG.ofTry good
    rw [show (X.tr (X.pn ++ pins) _).stack = X.env :: X.outer from stk] at sky
    show wpAny (model X.prog X.w) X.A (noteFrame (.ref a) X.env) _ _ _
    refine Sky.land Zc.steady frames fra sky fun hA flA upA => ?_
    have JA : Inv X pins σG HG { sT with heap := hA } := J.landed ground flA.1 (slots.trans upA) hos bare
    obtain ⟨oA, vA, gA, zA, dA⟩ := flA.there
    have away : a ∉ frs (X.env :: X.outer) := fun hm => by
      obtain ⟨_, oz, ez, nf⟩ := flA.2.2.1.mem hm
      rw [gA] at ez
      cases ez
      exact nf _ dA
    have noL : a ≠ X.env.locals := fun z => away (List.mem_filterMap.mpr ⟨X.env, List.mem_cons_self, by rw [fra, z]⟩)
    have noF : a ∉ X.fs := fun hm => by
      obtain ⟨e, he, q⟩ := List.mem_filterMap.mp hm
      exact away (List.mem_filterMap.mpr ⟨e, List.mem_cons_of_mem _ he, q⟩)
    have SA := JA.suite gA dA free noL noF
    have Bnone : B.get? a = none := flA.2.1
    have offB : ∀ b o, sG.heap.get? b = some o → b ∉ frs X.stack → b ≠ a := fun b o e nf z => by
      have q := ground b o e nf
      rw [z, Bnone] at q
      cases q
    have off0 : X.s_0.heap.get? a = none := by
      cases e : X.s_0.heap.get? a with
      | none => rfl
      | some o =>
        obtain ⟨o2, q⟩ := J.base.there a o e (by rw [noex]; exact fun z => nomatch z)
        exact absurd rfl (offB a o2 q (by rw [stk]; exact away))
    have offP : ∀ p ∈ X.pn ++ pins, p.1 ≠ a := fun p hp => by
      obtain ⟨q, _, nl, nf, _⟩ := J.pin p hp
      refine offB p.1 _ q fun hm => ?_
      rw [stk] at hm
      obtain ⟨e, he, qe⟩ := List.mem_filterMap.mp hm
      rcases List.mem_cons.mp he with z | z
      · rw [z, fra] at qe
        exact nl (Option.some.inj qe).symm
      · exact nf (List.mem_filterMap.mpr ⟨e, z, qe⟩)
    -- the clause takes it
    refine wpAny_handleBy_cons (codeAny_handlers_test ?_) (by intro q; cases q)
    have look : PySem.W.Looks (model X.prog X.w) hA (typeOf (.ref a)) cls := fun _ _ _ _ k q => wpAny_typeOf_ref (k _ _ gA) (by rw [zA.1]; exact q)
    have answer := PySem.W.exm_one (M := model X.prog X.w) JA.kIn look ematch
    have named : ∀ {Q E : Value → Shared → Prop}, Q c { sT with heap := hA } → wpAny (model X.prog X.w) (X.A.mark (some (.ref a))) (eval (.Name x np) X.env) Q E { sT with heap := hA } := fun {Q E} q => by
      obtain ⟨g1, g2, g3 | ⟨g3, g4, g5⟩⟩ := nm
      · exact ld_glob (X := X.suite a ((a, oA) :: (X.pn ++ pins))) SA g1 g3 q g2
      · exact ld_blt (X := X.suite a ((a, oA) :: (X.pn ++ pins))) SA g1 g3 g4 q g5 g2
    refine named (answer.here ?_)
    refine codeAny_handlers_suite_as (HandSPX.lands_againZ flA fun hB flB upB => ?_)
    have JB : Inv X pins σG HG { sT with heap := hB } := J.landed ground flB.1 ((slots.trans upA).trans upB) hos bare
    obtain ⟨oB, vB, gB, zB, dB⟩ := flB.there
    have SB' := JB.suite gB dB free noL noF
    refine store_ok (X := X.suite a ((a, oB) :: (X.pn ++ pins))) (v := .ref a) SB' nod atI lone rfl (fun s5 S5 => ?_) (.inr kn)
    have vis : Vis X.env.scope n := .inl kn
    have suite : PSs (X.suite a ((a, oB) :: (X.pn ++ pins))) [.Assign [.Name y py] (.Name n px) ap] (tAsg (tVar i) (gName j)) := pss_one (ps_set nod atJ ly (pe_var atI vis d1 d2) rfl fy)
    have inI : (σG.set i (some (V.ref a)))[i]? = some (some (V.ref a)) := List.getElem?_set_self (by rw [J.len]; exact hi)
    refine wpAny_mono (suite.run [] s5 _ HG { nx := fun σ' H' => σ' = (σG.set i (some (V.ref a))).set j (some (V.ref a)) ∧ H' = HG, rt := fun _ _ => False } S5 ⟨_, inI, rfl, rfl⟩) (fun fl s6 h6 => ?_) (fun _ _ z => False.elim z)
    cases fl with
    | next =>
      obtain ⟨σ6, H6, S6, e1, e2⟩ := h6
      rw [e1, e2] at S6
      have K6 : Inv X ((a, oB) :: pins) ((σG.set i (some (V.ref a))).set j (some (V.ref a))) HG s6 := ⟨good, S6.os, S6.bare, S6.base, S6.loc, S6.cell, S6.free, S6.freeC, fun p hp => S6.pin p (by
        rw [List.append_nil]
        rcases List.mem_append.mp hp with z | z
        · exact List.mem_cons_of_mem _ (List.mem_append_left _ z)
        · rcases List.mem_cons.mp z with z | z
          · rw [z]
            exact List.mem_cons_self
          · exact List.mem_cons_of_mem _ (List.mem_append_right _ z)), S6.hok, S6.len⟩
      exact gone_ok K6 nod atI kn fun s7 K7 => ⟨_, _, track K7 zB dB off0 offP, keep a free J.len⟩
    | brk =>
      obtain ⟨_, _, _, z⟩ := h6
      exact z.elim
    | cont =>
      obtain ⟨_, _, _, z⟩ := h6
      exact z.elim
    | ret u =>
      obtain ⟨_, _, _, _, _, z⟩ := h6
      exact z.elim
  · cases fl with
    | next =>
      obtain ⟨_, _, J, q⟩ := hE
      exact wpAny_execs_nil ⟨_, _, J.ofTry good, q⟩
    | brk =>
      obtain ⟨_, _, J, q⟩ := hE
      exact ⟨_, _, J.ofTry good, q⟩
    | cont =>
      obtain ⟨_, _, J, q⟩ := hE
      exact ⟨_, _, J.ofTry good, q⟩
    | ret u =>
      obtain ⟨_, _, _, J, r, q⟩ := hE
      exact ⟨_, _, _, J.ofTry good, r, q⟩
end
theorem any_cls {K : PySem.W.Frag} {C : Addr} (h : PySem.W.hasDictIn K C = true) : (PySem.W.clsIn K C).isSome = true := by
  unfold PySem.W.hasDictIn at h
  cases e : PySem.W.clsIn K C with
  | some c => rfl
  | none =>
    rw [e] at h
    cases h
section
variable {X : Cx} {C : Addr}
/-- a kept exception of the class at C, with its fields -/
def Kept (C : Addr) (fs : List (Str × V)) (a : Addr) (H : Hp) : Prop := ∃ dd : Addr, H a = some (Held (.ref C) (some dd) a) ∧ H dd = some (.xd fs)
theorem kept_inst {pins : List (Addr × Obj)} {σ : L2.St} {H : Hp} {s : Shared} {a : Addr} {fs : List (Str × V)} (I : Inv X pins σ H s) (k : Kept C fs a H) :
    ∃ (ob : Obj) (mA : Str → Option Value) (od : Obj), PySem.W.InstAt s.heap a ob C (some od) ∧ (∀ f, RelO (fs.lookup f) (mA f)) ∧ ∀ n, PySem.W.lookIn n od = some (mA n) := by
  obtain ⟨dd, h1, h2⟩ := k
  obtain ⟨ob, fv, g, z, dt⟩ := held_at I h1
  have q : ObjOk X.prog X.w H s.heap dd (.xd fs) := I.hok dd _ h2
  obtain ⟨mA, ns, rel⟩ := q
  obtain ⟨od, go, lo⟩ := lookIn_ns ns
  exact ⟨ob, mA, od, ⟨g, z.1, by unfold PySem.W.notCls; rw [dt] <;> rfl, by rw [z.2]; exact go⟩, rel, lo⟩
def rIsH (C : Addr) : List V → Hp → VK → Prop := fun xs H Q => ∃ (a : Addr) (fs : List (Str × V)), xs = [.ref a, .ref C] ∧ Kept C fs a H ∧ Q (.bl true) H
theorem call_isH (E : ExcC X.K C) : CallR X (.builtin "isinstance") (rIsH C) := by
  intro pins s σ H xs us Q I r h
  obtain ⟨a, fs, rfl, k, q⟩ := h
  obtain ⟨u1, u2, rfl, r1, r2⟩ := vals2 r
  obtain rfl : u1 = Value.ref a := r1
  obtain rfl : u2 = Value.ref C := r2
  obtain ⟨ob, mA, od, J, _⟩ := kept_inst I k
  have one : PySem.W.kitOne X.K (.ref C) (.ref C) = some true := by
    unfold PySem.W.kitOne
    rw [if_pos (beq_self_eq_true _)]
  exact PySem.W.kia_one (PySem.W.kitx_exc (any_cls E.hd) E.hg E.hk E.hs E.ha E.hn E.ht E.hm) I.kIn J one (fun z => nomatch z) fun tk => ⟨.bl true, H, I.tok tk, rfl, q⟩
def tHf (C : Addr) (f : Str) (te : TE) : TE := fun σ H Q => te σ H fun x H1 => ∃ (a : Addr) (fs : List (Str × V)) (v : V), x = .ref a ∧ Kept C fs a H1 ∧ fs.lookup f = some v ∧ Q v H1
theorem pe_hf {e : Expr} {te : TE} {pos : Pos} {n : Str} (T : XfC X.K C) (no : PySem.W.findIn X.K (.ref C) n = some none) (he : PE X e te) (hb : attributeBase e n X.env (eval e X.env) = eval e X.env := by rfl) : PE X (.Attribute e n pos) (tHf C n te) := by
  refine ⟨fun pins s σ H Q I h => attr_of hb (thn (he.run pins s σ H _ I h) fun u s1 hh => ?_)⟩
  obtain ⟨x, H1, I1, rx, a, fs, v, rfl, k, l, q⟩ := hh
  obtain rfl : u = Value.ref a := rx
  obtain ⟨ob, mA, od, J, rel, lo⟩ := kept_inst I1 k
  obtain ⟨w, hw, rw'⟩ := RelO.some_of (v := v) (o := mA n) (by rw [← l]; exact rel n)
  exact HandSPX.exc_get I1.kIn J T.ga T.gg T.exC (PySem.W.findObj_own T.hdC no rfl (by rw [lo, hw])) (handed_of rw') ⟨v, H1, I1.tok _, rw', q⟩
end

/-! ### isinstance of a kept exception, any answer -/
def rIsK (K : PySem.W.Frag) (D : Addr) : List V → Hp → VK → Prop := fun xs H Q => ∃ (a C : Addr) (fs : List (Str × V)) (b : Bool), xs = [.ref a, .ref D] ∧ Kept C fs a H ∧ ExcC K C ∧ PySem.W.kitOne K (.ref C) (.ref D) = some b ∧ Q (.bl b) H
section
variable {X : Cx} {C D : Addr}
theorem call_isK : CallR X (.builtin "isinstance") (rIsK X.K D) := by
  intro pins s σ H xs us Q I r h
  obtain ⟨a, C, fs, b, rfl, k, E, one, q⟩ := h
  obtain ⟨u1, u2, rfl, r1, r2⟩ := vals2 r
  obtain rfl : u1 = Value.ref a := r1
  obtain rfl : u2 = Value.ref D := r2
  obtain ⟨ob, mA, od, J, _⟩ := kept_inst I k
  exact PySem.W.kia_one (PySem.W.kitx_exc (any_cls E.hd) E.hg E.hk E.hs E.ha E.hn E.ht E.hm) I.kIn J one (fun z => nomatch z) fun tk => ⟨.bl b, H, I.tok tk, rfl, q⟩
end
/-! ### a kept exception's field, its class told by the promise -/
def tHg (K : PySem.W.Frag) (f : Str) (te : TE) : TE := fun σ H Q => te σ H fun x H1 => ∃ (a C : Addr) (fs : List (Str × V)) (v : V), x = .ref a ∧ Kept C fs a H1 ∧ XfC K C ∧ PySem.W.findIn K (.ref C) f = some none ∧ fs.lookup f = some v ∧ Q v H1
section
variable {X : Cx}
theorem pe_hg {e : Expr} {te : TE} {pos : Pos} {n : Str} (he : PE X e te) (hb : attributeBase e n X.env (eval e X.env) = eval e X.env := by rfl) : PE X (.Attribute e n pos) (tHg X.K n te) := by
  refine ⟨fun pins s σ H Q I h => attr_of hb (thn (he.run pins s σ H _ I h) fun u s1 hh => ?_)⟩
  obtain ⟨x, H1, I1, rx, a, C, fs, v, rfl, k, T, no, l, q⟩ := hh
  obtain rfl : u = Value.ref a := rx
  obtain ⟨ob, mA, od, J, rel, lo⟩ := kept_inst I1 k
  obtain ⟨w, hw, rw'⟩ := RelO.some_of (v := v) (o := mA n) (by rw [← l]; exact rel n)
  exact HandSPX.exc_get I1.kIn J T.ga T.gg T.exC (PySem.W.findObj_own T.hdC no rfl (by rw [lo, hw])) (handed_of rw') ⟨v, H1, I1.tok _, rw', q⟩
end
/-! ### o.m(k = v, ..) -/
def tMethK (C : Addr) (m : Str) (nk : Nat) (sp : Sp) (gV : List V → List V → List V) (E : XK) (ta : TE) (tk : TA) : TE := fun σ H Q => ta σ H fun x H1 => ∃ a dx fs, x = .ref a ∧ H1 a = some (.ins C dx fs) ∧ fs.lookup m = none ∧ tk σ H1 fun zs H2 => zs.length = nk ∧ sp (gV [x] zs) H2 Q E
section
variable {X : Cx} {CX : CXT} {k : Nat} {f C : Addr} {fd : FuncData} {ps ks : List Str} {sp : Sp} {E : XK} {m : Str} {pos apos : Pos} {o : Expr} {kws : List Keyword} {ta : TE} {tk : TA} {g : List Value → List Value → List Value} {gV : List V → List V → List V}
theorem pe_methK0 {pl : Sem Bool} (he : PE X o ta) (c : Cls X.K C) (hm : Meth X.K C m f) (F : FnOk X.prog X.w X.K X.mg X.base CX k f fd ps sp) (hr : Room k X.A) (hb : KBn X.K fd ps 1 ks g gV) (hx : Passes CX X E) (hkw : PK X kws tk)
    (hall : (backToKw pos (keywordEach kws X.env)).all (·.1.isSome) = true := by rfl) (hks : (backToKw pos (keywordEach kws X.env)).filterMap (·.1) = ks := by rfl)
    (hpl : ((backTo pos (starEach [] X.env)).any (·.1) || (backToKw pos (keywordEach kws X.env)).any (·.1.isNone)) = false := by rfl)
    (ht : eval (.Call (.Attribute o m apos) [] kws pos) X.env = (do
      let ov ← eval o X.env
      standAt apos.atName
      let (f, first) ← holding [ov] (getMethod ov m pl)
      callWith pos f first (backTo pos (starEach [] X.env)) (backToKw pos (keywordEach kws X.env))) := by rfl) :
    PE X (.Call (.Attribute o m apos) [] kws pos) (tMethK C m ks.length sp gV E ta tk) := by
  refine ⟨fun pins s σ H Q I h => ?_⟩
  refine PySem.W.methodCall_KW (pl := pl) (thn (he.run pins s σ H _ I h) fun u s1 ⟨x, H1, I1, rx, a, dx, fs, ex, ea, l, q⟩ => ?_) ht
  subst ex
  obtain rfl : u = Value.ref a := rx
  refine getmeth_ok I1 ea c hm l ?_
  refine PySem.W.callWith_KW0 (first := [.ref a]) (h₀ := X.base) I1.ok.mod.kin hm.kp hall ?_ hpl
  refine thn (hkw.run pos pins s1 σ H1 _ I1 q) fun ws s2 ⟨zs, H2, I2, rz, l2, q2⟩ => ⟨I2.kIn, ?_⟩
  rw [hks]
  exact run_fnN (us := [.ref a]) (vs := [.ref a]) F hr hb hx I2 (.cons rfl .nil) rz rfl l2 q2
end
end K12

namespace K12
open PySem PySem.Spec PyProof.Rows L2
/-! ### what an asking comes to -/
/-- places, or that one is too far -/
def OutV (H : Hp) (v : V) (ps : List (Int × Int)) : Prop := (InB G9 ps ∧ ∃ b us, v = .ref b ∧ LP H b us ps) ∨ (¬ InB G9 ps ∧ ∃ t, v = .ref t ∧ H t = some (.tup [.str "places", .int 1000000000]))
/-- what an asking that raises wishes: it is heard as a tuple -/
def EHd (CN CT : Addr) (Q : VK) : XK := fun cls d H' =>
  (cls = .ref CN ∧ ∃ dd z, d = some dd ∧ H' dd = some (.xd [(("part" : Str), .str z)]) ∧ ∀ H'' t, Same H' H'' → H' t = none → H'' t = some (.tup [.str "number", .str z]) → Q (.ref t) H'') ∨
  (cls = .ref CT ∧ ∃ dd, d = some dd ∧ H' dd = some (.xd far) ∧ ∀ H'' t, Same H' H'' → H' t = none → H'' t = some (.tup [.str "places", .int 1000000000]) → Q (.ref t) H'')
/-- what is wished of a picture that is asked for -/
def NHd (C : Addr) (Q N : VK) : Prop := ∀ a H' ps, PicF H' C a ps → OkP ps → (∀ H'' b us, Same H' H'' → H' b = none → LP H'' b us ps → Q (.ref b) H'') → N (.ref a) H'
def THeard (C CN CT : Addr) : (XK → Hp → VK → Prop) → Hp → VK → Prop := fun tl H Q => ∀ (H1 : Hp), Same H H1 → ∀ N : VK, NHd C Q N → tl (EHd CN CT Q) H1 N
/-- what the top has written of SeenError (at CS), BadNumber (at CN), TooMany (at CT) -/
structure SeT (K : PySem.W.Frag) (mg : Str → Option Value) (CS CN CT : Addr) : Prop where
  mgS : mg "SeenError" = some (.ref CS)
  mgN : mg "BadNumber" = some (.ref CN)
  mgT : mg "TooMany" = some (.ref CT)
  subN : PySem.W.exmOne K (.ref CN) (.ref CS) = some true
  subT : PySem.W.exmOne K (.ref CT) (.ref CS) = some true
  exN : ExcC K CN
  exT : ExcC K CT
  xfN : XfC K CN
  xfT : XfC K CT
  noN : PySem.W.findIn K (.ref CN) "part" = some none
  no1 : PySem.W.findIn K (.ref CT) "what" = some none
  no2 : PySem.W.findIn K (.ref CT) "most" = some none
  kTN : PySem.W.kitOne K (.ref CT) (.ref CN) = some false
theorem set_one {σ : L2.St} {x : Option V} {y : V} (h : σ.length = 5) : (((σ.set 3 x).set 1 (some y)).set 3 none)[1]? = some (some y) := by
  match σ, h with
  | [a, b, c, d, e], _ => rfl
/-! ### _law_heard -/
abbrev sHd : Stmt := top 48
abbrev nHd : List Str := ["_law_ask", "_law_caught", "_law_made", "error", "_law_place"]
theorem scHd : FnScope nHd ["_law_ask"] (defScope sHd) := ⟨rfl, rfl, rfl, by decide +kernel, rfl, by decide +kernel, by decide +kernel⟩
theorem heard_gives {X : Cx} {C CS CN CT g : Addr} {cdg : Value} {q : Str} (B : Bn X.mg) (mC : X.mg "Picture" = some (.ref C)) (T : PicT X.K C) (S : SeT X.K X.mg CS CN CT) : LamX.GivesTo X nHd "_law_heard" (defScope sHd) g cdg (defBody sHd) "_law_ask" q (THeard C CN CT) := by
  intro f c' s H Q tl act hc h
  have nd := scHd.nd
  have h0 := h
  refine ⟨_, (pss_cons (ps_asg (pe_tup (pa_cons (pe_non) (pa_cons (pe_non) pa_nil))) (pg_tup rfl (pgs_cons ((pg_name (i := 1) nd rfl (Or.inl rfl))) (pgs_cons ((pg_name (i := 2) nd rfl (Or.inl rfl))) pgs_nil)))) (pss_cons (ps_try_keep (i := 3) (j := 1) (c := .ref CS) (tb := fun W D σ H => ∃ Ech : XK, (∀ cls d σ' H', Ech cls d H' → W cls d σ' H') ∧ σ[0]? = some (some (.ref f)) ∧ H c' = some (LamX.CodeO c' q) ∧ tl Ech H (fun v H' => D.nx (σ.set 2 (some v)) H'))
      rfl rfl rfl nd rfl rfl rfl (Or.inl rfl) (Or.inr rfl) ⟨rfl, by decide, Or.inl S.mgS⟩ (by show 3 < 5; decide) (by decide) (by decide) (fun W pn xe tk _ => ⟨fun pins s' σ H' D I h' => ?_⟩)) (pss_cons (ps_if (pt_cmpR op_isN (pv 1) pe_non (nomark _)) (pss_one (ps_ret (pe_ifExp (pt_val (pe_callB (r := rIsi X.K) call_isi (by rfl) B.isinstance boot_isinstance (pa_cons (pv 2) (pa_cons (pe_glob (v := .ref C) rfl mC rfl) pa_nil))))
      (pe_lc (own := [("_law_place", 4)]) (g := gName 4) (tt := tYes) rfl nd (pi_tup (pe_fld (pv 2) rfl)) (blkOk_by (N := nHd) (sc := defScope sHd) (by decide +kernel)) (fun _ _ _ _ _ => pg_name (i := 4) nd rfl (Or.inl rfl)) (fun _ _ _ _ _ => pts_nil) (fun _ _ _ _ _ => (pe_callTy (T := "tuple") (r := rTu X.K) call_tuK (by rfl) B.tuple (by decide +kernel) (pa_cons (pv 4) pa_nil)))) pe_str))) pss_nil) (pss_cons (ps_if (pt_val (pe_callB (r := rIsK X.K CN) call_isK (by rfl) B.isinstance boot_isinstance (pa_cons (pv 1) (pa_cons (pe_glob (v := .ref CN) rfl S.mgN rfl) pa_nil)))) (pss_one (ps_ret (pe_tup (pa_cons (pe_str) (pa_cons (pe_hg (pv 1)) pa_nil))))) pss_nil) (pss_one (ps_ret (pe_ifExp (pt_val (pe_callB (r := rIsK X.K CT) call_isK (by rfl) B.isinstance boot_isinstance (pa_cons (pv 1) (pa_cons (pe_glob (v := .ref CT) rfl S.mgT rfl) pa_nil)))) (pe_tup (pa_cons (pe_hg (pv 1)) (pa_cons (pe_hg (pv 1)) pa_nil))) (pe_tup (pa_cons (pe_str) pa_nil))))))))), ?_⟩
  · obtain ⟨Ech, hW, h1, h2, h3⟩ := h'
    exact (pss_one (ps_set (i := 2) nd rfl (Or.inl rfl) (act W pn xe Ech _ _ tk hW))).run pins s' σ H' D I ⟨h1, h2, h3⟩
  · refine ⟨by show 2 ≤ sizeLine; decide, fun t0 n0 => ?_⟩
    have s0 := same_new (o := .tup [V.non, V.non]) n0
    refine ⟨t0, _, rfl, SqT.of upd_same, rfl, _, _, rfl, _, _, rfl, rfl, ?_⟩
    refine ⟨EHd CN CT Q, ?_, rfl, s0 _ _ hc, h0 _ s0 _ (fun a H' ps pf ok use => ?_)⟩
    · rintro cls d σ' H' (⟨rfl, dd, z, rfl, hd, use⟩ | ⟨rfl, dd, rfl, hd, use⟩)
      · refine ⟨S.subN, fun a ha hl => ?_⟩
        have hl : σ'.length = 5 := hl
        have nda : dd ≠ a := ne_of_none hd ha
        have k : Kept CN [(("part" : Str), V.str z)] a (upd H' a (Held (.ref CN) (some dd) a)) := ⟨dd, upd_same, by rw [upd_ne nda]; exact hd⟩
        have s1 := same_new (o := Held (.ref CN) (some dd) a) ha
        have ns : ∀ {t : Addr}, upd H' a (Held (.ref CN) (some dd) a) t = none → H' t = none := fun {t} n => s1.free n
        refine ⟨_, set_one hl, rfl, _, rfl, iteF ?_⟩
        refine ⟨_, set_one hl, a, CN, _, true, rfl, k, S.exN, kit_self, _, rfl, iteT ?_⟩
        refine ⟨_, set_one hl, a, CN, _, _, rfl, k, S.xfN, S.noN, rfl, by show 2 ≤ sizeLine; decide, fun t nt => ?_⟩
        exact use _ t (s1.trans (same_new nt)) (ns nt) upd_same
      · refine ⟨S.subT, fun a ha hl => ?_⟩
        have hl : σ'.length = 5 := hl
        have nda : dd ≠ a := ne_of_none hd ha
        have k : Kept CT far a (upd H' a (Held (.ref CT) (some dd) a)) := ⟨dd, upd_same, by rw [upd_ne nda]; exact hd⟩
        have s1 := same_new (o := Held (.ref CT) (some dd) a) ha
        have ns : ∀ {t : Addr}, upd H' a (Held (.ref CT) (some dd) a) t = none → H' t = none := fun {t} n => s1.free n
        refine ⟨_, set_one hl, rfl, _, rfl, iteF ?_⟩
        refine ⟨_, set_one hl, a, CT, _, false, rfl, k, S.exT, S.kTN, _, rfl, iteF ?_⟩
        refine ⟨_, set_one hl, a, CT, _, true, rfl, k, S.exT, kit_self, _, rfl, iteT ?_⟩
        refine ⟨_, set_one hl, a, CT, _, _, rfl, k, S.xfT, S.no1, rfl, _, set_one hl, a, CT, _, _, rfl, k, S.xfT, S.no2, rfl, by show 2 ≤ sizeLine; decide, fun t nt => ?_⟩
        exact use _ t (s1.trans (same_new nt)) (ns nt) upd_same
    · obtain ⟨dx, t, u, ha, ⟨us, ht, pr⟩, _⟩ := id pf
      have l7 := ok.2.1
      refine ⟨_, rfl, rfl, _, rfl, iteT ?_⟩
      refine ⟨_, rfl, _, _, _, _, true, rfl, .own _, pf.ty T, kit_self, _, rfl, iteT ?_⟩
      refine ⟨_, rfl, a, C, dx, _, .ref t, rfl, ha, T.pc.cls, T.n1, rfl, t, rfl, ⟨_, SqT.of ht⟩, fun D hD => ?_⟩
      refine lc_tup (K := X.K) (a := t) (xs := us.map V.ref) (Lm H' D id ps) (lm_nil hD) (fun i H2 _ p => SqT.of (p.1 _ _ ht)) (fun n v H2 hx p => ?_) (fun H2 p => ?_)
      · have hi : n < ps.length := by
          have := (List.getElem?_eq_some_iff.mp hx).1
          rw [List.length_map, Paired.length pr] at this
          exact this
        obtain ⟨g, hg1, hg⟩ := paired_of pr (List.getElem?_eq_getElem hi)
        rw [List.getElem?_map, hg1] at hx
        have ev : V.ref g = v := Option.some.inj hx
        subst ev
        have eq := List.getElem?_eq_getElem hi
        generalize ps[n] = q1 at hg eq
        have hg : H2 g = some (.tup [.int q1.1, .int q1.2]) := p.1 _ _ hg
        refine ⟨rfl, _, rfl, g, _, rfl, .inr ⟨SqT.of hg, ?_⟩⟩
        exact lm_step hD l7 p eq Same.me hg
      · rw [List.length_map, Paired.length pr] at p
        obtain ⟨s1, vs, lpv⟩ := lm_end p
        rw [List.map_id] at lpv
        exact use H2 D vs s1 hD lpv
end K12

namespace K12
open PySem PySem.Spec PyProof.Rows L2
/-! ### what stands while lambdas are made -/
abbrev Ext := LamX.ExtN
theorem ext_of {H H' : Hp} (s : Same H H') : Ext H H' := LamX.ExtN.of s
section
variable {H H' : Hp} {a C p : Addr} {xs : List V} {ps : List (Int × Int)} {ts : List Addr} {n : Nat}
theorem Ext.tup (s : Ext H H') (h : H a = some (.tup xs)) : H' a = some (.tup xs) := s _ _ h (by intro ps z; cases z)
theorem Ext.lst (s : Ext H H') (h : H a = some (.lst xs)) : H' a = some (.lst xs) := s _ _ h (by intro ps z; cases z)
theorem LP.ext (h : LP H a ts ps) (s : Ext H H') : LP H' a ts ps := ⟨Ext.lst s h.1, paired_mono h.2 fun _ _ z => Ext.tup s z⟩
theorem PT.ext (h : PT H a ps) (s : Ext H H') : PT H' a ps := let ⟨ts, e, b⟩ := h; ⟨ts, Ext.tup s e, paired_mono b fun _ _ z => Ext.tup s z⟩
theorem Two.ext {us vs : List Int} (h : Two H a us vs) (s : Ext H H') : Two H' a us vs := let ⟨r0, r1, e, e0, e1⟩ := h; ⟨r0, r1, Ext.tup s e, Ext.tup s e0, Ext.tup s e1⟩
theorem PicF.ext (h : PicF H C a ps) (s : Ext H H') : PicF H' C a ps := let ⟨dx, t, u, e, q, r⟩ := h; ⟨dx, t, u, s _ _ e (by intro ps z; cases z), q.ext s, r.ext s⟩
theorem Lens.ext (v : Lens H p n) (s : Ext H H') : Lens H' p n := by
  obtain ⟨c, ns, x, y, h1, h2, h⟩ := v
  exact ⟨c, ns, x, y, Ext.lst s h1, Ext.lst s h2, h⟩
theorem Kd.ext {K : PySem.W.Frag} {v : V} {t : Bool} (k : Kd K H v t) (s : Ext H H') : Kd K H' v t := by
  cases k with
  | non => exact .non
  | bl b => exact .bl b
  | int i => exact .int i
  | str x => exact .str x
  | lst e => exact .lst (Ext.lst s e)
  | tup e => exact .tup (Ext.tup s e)
  | dK e => exact .dK (s _ _ e (by intro ps z; cases z))
  | ins e P => exact .ins (s _ _ e (by intro ps z; cases z)) P
end
/-- but at p, and but tables, all stands as it stood -/
def Kq (p : Addr) (H H' : Hp) : Prop := ∀ b o, b ≠ p → (∀ ps, o ≠ .tbl ps) → H b = some o → H' b = some o
theorem Kq.refl (p : Addr) (H : Hp) : Kq p H H := fun _ _ _ _ h => h
theorem Kq.trans {p : Addr} {H H1 H2 : Hp} (a : Kq p H H1) (b : Kq p H1 H2) : Kq p H H2 := fun c o n t h => b c o n t (a c o n t h)
theorem Kq.ofS {p : Addr} {H H' : Hp} (s : SB p H H') : Kq p H H' := fun b o n _ h => s.1 b o n h
theorem Kq.ofE {p : Addr} {H H' : Hp} (s : Ext H H') : Kq p H H' := fun b o _ t h => s b o h t
theorem LP.kq {p a : Addr} {H H' : Hp} {ts : List Addr} {ps : List (Int × Int)} {n : Nat} (h : LP H a ts ps) (v : Lens H p n) (na : a ≠ p) (k : Kq p H H') : LP H' a ts ps :=
  ⟨k _ _ na (by intro ps z; cases z) h.1, paired_mono h.2 fun _ _ z => k _ _ (v.not_tup z) (by intro ps z; cases z) z⟩
theorem codeO_no {c : Addr} {q : Str} {xs : List V} : LamX.CodeO c q ≠ .lst xs := fun z => by
  unfold LamX.CodeO at z
  cases z
theorem tabs_sb {T : List (Addr × Str)} {H H' : Hp} {p : Addr} {n : Nat} (t : LamX.Tabs T H) (v : Lens H p n) (s : SB p H H') : LamX.Tabs T H' := fun x hx => by
  obtain ⟨_, _, _, hp⟩ := v.at
  obtain ⟨ps, h1, h2, h3⟩ := t x hx
  refine ⟨ps, s.1 _ _ (L2.ne_of h1 hp (by intro z; cases z)) h1, h2, fun pos cv hc => ?_⟩
  obtain ⟨c, e1, e2⟩ := h3 pos cv hc
  exact ⟨c, e1, s.1 _ _ (L2.ne_of e2 hp codeO_no) e2⟩
theorem tabs_upd {T : List (Addr × Str)} {H : Hp} {l : Addr} {xs : List V} {o : HO} (t : LamX.Tabs T H) (hl : H l = some (.lst xs)) : LamX.Tabs T (upd H l o) := fun x hx => by
  obtain ⟨ps, h1, h2, h3⟩ := t x hx
  refine ⟨ps, by rw [upd_ne (L2.ne_of h1 hl (by intro z; cases z))]; exact h1, h2, fun pos cv hc => ?_⟩
  obtain ⟨c, e1, e2⟩ := h3 pos cv hc
  exact ⟨c, e1, by rw [upd_ne (L2.ne_of e2 hl codeO_no)]; exact e2⟩
theorem OutV.ext {H H' : Hp} {v : V} {ps : List (Int × Int)} (h : OutV H v ps) (s : Ext H H') : OutV H' v ps := by
  rcases h with ⟨i, b, us, rfl, lp⟩ | ⟨n, t, rfl, e⟩
  · exact .inl ⟨i, b, us, rfl, lp.ext s⟩
  · exact .inr ⟨n, t, rfl, Ext.tup s e⟩
theorem OutV.same {H H' : Hp} {v : V} {ps : List (Int × Int)} (h : OutV H v ps) (s : Same H H') : OutV H' v ps := h.ext (ext_of s)
theorem LP.dp {K : PySem.W.Frag} {H : Hp} {a : Addr} {ts : List Addr} {ps : List (Int × Int)} (h : LP H a ts ps) : Dp K H (.ref a) (.list (ps.map en)) := .lst (SqL.of h.1) (dp_pairs h.2)
theorem LP.sh (ps : List (Int × Int)) : SeqAt.shaped (.list (ps.map en)) = true := by
  show (PyData.canLayAll0 (ps.map en) && decide (PyData.depthAll (ps.map en) + 1 ≤ 64)) = true
  rw [enc_lay, Bool.true_and, decide_eq_true_iff]
  have := enc_depth ps
  omega
theorem LP.ev (ps qs : List (Int × Int)) : PyData.eqv (.list (ps.map en)) (.list (qs.map en)) = decide (ps = qs) := enc_eqv ps qs
/-- the outcome as data -/
theorem out_d (ps : List (Int × Int)) : ∃ d, SeqAt.shaped d = true ∧ PyData.eqv d d = true ∧ ∀ K H v, OutV H v ps → Dp K H v d := by
  by_cases h : InB G9 ps
  · refine ⟨.list (ps.map en), LP.sh ps, (LP.ev ps ps).trans (decide_eq_true rfl), fun K H v o => ?_⟩
    rcases o with ⟨_, b, us, rfl, lp⟩ | ⟨n, _⟩
    · exact lp.dp
    · exact absurd h n
  · refine ⟨.tuple [.str "places", .int 1000000000], by decide +kernel, by decide +kernel, fun K H v o => ?_⟩
    rcases o with ⟨i, _⟩ | ⟨_, t, rfl, e⟩
    · exact absurd i h
    · exact .tup (SqT.of e) (.cons (.str _) (.cons (.int _) .nil))
/-- both outcomes are equal -/
theorem out_ne {K : PySem.W.Frag} {H : Hp} {v u : V} {ps : List (Int × Int)} {Q : VK} (a : OutV H v ps) (b : OutV H u ps) (q : Q (.bl false) H) : rNeD K v u H Q := by
  obtain ⟨d, s, e, k⟩ := out_d ps
  refine ⟨d, d, k K H v a, k K H u b, s, s, ?_⟩
  rw [e]
  exact q
/-! ### asking for pictures -/
/-- a promise that is not looked into -/
inductive Bx (sp : Sp) : List V → Hp → VK → XK → Prop
  | mk {vs : List V} {H : Hp} {Q : VK} {E : XK} (h : sp vs H Q E) : Bx sp vs H Q E
theorem Bx.un {sp : Sp} {vs : List V} {H : Hp} {Q : VK} {E : XK} (h : Bx sp vs H Q E) : sp vs H Q E := by
  cases h with
  | mk h => exact h
section
variable {K : PySem.W.Frag} {C CT CN : Addr} {ps : List (Int × Int)} {H : Hp} {Q N : VK} {E : XK} {a : Addr} {f : Int → Int → Int × Int → Int × Int}
theorem room_hd (l4 : 4 ≤ ps.length) (l7 : ps.length ≤ 7) (hN : NHd C Q N) (h : ∀ H' v, Same H H' → OutV H' v ps → Q v H') : RoomP C CT ps H N (EHd CN CT Q) :=
  ⟨fun i b H' s n pf => hN b H' ps pf ⟨l4, l7, i⟩ fun H'' c us s2 nc lp => h H'' _ (s.trans s2) (.inl ⟨i, c, us, rfl, lp⟩),
   fun i d H' s e => .inr ⟨rfl, d, rfl, e, fun H'' t s2 nt e2 => h H'' _ (s.trans s2) (.inr ⟨i, t, rfl, e2⟩)⟩⟩
theorem rz_hd {z : Str} (h : ∀ H' t, Same H H' → H t = none → H' t = some (.tup [.str "number", .str z]) → Q (.ref t) H') : Rz CN z H (EHd CN CT Q) :=
  fun d H' s _ e => .inl ⟨rfl, d, z, rfl, e, fun H'' t s2 nt e2 => h H'' t (s.trans s2) (s.free nt) e2⟩
theorem xy_in {i j : Int} (pf : PicF H C a ps) (ok : OkP ps) (r : RoomP C CT (ps.map (f i j)) H Q E) : Bx (spXY K C CT CN f) [.ref a, .int i, .int j] H Q E :=
  .mk ⟨a, .int i, .int j, false, false, ps, rfl, pf, ok, .int i, .int j, fun e => (by cases e), fun _ _ e => (by cases e), fun i' j' e1 e2 => by
    cases e1
    cases e2
    exact r⟩
theorem xy_ok {i j : Int} (pf : PicF H C a ps) (ok : OkP ps) (hN : NHd C Q N) (h : ∀ H' v, Same H H' → OutV H' v (ps.map (f i j)) → Q v H') : Bx (spXY K C CT CN f) [.ref a, .int i, .int j] H N (EHd CN CT Q) :=
  xy_in pf ok (room_hd (by rw [List.length_map]; exact ok.1) (by rw [List.length_map]; exact ok.2.1) hN h)
theorem xy_new {i j : Int} (pf : PicF H C a ps) (ok : OkP ps) (ib : InB G9 (ps.map (f i j))) (h : NewP C (ps.map (f i j)) H Q) : Bx (spXY K C CT CN f) [.ref a, .int i, .int j] H Q E :=
  xy_in pf ok ⟨fun _ => h, fun n => absurd ib n⟩
theorem xy_x {x y : V} {tx ty : Bool} (pf : PicF H C a ps) (ok : OkP ps) (kx : Kd K H x tx) (ky : Kd K H y ty) (ex : isI x = false) (h : ∀ H' t, Same H H' → H t = none → H' t = some (.tup [.str "number", .str "x"]) → Q (.ref t) H') : Bx (spXY K C CT CN f) [.ref a, x, y] H N (EHd CN CT Q) :=
  .mk ⟨a, x, y, tx, ty, ps, rfl, pf, ok, kx, ky, fun _ => rz_hd h, fun i e => (by rw [e] at ex; cases ex), fun i _ e => (by rw [e] at ex; cases ex)⟩
theorem xy_y {i : Int} {y : V} {ty : Bool} (pf : PicF H C a ps) (ok : OkP ps) (ky : Kd K H y ty) (ey : isI y = false) (h : ∀ H' t, Same H H' → H t = none → H' t = some (.tup [.str "number", .str "y"]) → Q (.ref t) H') : Bx (spXY K C CT CN f) [.ref a, .int i, y] H N (EHd CN CT Q) :=
  .mk ⟨a, .int i, y, false, ty, ps, rfl, pf, ok, .int i, ky, fun e => (by cases e), fun _ _ _ => rz_hd h, fun _ j _ e => (by rw [e] at ey; cases ey)⟩
theorem ti_in {i : Int} (pf : PicF H C a ps) (ok : OkP ps) (r : RoomP C CT (ps.map (tms i)) H Q E) : Bx (spTi K C CT CN) [.ref a, .int i] H Q E :=
  .mk ⟨a, .int i, false, ps, rfl, pf, ok, .int i, fun e => (by cases e), fun i' e1 => by
    cases e1
    exact r⟩
theorem ti_ok {i : Int} (pf : PicF H C a ps) (ok : OkP ps) (hN : NHd C Q N) (h : ∀ H' v, Same H H' → OutV H' v (ps.map (tms i)) → Q v H') : Bx (spTi K C CT CN) [.ref a, .int i] H N (EHd CN CT Q) :=
  ti_in pf ok (room_hd (by rw [List.length_map]; exact ok.1) (by rw [List.length_map]; exact ok.2.1) hN h)
theorem ti_new {i : Int} (pf : PicF H C a ps) (ok : OkP ps) (ib : InB G9 (ps.map (tms i))) (h : NewP C (ps.map (tms i)) H Q) : Bx (spTi K C CT CN) [.ref a, .int i] H Q E := ti_in pf ok ⟨fun _ => h, fun n => absurd ib n⟩
theorem ti_x {x : V} {tx : Bool} (pf : PicF H C a ps) (ok : OkP ps) (kx : Kd K H x tx) (ex : isI x = false) (h : ∀ H' t, Same H H' → H t = none → H' t = some (.tup [.str "number", .str "number"]) → Q (.ref t) H') : Bx (spTi K C CT CN) [.ref a, x] H N (EHd CN CT Q) :=
  .mk ⟨a, x, tx, ps, rfl, pf, ok, kx, fun _ => rz_hd h, fun i e => (by rw [e] at ex; cases ex)⟩
theorem at_in {i j : Int} {ts : List Addr} (lp : LP H a ts ps) (l7 : ps.length ≤ 7) (b : InB (2 ^ 60) ps) (h : ∀ H' c us, Same H H' → LP H' c us (ps.map (trn i j)) → Q (.ref c) H') : spAt [.ref a, .int i, .int j] H Q E :=
  ⟨a, i, j, ts, ps, rfl, lp, l7, b, fun H' c us s _ l => h H' c us s l⟩
theorem due_in {ts : List Addr} (lp : LP H a ts ps) (l1 : 1 ≤ ps.length) (l7 : ps.length ≤ 7) (h : ∀ H' v, Same H H' → OutV H' v ps → Q v H') : spDue [.ref a] H Q E :=
  ⟨a, ts, ps, rfl, lp, l1, l7, fun i H' s => h H' _ s (.inl ⟨i, a, ts, rfl, lp.same s⟩), fun n H' t s e => h H' _ s (.inr ⟨n, t, rfl, e⟩)⟩
theorem lam_in {T : List (Addr × Str)} {t : XK → TE} {σ : L2.St} (hT : LamX.Tabs T H) (h : ∀ H2 N, Ext H H2 → LamX.Tabs T H2 → NHd C Q N → t (EHd CN CT Q) σ H2 N) : LamX.tLam T (THeard C CN CT) t σ H Q :=
  ⟨hT, fun H1 x T1 H2 s N hN => h H2 N (x.trans (ext_of s)) (T1.ext s) hN⟩
end
/-! ### promises as they are used -/
inductive AtI : List V → Hp → VK → XK → Prop
  | mk {a : Addr} {x y : Int} {ts : List Addr} {ps : List (Int × Int)} {H : Hp} {Q : VK} {E : XK} (lp : LP H a ts ps) (l7 : ps.length ≤ 7) (b : InB (2 ^ 60) ps) (h : ∀ H' c us, Same H H' → LP H' c us (ps.map (trn x y)) → Q (.ref c) H') : AtI [.ref a, .int x, .int y] H Q E
inductive DueI : List V → Hp → VK → XK → Prop
  | mk {a : Addr} {ts : List Addr} {ps : List (Int × Int)} {H : Hp} {Q : VK} {E : XK} (lp : LP H a ts ps) (l1 : 1 ≤ ps.length) (l7 : ps.length ≤ 7) (h : ∀ H' v, Same H H' → OutV H' v ps → Q v H') : DueI [.ref a] H Q E
inductive NeI : V → V → Hp → VK → Prop
  | mk {v u : V} {ps : List (Int × Int)} {H : Hp} {Q : VK} (a : OutV H v ps) (b : OutV H u ps) (q : Q (.bl false) H) : NeI v u H Q
theorem AtI.sp {vs : List V} {H : Hp} {Q : VK} {E : XK} (h : AtI vs H Q E) : spAt vs H Q E := by
  cases h with
  | mk lp l7 b h => exact at_in lp l7 b h
theorem DueI.sp {vs : List V} {H : Hp} {Q : VK} {E : XK} (h : DueI vs H Q E) : spDue vs H Q E := by
  cases h with
  | mk lp l1 l7 h => exact due_in lp l1 l7 h
theorem op_neO {X : Cx} (hu : X.A.units + 64 < cLine) : OpR X (compareOp .NotEq) NeI := fun pins s σ H x y v u Q I rx ry h => op_neD hu pins s σ H x y v u Q I rx ry (by
  cases h with
  | mk a b q => exact out_ne a b q)
/-! ### the class of pictures, its turning methods -/
def rv2 {α : Type} (vs zs : List α) : List α := vs ++ zs.reverse
structure Pm (P : Program) (w : World) (K : PySem.W.Frag) (mg : Str → Option Value) (base : Heap) (C CT CN : Addr) : Prop where
  tu : ∃ (f : Addr) (fd : FuncData) (ds1 ds2 : List Value) (g : List Value → List Value → List Value), Meth K C "turned" f ∧ FnOk P w K mg base (L2.CX P w) 9 f fd ["self", "x", "y"] (Bx (spXY K C CT CN trn)) ∧ Binds K fd ["self", "x", "y"] [] ∧
    Vals [.int 1] ds1 ∧ Binds K fd ["self", "x", "y"] ds1 ∧ Vals [.int 0, .int 1] ds2 ∧ Binds K fd ["self", "x", "y"] ds2 ∧ KBn K fd ["self", "x", "y"] 1 ["y", "x"] rv2 rv2 ∧ KBn K fd ["self", "x", "y"] 1 ["y"] g (fun vs zs => vs ++ .int 0 :: zs)
  sh : ∃ (f : Addr) (fd : FuncData), Meth K C "shifted" f ∧ FnOk P w K mg base (L2.CX P w) 9 f fd ["self", "x", "y"] (Bx (spXY K C CT CN shf)) ∧ Binds K fd ["self", "x", "y"] [] ∧ KBn K fd ["self", "x", "y"] 1 ["y", "x"] rv2 rv2
  ti : ∃ (f : Addr) (fd : FuncData), Meth K C "times" f ∧ FnOk P w K mg base (L2.CX P w) 9 f fd ["self", "number"] (Bx (spTi K C CT CN)) ∧ Binds K fd ["self", "number"] [] ∧ KBn K fd ["self", "number"] 1 ["number"] (fun us ws => us ++ ws) (fun vs zs => vs ++ zs)
  mi : ∃ (f : Addr) (fd : FuncData), Meth K C "mirrored" f ∧ FnOk P w K mg base CX0 8 f fd ["self"] (spMir C) ∧ Binds K fd ["self"] []
theorem lam_passes {X : Cx} {A : Around} {outer : List Env} {s : Shared} {H : Hp} {E : XK} {scope : Scope} {f c' : Addr} : Passes (L2.CX X.prog X.w) (LamX.lamCx X A outer s H E scope f c') E :=
  passes_call (X := LamX.lamCx X A outer s H E scope f c') (takes_of rfl rfl rfl rfl) (fun _ _ _ _ h => h)
end K12

namespace K12
open PySem PySem.Spec PyProof.Rows L2
/-! ### turns behind turns -/
theorem trn_two (x y u v : Int) (p : Int × Int) : trn u v (trn x y p) = trn (x * u - y * v) (x * v + y * u) p := by
  obtain ⟨a, b⟩ := p
  show ((u * (x * a - y * b) - v * (y * a + x * b), v * (x * a - y * b) + u * (y * a + x * b)) : Int × Int) = ((x * u - y * v) * a - (x * v + y * u) * b, (x * v + y * u) * a + (x * u - y * v) * b)
  rw [Prod.mk.injEq]
  constructor <;> grind
theorem trn_map (x y u v : Int) (ps : List (Int × Int)) : (ps.map (trn x y)).map (trn u v) = ps.map (trn (x * u - y * v) (x * v + y * u)) := by
  rw [List.map_map]
  exact List.map_congr_left fun p _ => trn_two x y u v p
theorem mir_map (x y : Int) (ps : List (Int × Int)) : (ps.map (trn x (-y))).map mir = (ps.map mir).map (trn x y) := by
  rw [List.map_map, List.map_map]
  refine List.map_congr_left fun p _ => ?_
  obtain ⟨a, b⟩ := p
  show ((-(x * a - -y * b), -y * a + x * b) : Int × Int) = (x * (-a) - y * b, y * (-a) + x * b)
  rw [Prod.mk.injEq]
  constructor <;> grind
theorem mir_two (ps : List (Int × Int)) : (ps.map mir).map mir = ps := by
  rw [List.map_map]
  conv => rhs; rw [← List.map_id ps]
  refine List.map_congr_left fun p _ => ?_
  obtain ⟨a, b⟩ := p
  show ((- -a, b) : Int × Int) = (a, b)
  rw [Int.neg_neg]
theorem inb_mir {B : Int} {ps : List (Int × Int)} : InB B (ps.map mir) ↔ InB B ps := by
  have one : ∀ qs : List (Int × Int), InB B qs → InB B (qs.map mir) := fun qs h p hp => by
    obtain ⟨q, hq, rfl⟩ := List.mem_map.mp hp
    obtain ⟨h1, h2, h3, h4⟩ := h q hq
    exact ⟨by show -B ≤ -q.1; omega, by show -q.1 ≤ B; omega, h3, h4⟩
  exact ⟨fun h => by have := one _ h; rwa [mir_two] at this, one ps⟩
theorem quart {B : Int} {ps : List (Int × Int)} (h : InB B ps) : InB B (ps.map (trn 0 1)) := fun p hp => by
  obtain ⟨q, hq, rfl⟩ := List.mem_map.mp hp
  obtain ⟨h1, h2, h3, h4⟩ := h q hq
  refine ⟨?_, ?_, ?_, ?_⟩
  · show -B ≤ 0 * q.1 - 1 * q.2
    omega
  · show 0 * q.1 - 1 * q.2 ≤ B
    omega
  · show -B ≤ 1 * q.1 + 0 * q.2
    omega
  · show 1 * q.1 + 0 * q.2 ≤ B
    omega
theorem trn_one (ps : List (Int × Int)) : ps.map (trn 1 0) = ps := by
  conv => rhs; rw [← List.map_id ps]
  refine List.map_congr_left fun p _ => ?_
  obtain ⟨a, b⟩ := p
  show ((1 * a - 0 * b, 0 * a + 1 * b) : Int × Int) = (a, b)
  rw [Prod.mk.injEq]
  constructor <;> omega
theorem four (ps : List (Int × Int)) : (((ps.map (trn 0 1)).map (trn 0 1)).map (trn 0 1)).map (trn 0 1) = ps := by
  rw [trn_map, trn_map, trn_map]
  exact trn_one ps
theorem shf_back (x y : Int) (ps : List (Int × Int)) : (ps.map (shf x y)).map (shf (-x) (-y)) = ps := by
  rw [List.map_map]
  conv => rhs; rw [← List.map_id ps]
  refine List.map_congr_left fun p _ => ?_
  obtain ⟨a, b⟩ := p
  show ((a + x + -x, b + y + -y) : Int × Int) = (a, b)
  rw [Prod.mk.injEq]
  constructor <;> omega
theorem tms_trn (n : Int) (ps : List (Int × Int)) : ps.map (trn n 0) = ps.map (tms n) := by
  refine List.map_congr_left fun p _ => ?_
  obtain ⟨a, b⟩ := p
  show ((n * a - 0 * b, 0 * a + n * b) : Int × Int) = (n * a, n * b)
  rw [Prod.mk.injEq]
  constructor <;> omega
theorem okp_of {f : Int × Int → Int × Int} {ps : List (Int × Int)} (ok : OkP ps) (b : InB G9 (ps.map f)) : OkP (ps.map f) := ⟨by rw [List.length_map]; exact ok.1, by rw [List.length_map]; exact ok.2.1, b⟩
/-! ### products of places that are moved -/
theorem pg_map {f : Int × Int → Int × Int} {k : Int} (hf : ∀ p q r, ((f p).1 - (f q).1) * ((f r).1 - (f q).1) + ((f p).2 - (f q).2) * ((f r).2 - (f q).2) = k * ((p.1 - q.1) * (r.1 - q.1) + (p.2 - q.2) * (r.2 - q.2)))
    (ps : List (Int × Int)) (i j : Nat) (hi : i < ps.length - 1) (hj : j < ps.length - 1) : pg (sk 0 (ps.map f)) (sk 1 (ps.map f)) i j = k * pg (sk 0 ps) (sk 1 ps) i j := by
  cases ps with
  | nil => exact absurd hi (Nat.not_lt_zero _)
  | cons q qs =>
    have hi : i < qs.length := hi
    have hj : j < qs.length := hj
    have at_ : ∀ (g : Int × Int → Int) (n : Nat) (hn : n < qs.length), (qs.map g).getD n 0 = g qs[n] := fun g n hn => by
      rw [List.getD_eq_getElem?_getD, List.getElem?_map, List.getElem?_eq_getElem hn]
      rfl
    have e0 : sk 0 (q :: qs) = qs.map fun p => p.1 - q.1 := rfl
    have e1 : sk 1 (q :: qs) = qs.map fun p => p.2 - q.2 := rfl
    have f0 : sk 0 ((q :: qs).map f) = qs.map fun p => (f p).1 - (f q).1 := by
      show ((qs.map f).map fun p => p.1 - (f q).1) = _
      rw [List.map_map]
      rfl
    have f1 : sk 1 ((q :: qs).map f) = qs.map fun p => (f p).2 - (f q).2 := by
      show ((qs.map f).map fun p => p.2 - (f q).2) = _
      rw [List.map_map]
      rfl
    unfold pg
    rw [e0, e1, f0, f1, at_ _ i hi, at_ _ j hj, at_ _ i hi, at_ _ j hj, at_ _ i hi, at_ _ j hj, at_ _ i hi, at_ _ j hj]
    exact hf _ _ _
theorem pg_trn (x y : Int) (ps : List (Int × Int)) (i j : Nat) (hi : i < ps.length - 1) (hj : j < ps.length - 1) : pg (sk 0 (ps.map (trn x y))) (sk 1 (ps.map (trn x y))) i j = (x * x + y * y) * pg (sk 0 ps) (sk 1 ps) i j := pg_map (k := (x * x + y * y)) (fun p q r => by
  show (x * p.1 - y * p.2 - (x * q.1 - y * q.2)) * (x * r.1 - y * r.2 - (x * q.1 - y * q.2)) + (y * p.1 + x * p.2 - (y * q.1 + x * q.2)) * (y * r.1 + x * r.2 - (y * q.1 + x * q.2)) = _
  grind) ps i j hi hj
theorem pg_shf (x y : Int) (ps : List (Int × Int)) (i j : Nat) (hi : i < ps.length - 1) (hj : j < ps.length - 1) : pg (sk 0 (ps.map (shf x y))) (sk 1 (ps.map (shf x y))) i j = 1 * pg (sk 0 ps) (sk 1 ps) i j := pg_map (k := 1) (fun p q r => by
  show (p.1 + x - (q.1 + x)) * (r.1 + x - (q.1 + x)) + (p.2 + y - (q.2 + y)) * (r.2 + y - (q.2 + y)) = _
  grind) ps i j hi hj
theorem pg_tms (n : Int) (ps : List (Int × Int)) (i j : Nat) (hi : i < ps.length - 1) (hj : j < ps.length - 1) : pg (sk 0 (ps.map (tms n))) (sk 1 (ps.map (tms n))) i j = (n * n) * pg (sk 0 ps) (sk 1 ps) i j := pg_map (k := (n * n)) (fun p q r => by
  show (n * p.1 - n * q.1) * (n * r.1 - n * q.1) + (n * p.2 - n * q.2) * (n * r.2 - n * q.2) = _
  grind) ps i j hi hj
theorem pg_mir  (ps : List (Int × Int)) (i j : Nat) (hi : i < ps.length - 1) (hj : j < ps.length - 1) : pg (sk 0 (ps.map mir)) (sk 1 (ps.map mir)) i j = 1 * pg (sk 0 ps) (sk 1 ps) i j := pg_map (k := 1) (fun p q r => by
  show (-p.1 - -q.1) * (-r.1 - -q.1) + (p.2 - q.2) * (r.2 - q.2) = _
  grind) ps i j hi hj
theorem sk_shf (x y : Int) (k : Nat) (ps : List (Int × Int)) (h : ps ≠ []) : sk k (ps.map (shf x y)) = sk k ps := by
  cases ps with
  | nil => exact absurd rfl h
  | cons q qs =>
    show ((qs.map (shf x y)).map fun p => it k p - it k (shf x y q)) = qs.map fun p => it k p - it k q
    rw [List.map_map]
    refine List.map_congr_left fun p _ => ?_
    show (if k = 0 then p.1 + x else p.2 + y) - (if k = 0 then q.1 + x else q.2 + y) = (if k = 0 then p.1 else p.2) - (if k = 0 then q.1 else q.2)
    split <;> omega
end K12

namespace K12
open PySem PySem.Spec PyProof.Rows L2
theorem PicF.sb {H H' : Hp} {C a p : Addr} {n : Nat} {ps : List (Int × Int)} (h : PicF H C a ps) (v : Lens H p n) (s : SB p H H') : PicF H' C a ps := by
  obtain ⟨c, x, y, e⟩ := v.at
  obtain ⟨dx, t, u, ha, ⟨ts, ht, pr⟩, r0, r1, hu, h0, h1⟩ := h
  exact ⟨dx, t, u, s.1 _ _ (L2.ne_of ha e (by intro z; cases z)) ha, ⟨ts, s.1 _ _ (v.not_tup ht) ht, paired_mono pr fun _ _ z => s.1 _ _ (v.not_tup z) z⟩, r0, r1, s.1 _ _ (v.not_tup hu) hu, s.1 _ _ (v.not_tup h0) h0, s.1 _ _ (v.not_tup h1) h1⟩
theorem meth_in {H : Hp} {C a : Addr} {m : Str} {ps : List (Int × Int)} {R : Prop} (pf : PicF H C a ps) (hm : ∀ t n u : V, List.lookup m [("places", t), ("pins", n), ("rows", u)] = none) (r : R) : ∃ a' dx fs, V.ref a = .ref a' ∧ H a' = some (.ins C dx fs) ∧ fs.lookup m = none ∧ R := by
  obtain ⟨dx, t, u, ha, _⟩ := pf
  exact ⟨a, dx, _, rfl, ha, hm _ _ _, r⟩
/-- so many draws at most, and that what is asked is so -/
def spQ (T : List (Addr × Str)) (m : Nat) : Sp := fun vs H Q _ => ∃ (p a : Addr) (n : Nat) (ts : List Addr) (ps : List (Int × Int)), vs = [.ref p, .ref a] ∧ Lens H p n ∧ n + 100 < 60000 ∧ a ≠ p ∧ LP H a ts ps ∧ 4 ≤ ps.length ∧ ps.length ≤ 7 ∧ InB 1000000 ps ∧ LamX.Tabs T H ∧
  ∀ H', Kq p H H' → Lens H' p (n + m) → LamX.Tabs T H' → Q (.bl true) H'
theorem tNext_eq {D : Ends} {σ : L2.St} {H : Hp} : tNext D σ H = D.nx σ H := rfl
theorem if_join {tb : TT} {t1 t2 : TS} {u : TS} {D : Ends} {σ : L2.St} {H : Hp} {P : L2.St → Hp → Prop} (rest : ∀ σ' H', P σ' H' → u D σ' H') (h : (∀ σ' H', P σ' H' → u D σ' H') → tSeq (tIfS tb t1 t2) u D σ H) : tSeq (tIfS tb t1 t2) u D σ H := h rest
theorem prod_b {a b : Int} (h1 : -1000 ≤ a) (h2 : a ≤ 1000) (h3 : -1000 ≤ b) (h4 : b ≤ 1000) : -1000000 ≤ a * b ∧ a * b ≤ 1000000 := by
  have h := Nat.mul_le_mul (show a.natAbs ≤ 1000 by omega) (show b.natAbs ≤ 1000 by omega)
  rw [← Int.natAbs_mul] at h
  omega
/-- turned and mirrored, heard -/
theorem xy_mir {K : PySem.W.Frag} {C CT CN : Addr} {ps : List (Int × Int)} {H : Hp} {Q N : VK} {a : Addr} {x y : Int} {R : V → Hp → Prop} (pf : PicF H C a ps) (ok : OkP ps) (hN : NHd C Q N) (h : ∀ H' v, Same H H' → OutV H' v ((ps.map mir).map (trn x y)) → Q v H')
    (hR : ∀ b H', spMir C [.ref b] H' N C8.E0 → R (.ref b) H') : Bx (spXY K C CT CN trn) [.ref a, .int x, .int (-y)] H (fun v H1 => ∃ a' dx fs, v = .ref a' ∧ H1 a' = some (.ins C dx fs) ∧ fs.lookup ("mirrored" : Str) = none ∧ R v H1) (EHd CN CT Q) := by
  have e := mir_map x y ps
  refine xy_in pf ok ⟨fun ib b H1 s1 n1 pf1 => ?_, fun nb d H1 s1 e1 => .inr ⟨rfl, d, rfl, e1, fun H2 t s2 nt e2 => h H2 _ (s1.trans s2) (.inr ⟨fun z => nb ?_, t, rfl, e2⟩)⟩⟩
  · have ok1 := okp_of ok ib
    show ∃ a' dx fs, V.ref b = .ref a' ∧ H1 a' = some (.ins C dx fs) ∧ fs.lookup ("mirrored" : Str) = none ∧ R (.ref b) H1
    refine meth_in (m := ("mirrored" : Str)) pf1 (fun _ _ _ => rfl) (hR _ _ ⟨b, _, rfl, pf1, ok1, fun m H2 s2 n2 pf2 => ?_⟩)
    refine hN m H2 _ pf2 (mir_ok ok1) fun H3 c us s3 nc lp => h H3 _ ((s1.trans s2).trans s3) (.inl ⟨?_, c, us, rfl, ?_⟩)
    · rw [← e]
      exact inb_mir.mpr ib
    · rw [← e]
      exact lp
  · rw [← e] at z
    exact inb_mir.mp z
abbrev sTR : Stmt := top 52
abbrev nTR : List Str := ["_law_lens_here", "_law_places_here", "_law_made", "_law_x", "_law_y", "_law_u", "_law_v", "_law_once", "_law_due_here", "_law_turned", "_law_back", "_law_place"]
theorem scTR : FnScope nTR ["_law_lens_here", "_law_places_here"] (defScope sTR) := ⟨rfl, rfl, rfl, by decide +kernel, rfl, by decide +kernel, by decide +kernel⟩
def qTR : Str := (envOfC "_law_turned_right" (defScope sTR) 0 0 (.ref 0)).qual ++ "<lambda>"
section
variable {P : Program} {w : World} {K : PySem.W.Frag} {mg : Str → Option Value} {base : Heap} {C CB CS CN CT : Addr}
theorem ok_tr {f c Pt g : Addr} {fdH : FuncData} {oc kV doc pm ct : Value} {od an : Option Addr} {osl : Array (Option Value)} {TL : List (Addr × Str)} (hmT : (Pt, qTR) ∈ TL) (hU : ∀ x ∈ TL, x.1 = Pt → x.2 = qTR)
    (lk : K.lookup f = some ⟨oc, od, .func (PySem.W.fnOf "_law_turned_right" "_law_turned_right" (defArgs sTR) (defBody sTR) (defScope sTR) .none kV doc pm an (.ref c) ct), osl⟩) (hcd : PySem.W.codeIn K (.ref c) "_law_turned_right" = true)
    (TB : LamX.TabB base mg c Pt) (B : Bn mg) (T : Pc P w K mg base C CB) (M : Pm P w K mg base C CT CN) (S : SeT K mg CS CN CT) (FH : Fun K "_law_heard" "_law_heard" sHd g fdH) (mH : mg "_law_heard" = some (.ref g))
    (C2 : Callee P w K mg base CX0 3 "_law_two" ["_law_lens_here"] spTw) (C3 : Callee P w K mg base CX0 1 "_law_at" ["_law_places_here", "_law_x", "_law_y"] spAt) (C4 : Callee P w K mg base CX0 2 "_law_due" ["_law_places_here"] spDue) (C5 : Callee P w K mg base CX0 3 "_law_are_times" ["_law_picture", "_law_places_here", "_law_number"] (spTm C)) :
    FnOk P w K mg base CX0 12 f (PySem.W.fnOf "_law_turned_right" "_law_turned_right" (defArgs sTR) (defBody sTR) (defScope sTR) .none kV doc pm an (.ref c) ct) ["_law_lens_here", "_law_places_here"] (spQ TL 6) := by
  obtain ⟨f2, fd2, m2, k2, b2, G2⟩ := C2
  obtain ⟨f3, fd3, m3, k3, b3, G3⟩ := C3
  obtain ⟨f4, fd4, m4, k4, b4, G4⟩ := C4
  have G3 := G3.imp fun _ _ _ _ h => AtI.sp h
  have G4 := G4.imp fun _ _ _ _ h => DueI.sp h
  obtain ⟨f5, fd5, m5, k5, b5, G5⟩ := C5
  obtain ⟨ocH, odH, kVH, docH, pmH, anH, cdvH, ctH, oslH, rfl, lkH, hcH⟩ := FH.ex
  have bH := FH.binds (ps := ["_law_ask"]) fun _ _ _ _ _ _ us hl => match us, hl with | [_], _ => rfl
  obtain ⟨ft, fdt, ds1, ds2, gk, Mt, Gt, bt, vd1, bt1, vd2, bt2, kt2, kt1⟩ := M.tu
  obtain ⟨fm, fdm, Mm, Gm, bm⟩ := M.mi
  obtain ⟨fE, fdE, GE, hsE, hfE, bE⟩ := T.eq
  have cl := T.t.pc.cls
  have nd := scTR.nd
  refine fn_of lk hcd scTR (fun vs H Q E h => ?_) fun A outer s H vs Q E hr h => ?_
  · obtain ⟨p, a, n, ts, ps, rfl, _⟩ := h
    rfl
  suffices hh : ∃ t, PSs (cxOf CX0 P w K mg base nTR "_law_turned_right" (defScope sTR) f (.ref c) A outer s H E).nox (defBody sTR) t ∧ t { nx := fun _ H' => Q .non H', rt := Q } (L2.start nTR vs) H from let ⟨t, h1, h2⟩ := hh; ⟨t, h1.nox, h2⟩
  obtain ⟨p, a, n, ts, ps, rfl, hv, hn, nap, lp, l4, l7, b6, hT, q⟩ := h
  refine ⟨_, (pss_cons ((ps_set (i := 2) nd rfl (Or.inr rfl) ((pe_mkP (E := E0) T (hr.mono (by decide)) passL rfl (pa_cons (pv 1) pa_nil))))) (pss_cons (ps_asg (pe_call G2 (hr.mono (by decide)) rfl m2 k2 b2 .nil pass0 (pa_cons (pv 0) pa_nil)) (pg_tup rfl (pgs_cons ((pg_name (i := 3) nd rfl (Or.inr rfl))) (pgs_cons ((pg_name (i := 4) nd rfl (Or.inr rfl))) pgs_nil)))) (pss_cons (ps_asg (pe_call G2 (hr.mono (by decide)) rfl m2 k2 b2 .nil pass0 (pa_cons (pv 0) pa_nil)) (pg_tup rfl (pgs_cons ((pg_name (i := 5) nd rfl (Or.inr rfl))) (pgs_cons ((pg_name (i := 6) nd rfl (Or.inr rfl))) pgs_nil)))) (pss_cons (ps_par (i := 7) (j := 8) rfl nd rfl rfl (by decide) rfl rfl (pa_cons ((LamX.pe_lamcall (T := TL) (TT := THeard C CN CT) (Ng := nHd) (a := "_law_ask") (k := 9) rfl mH FH.kp lkH hcH bH scHd rfl (Or.inl rfl) (heard_gives B T.mgC T.t S) TB rfl hmT hU hr (LamX.lamS_by (by show LamX.lamSB (defScope sTR) _ = true; decide +kernel)) rfl (fun _ _ _ _ _ => rfl) (fun A outer s H E f c hr => (pe_meth (E := E) (pv 2) cl Mt Gt hr bt .nil lam_passes (pa_cons (pv 3) (pa_cons (pv 4) pa_nil)))))) (pa_cons ((pe_call G4 (hr.mono (by decide)) rfl m4 k4 b4 .nil pass0 (pa_cons ((pe_call G3 (hr.mono (by decide)) rfl m3 k3 b3 .nil pass0 (pa_cons (pv 1) (pa_cons (pv 3) (pa_cons (pv 4) pa_nil))))) pa_nil))) pa_nil)) (by rfl)) (pss_cons (ps_if (PW.pt (pw_or ((pt_cmpR (op_neO hr.units) (pv 7) (pv 8) (nomark _))) (pw_or1 ((pt_cmpR (op_neO hr.units) ((LamX.pe_lamcall (T := TL) (TT := THeard C CN CT) (Ng := nHd) (a := "_law_ask") (k := 9) rfl mH FH.kp lkH hcH bH scHd rfl (Or.inl rfl) (heard_gives B T.mgC T.t S) TB rfl hmT hU hr (LamX.lamS_by (by show LamX.lamSB (defScope sTR) _ = true; decide +kernel)) rfl (fun _ _ _ _ _ => rfl) (fun A outer s H E f c hr => (pe_methK0 (E := E) (pv 2) cl Mt Gt hr kt2 lam_passes (pk_cons (pv 4) (pk_cons (pv 3) pk_nil)))))) (pv 8) (nomark _)))))) (pss_one (ps_ret pe_bl)) pss_nil) (pss_cons (ps_if (pt_cmpR (op_neO hr.units) ((LamX.pe_lamcall (T := TL) (TT := THeard C CN CT) (Ng := nHd) (a := "_law_ask") (k := 9) rfl mH FH.kp lkH hcH bH scHd rfl (Or.inl rfl) (heard_gives B T.mgC T.t S) TB rfl hmT hU hr (LamX.lamS_by (by show LamX.lamSB (defScope sTR) _ = true; decide +kernel)) rfl (fun _ _ _ _ _ => rfl) (fun A outer s H E f c hr => (pe_meth (E := E) (pv 2) cl Mt Gt hr bt1 vd1 lam_passes (pa_cons (pv 3) pa_nil))))) ((pe_call G4 (hr.mono (by decide)) rfl m4 k4 b4 .nil pass0 (pa_cons ((pe_call G3 (hr.mono (by decide)) rfl m3 k3 b3 .nil pass0 (pa_cons (pv 1) (pa_cons (pv 3) (pa_cons (pe_int) pa_nil))))) pa_nil))) (nomark _)) (pss_one (ps_ret pe_bl)) pss_nil) (pss_cons (ps_if (PW.pt (pw_or ((pt_cmpR (op_neO hr.units) ((LamX.pe_lamcall (T := TL) (TT := THeard C CN CT) (Ng := nHd) (a := "_law_ask") (k := 9) rfl mH FH.kp lkH hcH bH scHd rfl (Or.inl rfl) (heard_gives B T.mgC T.t S) TB rfl hmT hU hr (LamX.lamS_by (by show LamX.lamSB (defScope sTR) _ = true; decide +kernel)) rfl (fun _ _ _ _ _ => rfl) (fun A outer s H E f c hr => (pe_methK0 (E := E) (pv 2) cl Mt Gt hr kt1 lam_passes (pk_cons (pv 6) pk_nil))))) ((pe_call G4 (hr.mono (by decide)) rfl m4 k4 b4 .nil pass0 (pa_cons ((pe_call G3 (hr.mono (by decide)) rfl m3 k3 b3 .nil pass0 (pa_cons (pv 1) (pa_cons (pe_int) (pa_cons (pv 6) pa_nil))))) pa_nil))) (nomark _))) (pw_or1 ((pt_cmpR (op_neP GE hsE hfE bE T.n T.t (hr.mono (by decide))) ((pe_meth0 (E := E0) (pv 2) cl Mt Gt (hr.mono (by decide)) bt2 vd2 passL)) ((pe_mkP (E := E0) T (hr.mono (by decide)) passL rfl (pa_cons ((pe_call G3 (hr.mono (by decide)) rfl m3 k3 b3 .nil pass0 (pa_cons (pv 1) (pa_cons (pe_int) (pa_cons (pe_int) pa_nil))))) pa_nil))) (nomark _)))))) (pss_one (ps_ret pe_bl)) pss_nil) (pss_cons (ps_if (pt_val (pe_callB (r := rIsi K) call_isi (by rfl) B.isinstance boot_isinstance (pa_cons (pv 7) (pa_cons (pe_bltn (v := .ty "list") (by rfl) B.list (by decide +kernel) rfl) pa_nil))))
      (pss_cons ((ps_set (i := 9) nd rfl (Or.inr rfl) ((pe_meth (E := E0) (pv 2) cl Mt Gt (hr.mono (by decide)) bt .nil passL (pa_cons (pv 3) (pa_cons (pv 4) pa_nil)))))) (pss_cons (ps_if (PW.pt (pw_or (pt_not (pt_val (pe_call G5 (hr.mono (by decide)) rfl m5 k5 b5 .nil pass0 (pa_cons (pv 9) (pa_cons (pv 1) (pa_cons (pe_op op_add (pe_op op_mul (pv 3) (pv 3)) (pe_op op_mul (pv 4) (pv 4))) pa_nil)))))) (pw_or1 ((pt_cmpR (op_neO hr.units) ((LamX.pe_lamcall (T := TL) (TT := THeard C CN CT) (Ng := nHd) (a := "_law_ask") (k := 9) rfl mH FH.kp lkH hcH bH scHd rfl (Or.inl rfl) (heard_gives B T.mgC T.t S) TB rfl hmT hU hr (LamX.lamS_by (by show LamX.lamSB (defScope sTR) _ = true; decide +kernel)) rfl (fun _ _ _ _ _ => rfl) (fun A outer s H E f c hr => (pe_meth (E := E) (pv 9) cl Mt Gt hr bt .nil lam_passes (pa_cons (pv 5) (pa_cons (pv 6) pa_nil)))))) ((pe_call G4 (hr.mono (by decide)) rfl m4 k4 b4 .nil pass0 (pa_cons ((pe_call G3 (hr.mono (by decide)) rfl m3 k3 b3 .nil pass0 (pa_cons (pv 7) (pa_cons (pv 5) (pa_cons (pv 6) pa_nil))))) pa_nil))) (nomark _)))))) (pss_one (ps_ret pe_bl)) pss_nil) (pss_one (ps_if (pt_cmpR (op_neO hr.units) ((LamX.pe_lamcall (T := TL) (TT := THeard C CN CT) (Ng := nHd) (a := "_law_ask") (k := 9) rfl mH FH.kp lkH hcH bH scHd rfl (Or.inl rfl) (heard_gives B T.mgC T.t S) TB rfl hmT hU hr (LamX.lamS_by (by show LamX.lamSB (defScope sTR) _ = true; decide +kernel)) rfl (fun _ _ _ _ _ => rfl) (fun A outer s H E f c hr => (pe_meth (E := E) (pv 2) cl Mt Gt hr bt .nil lam_passes (pa_cons (pe_op op_sub (pe_op op_mul (pv 3) (pv 5)) (pe_op op_mul (pv 4) (pv 6))) (pa_cons (pe_op op_add (pe_op op_mul (pv 3) (pv 6)) (pe_op op_mul (pv 4) (pv 5))) pa_nil)))))) ((pe_call G4 (hr.mono (by decide)) rfl m4 k4 b4 .nil pass0 (pa_cons ((pe_call G3 (hr.mono (by decide)) rfl m3 k3 b3 .nil pass0 (pa_cons (pv 7) (pa_cons (pv 5) (pa_cons (pv 6) pa_nil))))) pa_nil))) (nomark _)) (pss_one (ps_ret pe_bl)) pss_nil)))) pss_nil) (pss_cons ((ps_set (i := 10) nd rfl (Or.inl rfl) ((pe_call G4 (hr.mono (by decide)) rfl m4 k4 b4 .nil pass0 (pa_cons ((pe_call G3 (hr.mono (by decide)) rfl m3 k3 b3 .nil pass0 (pa_cons (pe_lc (own := [("_law_place", 11)]) (g := gName 11) (tt := tYes) rfl nd (pi_list (pv 1)) (blkOk_by (N := nTR) (sc := defScope sTR) (by decide +kernel)) (fun _ _ _ _ _ => (pg_name (i := 11) nd rfl (Or.inl rfl))) (fun _ _ _ _ _ => pts_nil)
      (fun _ _ _ _ _ => pe_tup (pa_cons (pe_un un_neg (pe_ix (r := rIxT K) ix_tupK (pv 11) (pe_int) (fun _ _ => rfl))) (pa_cons ((pe_ix (r := rIxT K) ix_tupK (pv 11) (pe_int) (fun _ _ => rfl))) pa_nil)))) (pa_cons (pv 3) (pa_cons (pv 4) pa_nil))))) pa_nil))))) (pss_cons (ps_if (pt_cmpR (op_neO hr.units) ((LamX.pe_lamcall (T := TL) (TT := THeard C CN CT) (Ng := nHd) (a := "_law_ask") (k := 9) rfl mH FH.kp lkH hcH bH scHd rfl (Or.inl rfl) (heard_gives B T.mgC T.t S) TB rfl hmT hU hr (LamX.lamS_by (by show LamX.lamSB (defScope sTR) _ = true; decide +kernel)) rfl (fun _ _ _ _ _ => rfl) (fun A outer s H E f c hr => (pe_meth (E := E) ((pe_meth0 (pv 2) cl Mm Gm (hr.mono (by decide)) bm .nil pass0)) cl Mt Gt hr bt .nil lam_passes (pa_cons (pv 3) (pa_cons (pv 4) pa_nil)))))) (pv 10) (nomark _)) (pss_one (ps_ret pe_bl)) pss_nil) (pss_cons (ps_if (pt_cmpR (op_neO hr.units) ((LamX.pe_lamcall (T := TL) (TT := THeard C CN CT) (Ng := nHd) (a := "_law_ask") (k := 9) rfl mH FH.kp lkH hcH bH scHd rfl (Or.inl rfl) (heard_gives B T.mgC T.t S) TB rfl hmT hU hr (LamX.lamS_by (by show LamX.lamSB (defScope sTR) _ = true; decide +kernel)) rfl (fun _ _ _ _ _ => rfl) (fun A outer s H E f c hr => (pe_meth0 ((pe_meth (E := E) (pv 2) cl Mt Gt hr bt .nil lam_passes (pa_cons (pv 3) (pa_cons (pe_un un_neg (pv 4)) pa_nil)))) cl Mm Gm (hr.mono (by decide)) bm .nil pass0)))) (pv 10) (nomark _)) (pss_one (ps_ret pe_bl)) pss_nil) (pss_one (ps_ret (pe_and ((pe_cmpR (op_eqP GE hsE hfE bE T.n (hr.mono (by decide))) ((pe_meth (E := E0) ((pe_methK0 (E := E0) ((pe_meth (E := E0) ((pe_meth0 (E := E0) (pv 2) cl Mt Gt (hr.mono (by decide)) bt2 vd2 passL)) cl Mt Gt (hr.mono (by decide)) bt .nil passL (pa_cons (pe_int) (pa_cons (pe_int) pa_nil)))) cl Mt Gt (hr.mono (by decide)) kt1 passL (pk_cons (pe_int) pk_nil))) cl Mt Gt (hr.mono (by decide)) bt1 vd1 passL (pa_cons (pe_int) pa_nil))) (pv 2) (nomark _))) (pe_one ((pe_cmpR (op_eqD hr.units) (pe_lc (own := [("_law_place", 11)]) (g := gName 11) (tt := tYes) rfl nd (pi_tup (pe_fld (pv 2) rfl)) (blkOk_by (N := nTR) (sc := defScope sTR) (by decide +kernel)) (fun _ _ _ _ _ => (pg_name (i := 11) nd rfl (Or.inl rfl))) (fun _ _ _ _ _ => pts_nil) (fun _ _ _ _ _ => (pe_callTy (T := "tuple") (r := rTu K) call_tuK (by rfl) B.tuple (by decide +kernel) (pa_cons (pv 11) pa_nil)))) (pv 1) (nomark _)))))))))))))))))), ?_⟩
  have ok9 : OkP ps := ⟨l4, l7, b6.le (by decide)⟩
  refine ⟨_, rfl, _, rfl, .inl ⟨ps, lp.pls, ok9, fun m H1 s1 nm pf => ?_⟩⟩
  refine ⟨_, rfl, p, n, rfl, hv.same s1, by omega, fun H2 t2 q2 s2 v2 h2 x1 x2 y1 y2 => ?_⟩
  refine ⟨t2, _, rfl, SqT.of h2, rfl, _, _, rfl, _, _, rfl, rfl, ?_⟩
  refine ⟨_, rfl, p, n + 3, rfl, v2, by omega, fun H3 t3 q3 s3 v3 h3 u1 u2 w1 w2 => ?_⟩
  refine ⟨t3, _, rfl, SqT.of h3, rfl, _, _, rfl, _, _, rfl, rfl, ?_⟩
  have k3 : Kq p H H3 := ((Kq.ofE (ext_of s1)).trans (Kq.ofS s2)).trans (Kq.ofS s3)
  have pf := (pf.sb (hv.same s1) s2).sb v2 s3
  have lp := ((lp.same s1).sb (hv.same s1) nap s2).sb v2 nap s3
  have T3 := tabs_sb (tabs_sb (hT.ext s1) (hv.same s1) s2) v2 s3
  have b60 : InB (2 ^ 60) ps := b6.le (by decide)
  obtain ⟨x, y⟩ := q2
  obtain ⟨u, v⟩ := q3
  dsimp only at x1 x2 y1 y2 u1 u2 w1 w2 ⊢
  clear h2 h3 s1 s2 s3 v2 hv hT
  refine lam_in T3 (fun H4 N x4 T4 hN => ?_)
  refine ⟨_, rfl, meth_in (pf.ext x4) (fun _ _ _ => rfl) ⟨_, rfl, _, rfl, xy_ok (pf.ext x4) ok9 hN fun H5 v5 s5 o5 => ?_⟩⟩
  have e5 := x4.trans (ext_of s5)
  refine ⟨_, rfl, _, rfl, _, rfl, ?_⟩
  refine .mk (lp.ext e5) l7 b60 fun H6 a6 us6 s6 lp6 => ?_
  refine .mk lp6 (by rw [List.length_map]; omega) (by rw [List.length_map]; omega) fun H7 v7 s7 o7 => ?_
  have s67 := s6.trans s7
  have e7 := e5.trans (ext_of s67)
  have T7 := (T4.ext s5).ext s67
  have o5 := o5.same s67
  clear x4 T4 hN s5 e5 lp6 s6 s7 s67
  refine ⟨_, _, rfl, ?_⟩
  refine ⟨_, rfl, _, rfl, ?_⟩
  refine .mk o5 o7 ⟨_, rfl, ?_⟩
  refine iteF (lam_in T7 fun H8 N x8 T8 hN => ?_)
  refine ⟨_, rfl, meth_in (pf.ext (e7.trans x8)) (fun _ _ _ => rfl) ⟨_, rfl, _, rfl, rfl, xy_ok (i := x) (j := y) (pf.ext (e7.trans x8)) ok9 hN fun H9 v9 s9 o9 => ?_⟩⟩
  have y9 := x8.trans (ext_of s9)
  have e9 := e7.trans y9
  have T9 := T8.ext s9
  have o5 := o5.ext y9
  have o7 := o7.ext y9
  refine ⟨_, rfl, ?_⟩
  refine .mk o9 o7 ⟨_, rfl, iteF ?_⟩
  clear x8 T8 hN s9 o9 y9 e7 T7 o7
  have lm : ∀ f : Int × Int → Int × Int, (ps.map f).length = ps.length := fun f => List.length_map ..
  -- one number
  refine lam_in T9 fun H10 N x10 T10 hN => ?_
  refine ⟨_, rfl, meth_in (pf.ext (e9.trans x10)) (fun _ _ _ => rfl) ⟨_, rfl, xy_ok (i := x) (j := 1) (pf.ext (e9.trans x10)) ok9 hN fun H11 v11 s11 o11 => ?_⟩⟩
  have y11 := x10.trans (ext_of s11)
  refine ⟨_, rfl, _, rfl, ?_⟩
  refine .mk (lp.ext (e9.trans y11)) l7 b60 fun H12 a12 us12 s12 lp12 => ?_
  refine .mk lp12 (by rw [lm]; omega) (by rw [lm]; omega) fun H13 v13 s13 o13 => ?_
  refine .mk (o11.same (s12.trans s13)) o13 ⟨_, rfl, iteF ?_⟩
  have y13 := y11.trans (ext_of (s12.trans s13))
  have e13 := e9.trans y13
  have T13 := (T10.ext s11).ext (s12.trans s13)
  have o5 := o5.ext y13
  clear x10 T10 hN s11 o11 y11 s12 lp12 s13 o13 y13 e9 T9
  -- the other one alone
  have ib9 : InB G9 ps := ok9.2.2
  refine lam_in T13 fun H14 N x14 T14 hN => ?_
  refine ⟨_, rfl, meth_in (pf.ext (e13.trans x14)) (fun _ _ _ => rfl) ⟨_, rfl, rfl, xy_ok (i := 0) (j := v) (pf.ext (e13.trans x14)) ok9 hN fun H15 v15 s15 o15 => ?_⟩⟩
  have y15 := x14.trans (ext_of s15)
  refine ⟨_, rfl, _, rfl, ?_⟩
  refine .mk (lp.ext (e13.trans y15)) l7 b60 fun H16 a16 us16 s16 lp16 => ?_
  refine .mk lp16 (by rw [lm]; omega) (by rw [lm]; omega) fun H17 v17 s17 o17 => ?_
  refine .mk (o15.same (s16.trans s17)) o17 ⟨_, rfl, iteF ?_⟩
  have y17 := y15.trans (ext_of (s16.trans s17))
  have e17 := e13.trans y17
  have T17 := (T14.ext s15).ext (s16.trans s17)
  have o5 := o5.ext y17
  clear x14 T14 hN s15 o15 y15 s16 lp16 s17 o17 y17 e13 T13
  have pf17 := pf.ext e17
  refine ⟨_, rfl, meth_in pf17 (fun _ _ _ => rfl) (xy_new (i := 0) (j := 1) pf17 ok9 (quart ib9) fun m18 H18 s18 n18 pf18 => ?_)⟩
  refine ⟨_, rfl, ?_⟩
  refine .mk ((lp.ext e17).same s18) l7 b60 fun H19 a19 us19 s19 lp19 => ?_
  refine ⟨_, rfl, .inl ⟨_, lp19.pls, okp_of ok9 (quart ib9), fun m20 H20 s20 n20 pf20 => ?_⟩⟩
  refine ⟨m18, _, true, rfl, pf18.same (s19.trans s20), .inr ⟨m20, _, rfl, pf20, (decide_eq_true rfl).symm⟩, _, rfl, iteF ?_⟩
  have y20 := ext_of ((s18.trans s19).trans s20)
  have e20 := e17.trans y20
  have T20 := T17.ext ((s18.trans s19).trans s20)
  have o5 := o5.ext y20
  clear pf17 s18 n18 pf18 s19 lp19 s20 n20 pf20 y20 e17 T17
  have cm : ∀ {i j : Int}, -1000 ≤ i → i ≤ 1000 → CMul i j := fun h1 h2 => .inl ⟨by omega, by omega⟩
  rw [tNext_eq]
  dsimp only
  refine if_join (P := fun σ' H' => Ext H3 H' ∧ LamX.Tabs TL H' ∧ ∃ w9, σ' = [some (.ref p), some (.ref a), some (.ref m), some (.int x), some (.int y), some (.int u), some (.int v), some v5, some v7, w9, none, none]) ?_ (fun rest => ?_)
  · rintro σ' HA ⟨eA, TA, w9, rfl⟩
    have lpA := lp.ext eA
    have okm := mir_ok ok9
    refine ⟨_, rfl, a, rfl, ⟨_, SqL.of lpA.1⟩, fun D hD => ?_⟩
    refine lc_list (K := K) (a := a) (xs := ts.map V.ref) (Lm HA D mir ps) (lm_nil hD) (fun i H' _ p => SqL.of (p.1 _ _ lpA.1)) (fun i v H' hx p => ?_) (fun H21 p => ?_)
    · have hi : i < ps.length := by
        have := (List.getElem?_eq_some_iff.mp hx).1
        rw [List.length_map, lpA.len] at this
        exact this
      obtain ⟨g, q1, eg, eq, hg⟩ := lpA.at hi
      rw [eg] at hx
      have ev : V.ref g = v := Option.some.inj hx
      subst ev
      have hg : H' g = some (.tup [.int q1.1, .int q1.2]) := p.1 _ _ hg
      refine ⟨rfl, _, rfl, g, _, 0, _, rfl, rfl, SqT.of hg, rfl, _, rfl, _, rfl, g, _, 1, _, rfl, rfl, SqT.of hg, rfl, by show 2 ≤ sizeLine; decide, fun n nn => ?_⟩
      exact lm_step hD l7 p eq (same_new nn) upd_same
    · rw [List.length_map, lpA.len] at p
      obtain ⟨s21, us21, lp21⟩ := lm_end p
      refine ⟨_, rfl, _, rfl, ?_⟩
      refine .mk lp21 okm.2.1 (InB.le okm.2.2 (by decide)) fun H22 a22 us22 s22 lp22 => ?_
      refine .mk lp22 (by rw [List.length_map, lm]; omega) (by rw [List.length_map, lm]; omega) fun H23 v23 s23 o23 => ?_
      have e23 := eA.trans (ext_of ((s21.trans s22).trans s23))
      have T23 := TA.ext ((s21.trans s22).trans s23)
      clear s21 lp21 s22 lp22 s23 p
      -- mirrored, then turned
      refine lam_in T23 fun H24 N x24 T24 hN => ?_
      have pf24 := pf.ext (e23.trans x24)
      refine ⟨_, rfl, meth_in pf24 (fun _ _ _ => rfl) ⟨m, ps, rfl, pf24, ok9, fun mm H25 s25 n25 pf25 => ?_⟩⟩
      refine meth_in pf25 (fun _ _ _ => rfl) ⟨_, rfl, _, rfl, xy_ok (i := x) (j := y) pf25 okm hN fun H26 v26 s26 o26 => ?_⟩
      have y26 := x24.trans (ext_of (s25.trans s26))
      refine ⟨_, rfl, ?_⟩
      refine .mk o26 (o23.ext y26) ⟨_, rfl, iteF ?_⟩
      have e26 := e23.trans y26
      have T26 := T24.ext (s25.trans s26)
      have o23 := o23.ext y26
      clear x24 T24 hN pf24 s25 n25 pf25 s26 o26 y26 e23 T23
      -- turned back, then mirrored
      refine lam_in T26 fun H27 N x27 T27 hN => ?_
      have pf27 := pf.ext (e26.trans x27)
      refine ⟨_, rfl, meth_in pf27 (fun _ _ _ => rfl) ⟨_, rfl, _, rfl, _, rfl, xy_mir (x := x) (y := y) pf27 ok9 hN (fun H28 v28 s28 o28 => ?_) (fun b H' z => z)⟩⟩
      have y28 := x27.trans (ext_of s28)
      refine ⟨_, rfl, ?_⟩
      refine .mk o28 (o23.ext y28) ⟨_, rfl, iteF ?_⟩
      have e28 := e26.trans y28
      have T28 := T27.ext s28
      clear x27 T27 hN pf27 s28 o28 y28 e26 T26 o23
      -- four quarters
      have pfA := pf.ext e28
      have k1 := quart ib9
      have k2 := quart k1
      have k3' := quart k2
      have k4 := quart k3'
      refine ⟨_, rfl, meth_in pfA (fun _ _ _ => rfl) (xy_new (i := 0) (j := 1) pfA ok9 k1 fun n1 G1 r1 _ p1 => ?_)⟩
      refine meth_in p1 (fun _ _ _ => rfl) (xy_new (i := 0) (j := 1) p1 (okp_of ok9 k1) k2 fun n2 G2 r2 _ p2 => ?_)
      refine meth_in p2 (fun _ _ _ => rfl) ⟨rfl, xy_new (i := 0) (j := 1) p2 (okp_of (okp_of ok9 k1) k2) k3' fun n3 G3 r3 _ p3 => ?_⟩
      refine meth_in p3 (fun _ _ _ => rfl) (xy_new (i := 0) (j := 1) p3 (okp_of (okp_of (okp_of ok9 k1) k2) k3') k4 fun n4 G4 r4 _ p4 => ?_)
      rw [four] at p4
      have r14 := ((r1.trans r2).trans r3).trans r4
      refine ⟨_, rfl, ?_⟩
      refine ⟨n4, ps, true, rfl, p4, .inr ⟨m, ps, rfl, pfA.same r14, (decide_eq_true rfl).symm⟩, _, rfl, iteT ?_⟩
      have e29 := e28.trans (ext_of r14)
      have T29 := T28.ext r14
      have pfB := pf.ext e29
      clear k1 k2 k3' k4 p1 p2 p3 p4 r1 r2 r3 r4 r14 pfA e28 T28
      obtain ⟨dx, t, uu, ha, ⟨us, ht, pr⟩, _⟩ := id pfB
      refine ⟨_, rfl, m, C, dx, _, .ref t, rfl, ha, cl, T.t.n1, rfl, t, rfl, ⟨_, SqT.of ht⟩, fun D2 hD2 => ?_⟩
      refine lc_tup (K := K) (a := t) (xs := us.map V.ref) (Lm G4 D2 id ps) (lm_nil hD2) (fun i H2 _ p => SqT.of (p.1 _ _ ht)) (fun n v H2 hx p => ?_) (fun H30 p => ?_)
      · have hi : n < ps.length := by
          have := (List.getElem?_eq_some_iff.mp hx).1
          rw [List.length_map, Paired.length pr] at this
          exact this
        obtain ⟨g, hg1, hg⟩ := paired_of pr (List.getElem?_eq_getElem hi)
        rw [List.getElem?_map, hg1] at hx
        have ev : V.ref g = v := Option.some.inj hx
        subst ev
        have eq := List.getElem?_eq_getElem hi
        generalize ps[n] = q1 at hg eq
        have hg : H2 g = some (.tup [.int q1.1, .int q1.2]) := p.1 _ _ hg
        refine ⟨rfl, _, rfl, g, _, rfl, .inr ⟨SqT.of hg, ?_⟩⟩
        exact lm_step hD2 l7 p eq Same.me hg
      · rw [List.length_map, Paired.length pr] at p
        obtain ⟨s30, us30, lp30⟩ := lm_end p
        rw [List.map_id] at lp30
        have e30 := e29.trans (ext_of s30)
        refine ⟨_, rfl, ?_⟩
        refine ⟨_, _, lp30.dp, (lp.ext e30).dp, LP.sh _, LP.sh _, ?_⟩
        rw [LP.ev, decide_eq_true rfl]
        exact q _ (k3.trans (Kq.ofE e30)) ((v3.ext e30).le (by omega)) (T29.ext s30)
  · rcases o5 with ⟨ib, b5, us5, rfl, lp5⟩ | ⟨nb, t5, rfl, ht5⟩
    · refine ⟨_, rfl, _, _, _, _, true, rfl, .ty _, .base (.lst lp5.1), kit_ty (by decide +kernel : kitB _ _ = some true), true, rfl, iteT ?_⟩
      have pf20 := pf.ext e20
      have okt := okp_of ok9 ib
      refine ⟨_, rfl, meth_in pf20 (fun _ _ _ => rfl) ⟨_, rfl, _, rfl, xy_new (i := x) (j := y) pf20 ok9 ib fun m21 H21 s21 n21 pf21 => ?_⟩⟩
      have bx := prod_b x1 x2 x1 x2
      have bY := prod_b y1 y2 y1 y2
      refine ⟨_, rfl, _, rfl, _, rfl, _, rfl, _, _, rfl, rfl, cm x1 x2, _, rfl, _, rfl, _, _, rfl, rfl, cm y1 y2, _, _, rfl, rfl, ?_⟩
      refine ⟨m21, a, _, ts, ps, _, rfl, pf21, okt, (lp.ext e20).same s21, ok9, List.length_map .., fun i j hi hj => pg_trn x y ps i j hi hj, fun H22 s22 => ⟨_, rfl, iteF ?_⟩⟩
      have e22 := e20.trans (ext_of (s21.trans s22))
      have T22 := T20.ext (s21.trans s22)
      have pf22 := pf21.same s22
      have lp5 := lp5.same (s21.trans s22)
      clear pf20 s21 n21 pf21 bx bY s22 e20 T20
      refine lam_in T22 fun H23 N x23 T23 hN => ?_
      refine ⟨_, rfl, meth_in (pf22.ext x23) (fun _ _ _ => rfl) ⟨_, rfl, _, rfl, xy_ok (i := u) (j := v) (pf22.ext x23) okt hN fun H24 v24 s24 o24 => ?_⟩⟩
      have y24 := x23.trans (ext_of s24)
      refine ⟨_, rfl, _, rfl, _, rfl, ?_⟩
      refine .mk (lp5.ext y24) okt.2.1 (InB.le ib (by decide)) fun H25 a25 us25 s25 lp25 => ?_
      refine .mk lp25 (by rw [List.length_map, lm]; omega) (by rw [List.length_map, lm]; omega) fun H26 v26 s26 o26 => ?_
      refine .mk (o24.same (s25.trans s26)) o26 ⟨_, rfl, iteF ?_⟩
      have y26 := y24.trans (ext_of (s25.trans s26))
      have e26 := e22.trans y26
      have T26 := (T23.ext s24).ext (s25.trans s26)
      have lp5 := lp5.ext y26
      clear x23 T23 hN s24 o24 y24 s25 lp25 s26 o26 y26 e22 T22 pf22
      refine lam_in T26 fun H27 N x27 T27 hN => ?_
      refine ⟨_, rfl, meth_in (pf.ext (e26.trans x27)) (fun _ _ _ => rfl) ⟨_, rfl, _, rfl, _, _, rfl, rfl, cm x1 x2, _, rfl, _, rfl, _, _, rfl, rfl, cm y1 y2, _, _, rfl, rfl, _, rfl, _, rfl, _, _, rfl, rfl, cm x1 x2, _, rfl, _, rfl, _, _, rfl, rfl, cm y1 y2, _, _, rfl, rfl,
        xy_ok (i := x * u - y * v) (j := x * v + y * u) (pf.ext (e26.trans x27)) ok9 hN fun H28 v28 s28 o28 => ?_⟩⟩
      rw [← trn_map] at o28
      have y28 := x27.trans (ext_of s28)
      refine ⟨_, rfl, _, rfl, _, rfl, ?_⟩
      refine .mk (lp5.ext y28) okt.2.1 (InB.le ib (by decide)) fun H29 a29 us29 s29 lp29 => ?_
      refine .mk lp29 (by rw [List.length_map, lm]; omega) (by rw [List.length_map, lm]; omega) fun H30 v30 s30 o30 => ?_
      refine .mk (o28.same (s29.trans s30)) o30 ⟨_, rfl, iteF ?_⟩
      exact rest _ _ ⟨e26.trans (y28.trans (ext_of (s29.trans s30))), (T27.ext s28).ext (s29.trans s30), _, rfl⟩
    · refine ⟨_, rfl, _, _, _, _, false, rfl, .ty _, .base (.tup ht5), kit_ty (by decide +kernel : kitB _ _ = some false), false, rfl, iteF ?_⟩
      exact rest _ _ ⟨e20, T20, none, rfl⟩
end
end K12

namespace K12
open PySem PySem.Spec PyProof.Rows L2
theorem InB.of_ok {ps : List (Int × Int)} (ok : OkP ps) : InB G9 ps := ok.2.2
def twoD (xs ys : List Int) : PyData := .tuple [.tuple (xs.map PyData.int), .tuple (ys.map PyData.int)]
theorem Two.dp {K : PySem.W.Frag} {H : Hp} {u : Addr} {xs ys : List Int} (h : Two H u xs ys) : Dp K H (.ref u) (twoD xs ys) := let ⟨_, _, e, e0, e1⟩ := h; .tup (SqT.of e) (.cons (.tup (SqT.of e0) (dp_ints xs)) (.cons (.tup (SqT.of e1) (dp_ints ys)) .nil))
theorem two_sh (xs ys : List Int) : SeqAt.shaped (twoD xs ys) = true := by
  show (PyData.canLayAll0 [.tuple (xs.map PyData.int), .tuple (ys.map PyData.int)] && decide (PyData.depthAll [.tuple (xs.map PyData.int), .tuple (ys.map PyData.int)] + 1 ≤ 64)) = true
  have e1 : PyData.canLayAll0 [.tuple (xs.map PyData.int), .tuple (ys.map PyData.int)] = true := by
    show (PyData.canLayAll0 (xs.map PyData.int) && (PyData.canLayAll0 (ys.map PyData.int) && true)) = true
    rw [ints_lay, ints_lay]
    rfl
  have e2 : PyData.depthAll [.tuple (xs.map PyData.int), .tuple (ys.map PyData.int)] ≤ 1 := by
    show max (PyData.depthAll (xs.map PyData.int) + 1) (max (PyData.depthAll (ys.map PyData.int) + 1) _) ≤ 1
    have h1 := ints_depth xs
    have h2 := ints_depth ys
    have h3 : PyData.depthAll [] = 0 := rfl
    omega
  rw [e1, Bool.true_and, decide_eq_true_iff]
  omega
theorem two_self (xs ys : List Int) : PyData.eqv (twoD xs ys) (twoD xs ys) = true := by
  show (PyData.eqvAll (xs.map PyData.int) (xs.map PyData.int) && (PyData.eqvAll (ys.map PyData.int) (ys.map PyData.int) && true)) = true
  rw [ints_self, ints_self]
  rfl
theorem fdiv_b {M : Int} (h : 1 ≤ M) : 0 ≤ (1000000000 : Int).fdiv M ∧ (1000000000 : Int).fdiv M ≤ 1000000000 := by
  rw [Int.fdiv_eq_ediv_of_nonneg _ (by omega)]
  exact ⟨Int.ediv_nonneg (by decide) (by omega), Int.ediv_le_self _ (by decide)⟩
theorem cmW {n : Int} (h : n.natAbs ≤ 10 ^ 40) : CMulW n n := by
  have hl : n.natAbs.log2 < 200 := PySem.Flt.log2_lt_of (by decide) (Nat.lt_of_le_of_lt h (by decide))
  show n.natAbs.log2 + n.natAbs.log2 < 1000000
  omega
abbrev sCH : Stmt := top 53
abbrev nCH : List Str := ["_law_lens_here", "_law_places_here", "_law_made", "_law_far", "_law_x", "_law_y", "_law_number", "_law_moved", "_law_shifted", "_law_scaled", "_law_back", "_law_side", "_law_place"]
theorem scCH : FnScope nCH ["_law_lens_here", "_law_places_here"] (defScope sCH) := ⟨rfl, rfl, rfl, by decide +kernel, rfl, by decide +kernel, by decide +kernel⟩
def qCH : Str := (envOfC "_law_changed_right" (defScope sCH) 0 0 (.ref 0)).qual ++ "<lambda>"
section
variable {P : Program} {w : World} {K : PySem.W.Frag} {mg : Str → Option Value} {base : Heap} {C CB CS CN CT : Addr}
theorem ok_ch {f c Pt g : Addr} {fdH : FuncData} {oc kV doc pm ct : Value} {od an : Option Addr} {osl : Array (Option Value)} {TL : List (Addr × Str)} (hmT : (Pt, qCH) ∈ TL) (hU : ∀ x ∈ TL, x.1 = Pt → x.2 = qCH)
    (lk : K.lookup f = some ⟨oc, od, .func (PySem.W.fnOf "_law_changed_right" "_law_changed_right" (defArgs sCH) (defBody sCH) (defScope sCH) .none kV doc pm an (.ref c) ct), osl⟩) (hcd : PySem.W.codeIn K (.ref c) "_law_changed_right" = true)
    (TB : LamX.TabB base mg c Pt) (B : Bn mg) (hmax : mg "max" = none) (T : Pc P w K mg base C CB) (M : Pm P w K mg base C CT CN) (S : SeT K mg CS CN CT) (FH : Fun K "_law_heard" "_law_heard" sHd g fdH) (mH : mg "_law_heard" = some (.ref g))
    (C1 : Callee P w K mg base CX0 1 "_law_shot" ["_law_lens_here", "_law_many"] spShot) (C2 : Callee P w K mg base CX0 2 "_law_pick" ["_law_lens_here", "_law_some"] spPick) (C3 : Callee P w K mg base CX0 1 "_law_farthest" ["_law_places_here"] spFar)
    (C4 : Callee P w K mg base CX0 2 "_law_due" ["_law_places_here"] spDue) (C5 : Callee P w K mg base CX0 3 "_law_are_times" ["_law_picture", "_law_places_here", "_law_number"] (spTm C)) :
    FnOk P w K mg base CX0 12 f (PySem.W.fnOf "_law_changed_right" "_law_changed_right" (defArgs sCH) (defBody sCH) (defScope sCH) .none kV doc pm an (.ref c) ct) ["_law_lens_here", "_law_places_here"] (spQ TL 6) := by
  obtain ⟨f1, fd1, m1, k1, b1, G1⟩ := C1
  obtain ⟨f2, fd2, m2, k2, b2, G2⟩ := C2
  obtain ⟨f3, fd3, m3, k3, b3, G3⟩ := C3
  obtain ⟨f4, fd4, m4, k4, b4, G4⟩ := C4
  obtain ⟨f5, fd5, m5, k5, b5, G5⟩ := C5
  have G4 := G4.imp fun _ _ _ _ h => DueI.sp h
  obtain ⟨ocH, odH, kVH, docH, pmH, anH, cdvH, ctH, oslH, rfl, lkH, hcH⟩ := FH.ex
  have bH := FH.binds (ps := ["_law_ask"]) fun _ _ _ _ _ _ us hl => match us, hl with | [_], _ => rfl
  obtain ⟨ft, fdt, ds1, ds2, gk, Mt, Gt, bt, vd1, bt1, vd2, bt2, kt2, kt1⟩ := M.tu
  obtain ⟨fs, fds, Ms, Gs, bs, ks2⟩ := M.sh
  obtain ⟨fx, fdx, Mx, Gx, bx, kx1⟩ := M.ti
  obtain ⟨fm, fdm, Mm, Gm, bm⟩ := M.mi
  obtain ⟨fE, fdE, GE, hsE, hfE, bE⟩ := T.eq
  have cl := T.t.pc.cls
  have nd := scCH.nd
  refine fn_of lk hcd scCH (fun vs H Q E h => ?_) fun A outer s H vs Q E hr h => ?_
  · obtain ⟨p, a, n, ts, ps, rfl, _⟩ := h
    rfl
  suffices hh : ∃ t, PSs (cxOf CX0 P w K mg base nCH "_law_changed_right" (defScope sCH) f (.ref c) A outer s H E).nox (defBody sCH) t ∧ t { nx := fun _ H' => Q .non H', rt := Q } (L2.start nCH vs) H from let ⟨t, h1, h2⟩ := hh; ⟨t, h1.nox, h2⟩
  obtain ⟨p, a, n, ts, ps, rfl, hv, hn, nap, lp, l4, l7, b6, hT, q⟩ := h
  refine ⟨_, (pss_cons (ps_asg (pe_tup (pa_cons ((pe_mkP (E := E0) T (hr.mono (by decide)) passL rfl (pa_cons (pv 1) pa_nil))) (pa_cons ((pe_call G3 (hr.mono (by decide)) rfl m3 k3 b3 .nil pass0 (pa_cons (pv 1) pa_nil))) pa_nil))) (pg_tup rfl (pgs_cons ((pg_name (i := 2) nd rfl (Or.inr rfl))) (pgs_cons ((pg_name (i := 3) nd rfl (Or.inr rfl))) pgs_nil)))) (pss_cons (ps_asg (pe_lc (own := [("_law_side", 11)]) (g := gName 11) (tt := tYes) rfl nd (pi_range1 rfl B.range (pa_cons (pe_int) pa_nil)) (blkOk_by (N := nCH) (sc := defScope sCH) (by decide +kernel)) (fun _ _ _ _ _ => (pg_name (i := 11) nd rfl (Or.inl rfl))) (fun _ _ _ _ _ => pts_nil)
      (fun _ _ _ _ _ => (pe_call G2 (hr.mono (by decide)) rfl m2 k2 b2 .nil pass0 (pa_cons (pv 0) (pa_cons (pe_lst (pa_cons (pe_int) (pa_cons (pe_int) (pa_cons (pe_un un_neg pe_int) (pa_cons (pe_op op_sub (pe_op op_pow pe_int pe_int) (pv 3)) (pa_cons (pe_op op_add (pe_op op_sub (pe_op op_pow pe_int pe_int) (pv 3)) pe_int) (pa_cons (pe_op op_sub (pv 3) (pe_op op_pow pe_int pe_int)) (pa_cons (pe_op op_pow pe_int pe_int) (pa_cons ((pe_call G1 (hr.mono (by decide)) rfl m1 k1 b1 .nil pass0 (pa_cons (pv 0) (pa_cons (pe_int) pa_nil)))) pa_nil))))))))) pa_nil))))) (pg_unl rfl (pgs_cons (pg_name (i := 4) nd rfl (Or.inr rfl)) (pgs_cons (pg_name (i := 5) nd rfl (Or.inr rfl)) pgs_nil)))) (pss_cons ((ps_set (i := 6) nd rfl (Or.inr rfl) ((pe_call G2 (hr.mono (by decide)) rfl m2 k2 b2 .nil pass0 (pa_cons (pv 0) (pa_cons (pe_lst (pa_cons (pe_int) (pa_cons (pe_int) (pa_cons (pe_un un_neg pe_int) (pa_cons (pe_int) (pa_cons (pe_un un_neg pe_int) (pa_cons ((pe_callTy call_int1 (by rfl) B.int boot_int (pa_cons (pe_op op_fdivWN (pe_op op_pow pe_int pe_int) (pe_callB (call_max2 rfl) (by rfl) hmax (by decide +kernel) (pa_cons (pe_int) (pa_cons (pv 3) pa_nil)))) pa_nil))) (pa_cons (pe_op op_add (pe_callTy call_int1 (by rfl) B.int boot_int (pa_cons (pe_op op_fdivWN (pe_op op_pow pe_int pe_int) (pe_callB (call_max2 rfl) (by rfl) hmax (by decide +kernel) (pa_cons (pe_int) (pa_cons (pv 3) pa_nil)))) pa_nil)) pe_int) (pa_cons (pe_un un_neg (pe_op op_pow pe_int pe_int)) pa_nil))))))))) pa_nil)))))) (pss_cons (ps_setLc (i := 7) (own := [("_law_place", 12)]) (g := gName 12) (tt := tYes) rfl nd rfl rfl (sw_true rfl rfl rfl (by decide +kernel)) (pi_list (pv 1)) (blkOk_by (N := nCH) (sc := defScope sCH) (by decide +kernel)) (fun _ _ _ _ _ => (pg_name (i := 12) nd rfl (Or.inl rfl))) (fun _ _ _ _ _ => pts_nil) (fun _ _ _ _ _ => pe_tup (pa_cons (pe_op op_add (pe_ix (r := rIxT K) ix_tupK (pv 12) (pe_int) (fun _ _ => rfl)) (pv 4)) (pa_cons (pe_op op_add (pe_ix (r := rIxT K) ix_tupK (pv 12) (pe_int) (fun _ _ => rfl)) (pv 5)) pa_nil)))) (pss_cons (ps_if (pt_cmpR (op_neO hr.units) ((LamX.pe_lamcall (T := TL) (TT := THeard C CN CT) (Ng := nHd) (a := "_law_ask") (k := 9) rfl mH FH.kp lkH hcH bH scHd rfl (Or.inl rfl) (heard_gives B T.mgC T.t S) TB rfl hmT hU hr (LamX.lamS_by (by show LamX.lamSB (defScope sCH) _ = true; decide +kernel)) rfl (fun _ _ _ _ _ => rfl) (fun A outer s H E f c hr => (pe_meth (E := E) (pv 2) cl Ms Gs hr bs .nil lam_passes (pa_cons (pv 4) (pa_cons (pv 5) pa_nil)))))) ((pe_call G4 (hr.mono (by decide)) rfl m4 k4 b4 .nil pass0 (pa_cons (pv 7) pa_nil))) (nomark _)) (pss_one (ps_ret pe_bl)) pss_nil) (pss_cons (ps_if (pt_cmpR (op_neO hr.units) ((LamX.pe_lamcall (T := TL) (TT := THeard C CN CT) (Ng := nHd) (a := "_law_ask") (k := 9) rfl mH FH.kp lkH hcH bH scHd rfl (Or.inl rfl) (heard_gives B T.mgC T.t S) TB rfl hmT hU hr (LamX.lamS_by (by show LamX.lamSB (defScope sCH) _ = true; decide +kernel)) rfl (fun _ _ _ _ _ => rfl) (fun A outer s H E f c hr => (pe_methK0 (E := E) (pv 2) cl Ms Gs hr ks2 lam_passes (pk_cons (pv 5) (pk_cons (pv 4) pk_nil)))))) ((pe_call G4 (hr.mono (by decide)) rfl m4 k4 b4 .nil pass0 (pa_cons (pv 7) pa_nil))) (nomark _)) (pss_one (ps_ret pe_bl)) pss_nil) (pss_cons (ps_if (pt_val (pe_callB (r := rIsi K) call_isi (by rfl) B.isinstance boot_isinstance (pa_cons ((pe_call G4 (hr.mono (by decide)) rfl m4 k4 b4 .nil pass0 (pa_cons (pv 7) pa_nil))) (pa_cons (pe_bltn (v := .ty "list") (by rfl) B.list (by decide +kernel) rfl) pa_nil))))
      (pss_cons ((ps_set (i := 8) nd rfl (Or.inl rfl) ((pe_meth (E := E0) (pv 2) cl Ms Gs (hr.mono (by decide)) bs .nil passL (pa_cons (pv 4) (pa_cons (pv 5) pa_nil)))))) (pss_one (ps_if (PW.pt (pw_or ((pt_cmpR (op_neD hr.units) (pe_fld (pv 8) rfl) (pe_fld (pv 2) rfl) (nomark _))) (pw_or ((pt_cmpR (op_neP GE hsE hfE bE T.n T.t (hr.mono (by decide))) ((pe_meth (E := E0) (pv 8) cl Ms Gs (hr.mono (by decide)) bs .nil passL (pa_cons (pe_un un_neg (pv 4)) (pa_cons (pe_un un_neg (pv 5)) pa_nil)))) (pv 2) (nomark _))) (pw_or1 (pt_not (pt_val (pe_call G5 (hr.mono (by decide)) rfl m5 k5 b5 .nil pass0 (pa_cons (pv 8) (pa_cons (pv 1) (pa_cons (pe_int) pa_nil)))))))))) (pss_one (ps_ret pe_bl)) pss_nil))) pss_nil) (pss_cons (ps_setLc (i := 9) (own := [("_law_place", 12)]) (g := gName 12) (tt := tYes) rfl nd rfl rfl (sw_true rfl rfl rfl (by decide +kernel)) (pi_list (pv 1)) (blkOk_by (N := nCH) (sc := defScope sCH) (by decide +kernel)) (fun _ _ _ _ _ => (pg_name (i := 12) nd rfl (Or.inl rfl))) (fun _ _ _ _ _ => pts_nil) (fun _ _ _ _ _ => pe_tup (pa_cons (pe_op op_mul (pv 6) (pe_ix (r := rIxT K) ix_tupK (pv 12) (pe_int) (fun _ _ => rfl))) (pa_cons (pe_op op_mul (pv 6) (pe_ix (r := rIxT K) ix_tupK (pv 12) (pe_int) (fun _ _ => rfl))) pa_nil)))) (pss_cons (ps_if (pt_cmpR (op_neO hr.units) ((LamX.pe_lamcall (T := TL) (TT := THeard C CN CT) (Ng := nHd) (a := "_law_ask") (k := 9) rfl mH FH.kp lkH hcH bH scHd rfl (Or.inl rfl) (heard_gives B T.mgC T.t S) TB rfl hmT hU hr (LamX.lamS_by (by show LamX.lamSB (defScope sCH) _ = true; decide +kernel)) rfl (fun _ _ _ _ _ => rfl) (fun A outer s H E f c hr => (pe_meth (E := E) (pv 2) cl Mx Gx hr bx .nil lam_passes (pa_cons (pv 6) pa_nil))))) ((pe_call G4 (hr.mono (by decide)) rfl m4 k4 b4 .nil pass0 (pa_cons (pv 9) pa_nil))) (nomark _)) (pss_one (ps_ret pe_bl)) pss_nil) (pss_cons (ps_if (pt_cmpR (op_neO hr.units) ((LamX.pe_lamcall (T := TL) (TT := THeard C CN CT) (Ng := nHd) (a := "_law_ask") (k := 9) rfl mH FH.kp lkH hcH bH scHd rfl (Or.inl rfl) (heard_gives B T.mgC T.t S) TB rfl hmT hU hr (LamX.lamS_by (by show LamX.lamSB (defScope sCH) _ = true; decide +kernel)) rfl (fun _ _ _ _ _ => rfl) (fun A outer s H E f c hr => (pe_methK0 (E := E) (pv 2) cl Mx Gx hr kx1 lam_passes (pk_cons (pv 6) pk_nil))))) ((pe_call G4 (hr.mono (by decide)) rfl m4 k4 b4 .nil pass0 (pa_cons (pv 9) pa_nil))) (nomark _)) (pss_one (ps_ret pe_bl)) pss_nil) (pss_cons (ps_if (PW.pt (pw_and (pt_val (pe_callB (r := rIsi K) call_isi (by rfl) B.isinstance boot_isinstance (pa_cons ((pe_call G4 (hr.mono (by decide)) rfl m4 k4 b4 .nil pass0 (pa_cons (pv 9) pa_nil))) (pa_cons (pe_bltn (v := .ty "list") (by rfl) B.list (by decide +kernel) rfl) pa_nil)))) (pw_and1 ((PW.pt (pw_or (pt_not (pt_val (pe_call G5 (hr.mono (by decide)) rfl m5 k5 b5 .nil pass0 (pa_cons ((pe_meth (E := E0) (pv 2) cl Mx Gx (hr.mono (by decide)) bx .nil passL (pa_cons (pv 6) pa_nil))) (pa_cons (pv 1) (pa_cons ((pe_op op_mulW (pv 6) (pv 6))) pa_nil)))))) (pw_or1 ((pt_cmpR (op_neP GE hsE hfE bE T.n T.t (hr.mono (by decide))) ((pe_meth (E := E0) (pv 2) cl Mx Gx (hr.mono (by decide)) bx .nil passL (pa_cons (pv 6) pa_nil))) ((pe_meth (E := E0) (pv 2) cl Mt Gt (hr.mono (by decide)) bt .nil passL (pa_cons (pv 6) (pa_cons (pe_int) pa_nil)))) (nomark _)))))))))) (pss_one (ps_ret pe_bl)) pss_nil) (pss_cons ((ps_set (i := 10) nd rfl (Or.inl rfl) ((pe_meth0 (pv 2) cl Mm Gm (hr.mono (by decide)) bm .nil pass0)))) (pss_cons (ps_if (PW.pt (pw_or ((pt_cmpR (op_neD hr.units) (pe_lc (own := [("_law_place", 12)]) (g := gName 12) (tt := tYes) rfl nd (pi_tup (pe_fld (pv 10) rfl)) (blkOk_by (N := nCH) (sc := defScope sCH) (by decide +kernel)) (fun _ _ _ _ _ => (pg_name (i := 12) nd rfl (Or.inl rfl))) (fun _ _ _ _ _ => pts_nil) (fun _ _ _ _ _ => (pe_callTy (T := "tuple") (r := rTu K) call_tuK (by rfl) B.tuple (by decide +kernel) (pa_cons (pv 12) pa_nil)))) (pe_lc (own := [("_law_place", 12)]) (g := gName 12) (tt := tYes) rfl nd (pi_list (pv 1)) (blkOk_by (N := nCH) (sc := defScope sCH) (by decide +kernel)) (fun _ _ _ _ _ => (pg_name (i := 12) nd rfl (Or.inl rfl))) (fun _ _ _ _ _ => pts_nil) (fun _ _ _ _ _ => pe_tup (pa_cons (pe_un un_neg (pe_ix (r := rIxT K) ix_tupK (pv 12) (pe_int) (fun _ _ => rfl))) (pa_cons ((pe_ix (r := rIxT K) ix_tupK (pv 12) (pe_int) (fun _ _ => rfl))) pa_nil)))) (nomark _))) (pw_or1 (pt_not (pt_val (pe_call G5 (hr.mono (by decide)) rfl m5 k5 b5 .nil pass0 (pa_cons (pv 10) (pa_cons (pv 1) (pa_cons (pe_int) pa_nil))))))))) (pss_one (ps_ret pe_bl)) pss_nil) (pss_one (ps_ret (pe_and ((pe_cmpR (op_eqP GE hsE hfE bE T.n (hr.mono (by decide))) ((pe_meth0 (pv 10) cl Mm Gm (hr.mono (by decide)) bm .nil pass0)) (pv 2) (nomark _))) (pe_one ((pe_cmpR (op_eqD hr.units) (pe_lc (own := [("_law_place", 12)]) (g := gName 12) (tt := tYes) rfl nd (pi_tup (pe_fld (pv 2) rfl)) (blkOk_by (N := nCH) (sc := defScope sCH) (by decide +kernel)) (fun _ _ _ _ _ => (pg_name (i := 12) nd rfl (Or.inl rfl))) (fun _ _ _ _ _ => pts_nil) (fun _ _ _ _ _ => (pe_callTy (T := "tuple") (r := rTu K) call_tuK (by rfl) B.tuple (by decide +kernel) (pa_cons (pv 12) pa_nil)))) (pv 1) (nomark _)))))))))))))))))))), ?_⟩
  have ok9 : OkP ps := ⟨l4, l7, b6.le (by decide)⟩
  have ib9 : InB G9 ps := ok9.2.2
  have b60 : InB (2 ^ 60) ps := b6.le (by decide)
  have lm : ∀ f : Int × Int → Int × Int, (ps.map f).length = ps.length := fun f => List.length_map ..
  refine ⟨_, rfl, _, rfl, .inl ⟨ps, lp.pls, ok9, fun m H1 s1 nm pf => ?_⟩⟩
  refine ⟨_, rfl, a, ts, ps, rfl, lp.same s1, by omega, l7, fun H2 F s2 F0 hF => ?_⟩
  refine ⟨by show 2 ≤ sizeLine; decide, fun t3 nt3 => ?_⟩
  have s3 := same_new (o := .tup [V.ref m, V.int F]) nt3
  refine ⟨t3, _, rfl, SqT.of upd_same, rfl, _, _, rfl, _, _, rfl, rfl, ?_⟩
  have sA := (s1.trans s2).trans s3
  have F6 : F ≤ 1000000 := (hF _).mpr b6
  have v3 := hv.same sA
  have T3 := hT.ext sA
  have pf := pf.same (s2.trans s3)
  have lp := lp.same sA
  have k3 : Kq p H _ := Kq.ofE (ext_of sA)
  generalize upd H2 t3 (.tup [V.ref m, V.int F]) = H3 at v3 T3 pf lp k3 ⊢
  clear s1 s2 s3 sA nt3 hv hT hF
  -- two numbers
  have e9 : (10 : Int) ^ (Int.toNat 9) = 1000000000 := by decide
  refine ⟨2, rfl, by decide, by decide, fun D hD => ?_⟩
  have nDp := v3.not_none hD
  refine lc_range (lo := 0) (n := 2) (fun i H' => SB p H3 H' ∧ Lens H' p (n + 2 * i) ∧ ∃ zs : List Int, zs.length = i ∧ H' D = some (.lst (zs.map V.int))) ⟨SB.of (same_new hD), (v3.same (same_new hD)).le (by omega), [], rfl, upd_same⟩ (fun i H' hi pv => ?_) (fun H4 pv => ?_)
  · obtain ⟨s, v, zs, lz, hz⟩ := pv
    refine ⟨rfl, yes_of ?_⟩
    refine ⟨_, rfl, _, rfl, _, _, rfl, rfl, ⟨by decide, by decide, by decide⟩, _, rfl, _, _, rfl, rfl, _, _, rfl, rfl, ⟨by decide, by decide, by decide⟩, _, rfl, _, _, rfl, rfl, _, _, rfl, rfl, _, rfl, _, _, rfl, rfl, ⟨by decide, by decide, by decide⟩, _, _, rfl, rfl, _, _, rfl, rfl, ⟨by decide, by decide, by decide⟩, _, rfl, ?_⟩
    refine ⟨p, 99, _, rfl, v, by omega, by decide, by decide, fun Ha d sa va d0 d1 => ?_⟩
    refine ⟨by show 8 ≤ sizeLine; decide, fun l nl => ?_⟩
    refine ⟨p, l, _, _, rfl, va.same (same_new nl), by omega, upd_same, va.not_none nl, by show 0 < 8; decide, by show 8 ≤ 1000; decide, fun Hb x sb vb hx => ?_⟩
    obtain ⟨z, rfl⟩ : ∃ z : Int, x = .int z := by
      simp only [List.mem_cons, List.not_mem_nil, or_false] at hx
      rcases hx with rfl | rfl | rfl | rfl | rfl | rfl | rfl | rfl <;> exact ⟨_, rfl⟩
    have s2 := (sa.trans (SB.of (same_new nl))).trans sb
    have hz2 := s2.1 _ _ nDp hz
    exact ⟨_, hz2, by rw [List.length_map, lz]; exact small1000 (by omega), (s.trans s2).upd v3 hD, (vb.upd v3 (s.trans s2) hD).le (by omega), zs ++ [z], by rw [List.length_append, lz]; rfl, by rw [upd_same, List.map_append]; rfl⟩
  obtain ⟨s4, v4, zs, lz, hz⟩ := pv
  obtain ⟨x, y, rfl⟩ : ∃ x y, zs = [x, y] := by
    match zs, lz with
    | [x, y], _ => exact ⟨x, y, rfl⟩
  refine ⟨D, _, rfl, SqL.of hz, rfl, _, _, rfl, _, _, rfl, rfl, ?_⟩
  have T4 := tabs_sb T3 v3 s4
  have pf := pf.sb v3 s4
  have lp := lp.sb v3 nap s4
  have k4' := k3.trans (Kq.ofS s4)
  clear hz lz s4 T3 nDp hD
  -- a factor
  obtain ⟨W, hW⟩ : ∃ W : Int, W = if 1 < F then F else 1 := ⟨_, rfl⟩
  have W1 : 1 ≤ W := by
    rw [hW]
    split <;> omega
  have W2 : W ≤ 1000000 := by
    rw [hW]
    split <;> omega
  have hdv : CDivWN ((10 : Int) ^ (Int.toNat 9)) W := cdiv_of (b := 64) (by omega) (by omega) (by decide) (by decide)
  have fb := fdiv_b W1
  refine ⟨_, rfl, _, rfl, _, rfl, _, _, rfl, rfl, ⟨by decide, by decide, by decide⟩, _, rfl, _, _, rfl, ?_⟩
  rw [← hW]
  refine ⟨_, _, rfl, rfl, hdv, .inl ⟨_, rfl, _, _, rfl, rfl, ⟨by decide, by decide, by decide⟩, _, rfl, _, _, rfl, ?_⟩⟩
  rw [← hW]
  refine ⟨_, _, rfl, rfl, hdv, .inl ⟨_, rfl, _, _, rfl, rfl, _, _, rfl, rfl, ⟨by decide, by decide, by decide⟩, _, rfl, ?_⟩⟩
  refine ⟨by show 8 ≤ sizeLine; decide, fun l nl => ?_⟩
  refine ⟨p, l, _, _, rfl, v4.same (same_new nl), by omega, upd_same, v4.not_none nl, by show 0 < 8; decide, by show 8 ≤ 1000; decide, fun H5 xx s5 v5 hx => ?_⟩
  obtain ⟨N, rfl, hN40⟩ : ∃ z : Int, xx = .int z ∧ z.natAbs ≤ 10 ^ 40 := by
    simp only [List.mem_cons, List.not_mem_nil, or_false] at hx
    have e40 : (10 : Int) ^ (Int.toNat 40) = 10 ^ 40 := by decide
    rcases hx with rfl | rfl | rfl | rfl | rfl | rfl | rfl | rfl
    · exact ⟨_, rfl, by decide⟩
    · exact ⟨_, rfl, by decide⟩
    · exact ⟨_, rfl, by decide⟩
    · exact ⟨_, rfl, by decide⟩
    · exact ⟨_, rfl, by decide⟩
    · exact ⟨_, rfl, by rw [e9]; omega⟩
    · exact ⟨_, rfl, by rw [e9]; omega⟩
    · exact ⟨_, rfl, by decide⟩
  have T5 := tabs_sb (T4.ext (same_new nl)) (v4.same (same_new nl)) s5
  have pf := (pf.same (same_new nl)).sb (v4.same (same_new nl)) s5
  have lp := (lp.same (same_new nl)).sb (v4.same (same_new nl)) nap s5
  have k5' := (k4'.trans (Kq.ofE (ext_of (same_new nl)))).trans (Kq.ofS s5)
  clear hx nl s5 v4 v3 T4 k3 k4' hW W1 W2 hdv fb
  -- moved
  refine ⟨_, rfl, a, rfl, ⟨_, SqL.of lp.1⟩, fun D7 hD7 => ?_⟩
  refine lc_list (K := K) (a := a) (xs := ts.map V.ref) (Lm H5 D7 (shf x y) ps) (lm_nil hD7) (fun i H' _ p => SqL.of (p.1 _ _ lp.1)) (fun i v H' hx p => ?_) (fun H7 p => ?_)
  · have hi : i < ps.length := by
      have := (List.getElem?_eq_some_iff.mp hx).1
      rw [List.length_map, lp.len] at this
      exact this
    obtain ⟨g, q1, eg, eq, hg⟩ := lp.at hi
    rw [eg] at hx
    have ev : V.ref g = v := Option.some.inj hx
    subst ev
    obtain ⟨c1, c2, c3, c4⟩ := b6 q1 (List.mem_of_getElem? eq)
    have hg : H' g = some (.tup [.int q1.1, .int q1.2]) := p.1 _ _ hg
    refine ⟨rfl, _, rfl, g, _, 0, _, rfl, rfl, SqT.of hg, rfl, _, rfl, _, _, rfl, rfl, _, rfl, g, _, 1, _, rfl, rfl, SqT.of hg, rfl, _, rfl, _, _, rfl, rfl, by show 2 ≤ sizeLine; decide, fun n nn => ?_⟩
    exact lm_step hD7 l7 p eq (same_new nn) upd_same
  rw [List.length_map, lp.len] at p
  obtain ⟨s7, us7, lp7⟩ := lm_end p
  clear p
  have pf7 := pf.same s7
  have lpa := lp.same s7
  have T7 := T5.ext s7
  have v7 := v5.same s7
  have k7 := k5'.trans (Kq.ofE (ext_of s7))
  clear pf lp T5 v5 k5' s7
  -- heard, by place
  refine lam_in T7 fun H8 N8 x8 T8 hN => ?_
  refine ⟨_, rfl, meth_in (pf7.ext x8) (fun _ _ _ => rfl) ⟨_, rfl, _, rfl, xy_ok (i := x) (j := y) (pf7.ext x8) ok9 hN fun H9 w9 s9 o9 => ?_⟩⟩
  have y9 := x8.trans (ext_of s9)
  refine ⟨_, rfl, ?_⟩
  refine .mk (lp7.ext y9) (by rw [lm]; omega) (by rw [lm]; omega) fun H10 w10 s10 o10 => ?_
  refine .mk (o9.same s10) o10 ⟨_, rfl, iteF ?_⟩
  have e10 : Ext H7 H10 := y9.trans (ext_of s10)
  have T10 := (T8.ext s9).ext s10
  clear x8 T8 hN s9 o9 y9 s10 o10
  -- heard, by name
  refine lam_in T10 fun H11 N11 x11 T11 hN => ?_
  refine ⟨_, rfl, meth_in (pf7.ext (e10.trans x11)) (fun _ _ _ => rfl) ⟨_, rfl, _, rfl, rfl, xy_ok (i := x) (j := y) (pf7.ext (e10.trans x11)) ok9 hN fun H12 w12 s12 o12 => ?_⟩⟩
  have y12 := (e10.trans x11).trans (ext_of s12)
  refine ⟨_, rfl, ?_⟩
  refine .mk (lp7.ext y12) (by rw [lm]; omega) (by rw [lm]; omega) fun H13 w13 s13 o13 => ?_
  refine .mk (o12.same s13) o13 ⟨_, rfl, iteF ?_⟩
  have e13 : Ext H7 H13 := y12.trans (ext_of s13)
  have T13 := (T11.ext s12).ext s13
  clear x11 T11 hN s12 o12 y12 s13 o13 e10 T10
  rw [tNext_eq]
  dsimp only
  refine if_join (P := fun σ' H' => Ext H7 H' ∧ LamX.Tabs TL H' ∧ ∃ w8, σ' = [some (.ref p), some (.ref a), some (.ref m), some (.int F), some (.int x), some (.int y), some (.int N), some (.ref D7), w8, none, none, none, none]) ?_ (fun rest => ?_)
  · rintro σ' HA ⟨eA, TA, w8, rfl⟩
    have lpA := lpa.ext eA
    refine ⟨_, rfl, a, rfl, ⟨_, SqL.of lpA.1⟩, fun D9 hD9 => ?_⟩
    refine lc_list (K := K) (a := a) (xs := ts.map V.ref) (Lm HA D9 (tms N) ps) (lm_nil hD9) (fun i H' _ p => SqL.of (p.1 _ _ lpA.1)) (fun i v H' hx p => ?_) (fun H14 p => ?_)
    · have hi : i < ps.length := by
        have := (List.getElem?_eq_some_iff.mp hx).1
        rw [List.length_map, lpA.len] at this
        exact this
      obtain ⟨g, q1, eg, eq, hg⟩ := lpA.at hi
      rw [eg] at hx
      have ev : V.ref g = v := Option.some.inj hx
      subst ev
      obtain ⟨c1, c2, c3, c4⟩ := b6 q1 (List.mem_of_getElem? eq)
      have hg : H' g = some (.tup [.int q1.1, .int q1.2]) := p.1 _ _ hg
      refine ⟨rfl, _, rfl, _, rfl, g, _, 0, _, rfl, rfl, SqT.of hg, rfl, _, _, rfl, rfl, .inr ⟨by omega, by omega⟩, _, rfl, _, rfl, g, _, 1, _, rfl, rfl, SqT.of hg, rfl, _, _, rfl, rfl, .inr ⟨by omega, by omega⟩, by show 2 ≤ sizeLine; decide, fun n nn => ?_⟩
      exact lm_step hD9 l7 p eq (same_new nn) upd_same
    rw [List.length_map, lpA.len] at p
    obtain ⟨s14, us14, lp14⟩ := lm_end p
    clear p
    have e14 := eA.trans (ext_of s14)
    have T14 := TA.ext s14
    clear lpA s14 eA TA
    -- heard, by place
    refine lam_in T14 fun H15 N15 x15 T15 hN => ?_
    refine ⟨_, rfl, meth_in (pf7.ext (e14.trans x15)) (fun _ _ _ => rfl) ⟨_, rfl, ti_ok (i := N) (pf7.ext (e14.trans x15)) ok9 hN fun H16 w16 s16 o16 => ?_⟩⟩
    have y16 := x15.trans (ext_of s16)
    refine ⟨_, rfl, ?_⟩
    refine .mk (lp14.ext y16) (by rw [lm]; omega) (by rw [lm]; omega) fun H17 w17 s17 o17 => ?_
    refine .mk (o16.same s17) o17 ⟨_, rfl, iteF ?_⟩
    have y17 := y16.trans (ext_of s17)
    have e17 := e14.trans y17
    have lp14 := lp14.ext y17
    have T17 := (T15.ext s16).ext s17
    clear x15 T15 hN s16 o16 y16 s17 o17 y17 e14 T14
    -- heard, by name
    refine lam_in T17 fun H18 N18 x18 T18 hN => ?_
    refine ⟨_, rfl, meth_in (pf7.ext (e17.trans x18)) (fun _ _ _ => rfl) ⟨_, rfl, rfl, ti_ok (i := N) (pf7.ext (e17.trans x18)) ok9 hN fun H19 w19 s19 o19 => ?_⟩⟩
    have y19 := x18.trans (ext_of s19)
    refine ⟨_, rfl, ?_⟩
    refine .mk (lp14.ext y19) (by rw [lm]; omega) (by rw [lm]; omega) fun H20 w20 s20 o20 => ?_
    refine .mk (o19.same s20) o20 ⟨_, rfl, iteF ?_⟩
    have y20 := y19.trans (ext_of s20)
    have e20 := e17.trans y20
    have lp14 := lp14.ext y20
    have T20 := (T18.ext s19).ext s20
    clear x18 T18 hN s19 o19 y19 s20 o20 y20 e17 T17
    rw [tNext_eq]
    dsimp only
    refine if_join (P := fun σ' H' => Ext H7 H' ∧ LamX.Tabs TL H' ∧ σ' = [some (.ref p), some (.ref a), some (.ref m), some (.int F), some (.int x), some (.int y), some (.int N), some (.ref D7), w8, some (.ref D9), none, none, none]) ?_ (fun rest => ?_)
    · rintro σ' HB ⟨eB, TB', rfl⟩
      have pfB := pf7.ext eB
      have okm := mir_ok ok9
      refine ⟨_, rfl, meth_in pfB (fun _ _ _ => rfl) ⟨m, ps, rfl, pfB, ok9, fun mb H21 s21 n21 pf21 => ?_⟩⟩
      have lm' : (ps.map mir).length ≤ 7 := by rw [lm]; exact l7
      obtain ⟨dxD22, tD22, uD22, haD22, ⟨usD22, htD22, prD22⟩, _⟩ := id pf21
      refine ⟨_, rfl, mb, C, dxD22, _, .ref tD22, rfl, haD22, cl, T.t.n1, rfl, tD22, rfl, ⟨_, SqT.of htD22⟩, fun D22 hD22 => ?_⟩
      refine lc_tup (K := K) (a := tD22) (xs := usD22.map V.ref) (Lm H21 D22 id (ps.map mir)) (lm_nil hD22) (fun i H2 _ p => SqT.of (p.1 _ _ htD22)) (fun n v H2 hx p => ?_) (fun H22 p => ?_)
      · have hi : n < (ps.map mir).length := by
          have := (List.getElem?_eq_some_iff.mp hx).1
          rw [List.length_map, Paired.length prD22] at this
          exact this
        obtain ⟨g, hg1, hg⟩ := paired_of prD22 (List.getElem?_eq_getElem hi)
        rw [List.getElem?_map, hg1] at hx
        have ev : V.ref g = v := Option.some.inj hx
        subst ev
        have eq := List.getElem?_eq_getElem hi
        generalize (ps.map mir)[n] = q1 at hg eq
        have hg : H2 g = some (.tup [.int q1.1, .int q1.2]) := p.1 _ _ hg
        refine ⟨rfl, _, rfl, g, _, rfl, .inr ⟨SqT.of hg, ?_⟩⟩
        exact lm_step hD22 lm' p eq Same.me hg
      rw [List.length_map, Paired.length prD22] at p
      obtain ⟨s22, us22, lp22⟩ := lm_end p
      rw [List.map_id] at lp22
      clear p
      have e22 := eB.trans (ext_of (s21.trans s22))
      have lpA := lpa.ext e22
      refine ⟨_, rfl, a, rfl, ⟨_, SqL.of lpA.1⟩, fun D23 hD23 => ?_⟩
      refine lc_list (K := K) (a := a) (xs := ts.map V.ref) (Lm H22 D23 mir ps) (lm_nil hD23) (fun i H' _ p => SqL.of (p.1 _ _ lpA.1)) (fun i v H' hx p => ?_) (fun H23 p => ?_)
      · have hi : i < ps.length := by
          have := (List.getElem?_eq_some_iff.mp hx).1
          rw [List.length_map, lpA.len] at this
          exact this
        obtain ⟨g, q1, eg, eq, hg⟩ := lpA.at hi
        rw [eg] at hx
        have ev : V.ref g = v := Option.some.inj hx
        subst ev
        obtain ⟨c1, c2, c3, c4⟩ := b6 q1 (List.mem_of_getElem? eq)
        have hg : H' g = some (.tup [.int q1.1, .int q1.2]) := p.1 _ _ hg
        refine ⟨rfl, _, rfl, g, _, 0, _, rfl, rfl, SqT.of hg, rfl, _, rfl, _, rfl, g, _, 1, _, rfl, rfl, SqT.of hg, rfl, by show 2 ≤ sizeLine; decide, fun n nn => ?_⟩
        exact lm_step hD23 l7 p eq (same_new nn) upd_same
      rw [List.length_map, lpA.len] at p
      obtain ⟨s23, us23, lp23⟩ := lm_end p
      clear p
      have s223 := s22.trans s23
      refine ⟨_, _, (lp22.same s23).dp, lp23.dp, LP.sh _, LP.sh _, ?_⟩
      rw [LP.ev, decide_eq_true rfl]
      refine ⟨_, rfl, iteF ?_⟩
      have pf23 := pf21.same s223
      have e23 := e22.trans (ext_of s23)
      refine ⟨_, rfl, _, rfl, ?_⟩
      refine ⟨mb, a, 1, ts, ps, _, rfl, pf23, okm, lpa.ext e23, ok9, List.length_map .., fun i j hi hj => pg_mir ps i j hi hj, fun H24 s24 => ⟨_, rfl, iteF ?_⟩⟩
      have pf24 := pf23.same s24
      refine ⟨_, rfl, meth_in pf24 (fun _ _ _ => rfl) ⟨mb, _, rfl, pf24, okm, fun m25 H25 s25 n25 pf25 => ?_⟩⟩
      rw [mir_two] at pf25
      have e25 := e23.trans (ext_of (s24.trans s25))
      have pfC := pf7.ext e25
      refine ⟨_, rfl, ?_⟩
      refine ⟨m25, ps, true, rfl, pf25, .inr ⟨m, ps, rfl, pfC, (decide_eq_true rfl).symm⟩, _, rfl, iteT ?_⟩
      have TC := TB'.ext ((s21.trans s223).trans (s24.trans s25))
      obtain ⟨dxD26, tD26, uD26, haD26, ⟨usD26, htD26, prD26⟩, _⟩ := id pfC
      refine ⟨_, rfl, m, C, dxD26, _, .ref tD26, rfl, haD26, cl, T.t.n1, rfl, tD26, rfl, ⟨_, SqT.of htD26⟩, fun D26 hD26 => ?_⟩
      refine lc_tup (K := K) (a := tD26) (xs := usD26.map V.ref) (Lm H25 D26 id (ps)) (lm_nil hD26) (fun i H2 _ p => SqT.of (p.1 _ _ htD26)) (fun n v H2 hx p => ?_) (fun H26 p => ?_)
      · have hi : n < (ps).length := by
          have := (List.getElem?_eq_some_iff.mp hx).1
          rw [List.length_map, Paired.length prD26] at this
          exact this
        obtain ⟨g, hg1, hg⟩ := paired_of prD26 (List.getElem?_eq_getElem hi)
        rw [List.getElem?_map, hg1] at hx
        have ev : V.ref g = v := Option.some.inj hx
        subst ev
        have eq := List.getElem?_eq_getElem hi
        generalize (ps)[n] = q1 at hg eq
        have hg : H2 g = some (.tup [.int q1.1, .int q1.2]) := p.1 _ _ hg
        refine ⟨rfl, _, rfl, g, _, rfl, .inr ⟨SqT.of hg, ?_⟩⟩
        exact lm_step hD26 l7 p eq Same.me hg
      rw [List.length_map, Paired.length prD26] at p
      obtain ⟨s26, us26, lp26⟩ := lm_end p
      rw [List.map_id] at lp26
      clear p
      have e26 := e25.trans (ext_of s26)
      refine ⟨_, rfl, ?_⟩
      refine ⟨_, _, lp26.dp, (lpa.ext e26).dp, LP.sh _, LP.sh _, ?_⟩
      rw [LP.ev, decide_eq_true rfl]
      exact q _ (k7.trans (Kq.ofE e26)) ((v7.ext e26).le (by omega)) (TC.ext s26)
    · refine ⟨_, rfl, ?_⟩
      refine .mk lp14 (by rw [lm]; omega) (by rw [lm]; omega) fun H21 w21 s21 o21 => ?_
      have e21 := e20.trans (ext_of s21)
      have T21 := T20.ext s21
      rcases o21 with ⟨ib, b5, us5, rfl, lp5⟩ | ⟨nb, t5, rfl, ht5⟩
      · refine ⟨_, _, _, _, true, rfl, .ty _, .base (.lst lp5.1), kit_ty (by decide +kernel : kitB _ _ = some true), true, rfl, iteT ?_⟩
        have pf21 := pf7.ext e21
        have okt := okp_of ok9 ib
        refine ⟨_, rfl, meth_in pf21 (fun _ _ _ => rfl) ⟨_, rfl, ti_new (i := N) pf21 ok9 ib fun m22 H22 s22 n22 pf22 => ?_⟩⟩
        refine ⟨_, rfl, _, rfl, _, rfl, _, _, rfl, rfl, cmW hN40, ?_⟩
        refine ⟨m22, a, _, ts, ps, _, rfl, pf22, okt, (lpa.ext e21).same s22, ok9, List.length_map .., fun i j hi hj => pg_tms N ps i j hi hj, fun H23 s23 => ⟨_, rfl, iteF ?_⟩⟩
        have e23 := e21.trans (ext_of (s22.trans s23))
        have T23 := T21.ext (s22.trans s23)
        have pf23 := pf7.ext e23
        clear pf21 s22 n22 pf22 s23
        refine ⟨_, rfl, meth_in pf23 (fun _ _ _ => rfl) ⟨_, rfl, ti_new (i := N) pf23 ok9 ib fun m24 H24 s24 n24 pf24 => ?_⟩⟩
        have pf25 := pf23.same s24
        refine ⟨_, rfl, meth_in pf25 (fun _ _ _ => rfl) ⟨_, rfl, xy_new (i := N) (j := 0) pf25 ok9 (by rw [tms_trn]; exact ib) fun m26 H26 s26 n26 pf26 => ?_⟩⟩
        rw [tms_trn] at pf26
        refine ⟨m24, _, true, rfl, pf24.same s26, .inr ⟨m26, _, rfl, pf26, (decide_eq_true rfl).symm⟩, _, rfl, iteF ?_⟩
        exact rest _ _ ⟨e23.trans (ext_of (s24.trans s26)), T23.ext (s24.trans s26), rfl⟩
      · refine ⟨_, _, _, _, false, rfl, .ty _, .base (.tup ht5), kit_ty (by decide +kernel : kitB _ _ = some false), false, rfl, iteF ?_⟩
        exact rest _ _ ⟨e21, T21, rfl⟩
  · refine ⟨_, rfl, ?_⟩
    refine .mk (lp7.ext e13) (by rw [lm]; omega) (by rw [lm]; omega) fun H14 w14 s14 o14 => ?_
    have e14 := e13.trans (ext_of s14)
    have T14 := T13.ext s14
    rcases o14 with ⟨ib, b5, us5, rfl, lp5⟩ | ⟨nb, t5, rfl, ht5⟩
    · refine ⟨_, _, _, _, true, rfl, .ty _, .base (.lst lp5.1), kit_ty (by decide +kernel : kitB _ _ = some true), true, rfl, iteT ?_⟩
      have pf14 := pf7.ext e14
      have ok8 := okp_of ok9 ib
      refine ⟨_, rfl, meth_in pf14 (fun _ _ _ => rfl) ⟨_, rfl, _, rfl, xy_new (i := x) (j := y) pf14 ok9 ib fun m8 H15 s15 n15 pf15 => ?_⟩⟩
      have pfm := pf14.same s15
      have e15 := e14.trans (ext_of s15)
      have T15 := T14.ext s15
      obtain ⟨dx8, t8, u8, ha8, _, hu8⟩ := id pf15
      obtain ⟨dxm, tm, um, ham, _, hum⟩ := id pfm
      rw [sk_shf x y 0 ps (by rintro rfl; exact absurd l4 (by decide)), sk_shf x y 1 ps (by rintro rfl; exact absurd l4 (by decide))] at hu8
      refine ⟨_, rfl, m8, C, dx8, _, .ref u8, rfl, ha8, cl, T.t.n3, rfl, _, rfl, m, C, dxm, _, .ref um, rfl, ham, cl, T.t.n3, rfl, ?_⟩
      refine ⟨_, _, hu8.dp, hum.dp, two_sh _ _, two_sh _ _, ?_⟩
      rw [two_self]
      refine ⟨_, rfl, iteF ?_⟩
      have bk := shf_back x y ps
      refine ⟨_, rfl, meth_in pf15 (fun _ _ _ => rfl) ⟨_, rfl, _, rfl, _, rfl, _, rfl, xy_new (i := -x) (j := -y) pf15 ok8 (by rw [bk]; exact ib9) fun m16 H16 s16 n16 pf16 => ?_⟩⟩
      rw [bk] at pf16
      refine ⟨_, rfl, ?_⟩
      refine ⟨m16, ps, true, rfl, pf16, .inr ⟨m, ps, rfl, pfm.same s16, (decide_eq_true rfl).symm⟩, _, rfl, iteF ?_⟩
      refine ⟨_, rfl, _, rfl, ?_⟩
      refine ⟨m8, a, 1, ts, ps, _, rfl, pf15.same s16, ok8, (lpa.ext e15).same s16, ok9, List.length_map .., fun i j hi hj => pg_shf x y ps i j hi hj, fun H17 s17 => ⟨_, rfl, iteF ?_⟩⟩
      exact rest _ _ ⟨e15.trans (ext_of (s16.trans s17)), T15.ext (s16.trans s17), _, rfl⟩
    · refine ⟨_, _, _, _, false, rfl, .ty _, .base (.tup ht5), kit_ty (by decide +kernel : kitB _ _ = some false), false, rfl, iteF ?_⟩
      exact rest _ _ ⟨e14, T14, none, rfl⟩
end
end K12

namespace K12
open PySem PySem.Spec PyProof.Rows L2
/-! ### values that are no integers, whatever is drawn and made -/
def Odd (p : Addr) (K : PySem.W.Frag) (H : Hp) (x : V) : Prop := ∃ t, isI x = false ∧ ∀ H', Kq p H H' → Kd K H' x t
theorem Odd.kq {p : Addr} {K : PySem.W.Frag} {H H' : Hp} {x : V} (h : Odd p K H x) (k : Kq p H H') : Odd p K H' x := let ⟨t, e, f⟩ := h; ⟨t, e, fun H2 k2 => f H2 (k.trans k2)⟩
theorem Odd.ext {p : Addr} {K : PySem.W.Frag} {H H' : Hp} {x : V} (h : Odd p K H x) (s : Ext H H') : ∃ t, isI x = false ∧ Kd K H' x t := let ⟨t, e, f⟩ := h; ⟨t, e, f H' (Kq.ofE s)⟩
section
variable {p a : Addr} {K : PySem.W.Frag} {H : Hp} {xs : List V}
theorem odd_non : Odd p K H .non := ⟨_, rfl, fun _ _ => .non⟩
theorem odd_bl {b : Bool} : Odd p K H (.bl b) := ⟨_, rfl, fun _ _ => .bl b⟩
theorem odd_str {z : Str} : Odd p K H (.str z) := ⟨_, rfl, fun _ _ => .str z⟩
theorem odd_tup (n : a ≠ p) (e : H a = some (.tup xs)) : Odd p K H (.ref a) := ⟨_, rfl, fun _ k => .tup (k _ _ n (by intro ps z; cases z) e)⟩
theorem odd_lst (n : a ≠ p) (e : H a = some (.lst xs)) : Odd p K H (.ref a) := ⟨_, rfl, fun _ k => .lst (k _ _ n (by intro ps z; cases z) e)⟩
theorem odd_dK {kvs : List (Key × V)} (n : a ≠ p) (e : H a = some (.dK kvs)) : Odd p K H (.ref a) := ⟨_, rfl, fun _ k => .dK (k _ _ n (by intro ps z; cases z) e)⟩
end
/-! ### a list of what was heard -/
def T2 (H : Hp) (x : V) (e : Str × V) : Prop := ∃ t, x = .ref t ∧ H t = some (.tup [.str e.1, e.2])
def HsP (H : Hp) (l : Addr) (es : List (Str × V)) : Prop := ∃ xs, H l = some (.lst xs) ∧ Paired (T2 H) xs es
theorem T2.ext {H H' : Hp} {x : V} {e : Str × V} (h : T2 H x e) (s : Ext H H') : T2 H' x e := let ⟨t, a, b⟩ := h; ⟨t, a, Ext.tup s b⟩
theorem T2.upd {H : Hp} {x : V} {e : Str × V} {l : Addr} {ys : List V} {o : HO} (h : T2 H x e) (hl : H l = some (.lst ys)) : T2 (upd H l o) x e := let ⟨t, a, b⟩ := h; ⟨t, a, by rw [upd_ne (L2.ne_of b hl (by intro z; cases z))]; exact b⟩
theorem HsP.ext {H H' : Hp} {l : Addr} {es : List (Str × V)} (h : HsP H l es) (s : Ext H H') : HsP H' l es := let ⟨xs, a, b⟩ := h; ⟨xs, Ext.lst s a, paired_mono b fun _ _ z => z.ext s⟩
theorem HsP.upd {H : Hp} {d l : Addr} {es : List (Str × V)} {ys : List V} {o : HO} (h : HsP H d es) (hl : H l = some (.lst ys)) (ne : d ≠ l) : HsP (upd H l o) d es := let ⟨xs, a, b⟩ := h; ⟨xs, by rw [upd_ne ne]; exact a, paired_mono b fun _ _ z => z.upd hl⟩
/-- since HL, where the list at l was not yet: what stood there stands, the list has these -/
structure St (TL : List (Addr × Str)) (HL : Hp) (l : Addr) (es : List (Str × V)) (H : Hp) : Prop where
  e : Ext HL H
  T : LamX.Tabs TL H
  hh : HsP H l es
theorem St.ext {TL : List (Addr × Str)} {HL H H' : Hp} {l : Addr} {es : List (Str × V)} (s : St TL HL l es H) (x : Ext H H') (t : LamX.Tabs TL H') : St TL HL l es H' := ⟨s.e.trans x, t, s.hh.ext x⟩
theorem St.same {TL : List (Addr × Str)} {HL H H' : Hp} {l : Addr} {es : List (Str × V)} (s : St TL HL l es H) (x : Same H H') : St TL HL l es H' := s.ext (ext_of x) (s.T.ext x)
theorem St.app {TL : List (Addr × Str)} {HL H : Hp} {l : Addr} {es : List (Str × V)} {xs : List V} {x : V} {e : Str × V} (s : St TL HL l es H) (nl : HL l = none) (hl : H l = some (.lst xs)) (hx : T2 H x e) : St TL HL l (es ++ [e]) (upd H l (.lst (xs ++ [x]))) := by
  obtain ⟨ys, hy, pr⟩ := s.hh
  have exy : ys = xs := by
    rw [hl] at hy
    cases hy
    rfl
  subst exy
  exact ⟨fun b o h t => by rw [upd_ne (ne_of_none h nl)]; exact s.e b o h t, tabs_upd s.T hl, _, upd_same, paired_snoc (paired_mono pr fun _ _ z => z.upd hl) (hx.upd hl)⟩
/-- what is heard, when it is told by two -/
def dE (e : Str × V) : PyData := .tuple [.str e.1, match e.2 with
  | .int i => .int i
  | .str z => .str z
  | _ => .none]
theorem hs_dp {K : PySem.W.Frag} {H : Hp} : ∀ {xs : List V} {es : List (Str × V)}, Paired (T2 H) xs es → (∀ e ∈ es, (∃ i, e.2 = .int i) ∨ ∃ z, e.2 = .str z) → DpAll K H xs (es.map dE)
  | _, _, .nil, _ => .nil
  | _, _, .cons (b := e) a r, h => by
    obtain ⟨t, rfl, g⟩ := a
    refine .cons ?_ (hs_dp r fun e he => h e (List.mem_cons_of_mem _ he))
    obtain ⟨s, v⟩ := e
    rcases h (s, v) List.mem_cons_self with ⟨i, z⟩ | ⟨i, z⟩
    · have z : v = .int i := z
      subst z
      exact .tup (SqT.of g) (.cons (.str _) (.cons (.int _) .nil))
    · have z : v = .str i := z
      subst z
      exact .tup (SqT.of g) (.cons (.str _) (.cons (.str _) .nil))
theorem dp_app {K : PySem.W.Frag} {H : Hp} : ∀ {xs ys : List V} {ds es : List PyData}, DpAll K H xs ds → DpAll K H ys es → DpAll K H (xs ++ ys) (ds ++ es)
  | _, _, _, _, .nil, h => h
  | _, _, _, _, .cons a r, h => .cons a (dp_app r h)
abbrev eX : Str × V := ("number", .str "x")
abbrev eY : Str × V := ("number", .str "y")
abbrev eN : Str × V := ("number", .str "number")
abbrev eF : Str × V := ("places", .int 1000000000)
theorem paired_app {α β : Type} {R : α → β → Prop} {xs us : List α} {ys vs : List β} (h : Paired R xs ys) (k : Paired R us vs) : Paired R (xs ++ us) (ys ++ vs) := by
  induction h with
  | nil => exact k
  | cons a _ ih => exact .cons a ih
def es11 : List (Str × V) := [eX, eY, eY, eX, eY, eY, eN, eF, eF, eF, eF]
theorem side11 : ∀ e ∈ es11, (∃ i, e.2 = V.int i) ∨ ∃ z, e.2 = V.str z := fun e he => by
  unfold es11 at he
  simp only [List.mem_cons, List.not_mem_nil, or_false] at he
  rcases he with rfl | rfl | rfl | rfl | rfl | rfl | rfl | rfl | rfl | rfl | rfl <;> first | exact .inr ⟨_, rfl⟩ | exact .inl ⟨_, rfl⟩
/-- far away -/
def qF : List (Int × Int) := [(1000000000, 0), (0, -1000000000), (1, 1), (2, 2)]
theorem okF : OkP qF := ⟨by decide, by decide, by decide⟩
abbrev sRF : Stmt := top 54
abbrev nRF : List Str := ["_law_lens_here", "_law_places_here", "_law_made", "_law_odd", "_law_none", "_law_far", "_law_heard_here", "_law_due_here"]
theorem scRF : FnScope nRF ["_law_lens_here", "_law_places_here"] (defScope sRF) := ⟨rfl, rfl, rfl, by decide +kernel, rfl, by decide +kernel, by decide +kernel⟩
def qRF : Str := (envOfC "_law_refused_right" (defScope sRF) 0 0 (.ref 0)).qual ++ "<lambda>"
section
variable {P : Program} {w : World} {K : PySem.W.Frag} {mg : Str → Option Value} {base : Heap} {C CB CS CN CT : Addr}
theorem ok_rf {f c Pt g : Addr} {fdH : FuncData} {oc kV doc pm ct : Value} {od an : Option Addr} {osl : Array (Option Value)} {TL : List (Addr × Str)} (hmT : (Pt, qRF) ∈ TL) (hU : ∀ x ∈ TL, x.1 = Pt → x.2 = qRF)
    (lk : K.lookup f = some ⟨oc, od, .func (PySem.W.fnOf "_law_refused_right" "_law_refused_right" (defArgs sRF) (defBody sRF) (defScope sRF) .none kV doc pm an (.ref c) ct), osl⟩) (hcd : PySem.W.codeIn K (.ref c) "_law_refused_right" = true)
    (TB : LamX.TabB base mg c Pt) (B : Bn mg) (T : Pc P w K mg base C CB) (M : Pm P w K mg base C CT CN) (S : SeT K mg CS CN CT) (FH : Fun K "_law_heard" "_law_heard" sHd g fdH) (mH : mg "_law_heard" = some (.ref g))
    (C2 : Callee P w K mg base CX0 2 "_law_pick" ["_law_lens_here", "_law_some"] spPick) :
    FnOk P w K mg base CX0 12 f (PySem.W.fnOf "_law_refused_right" "_law_refused_right" (defArgs sRF) (defBody sRF) (defScope sRF) .none kV doc pm an (.ref c) ct) ["_law_lens_here", "_law_places_here"] (spQ TL 6) := by
  obtain ⟨f2, fd2, m2, k2, b2, G2⟩ := C2
  obtain ⟨ocH, odH, kVH, docH, pmH, anH, cdvH, ctH, oslH, rfl, lkH, hcH⟩ := FH.ex
  have bH := FH.binds (ps := ["_law_ask"]) fun _ _ _ _ _ _ us hl => match us, hl with | [_], _ => rfl
  obtain ⟨ft, fdt, ds1, ds2, gk, Mt, Gt, bt, vd1, bt1, vd2, bt2, kt2, kt1⟩ := M.tu
  obtain ⟨fs, fds, Ms, Gs, bs, ks2⟩ := M.sh
  obtain ⟨fx, fdx, Mx, Gx, bx, kx1⟩ := M.ti
  have cl := T.t.pc.cls
  have nd := scRF.nd
  refine fn_of lk hcd scRF (fun vs H Q E h => ?_) fun A outer s H vs Q E hr h => ?_
  · obtain ⟨p, a, n, ts, ps, rfl, _⟩ := h
    rfl
  suffices hh : ∃ t, PSs (cxOf CX0 P w K mg base nRF "_law_refused_right" (defScope sRF) f (.ref c) A outer s H E).nox (defBody sRF) t ∧ t { nx := fun _ H' => Q .non H', rt := Q } (L2.start nRF vs) H from let ⟨t, h1, h2⟩ := hh; ⟨t, h1.nox, h2⟩
  obtain ⟨p, a, n, ts, ps, rfl, hv, hn, nap, lp, l4, l7, b6, hT, q⟩ := h
  refine ⟨_, (pss_cons (ps_asg (pe_tup (pa_cons ((pe_mkP (E := E0) T (hr.mono (by decide)) passL rfl (pa_cons (pv 1) pa_nil))) (pa_cons ((pe_call G2 (hr.mono (by decide)) rfl m2 k2 b2 .nil pass0 (pa_cons (pv 0) (pa_cons (pe_lst (pa_cons (pe_non) (pa_cons (pe_bl) (pa_cons (pe_bl) (pa_cons (pe_str) (pa_cons (pe_tup (pa_cons (pe_int) pa_nil)) (pa_cons (pe_lst (pa_cons (pe_int) pa_nil)) (pa_cons (pe_dnewK) (pa_cons (pe_tup (pa_cons (pe_int) (pa_cons (pe_int) pa_nil))) pa_nil))))))))) pa_nil)))) pa_nil))) (pg_tup rfl (pgs_cons ((pg_name (i := 2) nd rfl (Or.inr rfl))) (pgs_cons ((pg_name (i := 3) nd rfl (Or.inr rfl))) pgs_nil)))) (pss_cons (ps_asg (pe_tup (pa_cons ((pe_call G2 (hr.mono (by decide)) rfl m2 k2 b2 .nil pass0 (pa_cons (pv 0) (pa_cons (pe_lst (pa_cons (pe_str) (pa_cons (pe_non) (pa_cons (pe_bl) (pa_cons (pe_lst pa_nil) (pa_cons (pe_tup (pa_cons (pe_int) (pa_cons (pe_int) pa_nil))) pa_nil)))))) pa_nil)))) (pa_cons ((pe_mkP (E := E0) T (hr.mono (by decide)) passL rfl (pa_cons (pe_lst (pa_cons (pe_tup (pa_cons (pe_op op_pow pe_int pe_int) (pa_cons (pe_int) pa_nil))) (pa_cons (pe_tup (pa_cons (pe_int) (pa_cons (pe_un un_neg (pe_op op_pow pe_int pe_int)) pa_nil))) (pa_cons (pe_tup (pa_cons (pe_int) (pa_cons (pe_int) pa_nil))) (pa_cons (pe_tup (pa_cons (pe_int) (pa_cons (pe_int) pa_nil))) pa_nil))))) pa_nil))) pa_nil))) (pg_tup rfl (pgs_cons ((pg_name (i := 4) nd rfl (Or.inr rfl))) (pgs_cons ((pg_name (i := 5) nd rfl (Or.inr rfl))) pgs_nil)))) (pss_cons ((ps_set (i := 6) nd rfl (Or.inl rfl) (pe_lst (pa_cons ((LamX.pe_lamcall (T := TL) (TT := THeard C CN CT) (Ng := nHd) (a := "_law_ask") (k := 9) rfl mH FH.kp lkH hcH bH scHd rfl (Or.inl rfl) (heard_gives B T.mgC T.t S) TB rfl hmT hU hr (LamX.lamS_by (by show LamX.lamSB (defScope sRF) _ = true; decide +kernel)) rfl (fun _ _ _ _ _ => rfl) (fun A outer s H E f c hr => (pe_meth (E := E) (pv 2) cl Mt Gt hr bt .nil lam_passes (pa_cons (pv 3) (pa_cons (pv 4) pa_nil)))))) pa_nil)))) (pss_cons (ps_expr (pe_bm PySem.F.plainAttrs_list PySem.F.slot_list_append PySem.F.type_list_append mt_append (pv 6) (pa_cons ((LamX.pe_lamcall (T := TL) (TT := THeard C CN CT) (Ng := nHd) (a := "_law_ask") (k := 9) rfl mH FH.kp lkH hcH bH scHd rfl (Or.inl rfl) (heard_gives B T.mgC T.t S) TB rfl hmT hU hr (LamX.lamS_by (by show LamX.lamSB (defScope sRF) _ = true; decide +kernel)) rfl (fun _ _ _ _ _ => rfl) (fun A outer s H E f c hr => (pe_meth (E := E) (pv 2) cl Mt Gt hr bt .nil lam_passes (pa_cons (pe_int) (pa_cons (pv 4) pa_nil)))))) pa_nil))) (pss_cons (ps_expr (pe_bm PySem.F.plainAttrs_list PySem.F.slot_list_append PySem.F.type_list_append mt_append (pv 6) (pa_cons ((LamX.pe_lamcall (T := TL) (TT := THeard C CN CT) (Ng := nHd) (a := "_law_ask") (k := 9) rfl mH FH.kp lkH hcH bH scHd rfl (Or.inl rfl) (heard_gives B T.mgC T.t S) TB rfl hmT hU hr (LamX.lamS_by (by show LamX.lamSB (defScope sRF) _ = true; decide +kernel)) rfl (fun _ _ _ _ _ => rfl) (fun A outer s H E f c hr => (pe_methK0 (E := E) (pv 2) cl Mt Gt hr kt1 lam_passes (pk_cons (pv 3) pk_nil))))) pa_nil))) (pss_cons ((ps_set (i := 7) nd rfl (Or.inl rfl) (pe_lst (pa_cons (pe_tup (pa_cons (pe_str) (pa_cons (pe_str) pa_nil))) (pa_cons (pe_tup (pa_cons (pe_str) (pa_cons (pe_str) pa_nil))) (pa_cons (pe_tup (pa_cons (pe_str) (pa_cons (pe_str) pa_nil))) pa_nil)))))) (pss_cons (ps_expr (pe_bm PySem.F.plainAttrs_list PySem.F.slot_list_append PySem.F.type_list_append mt_append (pv 6) (pa_cons ((LamX.pe_lamcall (T := TL) (TT := THeard C CN CT) (Ng := nHd) (a := "_law_ask") (k := 9) rfl mH FH.kp lkH hcH bH scHd rfl (Or.inl rfl) (heard_gives B T.mgC T.t S) TB rfl hmT hU hr (LamX.lamS_by (by show LamX.lamSB (defScope sRF) _ = true; decide +kernel)) rfl (fun _ _ _ _ _ => rfl) (fun A outer s H E f c hr => (pe_meth (E := E) (pv 2) cl Ms Gs hr bs .nil lam_passes (pa_cons (pv 3) (pa_cons (pv 4) pa_nil)))))) pa_nil))) (pss_cons (ps_expr (pe_bm PySem.F.plainAttrs_list PySem.F.slot_list_append PySem.F.type_list_append mt_append (pv 6) (pa_cons ((LamX.pe_lamcall (T := TL) (TT := THeard C CN CT) (Ng := nHd) (a := "_law_ask") (k := 9) rfl mH FH.kp lkH hcH bH scHd rfl (Or.inl rfl) (heard_gives B T.mgC T.t S) TB rfl hmT hU hr (LamX.lamS_by (by show LamX.lamSB (defScope sRF) _ = true; decide +kernel)) rfl (fun _ _ _ _ _ => rfl) (fun A outer s H E f c hr => (pe_meth (E := E) (pv 5) cl Ms Gs hr bs .nil lam_passes (pa_cons (pe_int) (pa_cons (pv 4) pa_nil)))))) pa_nil))) (pss_cons (ps_expr (pe_bm PySem.F.plainAttrs_list PySem.F.slot_list_append PySem.F.type_list_append mt_append (pv 6) (pa_cons ((LamX.pe_lamcall (T := TL) (TT := THeard C CN CT) (Ng := nHd) (a := "_law_ask") (k := 9) rfl mH FH.kp lkH hcH bH scHd rfl (Or.inl rfl) (heard_gives B T.mgC T.t S) TB rfl hmT hU hr (LamX.lamS_by (by show LamX.lamSB (defScope sRF) _ = true; decide +kernel)) rfl (fun _ _ _ _ _ => rfl) (fun A outer s H E f c hr => (pe_meth (E := E) (pv 5) cl Mt Gt hr bt .nil lam_passes (pa_cons (pe_int) (pa_cons (pv 3) pa_nil)))))) pa_nil))) (pss_cons ((ps_set (i := 7) nd rfl (Or.inl rfl) (pe_op op_cat (pv 7) (pe_lst (pa_cons (pe_tup (pa_cons (pe_str) (pa_cons (pe_str) pa_nil))) (pa_cons (pe_tup (pa_cons (pe_str) (pa_cons (pe_str) pa_nil))) (pa_cons (pe_tup (pa_cons (pe_str) (pa_cons (pe_str) pa_nil))) pa_nil))))))) (pss_cons (ps_expr (pe_bm PySem.F.plainAttrs_list PySem.F.slot_list_append PySem.F.type_list_append mt_append (pv 6) (pa_cons ((LamX.pe_lamcall (T := TL) (TT := THeard C CN CT) (Ng := nHd) (a := "_law_ask") (k := 9) rfl mH FH.kp lkH hcH bH scHd rfl (Or.inl rfl) (heard_gives B T.mgC T.t S) TB rfl hmT hU hr (LamX.lamS_by (by show LamX.lamSB (defScope sRF) _ = true; decide +kernel)) rfl (fun _ _ _ _ _ => rfl) (fun A outer s H E f c hr => (pe_meth (E := E) (pv 2) cl Mx Gx hr bx .nil lam_passes (pa_cons (pv 3) pa_nil))))) pa_nil))) (pss_cons (ps_expr (pe_bm PySem.F.plainAttrs_list PySem.F.slot_list_append PySem.F.type_list_append mt_append (pv 6) (pa_cons ((LamX.pe_lamcall (T := TL) (TT := THeard C CN CT) (Ng := nHd) (a := "_law_ask") (k := 9) rfl mH FH.kp lkH hcH bH scHd rfl (Or.inl rfl) (heard_gives B T.mgC T.t S) TB rfl hmT hU hr (LamX.lamS_by (by show LamX.lamSB (defScope sRF) _ = true; decide +kernel)) rfl (fun _ _ _ _ _ => rfl) (fun A outer s H E f c hr => (pe_meth (E := E) (pv 5) cl Ms Gs hr bs .nil lam_passes (pa_cons (pe_int) (pa_cons (pe_int) pa_nil)))))) pa_nil))) (pss_cons (ps_expr (pe_bm PySem.F.plainAttrs_list PySem.F.slot_list_append PySem.F.type_list_append mt_append (pv 6) (pa_cons ((LamX.pe_lamcall (T := TL) (TT := THeard C CN CT) (Ng := nHd) (a := "_law_ask") (k := 9) rfl mH FH.kp lkH hcH bH scHd rfl (Or.inl rfl) (heard_gives B T.mgC T.t S) TB rfl hmT hU hr (LamX.lamS_by (by show LamX.lamSB (defScope sRF) _ = true; decide +kernel)) rfl (fun _ _ _ _ _ => rfl) (fun A outer s H E f c hr => (pe_meth (E := E) (pv 5) cl Ms Gs hr bs .nil lam_passes (pa_cons (pe_int) (pa_cons (pe_un un_neg pe_int) pa_nil)))))) pa_nil))) (pss_cons ((ps_set (i := 7) nd rfl (Or.inl rfl) (pe_op op_cat (pv 7) (pe_lst (pa_cons (pe_tup (pa_cons (pe_str) (pa_cons (pe_str) pa_nil))) (pa_cons (pe_tup (pa_cons (pe_str) (pa_cons (pe_op op_pow pe_int pe_int) pa_nil))) (pa_cons (pe_tup (pa_cons (pe_str) (pa_cons (pe_op op_pow pe_int pe_int) pa_nil))) pa_nil))))))) (pss_cons (ps_expr (pe_bm PySem.F.plainAttrs_list PySem.F.slot_list_append PySem.F.type_list_append mt_append (pv 6) (pa_cons ((LamX.pe_lamcall (T := TL) (TT := THeard C CN CT) (Ng := nHd) (a := "_law_ask") (k := 9) rfl mH FH.kp lkH hcH bH scHd rfl (Or.inl rfl) (heard_gives B T.mgC T.t S) TB rfl hmT hU hr (LamX.lamS_by (by show LamX.lamSB (defScope sRF) _ = true; decide +kernel)) rfl (fun _ _ _ _ _ => rfl) (fun A outer s H E f c hr => (pe_meth (E := E) (pv 5) cl Mt Gt hr bt .nil lam_passes (pa_cons (pe_int) (pa_cons (pe_int) pa_nil)))))) pa_nil))) (pss_cons (ps_expr (pe_bm PySem.F.plainAttrs_list PySem.F.slot_list_append PySem.F.type_list_append mt_append (pv 6) (pa_cons ((LamX.pe_lamcall (T := TL) (TT := THeard C CN CT) (Ng := nHd) (a := "_law_ask") (k := 9) rfl mH FH.kp lkH hcH bH scHd rfl (Or.inl rfl) (heard_gives B T.mgC T.t S) TB rfl hmT hU hr (LamX.lamS_by (by show LamX.lamSB (defScope sRF) _ = true; decide +kernel)) rfl (fun _ _ _ _ _ => rfl) (fun A outer s H E f c hr => (pe_meth (E := E) (pv 5) cl Mx Gx hr bx .nil lam_passes (pa_cons (pe_un un_neg pe_int) pa_nil))))) pa_nil))) (pss_cons (ps_expr (pe_bm PySem.F.plainAttrs_list PySem.F.slot_list_append PySem.F.type_list_append mt_append (pv 6) (pa_cons ((LamX.pe_lamcall (T := TL) (TT := THeard C CN CT) (Ng := nHd) (a := "_law_ask") (k := 9) rfl mH FH.kp lkH hcH bH scHd rfl (Or.inl rfl) (heard_gives B T.mgC T.t S) TB rfl hmT hU hr (LamX.lamS_by (by show LamX.lamSB (defScope sRF) _ = true; decide +kernel)) rfl (fun _ _ _ _ _ => rfl) (fun A outer s H E f c hr => (pe_meth (E := E) (pv 5) cl Mx Gx hr bx .nil lam_passes (pa_cons (pe_un un_neg pe_int) pa_nil))))) pa_nil))) (pss_one (ps_ret (pe_cmpR (op_eqD hr.units) (pv 6) (pe_op op_cat (pv 7) (pe_lst (pa_cons (pe_tup (pa_cons (pe_str) (pa_cons (pe_op op_pow pe_int pe_int) pa_nil))) (pa_cons (pe_tup (pa_cons (pe_str) (pa_cons (pe_op op_pow pe_int pe_int) pa_nil))) (pa_cons (pe_lst (pa_cons (pe_tup (pa_cons (pe_un un_neg (pe_op op_pow pe_int pe_int)) (pa_cons (pe_int) pa_nil))) (pa_cons (pe_tup (pa_cons (pe_int) (pa_cons (pe_op op_pow pe_int pe_int) pa_nil))) (pa_cons (pe_tup (pa_cons (pe_un un_neg pe_int) (pa_cons (pe_un un_neg pe_int) pa_nil))) (pa_cons (pe_tup (pa_cons (pe_un un_neg pe_int) (pa_cons (pe_un un_neg pe_int) pa_nil))) pa_nil))))) pa_nil))))) (nomark _))))))))))))))))))))), ?_⟩
  have ok9 : OkP ps := ⟨l4, l7, b6.le (by decide)⟩
  have e9 : (10 : Int) ^ (Int.toNat 9) = 1000000000 := by decide
  refine ⟨_, rfl, _, rfl, .inl ⟨ps, lp.pls, ok9, fun m H0 s0 nm pf => ?_⟩⟩
  have v0 := hv.same s0
  have np0 : ∀ {x : Addr} {M : Hp} {k : Nat}, Lens M p k → M x = none → x ≠ p := fun v h => v.not_none h
  have a0 := s0
  refine ⟨_, rfl, ?_⟩
  refine ⟨by show 1 ≤ sizeLine; decide, fun t1 nt1 => ?_⟩
  have st1 := same_new (o := .tup [V.int 1]) nt1
  have gt1 : upd H0 t1 (.tup [V.int 1]) t1 = some (.tup [V.int 1]) := upd_same
  have pt1 : t1 ≠ p := np0 v0 nt1
  have v0 := v0.same st1
  have pf := pf.same st1
  have a0 := a0.trans st1
  clear nt1
  generalize upd H0 t1 (.tup [V.int 1]) = H1 at st1 gt1 v0 pf  a0 ⊢
  refine ⟨by show 1 ≤ sizeLine; decide, fun t2 nt2 => ?_⟩
  have st2 := same_new (o := .lst [V.int 2]) nt2
  have gt2 : upd H1 t2 (.lst [V.int 2]) t2 = some (.lst [V.int 2]) := upd_same
  have pt2 : t2 ≠ p := np0 v0 nt2
  have v0 := v0.same st2
  have pf := pf.same st2
  have a0 := a0.trans st2
  clear nt2
  generalize upd H1 t2 (.lst [V.int 2]) = H2 at st2 gt2 v0 pf  a0 ⊢
  refine fun t3 nt3 => ?_
  have st3 := same_new (o := .dK []) nt3
  have gt3 : upd H2 t3 (.dK []) t3 = some (.dK []) := upd_same
  have pt3 : t3 ≠ p := np0 v0 nt3
  have v0 := v0.same st3
  have pf := pf.same st3
  have a0 := a0.trans st3
  clear nt3
  generalize upd H2 t3 (.dK []) = H3 at st3 gt3 v0 pf  a0 ⊢
  refine ⟨by show 2 ≤ sizeLine; decide, fun t4 nt4 => ?_⟩
  have st4 := same_new (o := .tup [V.int 1, V.int 2]) nt4
  have gt4 : upd H3 t4 (.tup [V.int 1, V.int 2]) t4 = some (.tup [V.int 1, V.int 2]) := upd_same
  have pt4 : t4 ≠ p := np0 v0 nt4
  have v0 := v0.same st4
  have pf := pf.same st4
  have a0 := a0.trans st4
  clear nt4
  generalize upd H3 t4 (.tup [V.int 1, V.int 2]) = H4 at st4 gt4 v0 pf  a0 ⊢
  have g1 := st4 _ _ (st3 _ _ (st2 _ _ gt1))
  have g2 := st4 _ _ (st3 _ _ gt2)
  have g3 := st4 _ _ gt3
  have g4 := gt4
  have oo : ∀ x ∈ [V.non, V.bl true, V.bl false, V.str "1", V.ref t1, V.ref t2, V.ref t3, V.ref t4], Odd p K H4 x := fun x hx => by
    simp only [List.mem_cons, List.not_mem_nil, or_false] at hx
    rcases hx with rfl | rfl | rfl | rfl | rfl | rfl | rfl | rfl
    · exact odd_non
    · exact odd_bl
    · exact odd_bl
    · exact odd_str
    · exact odd_tup pt1 g1
    · exact odd_lst pt2 g2
    · exact odd_dK pt3 g3
    · exact odd_tup pt4 g4
  clear gt1 gt2 gt3 gt4 g1 g2 g3 g4 st1 st2 st3 st4 pt1 pt2 pt3 pt4
  refine ⟨by show 8 ≤ sizeLine; decide, fun l5 n5 => ?_⟩
  refine ⟨p, l5, _, _, rfl, v0.same (same_new n5), by omega, upd_same, v0.not_none n5, by show 0 < 8; decide, by show 8 ≤ 1000; decide, fun H6 x s6 v6 hx => ?_⟩
  have ox := (oo x hx).kq ((Kq.ofE (ext_of (same_new n5))).trans (Kq.ofS s6))
  have T6 := tabs_sb ((hT.ext a0).ext (same_new n5)) (v0.same (same_new n5)) s6
  have k6 : Kq p H H6 := ((Kq.ofE (ext_of a0)).trans (Kq.ofE (ext_of (same_new n5)))).trans (Kq.ofS s6)
  have pf := (pf.same (same_new n5)).sb (v0.same (same_new n5)) s6
  clear s6 n5 hx oo v0 a0 hT hv lp
  have v0 := v6
  have T0 := T6
  have a0 : Same H6 H6 := Same.me
  refine ⟨by show 2 ≤ sizeLine; decide, fun t7 nt7 => ?_⟩
  have st7 := same_new (o := .tup [V.ref m, x]) nt7
  have gt7 : upd H6 t7 (.tup [V.ref m, x]) t7 = some (.tup [V.ref m, x]) := upd_same
  have v0 := v0.same st7
  have pf := pf.same st7
  have ox := ox.kq (Kq.ofE (ext_of st7))
  have a0 := a0.trans st7
  have T0 := T0.ext st7
  clear nt7
  generalize upd H6 t7 (.tup [V.ref m, x]) = H7 at st7 gt7 v0 pf ox a0 T0 ⊢
  refine ⟨t7, _, rfl, SqT.of gt7, rfl, _, _, rfl, _, _, rfl, rfl, ?_⟩
  clear gt7 st7
  refine ⟨_, rfl, ?_⟩
  refine ⟨by show 0 ≤ sizeLine; decide, fun u1 nu1 => ?_⟩
  have su1 := same_new (o := .lst []) nu1
  have gu1 : upd H7 u1 (.lst []) u1 = some (.lst []) := upd_same
  have pu1 : u1 ≠ p := np0 v0 nu1
  have v0 := v0.same su1
  have pf := pf.same su1
  have ox := ox.kq (Kq.ofE (ext_of su1))
  have a0 := a0.trans su1
  have T0 := T0.ext su1
  clear nu1
  generalize upd H7 u1 (.lst []) = H8 at su1 gu1 v0 pf ox a0 T0 ⊢
  refine ⟨by show 2 ≤ sizeLine; decide, fun u2 nu2 => ?_⟩
  have su2 := same_new (o := .tup [V.int 0, V.int 0]) nu2
  have gu2 : upd H8 u2 (.tup [V.int 0, V.int 0]) u2 = some (.tup [V.int 0, V.int 0]) := upd_same
  have pu2 : u2 ≠ p := np0 v0 nu2
  have v0 := v0.same su2
  have pf := pf.same su2
  have ox := ox.kq (Kq.ofE (ext_of su2))
  have a0 := a0.trans su2
  have T0 := T0.ext su2
  clear nu2
  generalize upd H8 u2 (.tup [V.int 0, V.int 0]) = H9 at su2 gu2 v0 pf ox a0 T0 ⊢
  have g1 := su2 _ _ gu1
  have oo : ∀ x ∈ [V.str "", V.non, V.bl false, V.ref u1, V.ref u2], Odd p K H9 x := fun x hx => by
    simp only [List.mem_cons, List.not_mem_nil, or_false] at hx
    rcases hx with rfl | rfl | rfl | rfl | rfl
    · exact odd_str
    · exact odd_non
    · exact odd_bl
    · exact odd_lst pu1 g1
    · exact odd_tup pu2 gu2
  clear gu1 gu2 g1 su1 su2 pu1 pu2
  refine ⟨by show 5 ≤ sizeLine; decide, fun l5 n5 => ?_⟩
  refine ⟨p, l5, _, _, rfl, v0.same (same_new n5), by omega, upd_same, v0.not_none n5, by show 0 < 5; decide, by show 5 ≤ 1000; decide, fun H10 z s10 v10 hz => ?_⟩
  have k10 := (k6.trans (Kq.ofE (ext_of (a0.trans (same_new n5))))).trans (Kq.ofS s10)
  have oz := (oo z hz).kq ((Kq.ofE (ext_of (same_new n5))).trans (Kq.ofS s10))
  have ox := ox.kq ((Kq.ofE (ext_of (same_new n5))).trans (Kq.ofS s10))
  have T0 := tabs_sb (T0.ext (same_new n5)) (v0.same (same_new n5)) s10
  have pf := (pf.same (same_new n5)).sb (v0.same (same_new n5)) s10
  clear s10 n5 hz oo v0 a0 v6 T6 k6
  have v0 := v10
  have a0 : Same H10 H10 := Same.me
  refine ⟨_, _, rfl, rfl, ⟨by decide, by decide, by decide⟩, by show 2 ≤ sizeLine; decide, fun w1 nw1 => ?_⟩
  have sw1 := same_new (o := .tup [V.int ((10 : Int) ^ (Int.toNat 9)), V.int 0]) nw1
  have gw1 : upd H10 w1 (.tup [V.int ((10 : Int) ^ (Int.toNat 9)), V.int 0]) w1 = some (.tup [V.int ((10 : Int) ^ (Int.toNat 9)), V.int 0]) := upd_same
  have v0 := v0.same sw1
  have pf := pf.same sw1
  have ox := ox.kq (Kq.ofE (ext_of sw1))
  have oz := oz.kq (Kq.ofE (ext_of sw1))
  have a0 := a0.trans sw1
  have T0 := T0.ext sw1
  clear nw1
  generalize upd H10 w1 (.tup [V.int ((10 : Int) ^ (Int.toNat 9)), V.int 0]) = H11 at sw1 gw1 v0 pf ox oz a0 T0 ⊢
  refine ⟨_, _, rfl, rfl, ⟨by decide, by decide, by decide⟩, _, rfl, by show 2 ≤ sizeLine; decide, fun w2 nw2 => ?_⟩
  have sw2 := same_new (o := .tup [V.int 0, V.int (-((10 : Int) ^ (Int.toNat 9)))]) nw2
  have gw2 : upd H11 w2 (.tup [V.int 0, V.int (-((10 : Int) ^ (Int.toNat 9)))]) w2 = some (.tup [V.int 0, V.int (-((10 : Int) ^ (Int.toNat 9)))]) := upd_same
  have v0 := v0.same sw2
  have pf := pf.same sw2
  have ox := ox.kq (Kq.ofE (ext_of sw2))
  have oz := oz.kq (Kq.ofE (ext_of sw2))
  have a0 := a0.trans sw2
  have T0 := T0.ext sw2
  clear nw2
  generalize upd H11 w2 (.tup [V.int 0, V.int (-((10 : Int) ^ (Int.toNat 9)))]) = H12 at sw2 gw2 v0 pf ox oz a0 T0 ⊢
  refine ⟨by show 2 ≤ sizeLine; decide, fun w3 nw3 => ?_⟩
  have sw3 := same_new (o := .tup [V.int 1, V.int 1]) nw3
  have gw3 : upd H12 w3 (.tup [V.int 1, V.int 1]) w3 = some (.tup [V.int 1, V.int 1]) := upd_same
  have v0 := v0.same sw3
  have pf := pf.same sw3
  have ox := ox.kq (Kq.ofE (ext_of sw3))
  have oz := oz.kq (Kq.ofE (ext_of sw3))
  have a0 := a0.trans sw3
  have T0 := T0.ext sw3
  clear nw3
  generalize upd H12 w3 (.tup [V.int 1, V.int 1]) = H13 at sw3 gw3 v0 pf ox oz a0 T0 ⊢
  refine ⟨by show 2 ≤ sizeLine; decide, fun w4 nw4 => ?_⟩
  have sw4 := same_new (o := .tup [V.int 2, V.int 2]) nw4
  have gw4 : upd H13 w4 (.tup [V.int 2, V.int 2]) w4 = some (.tup [V.int 2, V.int 2]) := upd_same
  have v0 := v0.same sw4
  have pf := pf.same sw4
  have ox := ox.kq (Kq.ofE (ext_of sw4))
  have oz := oz.kq (Kq.ofE (ext_of sw4))
  have a0 := a0.trans sw4
  have T0 := T0.ext sw4
  clear nw4
  generalize upd H13 w4 (.tup [V.int 2, V.int 2]) = H14 at sw4 gw4 v0 pf ox oz a0 T0 ⊢
  have g1 := sw4 _ _ (sw3 _ _ (sw2 _ _ gw1))
  have g2 := sw4 _ _ (sw3 _ _ gw2)
  have g3 := sw4 _ _ gw3
  have g4 := gw4
  rw [e9] at g1 g2
  refine ⟨by show 4 ≤ sizeLine; decide, fun l9 nl9 => ?_⟩
  have sl9 := same_new (o := .lst [V.ref w1, V.ref w2, V.ref w3, V.ref w4]) nl9
  have gl9 : upd H14 l9 (.lst [V.ref w1, V.ref w2, V.ref w3, V.ref w4]) l9 = some (.lst [V.ref w1, V.ref w2, V.ref w3, V.ref w4]) := upd_same
  have v0 := v0.same sl9
  have pf := pf.same sl9
  have ox := ox.kq (Kq.ofE (ext_of sl9))
  have oz := oz.kq (Kq.ofE (ext_of sl9))
  have a0 := a0.trans sl9
  have T0 := T0.ext sl9
  clear nl9
  generalize upd H14 l9 (.lst [V.ref w1, V.ref w2, V.ref w3, V.ref w4]) = H15 at sl9 gl9 v0 pf ox oz a0 T0 ⊢
  have lpF : LP H15 l9 [w1, w2, w3, w4] qF := ⟨gl9, .cons (sl9 _ _ g1) (.cons (sl9 _ _ g2) (.cons (sl9 _ _ g3) (.cons (sl9 _ _ g4) .nil)))⟩
  clear gw1 gw2 gw3 gw4 g1 g2 g3 g4 sw1 sw2 sw3 sw4 gl9 sl9
  refine ⟨_, rfl, .inl ⟨qF, lpF.pls, okF, fun fa H16 s16 n16 pfF => ?_⟩⟩
  have pf := pf.same s16
  have v0 := v0.same s16
  have a0 := a0.trans s16
  have T0 := T0.ext s16
  have ox := ox.kq (Kq.ofE (ext_of s16))
  have oz := oz.kq (Kq.ofE (ext_of s16))
  clear s16 n16 lpF
  refine ⟨by show 2 ≤ sizeLine; decide, fun t8 nt8 => ?_⟩
  have st8 := same_new (o := .tup [z, V.ref fa]) nt8
  have gt8 : upd H16 t8 (.tup [z, V.ref fa]) t8 = some (.tup [z, V.ref fa]) := upd_same
  have v0 := v0.same st8
  have pf := pf.same st8
  have pfF := pfF.same st8
  have ox := ox.kq (Kq.ofE (ext_of st8))
  have oz := oz.kq (Kq.ofE (ext_of st8))
  have a0 := a0.trans st8
  have T0 := T0.ext st8
  clear nt8
  generalize upd H16 t8 (.tup [z, V.ref fa]) = HB at st8 gt8 v0 pf pfF ox oz a0 T0 ⊢
  refine ⟨t8, _, rfl, SqT.of gt8, rfl, _, _, rfl, _, _, rfl, rfl, ?_⟩
  have kB := k10.trans (Kq.ofE (ext_of a0))
  clear gt8 st8 a0 k10 v10
  refine lam_in T0 fun HC N x1 T1 hN => ?_
  obtain ⟨tx, exI, kx⟩ := ox.ext x1
  obtain ⟨tn, enI, kn⟩ := oz.ext x1
  refine ⟨_, rfl, meth_in (pf.ext x1) (fun _ _ _ => rfl) ⟨_, rfl, _, rfl, xy_x (pf.ext x1) ok9 kx kn exI fun HL t sL nt gt => ?_⟩⟩
  refine ⟨by show 1 ≤ sizeLine; decide, fun l nl => ?_⟩
  have y1 := x1.trans (ext_of sL)
  have pf := pf.ext y1
  have pfF := pfF.ext y1
  have ox := ox.kq (Kq.ofE y1)
  have oz := oz.kq (Kq.ofE y1)
  have vL := v0.ext y1
  have kL := kB.trans (Kq.ofE y1)
  have st : St TL HL l [eX] (upd HL l (.lst [V.ref t])) := ⟨ext_of (same_new nl), (T1.ext sL).ext (same_new nl), [V.ref t], upd_same, .cons ⟨t, rfl, same_new nl _ _ gt⟩ .nil⟩
  generalize upd HL l (.lst [V.ref t]) = M1 at st ⊢
  clear x1 T1 hN kx kn sL nt gt y1 v0 T0 kB
  obtain ⟨xs, hl, pr⟩ := st.hh
  have lx : xs.length = 1 := Paired.length pr
  refine ⟨_, rfl, .inl ⟨rfl, _, SqL.of hl⟩, lam_in st.T fun HC N x1 T1 hN => ?_⟩
  have y1 : Ext HL HC := st.e.trans x1
  obtain ⟨tn, enI, kn⟩ := oz.ext y1
  refine ⟨_, rfl, meth_in (pf.ext y1) (fun _ _ _ => rfl) ⟨_, rfl, xy_y (i := 1) (pf.ext y1) ok9 kn enI fun HD t sD nt gt => ?_⟩⟩
  have st2 := st.ext (x1.trans (ext_of sD)) (T1.ext sD)
  have hl2 := sD _ _ (Ext.lst x1 hl)
  refine ⟨l, _, _, rfl, rfl, hl2, small1000 (by rw [lx]; decide), ?_⟩
  have st := st2.app nl hl2 (e := eY) ⟨t, rfl, gt⟩
  generalize upd HD l (.lst (xs ++ [V.ref t])) = N0 at st  ⊢
  clear st2 hl2 gt y1 hl pr lx x1 T1 hN sD kn enI nt
  obtain ⟨xs, hl, pr⟩ := st.hh
  have lx : xs.length = 2 := Paired.length pr
  refine ⟨_, rfl, .inl ⟨rfl, _, SqL.of hl⟩, lam_in st.T fun HC N x1 T1 hN => ?_⟩
  have y1 : Ext HL HC := st.e.trans x1
  obtain ⟨tx, exI, kx⟩ := ox.ext y1
  refine ⟨_, rfl, meth_in (pf.ext y1) (fun _ _ _ => rfl) ⟨_, rfl, rfl, xy_y (i := 0) (pf.ext y1) ok9 kx exI fun HD t sD nt gt => ?_⟩⟩
  have st2 := st.ext (x1.trans (ext_of sD)) (T1.ext sD)
  have hl2 := sD _ _ (Ext.lst x1 hl)
  refine ⟨l, _, _, rfl, rfl, hl2, small1000 (by rw [lx]; decide), ?_⟩
  have st := st2.app nl hl2 (e := eY) ⟨t, rfl, gt⟩
  generalize upd HD l (.lst (xs ++ [V.ref t])) = N1 at st  ⊢
  clear st2 hl2 gt y1 hl pr lx x1 T1 hN sD kx exI nt
  refine ⟨by show 2 ≤ sizeLine; decide, fun d1 nd1 => ?_⟩
  have sd1 := same_new (o := .tup [V.str "number", V.str "x"]) nd1
  have gd1 : upd N1 d1 (.tup [V.str "number", V.str "x"]) d1 = some (.tup [V.str "number", V.str "x"]) := upd_same
  have st := st.same sd1
  clear nd1
  generalize upd N1 d1 (.tup [V.str "number", V.str "x"]) = D1 at sd1 gd1 st  ⊢
  refine ⟨by show 2 ≤ sizeLine; decide, fun d2 nd2 => ?_⟩
  have sd2 := same_new (o := .tup [V.str "number", V.str "y"]) nd2
  have gd2 : upd D1 d2 (.tup [V.str "number", V.str "y"]) d2 = some (.tup [V.str "number", V.str "y"]) := upd_same
  have st := st.same sd2
  clear nd2
  generalize upd D1 d2 (.tup [V.str "number", V.str "y"]) = D2 at sd2 gd2 st  ⊢
  refine ⟨by show 2 ≤ sizeLine; decide, fun d3 nd3 => ?_⟩
  have sd3 := same_new (o := .tup [V.str "number", V.str "y"]) nd3
  have gd3 : upd D2 d3 (.tup [V.str "number", V.str "y"]) d3 = some (.tup [V.str "number", V.str "y"]) := upd_same
  have st := st.same sd3
  clear nd3
  generalize upd D2 d3 (.tup [V.str "number", V.str "y"]) = D3 at sd3 gd3 st  ⊢
  refine ⟨by show 3 ≤ sizeLine; decide, fun d nd => ?_⟩
  have sd := same_new (o := .lst [V.ref d1, V.ref d2, V.ref d3]) nd
  have ndl : d ≠ l := by
    obtain ⟨xs, hl, _⟩ := st.hh
    exact (ne_of_none hl nd).symm
  have hd : HsP (upd D3 d (.lst [V.ref d1, V.ref d2, V.ref d3])) d [eX, eY, eY] := ⟨_, upd_same, .cons ⟨d1, rfl, sd _ _ (sd3 _ _ (sd2 _ _ gd1))⟩ (.cons ⟨d2, rfl, sd _ _ (sd3 _ _ gd2)⟩ (.cons ⟨d3, rfl, sd _ _ gd3⟩ .nil))⟩
  have st := st.same sd
  generalize upd D3 d (.lst [V.ref d1, V.ref d2, V.ref d3]) = D4 at hd st ⊢
  clear sd nd sd1 sd2 sd3 gd1 gd2 gd3
  obtain ⟨xs, hl, pr⟩ := st.hh
  have lx : xs.length = 3 := Paired.length pr
  refine ⟨_, rfl, .inl ⟨rfl, _, SqL.of hl⟩, lam_in st.T fun HC N x1 T1 hN => ?_⟩
  have y1 : Ext HL HC := st.e.trans x1
  obtain ⟨tx, exI, kx⟩ := ox.ext y1
  obtain ⟨tn, enI, kn⟩ := oz.ext y1
  refine ⟨_, rfl, meth_in (pf.ext y1) (fun _ _ _ => rfl) ⟨_, rfl, _, rfl, xy_x (f := shf) (pf.ext y1) ok9 kx kn exI fun HD t sD nt gt => ?_⟩⟩
  have st2 := st.ext (x1.trans (ext_of sD)) (T1.ext sD)
  have hl2 := sD _ _ (Ext.lst x1 hl)
  refine ⟨l, _, _, rfl, rfl, hl2, small1000 (by rw [lx]; decide), ?_⟩
  have st := st2.app nl hl2 (e := eX) ⟨t, rfl, gt⟩
  have hd := (hd.ext (x1.trans (ext_of sD))).upd (o := .lst (xs ++ [V.ref t])) hl2 ndl
  generalize upd HD l (.lst (xs ++ [V.ref t])) = N2 at st hd ⊢
  clear st2 hl2 gt y1 hl pr lx x1 T1 hN sD kx exI kn enI nt
  obtain ⟨xs, hl, pr⟩ := st.hh
  have lx : xs.length = 4 := Paired.length pr
  refine ⟨_, rfl, .inl ⟨rfl, _, SqL.of hl⟩, lam_in st.T fun HC N x1 T1 hN => ?_⟩
  have y1 : Ext HL HC := st.e.trans x1
  obtain ⟨tn, enI, kn⟩ := oz.ext y1
  refine ⟨_, rfl, meth_in (pfF.ext y1) (fun _ _ _ => rfl) ⟨_, rfl, xy_y (f := shf) (i := 1) (pfF.ext y1) okF kn enI fun HD t sD nt gt => ?_⟩⟩
  have st2 := st.ext (x1.trans (ext_of sD)) (T1.ext sD)
  have hl2 := sD _ _ (Ext.lst x1 hl)
  refine ⟨l, _, _, rfl, rfl, hl2, small1000 (by rw [lx]; decide), ?_⟩
  have st := st2.app nl hl2 (e := eY) ⟨t, rfl, gt⟩
  have hd := (hd.ext (x1.trans (ext_of sD))).upd (o := .lst (xs ++ [V.ref t])) hl2 ndl
  generalize upd HD l (.lst (xs ++ [V.ref t])) = N3 at st hd ⊢
  clear st2 hl2 gt y1 hl pr lx x1 T1 hN sD kn enI nt
  obtain ⟨xs, hl, pr⟩ := st.hh
  have lx : xs.length = 5 := Paired.length pr
  refine ⟨_, rfl, .inl ⟨rfl, _, SqL.of hl⟩, lam_in st.T fun HC N x1 T1 hN => ?_⟩
  have y1 : Ext HL HC := st.e.trans x1
  obtain ⟨tx, exI, kx⟩ := ox.ext y1
  refine ⟨_, rfl, meth_in (pfF.ext y1) (fun _ _ _ => rfl) ⟨_, rfl, xy_y (i := 2) (pfF.ext y1) okF kx exI fun HD t sD nt gt => ?_⟩⟩
  have st2 := st.ext (x1.trans (ext_of sD)) (T1.ext sD)
  have hl2 := sD _ _ (Ext.lst x1 hl)
  refine ⟨l, _, _, rfl, rfl, hl2, small1000 (by rw [lx]; decide), ?_⟩
  have st := st2.app nl hl2 (e := eY) ⟨t, rfl, gt⟩
  have hd := (hd.ext (x1.trans (ext_of sD))).upd (o := .lst (xs ++ [V.ref t])) hl2 ndl
  generalize upd HD l (.lst (xs ++ [V.ref t])) = N4 at st hd ⊢
  clear st2 hl2 gt y1 hl pr lx x1 T1 hN sD kx exI nt
  refine ⟨_, rfl, ?_⟩
  refine ⟨by show 2 ≤ sizeLine; decide, fun r0 nr0 => ?_⟩
  have sr0 := same_new (o := .tup [V.str "number", V.str "x"]) nr0
  have gr0 : upd N4 r0 (.tup [V.str "number", V.str "x"]) r0 = some (.tup [V.str "number", V.str "x"]) := upd_same
  have st := st.same sr0
  have hd := hd.ext (ext_of sr0)
  clear nr0
  generalize upd N4 r0 (.tup [V.str "number", V.str "x"]) = RD0 at sr0 gr0 st hd ⊢
  refine ⟨by show 2 ≤ sizeLine; decide, fun r1 nr1 => ?_⟩
  have sr1 := same_new (o := .tup [V.str "number", V.str "y"]) nr1
  have gr1 : upd RD0 r1 (.tup [V.str "number", V.str "y"]) r1 = some (.tup [V.str "number", V.str "y"]) := upd_same
  have st := st.same sr1
  have hd := hd.ext (ext_of sr1)
  clear nr1
  generalize upd RD0 r1 (.tup [V.str "number", V.str "y"]) = RD1 at sr1 gr1 st hd ⊢
  refine ⟨by show 2 ≤ sizeLine; decide, fun r2 nr2 => ?_⟩
  have sr2 := same_new (o := .tup [V.str "number", V.str "y"]) nr2
  have gr2 : upd RD1 r2 (.tup [V.str "number", V.str "y"]) r2 = some (.tup [V.str "number", V.str "y"]) := upd_same
  have st := st.same sr2
  have hd := hd.ext (ext_of sr2)
  clear nr2
  generalize upd RD1 r2 (.tup [V.str "number", V.str "y"]) = RD2 at sr2 gr2 st hd ⊢
  refine ⟨by show 3 ≤ sizeLine; decide, fun b nb => ?_⟩
  have sb' := same_new (o := .lst [V.ref r0, V.ref r1, V.ref r2]) nb
  have gb : upd RD2 b (.lst [V.ref r0, V.ref r1, V.ref r2]) b = some (.lst [V.ref r0, V.ref r1, V.ref r2]) := upd_same
  have st := st.same sb'
  have hd := hd.ext (ext_of sb')
  have q0 := sb' _ _ (sr2 _ _ (sr1 _ _ gr0))
  have q1 := sb' _ _ (sr2 _ _ gr1)
  have q2 := sb' _ _ gr2
  generalize upd RD2 b (.lst [V.ref r0, V.ref r1, V.ref r2]) = RB at sb' gb st hd q0 q1 q2 ⊢
  clear sb' nb sr0 sr1 sr2 gr0 gr1 gr2
  obtain ⟨ys, hy, py⟩ := hd
  have ly := Paired.length py
  refine ⟨d, b, ys, _, rfl, rfl, hy, gb, Nat.le_of_lt (small1000 (by rw [ly]; exact (by decide : 6 ≤ 1000))), fun da nd => ?_⟩
  have sd := same_new (o := .lst (ys ++ [V.ref r0, V.ref r1, V.ref r2])) nd
  have ndl : da ≠ l := by
    obtain ⟨xs, hl, _⟩ := st.hh
    exact (ne_of_none hl nd).symm
  have hd : HsP (upd RB da (.lst (ys ++ [V.ref r0, V.ref r1, V.ref r2]))) da _ := ⟨_, upd_same, paired_app (paired_mono py fun _ _ z => z.ext (ext_of sd)) (.cons (b := eX) ⟨r0, rfl, sd _ _ q0⟩ (.cons (b := eY) ⟨r1, rfl, sd _ _ q1⟩ (.cons (b := eY) ⟨r2, rfl, sd _ _ q2⟩ .nil)))⟩
  have st := st.same sd
  generalize upd RB da (.lst (ys ++ [V.ref r0, V.ref r1, V.ref r2])) = RE at hd st ⊢
  clear sd nd hy py ly gb q0 q1 q2
  obtain ⟨xs, hl, pr⟩ := st.hh
  have lx : xs.length = 6 := Paired.length pr
  refine ⟨_, rfl, .inl ⟨rfl, _, SqL.of hl⟩, lam_in st.T fun HC N x1 T1 hN => ?_⟩
  have y1 : Ext HL HC := st.e.trans x1
  obtain ⟨tx, exI, kx⟩ := ox.ext y1
  refine ⟨_, rfl, meth_in (pf.ext y1) (fun _ _ _ => rfl) ⟨_, rfl, ti_x (pf.ext y1) ok9 kx exI fun HD t sD nt gt => ?_⟩⟩
  have st2 := st.ext (x1.trans (ext_of sD)) (T1.ext sD)
  have hl2 := sD _ _ (Ext.lst x1 hl)
  refine ⟨l, _, _, rfl, rfl, hl2, small1000 (by rw [lx]; decide), ?_⟩
  have st := st2.app nl hl2 (e := eN) ⟨t, rfl, gt⟩
  have hd := (hd.ext (x1.trans (ext_of sD))).upd (o := .lst (xs ++ [V.ref t])) hl2 ndl
  generalize upd HD l (.lst (xs ++ [V.ref t])) = N5 at st hd ⊢
  clear st2 hl2 gt y1 hl pr lx x1 T1 hN sD kx exI nt
  obtain ⟨xs, hl, pr⟩ := st.hh
  have lx : xs.length = 7 := Paired.length pr
  refine ⟨_, rfl, .inl ⟨rfl, _, SqL.of hl⟩, lam_in st.T fun HC N x1 T1 hN => ?_⟩
  have y1 : Ext HL HC := st.e.trans x1
  refine ⟨_, rfl, meth_in (pfF.ext y1) (fun _ _ _ => rfl) (xy_ok (f := shf) (i := 1) (j := 0) (pfF.ext y1) okF hN fun HD t0 sD oD => ?_)⟩
  obtain ⟨t, rfl, gt⟩ : ∃ t, t0 = V.ref t ∧ HD t = some (.tup [.str "places", .int 1000000000]) := by
    rcases oD with ⟨ib, _⟩ | ⟨_, t, rfl, gt⟩
    · exact absurd ib (fun h => absurd (h (1000000001, 0) (by decide)).2.1 (by decide))
    · exact ⟨t, rfl, gt⟩
  have st2 := st.ext (x1.trans (ext_of sD)) (T1.ext sD)
  have hl2 := sD _ _ (Ext.lst x1 hl)
  refine ⟨l, _, _, rfl, rfl, hl2, small1000 (by rw [lx]; decide), ?_⟩
  have st := st2.app nl hl2 (e := eF) ⟨t, rfl, gt⟩
  have hd := (hd.ext (x1.trans (ext_of sD))).upd (o := .lst (xs ++ [V.ref t])) hl2 ndl
  generalize upd HD l (.lst (xs ++ [V.ref t])) = N6 at st hd ⊢
  clear st2 hl2 gt y1 hl pr lx x1 T1 hN sD
  obtain ⟨xs, hl, pr⟩ := st.hh
  have lx : xs.length = 8 := Paired.length pr
  refine ⟨_, rfl, .inl ⟨rfl, _, SqL.of hl⟩, lam_in st.T fun HC N x1 T1 hN => ?_⟩
  have y1 : Ext HL HC := st.e.trans x1
  refine ⟨_, rfl, meth_in (pfF.ext y1) (fun _ _ _ => rfl) ⟨_, rfl, xy_ok (f := shf) (i := 0) (j := -1) (pfF.ext y1) okF hN fun HD t0 sD oD => ?_⟩⟩
  obtain ⟨t, rfl, gt⟩ : ∃ t, t0 = V.ref t ∧ HD t = some (.tup [.str "places", .int 1000000000]) := by
    rcases oD with ⟨ib, _⟩ | ⟨_, t, rfl, gt⟩
    · exact absurd ib (fun h => absurd (h (0, -1000000001) (by decide)).2.2.1 (by decide))
    · exact ⟨t, rfl, gt⟩
  have st2 := st.ext (x1.trans (ext_of sD)) (T1.ext sD)
  have hl2 := sD _ _ (Ext.lst x1 hl)
  refine ⟨l, _, _, rfl, rfl, hl2, small1000 (by rw [lx]; decide), ?_⟩
  have st := st2.app nl hl2 (e := eF) ⟨t, rfl, gt⟩
  have hd := (hd.ext (x1.trans (ext_of sD))).upd (o := .lst (xs ++ [V.ref t])) hl2 ndl
  generalize upd HD l (.lst (xs ++ [V.ref t])) = N7 at st hd ⊢
  clear st2 hl2 gt y1 hl pr lx x1 T1 hN sD
  refine ⟨_, rfl, ?_⟩
  refine ⟨by show 2 ≤ sizeLine; decide, fun k0 nk0 => ?_⟩
  have sk0 := same_new (o := .tup [V.str "number", V.str "number"]) nk0
  have gk0 : upd N7 k0 (.tup [V.str "number", V.str "number"]) k0 = some (.tup [V.str "number", V.str "number"]) := upd_same
  have st := st.same sk0
  have hd := hd.ext (ext_of sk0)
  clear nk0
  generalize upd N7 k0 (.tup [V.str "number", V.str "number"]) = KD0 at sk0 gk0 st hd ⊢
  refine ⟨_, _, rfl, rfl, ⟨by decide, by decide, by decide⟩, by show 2 ≤ sizeLine; decide, fun k1 nk1 => ?_⟩
  have sk1 := same_new (o := .tup [V.str "places", V.int ((10 : Int) ^ (Int.toNat 9))]) nk1
  have gk1 : upd KD0 k1 (.tup [V.str "places", V.int ((10 : Int) ^ (Int.toNat 9))]) k1 = some (.tup [V.str "places", V.int ((10 : Int) ^ (Int.toNat 9))]) := upd_same
  have st := st.same sk1
  have hd := hd.ext (ext_of sk1)
  clear nk1
  generalize upd KD0 k1 (.tup [V.str "places", V.int ((10 : Int) ^ (Int.toNat 9))]) = KD1 at sk1 gk1 st hd ⊢
  refine ⟨_, _, rfl, rfl, ⟨by decide, by decide, by decide⟩, by show 2 ≤ sizeLine; decide, fun k2 nk2 => ?_⟩
  have sk2 := same_new (o := .tup [V.str "places", V.int ((10 : Int) ^ (Int.toNat 9))]) nk2
  have gk2 : upd KD1 k2 (.tup [V.str "places", V.int ((10 : Int) ^ (Int.toNat 9))]) k2 = some (.tup [V.str "places", V.int ((10 : Int) ^ (Int.toNat 9))]) := upd_same
  have st := st.same sk2
  have hd := hd.ext (ext_of sk2)
  clear nk2
  generalize upd KD1 k2 (.tup [V.str "places", V.int ((10 : Int) ^ (Int.toNat 9))]) = KD2 at sk2 gk2 st hd ⊢
  refine ⟨by show 3 ≤ sizeLine; decide, fun b nb => ?_⟩
  have sb' := same_new (o := .lst [V.ref k0, V.ref k1, V.ref k2]) nb
  have gb : upd KD2 b (.lst [V.ref k0, V.ref k1, V.ref k2]) b = some (.lst [V.ref k0, V.ref k1, V.ref k2]) := upd_same
  have st := st.same sb'
  have hd := hd.ext (ext_of sb')
  have q0 := sb' _ _ (sk2 _ _ (sk1 _ _ gk0))
  have q1 := sb' _ _ (sk2 _ _ gk1)
  have q2 := sb' _ _ gk2
  generalize upd KD2 b (.lst [V.ref k0, V.ref k1, V.ref k2]) = KB at sb' gb st hd q0 q1 q2 ⊢
  clear sb' nb sk0 sk1 sk2 gk0 gk1 gk2
  obtain ⟨ys, hy, py⟩ := hd
  have ly := Paired.length py
  refine ⟨da, b, ys, _, rfl, rfl, hy, gb, Nat.le_of_lt (small1000 (by rw [ly]; exact (by decide : 9 ≤ 1000))), fun db nd => ?_⟩
  have sd := same_new (o := .lst (ys ++ [V.ref k0, V.ref k1, V.ref k2])) nd
  have ndl : db ≠ l := by
    obtain ⟨xs, hl, _⟩ := st.hh
    exact (ne_of_none hl nd).symm
  rw [e9] at q1 q2
  have hd : HsP (upd KB db (.lst (ys ++ [V.ref k0, V.ref k1, V.ref k2]))) db _ := ⟨_, upd_same, paired_app (paired_mono py fun _ _ z => z.ext (ext_of sd)) (.cons (b := eN) ⟨k0, rfl, sd _ _ q0⟩ (.cons (b := eF) ⟨k1, rfl, sd _ _ q1⟩ (.cons (b := eF) ⟨k2, rfl, sd _ _ q2⟩ .nil)))⟩
  have st := st.same sd
  generalize upd KB db (.lst (ys ++ [V.ref k0, V.ref k1, V.ref k2])) = KE at hd st ⊢
  clear sd nd hy py ly gb q0 q1 q2
  obtain ⟨xs, hl, pr⟩ := st.hh
  have lx : xs.length = 9 := Paired.length pr
  refine ⟨_, rfl, .inl ⟨rfl, _, SqL.of hl⟩, lam_in st.T fun HC N x1 T1 hN => ?_⟩
  have y1 : Ext HL HC := st.e.trans x1
  refine ⟨_, rfl, meth_in (pfF.ext y1) (fun _ _ _ => rfl) (xy_ok (i := 1) (j := 2) (pfF.ext y1) okF hN fun HD t0 sD oD => ?_)⟩
  obtain ⟨t, rfl, gt⟩ : ∃ t, t0 = V.ref t ∧ HD t = some (.tup [.str "places", .int 1000000000]) := by
    rcases oD with ⟨ib, _⟩ | ⟨_, t, rfl, gt⟩
    · exact absurd ib (fun h => absurd (h (1000000000, 2000000000) (by decide)).2.2.2 (by decide))
    · exact ⟨t, rfl, gt⟩
  have st2 := st.ext (x1.trans (ext_of sD)) (T1.ext sD)
  have hl2 := sD _ _ (Ext.lst x1 hl)
  refine ⟨l, _, _, rfl, rfl, hl2, small1000 (by rw [lx]; decide), ?_⟩
  have st := st2.app nl hl2 (e := eF) ⟨t, rfl, gt⟩
  have hd := (hd.ext (x1.trans (ext_of sD))).upd (o := .lst (xs ++ [V.ref t])) hl2 ndl
  generalize upd HD l (.lst (xs ++ [V.ref t])) = N8 at st hd ⊢
  clear st2 hl2 gt y1 hl pr lx x1 T1 hN sD
  obtain ⟨xs, hl, pr⟩ := st.hh
  have lx : xs.length = 10 := Paired.length pr
  refine ⟨_, rfl, .inl ⟨rfl, _, SqL.of hl⟩, lam_in st.T fun HC N x1 T1 hN => ?_⟩
  have y1 : Ext HL HC := st.e.trans x1
  refine ⟨_, rfl, meth_in (pfF.ext y1) (fun _ _ _ => rfl) ⟨_, rfl, ti_ok (i := -2) (pfF.ext y1) okF hN fun HD t0 sD oD => ?_⟩⟩
  obtain ⟨t, rfl, gt⟩ : ∃ t, t0 = V.ref t ∧ HD t = some (.tup [.str "places", .int 1000000000]) := by
    rcases oD with ⟨ib, _⟩ | ⟨_, t, rfl, gt⟩
    · exact absurd ib (fun h => absurd (h (-2000000000, 0) (by decide)).1 (by decide))
    · exact ⟨t, rfl, gt⟩
  have st2 := st.ext (x1.trans (ext_of sD)) (T1.ext sD)
  have hl2 := sD _ _ (Ext.lst x1 hl)
  refine ⟨l, _, _, rfl, rfl, hl2, small1000 (by rw [lx]; decide), ?_⟩
  have st := st2.app nl hl2 (e := eF) ⟨t, rfl, gt⟩
  have hd := (hd.ext (x1.trans (ext_of sD))).upd (o := .lst (xs ++ [V.ref t])) hl2 ndl
  generalize upd HD l (.lst (xs ++ [V.ref t])) = N9 at st hd ⊢
  clear st2 hl2 gt y1 hl pr lx x1 T1 hN sD
  obtain ⟨xs, hl, pr⟩ := st.hh
  have lx : xs.length = 11 := Paired.length pr
  refine ⟨_, rfl, .inl ⟨rfl, _, SqL.of hl⟩, lam_in st.T fun HC N x1 T1 hN => ?_⟩
  have y1 : Ext HL HC := st.e.trans x1
  refine ⟨_, rfl, meth_in (pfF.ext y1) (fun _ _ _ => rfl) ⟨_, rfl, ti_ok (i := -1) (pfF.ext y1) okF hN fun HD w sD oD => ?_⟩⟩
  obtain ⟨bh, uh, rfl, lph⟩ : ∃ b us, w = V.ref b ∧ LP HD b us (qF.map (tms (-1))) := by
    rcases oD with ⟨_, h⟩ | ⟨nb, _⟩
    · exact h
    · exact absurd (by unfold InB; decide) nb
  have st2 := st.ext (x1.trans (ext_of sD)) (T1.ext sD)
  have hl2 := sD _ _ (Ext.lst x1 hl)
  refine ⟨l, _, _, rfl, rfl, hl2, small1000 (by rw [lx]; decide), ?_⟩
  have nbl : bh ≠ l := L2.ne_of lph.1 hl2 (fun e => by
    have e2 := congrArg List.length (HO.lst.inj e)
    rw [List.length_map, lph.len, lx] at e2
    exact absurd e2 (by decide))
  have eM : Ext HL (upd HD l (.lst (xs ++ [V.ref bh]))) := fun b o h t => by
    rw [upd_ne (ne_of_none h nl)]
    exact st2.e b o h t
  have TM := tabs_upd (o := .lst (xs ++ [V.ref bh])) st2.T hl2
  have hd := (hd.ext (x1.trans (ext_of sD))).upd (o := .lst (xs ++ [V.ref bh])) hl2 ndl
  have hlM : upd HD l (.lst (xs ++ [V.ref bh])) l = some (.lst (xs ++ [V.ref bh])) := upd_same
  have prM : Paired (T2 (upd HD l (.lst (xs ++ [V.ref bh])))) xs _ := paired_mono pr fun _ _ z => ((z.ext (x1.trans (ext_of sD))).upd hl2)
  have lpM : LP (upd HD l (.lst (xs ++ [V.ref bh]))) bh uh (qF.map (tms (-1))) := ⟨by rw [upd_ne nbl]; exact lph.1, prs_upd hl2 lph.2⟩
  generalize upd HD l (.lst (xs ++ [V.ref bh])) = M0 at eM TM hd hlM prM lpM ⊢
  clear lph nbl st2 hl2 y1 hl pr x1 T1 hN sD oD st
  refine ⟨_, rfl, _, rfl, ?_⟩
  have aM : Same M0 M0 := Same.me
  refine ⟨_, _, rfl, rfl, ⟨by decide, by decide, by decide⟩, by show 2 ≤ sizeLine; decide, fun f1 nf1 => ?_⟩
  have sf1 := same_new (o := .tup [V.str "places", V.int ((10 : Int) ^ (Int.toNat 9))]) nf1
  have gf1 : upd M0 f1 (.tup [V.str "places", V.int ((10 : Int) ^ (Int.toNat 9))]) f1 = some (.tup [V.str "places", V.int ((10 : Int) ^ (Int.toNat 9))]) := upd_same
  have aM := aM.trans sf1
  clear nf1
  generalize upd M0 f1 (.tup [V.str "places", V.int ((10 : Int) ^ (Int.toNat 9))]) = M1 at sf1 gf1 aM ⊢
  refine ⟨_, _, rfl, rfl, ⟨by decide, by decide, by decide⟩, by show 2 ≤ sizeLine; decide, fun f2 nf2 => ?_⟩
  have sf2 := same_new (o := .tup [V.str "places", V.int ((10 : Int) ^ (Int.toNat 9))]) nf2
  have gf2 : upd M1 f2 (.tup [V.str "places", V.int ((10 : Int) ^ (Int.toNat 9))]) f2 = some (.tup [V.str "places", V.int ((10 : Int) ^ (Int.toNat 9))]) := upd_same
  have aM := aM.trans sf2
  clear nf2
  generalize upd M1 f2 (.tup [V.str "places", V.int ((10 : Int) ^ (Int.toNat 9))]) = M2 at sf2 gf2 aM ⊢
  refine ⟨_, _, rfl, rfl, ⟨by decide, by decide, by decide⟩, _, rfl, by show 2 ≤ sizeLine; decide, fun f3 nf3 => ?_⟩
  have sf3 := same_new (o := .tup [V.int (-((10 : Int) ^ (Int.toNat 9))), V.int 0]) nf3
  have gf3 : upd M2 f3 (.tup [V.int (-((10 : Int) ^ (Int.toNat 9))), V.int 0]) f3 = some (.tup [V.int (-((10 : Int) ^ (Int.toNat 9))), V.int 0]) := upd_same
  have aM := aM.trans sf3
  clear nf3
  generalize upd M2 f3 (.tup [V.int (-((10 : Int) ^ (Int.toNat 9))), V.int 0]) = M3 at sf3 gf3 aM ⊢
  refine ⟨_, _, rfl, rfl, ⟨by decide, by decide, by decide⟩, by show 2 ≤ sizeLine; decide, fun f4 nf4 => ?_⟩
  have sf4 := same_new (o := .tup [V.int 0, V.int ((10 : Int) ^ (Int.toNat 9))]) nf4
  have gf4 : upd M3 f4 (.tup [V.int 0, V.int ((10 : Int) ^ (Int.toNat 9))]) f4 = some (.tup [V.int 0, V.int ((10 : Int) ^ (Int.toNat 9))]) := upd_same
  have aM := aM.trans sf4
  clear nf4
  generalize upd M3 f4 (.tup [V.int 0, V.int ((10 : Int) ^ (Int.toNat 9))]) = M4 at sf4 gf4 aM ⊢
  refine ⟨_, rfl, _, rfl, by show 2 ≤ sizeLine; decide, fun f5 nf5 => ?_⟩
  have sf5 := same_new (o := .tup [V.int (-1), V.int (-1)]) nf5
  have gf5 : upd M4 f5 (.tup [V.int (-1), V.int (-1)]) f5 = some (.tup [V.int (-1), V.int (-1)]) := upd_same
  have aM := aM.trans sf5
  clear nf5
  generalize upd M4 f5 (.tup [V.int (-1), V.int (-1)]) = M5 at sf5 gf5 aM ⊢
  refine ⟨_, rfl, _, rfl, by show 2 ≤ sizeLine; decide, fun f6 nf6 => ?_⟩
  have sf6 := same_new (o := .tup [V.int (-2), V.int (-2)]) nf6
  have gf6 : upd M5 f6 (.tup [V.int (-2), V.int (-2)]) f6 = some (.tup [V.int (-2), V.int (-2)]) := upd_same
  have aM := aM.trans sf6
  clear nf6
  generalize upd M5 f6 (.tup [V.int (-2), V.int (-2)]) = M6 at sf6 gf6 aM ⊢
  refine ⟨by show 4 ≤ sizeLine; decide, fun f7 nf7 => ?_⟩
  have sf7 := same_new (o := .lst [V.ref f3, V.ref f4, V.ref f5, V.ref f6]) nf7
  have gf7 : upd M6 f7 (.lst [V.ref f3, V.ref f4, V.ref f5, V.ref f6]) f7 = some (.lst [V.ref f3, V.ref f4, V.ref f5, V.ref f6]) := upd_same
  have aM := aM.trans sf7
  clear nf7
  generalize upd M6 f7 (.lst [V.ref f3, V.ref f4, V.ref f5, V.ref f6]) = M7 at sf7 gf7 aM ⊢
  refine ⟨by show 3 ≤ sizeLine; decide, fun f8 nf8 => ?_⟩
  have sf8 := same_new (o := .lst [V.ref f1, V.ref f2, V.ref f7]) nf8
  have gf8 : upd M7 f8 (.lst [V.ref f1, V.ref f2, V.ref f7]) f8 = some (.lst [V.ref f1, V.ref f2, V.ref f7]) := upd_same
  have aM := aM.trans sf8
  clear nf8
  generalize upd M7 f8 (.lst [V.ref f1, V.ref f2, V.ref f7]) = M8 at sf8 gf8 aM ⊢
  have z1 := sf8 _ _ (sf7 _ _ (sf6 _ _ (sf5 _ _ (sf4 _ _ (sf3 _ _ (sf2 _ _ gf1))))))
  have z2 := sf8 _ _ (sf7 _ _ (sf6 _ _ (sf5 _ _ (sf4 _ _ (sf3 _ _ gf2)))))
  have z3 := sf8 _ _ (sf7 _ _ (sf6 _ _ (sf5 _ _ (sf4 _ _ gf3))))
  have z4 := sf8 _ _ (sf7 _ _ (sf6 _ _ (sf5 _ _ gf4)))
  have z5 := sf8 _ _ (sf7 _ _ (sf6 _ _ gf5))
  have z6 := sf8 _ _ (sf7 _ _ gf6)
  have z7 := sf8 _ _ gf7
  rw [e9] at z1 z2 z3 z4
  have lpD : LP M8 f7 [f3, f4, f5, f6] (qF.map (tms (-1))) := ⟨z7, .cons z3 (.cons z4 (.cons z5 (.cons z6 .nil)))⟩
  obtain ⟨ys, hy, py⟩ := hd
  have ly := Paired.length py
  refine ⟨db, f8, ys, _, rfl, rfl, aM _ _ hy, gf8, Nat.le_of_lt (small1000 (by rw [ly]; exact (by decide : 12 ≤ 1000))), fun g9 n9 => ?_⟩
  have s9 := same_new (o := .lst (ys ++ [V.ref f1, V.ref f2, V.ref f7])) n9
  have a9 := aM.trans s9
  have py2 : Paired (T2 (upd M8 g9 (.lst (ys ++ [V.ref f1, V.ref f2, V.ref f7])))) (ys ++ [V.ref f1, V.ref f2]) es11 := paired_app (paired_mono py fun _ _ z => z.ext (ext_of a9)) (.cons (b := eF) ⟨f1, rfl, s9 _ _ z1⟩ (.cons (b := eF) ⟨f2, rfl, s9 _ _ z2⟩ .nil))
  have prM2 : Paired (T2 (upd M8 g9 (.lst (ys ++ [V.ref f1, V.ref f2, V.ref f7])))) xs es11 := paired_mono prM fun _ _ z => z.ext (ext_of a9)
  have d1 := dp_app (hs_dp (K := K) prM2 side11) (.cons (lpM.same a9).dp .nil)
  have d2 := dp_app (hs_dp (K := K) py2 side11) (.cons (lpD.same s9).dp .nil)
  rw [List.append_assoc] at d2
  refine ⟨_, _, .lst (SqL.of (a9 _ _ hlM)) d1, .lst (SqL.of upd_same) d2, by decide +kernel, by decide +kernel, ?_⟩
  have ev : PyData.eqv (.list (es11.map dE ++ [.list ((qF.map (tms (-1))).map en)])) (.list (es11.map dE ++ [.list ((qF.map (tms (-1))).map en)])) = true := by decide +kernel
  rw [ev]
  exact q _ (kL.trans ((Kq.ofE eM).trans (Kq.ofE (ext_of a9)))) (((vL.ext eM).ext (ext_of a9)).le (by omega)) (TM.ext a9)
end
end K12

namespace K12
open PySem PySem.Spec PyProof.Rows L2
section
variable {P : Program} {w : World} {K : PySem.W.Frag} {mg : Str → Option Value} {base : Heap}
/-! ### law -/
def spLaw (K : PySem.W.Frag) (TL : List (Addr × Str)) : Sp := fun vs H Q _ => ∃ (a : Addr) (ns : List Int), vs = [.ref a] ∧ SqL K H a (ns.map V.int) ∧ ns.length ≤ 63 ∧ LamX.Tabs TL H ∧ ∀ H', Q (.bl true) H'
abbrev sLaw : Stmt := top 55
abbrev nLaw : List Str := ["_law_script", "_law_lens_here", "_law_turn", "_law_places_here"]
theorem scLaw : FnScope nLaw ["_law_script"] (defScope sLaw) := ⟨rfl, rfl, rfl, by decide +kernel, rfl, by decide +kernel, by decide +kernel⟩
theorem ok_law {f : Addr} {fd : FuncData} {TL : List (Addr × Str)} (F : Fun K "law" "law" sLaw f fd) (B : Bn mg) (C1 : Callee P w K mg base CX0 1 "_law_lens" ["_law_script"] (spLens K)) (C3 : Callee P w K mg base CX0 3 "_law_places" ["_law_lens_here"] spPlc)
    (C4 : Callee P w K mg base CX0 12 "_law_turned_right" ["_law_lens_here", "_law_places_here"] (spQ TL 6)) (C5 : Callee P w K mg base CX0 12 "_law_changed_right" ["_law_lens_here", "_law_places_here"] (spQ TL 6)) (C6 : Callee P w K mg base CX0 12 "_law_refused_right" ["_law_lens_here", "_law_places_here"] (spQ TL 6)) : FnOk P w K mg base CX0 13 f fd ["_law_script"] (spLaw K TL) := by
  obtain ⟨f1, fd1, m1, k1, b1, G1⟩ := C1
  obtain ⟨f3, fd3, m3, k3, b3, G3⟩ := C3
  obtain ⟨f4, fd4, m4, k4, b4, G4⟩ := C4
  obtain ⟨f5, fd5, m5, k5, b5, G5⟩ := C5
  obtain ⟨f6, fd6, m6, k6, b6, G6⟩ := C6
  have nd := scLaw.nd
  refine F.ok scLaw (fun vs H Q E h => ?_) (fun cdv A outer s H vs Q E hr h => ?_)
  · obtain ⟨a, ns, rfl, _⟩ := h
    rfl
  · obtain ⟨a, ns, rfl, hs, l63, hT, q⟩ := h
    refine ⟨_, (pss_cons ((ps_set (i := 1) nd rfl (Or.inl rfl) ((pe_call G1 (hr.mono (by decide)) rfl m1 k1 b1 .nil pass0 (pa_cons (pv 0) pa_nil))))) (pss_cons (ps_for PassesOwn.never rfl (pi_range1 rfl B.range (pa_cons (pe_int) pa_nil)) (pg_name (i := 2) nd rfl (Or.inl rfl)) (pss_cons ((ps_set (i := 3) nd rfl (Or.inl rfl) ((pe_call G3 (hr.mono (by decide)) rfl m3 k3 b3 .nil pass0 (pa_cons (pv 1) pa_nil))))) (pss_one (ps_if (PW.pt (pw_or (pt_not (pt_val (pe_call G4 (hr.mono (by decide)) rfl m4 k4 b4 .nil pass0 (pa_cons (pv 1) (pa_cons (pv 3) pa_nil))))) (pw_or (pt_not (pt_val (pe_call G5 (hr.mono (by decide)) rfl m5 k5 b5 .nil pass0 (pa_cons (pv 1) (pa_cons (pv 3) pa_nil))))) (pw_or1 (pt_not (pt_val (pe_call G6 (hr.mono (by decide)) rfl m6 k6 b6 .nil pass0 (pa_cons (pv 1) (pa_cons (pv 3) pa_nil))))))))) (pss_one (ps_ret pe_bl)) pss_nil)))) (pss_one (ps_ret pe_bl)))), ?_⟩
    refine ⟨_, rfl, a, ns, rfl, hs, l63, fun H1 p s1 n1 v1 => ?_⟩
    refine ⟨3, rfl, by decide, by decide, ?_⟩
    refine for_range (lo := 0) (n := 3) (fun i σ H' => Lens H' p (100 * i) ∧ LamX.Tabs TL H' ∧ ∃ c2 c3, σ = [some (.ref a), some (.ref p), c2, c3]) ⟨v1, hT.ext s1, _, _, rfl⟩ (fun i σ H' hi pv => ?_) (fun σ H' pv => ?_)
    · obtain ⟨v, T, c2, c3, rfl⟩ := pv
      refine ⟨_, rfl, p, _, rfl, v, by omega, fun H2 b ts ps s2 v2 nb lp l4 l7 b6 => ?_⟩
      have T2 := tabs_sb T v s2
      refine ⟨_, rfl, _, rfl, p, b, _, ts, ps, rfl, v2, by omega, nb, lp, l4, l7, b6, T2, fun H3 kq3 v3 T3 => ⟨_, rfl, iteF ?_⟩⟩
      have lp3 := lp.kq v2 nb kq3
      refine ⟨_, rfl, _, rfl, p, b, _, ts, ps, rfl, v3, by omega, nb, lp3, l4, l7, b6, T3, fun H4 kq4 v4 T4 => ⟨_, rfl, iteF ?_⟩⟩
      have lp4 := lp3.kq v3 nb kq4
      refine ⟨_, rfl, _, rfl, p, b, _, ts, ps, rfl, v4, by omega, nb, lp4, l4, l7, b6, T4, fun H5 kq5 v5 T5 => ⟨_, rfl, iteF ?_⟩⟩
      exact ⟨v5.le (by omega), T5, _, _, rfl⟩
    · obtain ⟨v, T, c2, c3, rfl⟩ := pv
      exact q _
end
end K12

namespace K12
open PySem PySem.Spec PyProof.Rows L2
section
variable {P : Program} {w : World} {K : PySem.W.Frag} {mg : Str → Option Value} {base : Heap} {C CB CT CN : Addr}
/-! ### Picture.turned with its defaults -/
theorem vals_take {xs : List V} {us : List Value} (h : Vals xs us) : ∀ n, Vals (xs.take n) (us.take n) := by
  induction h with
  | nil => exact fun n => by rw [List.take_nil, List.take_nil]; exact .nil
  | cons a _ ih => exact fun n => match n with
    | 0 => .nil
    | n + 1 => .cons a (ih n)
abbrev FTu (K : PySem.W.Frag) (f : Addr) (fd : FuncData) : Prop := FunD K "turned" "Picture.turned" (defArgs sTu) (defBody sTu) (defScope sTu) [.int 0, .int 1] [] f fd
theorem ok_tuD {f : Addr} {fd : FuncData} (F : FunD K "turned" "Picture.turned" (defArgs sTu) (defBody sTu) (defScope sTu) [.int 0, .int 1] [] f fd) (T : PicT K C) (C1 : Callee P w K mg base (L2.CX P w) 3 "check_integer" ["value", "part"] (spCI K CN)) (C2 : Callee P w K mg base (L2.CX P w) 8 "_with_room" ["places"] (spWR C CT)) : FnOk P w K mg base (L2.CX P w) 9 f fd ["self", "x", "y"] (spXY K C CT CN trn) := by
  obtain ⟨f1, fd1, m1, k1, b1, G1⟩ := C1
  obtain ⟨f2, fd2, m2, k2, b2, G2⟩ := C2
  have cl := T.pc.cls
  have nd := scTu.nd
  have eG : G9 = 1000000000 := rfl
  refine F.ok scTu (fun vs H Q E h => ?_) (fun cdv A outer s H vs Q E hr h => ?_)
  · obtain ⟨a, x, y, tx, ty, ps, rfl, _⟩ := h
    rfl
  · obtain ⟨a, x, y, tx, ty, ps, rfl, pf, ok, kx, ky, hx, hy, hz⟩ := h
    refine ⟨_, (pss_cons (ps_expr (pe_callS (E := fun _ => E) G1 (hr.mono (by decide)) rfl m1 k1 b1 (fun σ => passAt (takes_of rfl rfl rfl rfl) σ) (pa_cons (pv 1) (pa_cons (pe_str) pa_nil)))) (pss_cons (ps_expr (pe_callS (E := fun _ => E) G1 (hr.mono (by decide)) rfl m1 k1 b1 (fun σ => passAt (takes_of rfl rfl rfl rfl) σ) (pa_cons (pv 2) (pa_cons (pe_str) pa_nil)))) (pss_one (ps_ret (pe_callS (E := fun _ => E) G2 (hr.mono (by decide)) rfl m2 k2 b2 (fun σ => passAt (takes_of rfl rfl rfl rfl) σ) (pa_cons (pe_lc (own := [("a", 3), ("b", 4)]) (g := gTup K 2 (gCons (gName 3) (gCons (gName 4) gNil))) (tt := tYes) rfl nd (pi_tup (pe_fld (pv 0) rfl)) (blkOk_by (N := nTu) (sc := defScope sTu) (by decide +kernel)) (fun _ _ _ _ _ => pg_tup rfl (pgs_cons (pg_name (i := 3) nd rfl (Or.inl rfl)) (pgs_cons (pg_name (i := 4) nd rfl (Or.inl rfl)) pgs_nil))) (fun _ _ _ _ _ => pts_nil)
        (fun _ _ _ _ _ => pe_tup (pa_cons (pe_op op_sub (pe_op op_mul (pv 1) (pv 3)) (pe_op op_mul (pv 2) (pv 4))) (pa_cons (pe_op op_add (pe_op op_mul (pv 2) (pv 3)) (pe_op op_mul (pv 1) (pv 4))) pa_nil)))) pa_nil)))))), ?_⟩
    refine ⟨_, rfl, x, tx, "x", rfl, kx, fun ix => ?_, hx⟩
    obtain ⟨i, rfl⟩ := int_of ix
    refine ⟨_, rfl, y, ty, "y", rfl, ky, fun iy => ?_, hy i rfl⟩
    obtain ⟨j, rfl⟩ := int_of iy
    obtain ⟨dx, t, u, ha, ⟨us, ht, pr⟩, _⟩ := id pf
    have l4 := ok.1
    have l7 := ok.2.1
    refine ⟨_, rfl, a, C, dx, _, .ref t, rfl, ha, cl, T.n1, rfl, t, rfl, ⟨_, SqT.of ht⟩, fun D hD => ?_⟩
    refine lc_tup (K := K) (a := t) (xs := us.map V.ref) (Lm H D (trn i j) ps) (lm_nil hD) (fun i H' _ p => SqT.of (p.1 _ _ ht)) (fun n v H' hx p => ?_) (fun H' p => ?_)
    · have hi : n < ps.length := by
        have := (List.getElem?_eq_some_iff.mp hx).1
        rw [List.length_map, Paired.length pr] at this
        exact this
      obtain ⟨g, hg1, hg⟩ := paired_of pr (List.getElem?_eq_getElem hi)
      rw [List.getElem?_map, hg1] at hx
      have ev : V.ref g = v := Option.some.inj hx
      subst ev
      have eq := List.getElem?_eq_getElem hi
      have bq := ok.2.2 _ (List.getElem_mem hi)
      generalize ps[n] = q1 at hg eq bq
      obtain ⟨c1, c2, c3, c4⟩ := bq
      have hg : H' g = some (.tup [.int q1.1, .int q1.2]) := p.1 _ _ hg
      refine ⟨g, _, rfl, SqT.of hg, rfl, _, _, rfl, _, _, rfl, rfl, rfl, _, rfl, _, rfl, _, _, rfl, rfl, .inr ⟨by omega, by omega⟩, _, rfl, _, rfl, _, _, rfl, rfl, .inr ⟨by omega, by omega⟩, _, _, rfl, rfl, _, rfl, _, rfl, _, _, rfl, rfl, .inr ⟨by omega, by omega⟩, _, rfl, _, rfl, _, _, rfl, rfl, .inr ⟨by omega, by omega⟩, _, _, rfl, rfl, by show 2 ≤ sizeLine; decide, fun n nn => ?_⟩
      exact lm_step hD l7 p eq (same_new nn) upd_same
    · rw [List.length_map, Paired.length pr] at p
      obtain ⟨s, vs, lpv⟩ := lm_end p
      exact ⟨D, vs, _, rfl, lpv, by rw [List.length_map]; exact l4, by rw [List.length_map]; exact l7, (hz i j rfl rfl).same s⟩
theorem tu_b0 {f : Addr} {fd : FuncData} (F : FTu K f fd) : Binds K fd ["self", "x", "y"] [] := by
  obtain ⟨ds, r, b⟩ := F.binds1 (ps := ["self", "x", "y"]) 3 2 (by intro h; cases h) rfl fun T kV doc pm an cdv ct us its h1 h2 => match us, h1, its, h2 with
    | [_, _, _], _, [_, _], _ => ⟨_, rfl, rfl⟩
  cases r
  exact b
theorem tu_b1 {f : Addr} {fd : FuncData} (F : FTu K f fd) : ∃ ds, Vals [.int 1] ds ∧ Binds K fd ["self", "x", "y"] ds :=
  F.binds1 (ps := ["self", "x", "y"]) 2 1 (by intro h; cases h) rfl fun T kV doc pm an cdv ct us its h1 h2 => match us, h1, its, h2 with
    | [_, _], _, [_, _], _ => ⟨_, rfl, rfl⟩
theorem tu_b2 {f : Addr} {fd : FuncData} (F : FTu K f fd) : ∃ ds, Vals [.int 0, .int 1] ds ∧ Binds K fd ["self", "x", "y"] ds :=
  F.binds1 (ps := ["self", "x", "y"]) 1 0 (by intro h; cases h) rfl fun T kV doc pm an cdv ct us its h1 h2 => match us, h1, its, h2 with
    | [_], _, [_, _], _ => ⟨_, rfl, rfl⟩
theorem tu_k2 {f : Addr} {fd : FuncData} (F : FTu K f fd) : KBn K fd ["self", "x", "y"] 1 ["y", "x"] rv2 rv2 := by
  obtain ⟨its, k⟩ := F.kbindsD (ps := ["self", "x", "y"]) 1 ["y", "x"] (fun {α} vs _ zs => rv2 vs zs) (by intro h; cases h) (fun a _ c => a.append c.reverse) fun T kV doc pm an cdv ct us its ws h1 h2 h3 => match us, h1, its, h2, ws, h3 with
    | [_], _, [_, _], _, [_, _], _ => ⟨_, rfl, rfl⟩
  exact k
theorem tu_k1 {f : Addr} {fd : FuncData} (F : FTu K f fd) : ∃ g, KBn K fd ["self", "x", "y"] 1 ["y"] g (fun vs zs => vs ++ .int 0 :: zs) := by
  obtain ⟨its, k⟩ := F.kbindsD (ps := ["self", "x", "y"]) 1 ["y"] (fun {α} vs ds zs => vs ++ (ds.take 1 ++ zs)) (by intro h; cases h) (fun a b c => a.append ((vals_take b 1).append c)) fun T kV doc pm an cdv ct us its ws h1 h2 h3 => match us, h1, its, h2, ws, h3 with
    | [_], _, [_, _], _, [_], _ => ⟨_, rfl, rfl⟩
  exact ⟨_, k⟩
end
end K12

namespace K12
open PySem PySem.Spec PyProof.Rows L2
/-! ### what the written part says, looked up at once -/
def oexB (K : PySem.W.Frag) (C : Addr) : Bool := match K.lookup C with
  | some ⟨.type "type", _, .cls cd, sl⟩ => (match cd.mro, sl.toList with
    | .ref C' :: bm, [_, _, _, _, some (.builtin n), _] => C' == C && n == "ValueError.__new__" && !cd.hasDel && cd.hasDict && PySem.HandSPX.refsVE bm
    | _, _ => false)
  | _ => false
theorem oexB_ok {K : PySem.W.Frag} {C : Addr} (q : oexB K C = true) : ∃ nm qn N bs bm sn sub ab col dd k0 k1 k2 k3 k5, K.lookup C = some (excClassObj nm qn C N bs bm true sn sub ab col dd k0 k1 k2 k3 k5 "ValueError.__new__") ∧ PySem.HandSPX.refsVE bm = true := by
  unfold oexB at q
  split at q
  · rename_i dd cd sl ho
    split at q
    · rename_i C' bm k0 k1 k2 k3 n k5 hm hs
      simp only [Bool.and_eq_true, beq_iff_eq, Bool.not_eq_true'] at q
      obtain ⟨⟨⟨⟨rfl, rfl⟩, hdel⟩, hd⟩, ht⟩ := q
      obtain ⟨nm, bs, mro, ns, qn, hdc, sn, sub, ab, col, del⟩ := cd
      dsimp only at hm hdel hd
      subst hm hdel hd
      have hsl : sl = #[k0, k1, k2, k3, some (.builtin "ValueError.__new__"), k5] := by
        obtain ⟨l⟩ := sl
        simp only at hs
        rw [hs]
      subst hsl
      exact ⟨nm, qn, ns, bs, bm, sn, sub, ab, col, dd, k0, k1, k2, k3, k5, ho, ht⟩
    · cases q
  · cases q
def badB (K : PySem.W.Frag) (C CS : Addr) : Bool := oexB K C && (decide (PySem.W.findIn K (.ref C) "__setattr__" = some (some (.builtin "object.__setattr__"))) && (decide (PySem.W.subIn K (.ref C) (.type "BaseException") = some true) && (decide (PySem.W.typeIn K (.ref C) = some (.type "type")) && (PySem.W.keepIn K (.ref C) &&
  (decide (PySem.W.findIn K (.ref C) "__getattribute__" = some (some (.builtin "BaseException.__getattribute__"))) && (decide (PySem.W.findIn K (.ref C) "__getattr__" = some none) && (PySem.W.hasDictIn K C && (decide (PySem.W.findIn K (.ref C) "__class__" = some (some (.builtin "object.__class__"))) &&
  (decide (PySem.W.specialIn K (.builtin "object.__class__") "__get__" = some (some (.builtin "getset_descriptor.__get__"))) && (decide (PySem.W.takesIn K (.builtin "object.__class__") = some true) && (decide (PySem.W.mroIn K C (.type "object") = some true) &&
  (decide (PySem.W.findIn K (.ref C) "part" = some none) && decide (PySem.W.exmOne K (.ref C) (.ref CS) = some true)))))))))))))
theorem badB_ok {K : PySem.W.Frag} {C CS : Addr} (h : badB K C CS = true) : OexC K C ∧ ExcC K C ∧ XfC K C ∧ PySem.W.findIn K (.ref C) "part" = some none ∧ PySem.W.exmOne K (.ref C) (.ref CS) = some true := by
  unfold badB at h
  simp only [Bool.and_eq_true, decide_eq_true_eq] at h
  obtain ⟨h0, h1, h2, h3, h4, h5, h6, h7, h8, h9, h10, h11, h12, h13⟩ := h
  exact ⟨⟨oexB_ok h0, h1, h2, h3, h4⟩, ⟨h5, h6, h2, h7, h8, h9, h10, h11⟩, ⟨h5, h6, h2, h7⟩, h12, h13⟩
def picB (K : PySem.W.Frag) (C : Addr) : Bool := PySem.W.plainGet K C Str.empty && (PySem.W.hasDictIn K C && (PySem.W.plainOver K C && (decide (PySem.W.findIn K (.ref C) "__setattr__" = some (some (.builtin "object.__setattr__"))) && (decide (PySem.W.findIn K (.ref C) "__class__" = some (some (.builtin "object.__class__"))) &&
  (decide (PySem.W.specialIn K (.builtin "object.__class__") "__get__" = some (some (.builtin "getset_descriptor.__get__"))) && (decide (PySem.W.takesIn K (.builtin "object.__class__") = some true) && (decide (PySem.W.mroIn K C (.type "object") = some true) &&
  (decide (PySem.W.kitOne K (.ref C) (.type "int") = some false) && (decide (PySem.W.kitOne K (.ref C) (.type "bool") = some false) && (decide (PySem.W.kitOne K (.ref C) (.type "tuple") = some false) && (decide (PySem.W.kitAny K (.ref C) [.type "list", .type "tuple"] = some false) &&
  (decide (PySem.W.findIn K (.ref C) "places" = some none) && (decide (PySem.W.findIn K (.ref C) "pins" = some none) && (decide (PySem.W.findIn K (.ref C) "rows" = some none) && (decide (PySem.W.findIn K (.ref C) "__ne__" = some (some (.builtin "object.__ne__"))) &&
  (PySem.W.makesIn K C && (PySem.W.keepIn K (.ref C) && (["NoneType", "str", "list", "tuple"].all fun t => decide (PySem.W.kitOne K (.type t) (.ref C) = some false) && PySem.W.notFirst K C (.type t)))))))))))))))))))
theorem picB_ok {K : PySem.W.Frag} {C : Addr} (h : picB K C = true) : PicT K C ∧ PicN K C ∧ PySem.W.makesIn K C = true ∧ PySem.W.keepIn K (.ref C) = true := by
  unfold picB at h
  rw [Bool.and_eq_true, Bool.and_eq_true, Bool.and_eq_true, Bool.and_eq_true, Bool.and_eq_true, Bool.and_eq_true, Bool.and_eq_true, Bool.and_eq_true, Bool.and_eq_true, Bool.and_eq_true, Bool.and_eq_true, Bool.and_eq_true, Bool.and_eq_true, Bool.and_eq_true, Bool.and_eq_true, Bool.and_eq_true, Bool.and_eq_true, Bool.and_eq_true] at h
  obtain ⟨h0, h1, h2, h3, h4, h5, h6, h7, h8, h9, h10, h11, h12, h13, h14, h15, h16, h17, h18⟩ := h
  refine ⟨⟨⟨⟨h0, h1, h2, of_decide_eq_true h3⟩, of_decide_eq_true h4, of_decide_eq_true h5, of_decide_eq_true h6, of_decide_eq_true h7, of_decide_eq_true h8, of_decide_eq_true h9, of_decide_eq_true h10, of_decide_eq_true h11⟩, (show PySem.W.findIn K (.ref C) "places" = some none from of_decide_eq_true h12), (show PySem.W.findIn K (.ref C) "pins" = some none from of_decide_eq_true h13), (show PySem.W.findIn K (.ref C) "rows" = some none from of_decide_eq_true h14)⟩, ⟨fun t ht => ?_, of_decide_eq_true h15⟩, h16, h17⟩
  have z := List.all_eq_true.mp h18 t ht
  rw [Bool.and_eq_true] at z
  exact ⟨of_decide_eq_true z.1, z.2⟩
def tooB (K : PySem.W.Frag) (C CS : Addr) : Bool := oexB K C && (decide (PySem.W.findIn K (.ref C) "__setattr__" = some (some (.builtin "object.__setattr__"))) && (decide (PySem.W.subIn K (.ref C) (.type "BaseException") = some true) && (decide (PySem.W.typeIn K (.ref C) = some (.type "type")) && (PySem.W.keepIn K (.ref C) &&
  (decide (PySem.W.findIn K (.ref C) "__getattribute__" = some (some (.builtin "BaseException.__getattribute__"))) && (decide (PySem.W.findIn K (.ref C) "__getattr__" = some none) && (PySem.W.hasDictIn K C && (decide (PySem.W.findIn K (.ref C) "__class__" = some (some (.builtin "object.__class__"))) &&
  (decide (PySem.W.specialIn K (.builtin "object.__class__") "__get__" = some (some (.builtin "getset_descriptor.__get__"))) && (decide (PySem.W.takesIn K (.builtin "object.__class__") = some true) && (decide (PySem.W.mroIn K C (.type "object") = some true) &&
  (decide (PySem.W.findIn K (.ref C) "what" = some none) && (decide (PySem.W.findIn K (.ref C) "most" = some none) && decide (PySem.W.exmOne K (.ref C) (.ref CS) = some true))))))))))))))
theorem tooB_ok {K : PySem.W.Frag} {C CS : Addr} (h : tooB K C CS = true) : OexC K C ∧ ExcC K C ∧ XfC K C ∧ PySem.W.findIn K (.ref C) "what" = some none ∧ PySem.W.findIn K (.ref C) "most" = some none ∧ PySem.W.exmOne K (.ref C) (.ref CS) = some true := by
  unfold tooB at h
  simp only [Bool.and_eq_true, decide_eq_true_eq] at h
  obtain ⟨h0, h1, h2, h3, h4, h5, h6, h7, h8, h9, h10, h11, h12, h13, h14⟩ := h
  exact ⟨⟨oexB_ok h0, h1, h2, h3, h4⟩, ⟨h5, h6, h2, h7, h8, h9, h10, h11⟩, ⟨h5, h6, h2, h7⟩, h12, h13, h14⟩
theorem kbn12 {K : PySem.W.Frag} {fd : FuncData} {ps ks : List Str} {n : Nat} (h : ∀ us ws : List Value, us.length = n → ws.length = ks.length → bindArgs fd ⟨us, ks.zip ws⟩ = pure (ps.zip (us ++ ws))) : KBn K fd ps n ks (fun us ws => us ++ ws) (fun vs zs => vs ++ zs) where
  to := fun s us ws _ l1 l2 => .of_eq (h us ws l1 l2)
  rel := fun r z => r.append z
theorem kbnR {K : PySem.W.Frag} {fd : FuncData} {ps ks : List Str} {n : Nat} (h : ∀ us ws : List Value, us.length = n → ws.length = ks.length → bindArgs fd ⟨us, ks.zip ws⟩ = pure (ps.zip (rv2 us ws))) : KBn K fd ps n ks rv2 rv2 where
  to := fun s us ws _ l1 l2 => .of_eq (h us ws l1 l2)
  rel := fun r z => r.append z.reverse
theorem all_mk {l : PySem.W.OpenLaw} {w : World} {K : PySem.W.Frag} {h : Heap} {mg : Str → Option Value} {fa : Addr} {C CB CS CN CT TD P1 P2 P3 f11 f12 f13 f15 f19 f20 f21 f22 f23 f25 f38 f41 f42 f43 f44 f45 f46 f47 f48 f49 f50 f51 f52 f53 f54 f55 fB fN fT fI fE fS fP fU fH fX fM c52 c53 c54 : Addr} {od11 an11 od12 an12 od13 an13 od15 an15 od19 an19 od20 an20 od21 an21 od22 an22 od23 an23 od25 an25 od38 an38 od41 an41 od42 an42 od43 an43 od44 an44 od45 an45 od46 an46 od47 an47 od48 an48 od49 an49 od50 an50 od51 an51 od52 an52 od53 an53 od54 an54 od55 an55 odB anB odN anN odT anT odI anI odE anE odS anS odP anP odU anU odH anH odX anX odM anM odD : Option Addr} {sl11 sl12 sl13 sl15 sl19 sl20 sl21 sl22 sl23 sl25 sl38 sl41 sl42 sl43 sl44 sl45 sl46 sl47 sl48 sl49 sl50 sl51 sl52 sl53 sl54 sl55 slB slN slT slI slE slS slP slU slH slX slM slD : Array (Option Value)} {oc11 kV11 dc11 pm11 cv11 ct11 oc12 kV12 dc12 pm12 cv12 ct12 oc13 kV13 dc13 pm13 cv13 ct13 oc15 kV15 dc15 pm15 cv15 ct15 oc19 kV19 dc19 pm19 cv19 ct19 oc20 kV20 dc20 pm20 cv20 ct20 oc21 kV21 dc21 pm21 cv21 ct21 oc22 kV22 dc22 pm22 cv22 ct22 oc23 kV23 dc23 pm23 cv23 ct23 oc25 kV25 dc25 pm25 cv25 ct25 oc38 kV38 dc38 pm38 cv38 ct38 oc41 kV41 dc41 pm41 cv41 ct41 oc42 kV42 dc42 pm42 cv42 ct42 oc43 kV43 dc43 pm43 cv43 ct43 oc44 kV44 dc44 pm44 cv44 ct44 oc45 kV45 dc45 pm45 cv45 ct45 oc46 kV46 dc46 pm46 cv46 ct46 oc47 kV47 dc47 pm47 cv47 ct47 oc48 kV48 dc48 pm48 cv48 ct48 oc49 kV49 dc49 pm49 cv49 ct49 oc50 kV50 dc50 pm50 cv50 ct50 oc51 kV51 dc51 pm51 cv51 ct51 oc52 kV52 dc52 pm52 ct52 oc53 kV53 dc53 pm53 ct53 oc54 kV54 dc54 pm54 ct54 oc55 kV55 dc55 pm55 cv55 ct55 ocB kVB dcB pmB cvB ctB ocN kVN dcN pmN cvN ctN ocT kVT dcT pmT cvT ctT ocI kVI dcI pmI cvI ctI ocE kVE dcE pmE cvE ctE ocS kVS dcS pmS cvS ctS ocP kVP dcP pmP cvP ctP ocU kVU dcU pmU cvU ctU ocH kVH dcH pmH cvH ctH ocX kVX dcX pmX cvX ctX ocM kVM dcM pmM cvM ctM ocD : Value} {tL tD0 tD1 : Tok} {nD : Nat}
    (X : K.In h) (G : h.Ns mainGlobals mg) (hfa : mg "law" = some (.ref fa)) (tab1 : h.get? P1 = some { cls := .none, data := .fields #[] }) (tab2 : h.get? P2 = some { cls := .none, data := .fields #[] }) (tab3 : h.get? P3 = some { cls := .none, data := .fields #[] })
    (n12 : P1 ≠ P2) (n13 : P1 ≠ P3) (n23 : P2 ≠ P3)
    (aC : PySem.W.nsIn K mainGlobals "Picture" = some (some (.ref C)))
    (aB : PySem.W.nsIn K mainGlobals "BadPicture" = some (some (.ref CB)))
    (aN : PySem.W.nsIn K mainGlobals "BadNumber" = some (some (.ref CN)))
    (aT : PySem.W.nsIn K mainGlobals "TooMany" = some (some (.ref CT)))
    (aS : PySem.W.nsIn K mainGlobals "SeenError" = some (some (.ref CS)))
    (aL : PySem.W.nsIn K mainGlobals "LIMIT" = some (some (.int 1000000000 tL)))
    (iB : PySem.W.findIn K (.ref CB) "__init__" = some (some (.ref fB)))
    (tB : PySem.W.typeIn K (.ref fB) = some (.type "function"))
    (iN : PySem.W.findIn K (.ref CN) "__init__" = some (some (.ref fN)))
    (tN : PySem.W.typeIn K (.ref fN) = some (.type "function"))
    (iT : PySem.W.findIn K (.ref CT) "__init__" = some (some (.ref fT)))
    (tT : PySem.W.typeIn K (.ref fT) = some (.type "function"))
    (iI : PySem.W.findIn K (.ref C) "__init__" = some (some (.ref fI)))
    (nI : PySem.W.isFn K (.ref fI) = true)
    (iE : PySem.W.findIn K (.ref C) "__eq__" = some (some (.ref fE)))
    (nE : PySem.W.isFn K (.ref fE) = true)
    (iS : PySem.W.findIn K (.ref C) "__str__" = some (some (.ref fS)))
    (nS : PySem.W.isFn K (.ref fS) = true)
    (iP : PySem.W.findIn K (.ref C) "products" = some (some (.ref fP)))
    (nP : PySem.W.isFn K (.ref fP) = true)
    (iU : PySem.W.findIn K (.ref C) "turned" = some (some (.ref fU)))
    (nU : PySem.W.isFn K (.ref fU) = true)
    (iH : PySem.W.findIn K (.ref C) "shifted" = some (some (.ref fH)))
    (nH : PySem.W.isFn K (.ref fH) = true)
    (iX : PySem.W.findIn K (.ref C) "times" = some (some (.ref fX)))
    (nX : PySem.W.isFn K (.ref fX) = true)
    (iM : PySem.W.findIn K (.ref C) "mirrored" = some (some (.ref fM)))
    (nM : PySem.W.isFn K (.ref fM) = true)
    (lB : K.lookup fB = some ⟨ocB, odB, .func (PySem.W.fnOf "__init__" "BadPicture.__init__" (defArgs sBI) (defBody sBI) (defScope sBI) .none kVB dcB pmB anB cvB ctB), slB⟩)
    (cB : PySem.W.codeIn K cvB "BadPicture.__init__" = true)
    (kB : PySem.W.keepIn K (.ref fB) = true)
    (lN : K.lookup fN = some ⟨ocN, odN, .func (PySem.W.fnOf "__init__" "BadNumber.__init__" (defArgs sNI) (defBody sNI) (defScope sNI) .none kVN dcN pmN anN cvN ctN), slN⟩)
    (cN : PySem.W.codeIn K cvN "BadNumber.__init__" = true)
    (kN : PySem.W.keepIn K (.ref fN) = true)
    (lT : K.lookup fT = some ⟨ocT, odT, .func (PySem.W.fnOf "__init__" "TooMany.__init__" (defArgs sTI) (defBody sTI) (defScope sTI) .none kVT dcT pmT anT cvT ctT), slT⟩)
    (cT : PySem.W.codeIn K cvT "TooMany.__init__" = true)
    (kT : PySem.W.keepIn K (.ref fT) = true)
    (lI : K.lookup fI = some ⟨ocI, odI, .func (PySem.W.fnOf "__init__" "Picture.__init__" (defArgs sPI) (defBody sPI) (defScope sPI) .none kVI dcI pmI anI cvI ctI), slI⟩)
    (cI : PySem.W.codeIn K cvI "Picture.__init__" = true)
    (kI : PySem.W.keepIn K (.ref fI) = true)
    (lE : K.lookup fE = some ⟨ocE, odE, .func (PySem.W.fnOf "__eq__" "Picture.__eq__" (defArgs sEqP) (defBody sEqP) (defScope sEqP) .none kVE dcE pmE anE cvE ctE), slE⟩)
    (cE : PySem.W.codeIn K cvE "Picture.__eq__" = true)
    (kE : PySem.W.keepIn K (.ref fE) = true)
    (lS : K.lookup fS = some ⟨ocS, odS, .func (PySem.W.fnOf "__str__" "Picture.__str__" (defArgs sStrP) (defBody sStrP) (defScope sStrP) .none kVS dcS pmS anS cvS ctS), slS⟩)
    (cS : PySem.W.codeIn K cvS "Picture.__str__" = true)
    (kS : PySem.W.keepIn K (.ref fS) = true)
    (lP : K.lookup fP = some ⟨ocP, odP, .func (PySem.W.fnOf "products" "Picture.products" (defArgs sPP) (defBody sPP) (defScope sPP) .none kVP dcP pmP anP cvP ctP), slP⟩)
    (cP : PySem.W.codeIn K cvP "Picture.products" = true)
    (kP : PySem.W.keepIn K (.ref fP) = true)
    (lU : K.lookup fU = some ⟨ocU, odU, .func (PySem.W.fnOf "turned" "Picture.turned" (defArgs sTu) (defBody sTu) (defScope sTu) (.ref TD) kVU dcU pmU anU cvU ctU), slU⟩)
    (cU : PySem.W.codeIn K cvU "Picture.turned" = true)
    (kU : PySem.W.keepIn K (.ref fU) = true)
    (lH : K.lookup fH = some ⟨ocH, odH, .func (PySem.W.fnOf "shifted" "Picture.shifted" (defArgs sSh) (defBody sSh) (defScope sSh) .none kVH dcH pmH anH cvH ctH), slH⟩)
    (cH : PySem.W.codeIn K cvH "Picture.shifted" = true)
    (kH : PySem.W.keepIn K (.ref fH) = true)
    (lX : K.lookup fX = some ⟨ocX, odX, .func (PySem.W.fnOf "times" "Picture.times" (defArgs sTi) (defBody sTi) (defScope sTi) .none kVX dcX pmX anX cvX ctX), slX⟩)
    (cX : PySem.W.codeIn K cvX "Picture.times" = true)
    (kX : PySem.W.keepIn K (.ref fX) = true)
    (lM : K.lookup fM = some ⟨ocM, odM, .func (PySem.W.fnOf "mirrored" "Picture.mirrored" (defArgs sMir) (defBody sMir) (defScope sMir) .none kVM dcM pmM anM cvM ctM), slM⟩)
    (cM : PySem.W.codeIn K cvM "Picture.mirrored" = true)
    (kM : PySem.W.keepIn K (.ref fM) = true)
    (lD : K.lookup TD = some ⟨ocD, odD, .seq #[.int 0 tD0, .int 1 tD1] nD, slD⟩)
    (hE : badB K CB CS = true)
    (hN : badB K CN CS = true)
    (hT : tooB K CT CS = true)
    (hK : PySem.W.kitOne K (.ref CT) (.ref CN) = some false)
    (hP : picB K C = true)
    (a11 : PySem.W.nsIn K mainGlobals "is_integer" = some (some (.ref f11)))
    (l11 : K.lookup f11 = some ⟨oc11, od11, .func (PySem.W.fnOf "is_integer" "is_integer" (defArgs sInt) (defBody sInt) (defScope sInt) .none kV11 dc11 pm11 an11 cv11 ct11), sl11⟩)
    (cc11 : PySem.W.codeIn K cv11 "is_integer" = true)
    (k11 : PySem.W.keepIn K (.ref f11) = true)
    (a12 : PySem.W.nsIn K mainGlobals "is_within" = some (some (.ref f12)))
    (l12 : K.lookup f12 = some ⟨oc12, od12, .func (PySem.W.fnOf "is_within" "is_within" (defArgs sWithin) (defBody sWithin) (defScope sWithin) .none kV12 dc12 pm12 an12 cv12 ct12), sl12⟩)
    (cc12 : PySem.W.codeIn K cv12 "is_within" = true)
    (k12 : PySem.W.keepIn K (.ref f12) = true)
    (a13 : PySem.W.nsIn K mainGlobals "is_list" = some (some (.ref f13)))
    (l13 : K.lookup f13 = some ⟨oc13, od13, .func (PySem.W.fnOf "is_list" "is_list" (defArgs sIsList) (defBody sIsList) (defScope sIsList) .none kV13 dc13 pm13 an13 cv13 ct13), sl13⟩)
    (cc13 : PySem.W.codeIn K cv13 "is_list" = true)
    (k13 : PySem.W.keepIn K (.ref f13) = true)
    (a15 : PySem.W.nsIn K mainGlobals "check_integer" = some (some (.ref f15)))
    (l15 : K.lookup f15 = some ⟨oc15, od15, .func (PySem.W.fnOf "check_integer" "check_integer" (defArgs sCI) (defBody sCI) (defScope sCI) .none kV15 dc15 pm15 an15 cv15 ct15), sl15⟩)
    (cc15 : PySem.W.codeIn K cv15 "check_integer" = true)
    (k15 : PySem.W.keepIn K (.ref f15) = true)
    (a19 : PySem.W.nsIn K mainGlobals "is_row" = some (some (.ref f19)))
    (l19 : K.lookup f19 = some ⟨oc19, od19, .func (PySem.W.fnOf "is_row" "is_row" (defArgs sRow) (defBody sRow) (defScope sRow) .none kV19 dc19 pm19 an19 cv19 ct19), sl19⟩)
    (cc19 : PySem.W.codeIn K cv19 "is_row" = true)
    (k19 : PySem.W.keepIn K (.ref f19) = true)
    (a20 : PySem.W.nsIn K mainGlobals "are_rows" = some (some (.ref f20)))
    (l20 : K.lookup f20 = some ⟨oc20, od20, .func (PySem.W.fnOf "are_rows" "are_rows" (defArgs sRows) (defBody sRows) (defScope sRows) .none kV20 dc20 pm20 an20 cv20 ct20), sl20⟩)
    (cc20 : PySem.W.codeIn K cv20 "are_rows" = true)
    (k20 : PySem.W.keepIn K (.ref f20) = true)
    (a21 : PySem.W.nsIn K mainGlobals "are_places" = some (some (.ref f21)))
    (l21 : K.lookup f21 = some ⟨oc21, od21, .func (PySem.W.fnOf "are_places" "are_places" (defArgs sPlaces) (defBody sPlaces) (defScope sPlaces) .none kV21 dc21 pm21 an21 cv21 ct21), sl21⟩)
    (cc21 : PySem.W.codeIn K cv21 "are_places" = true)
    (k21 : PySem.W.keepIn K (.ref f21) = true)
    (a22 : PySem.W.nsIn K mainGlobals "check_room" = some (some (.ref f22)))
    (l22 : K.lookup f22 = some ⟨oc22, od22, .func (PySem.W.fnOf "check_room" "check_room" (defArgs sCR) (defBody sCR) (defScope sCR) .none kV22 dc22 pm22 an22 cv22 ct22), sl22⟩)
    (cc22 : PySem.W.codeIn K cv22 "check_room" = true)
    (k22 : PySem.W.keepIn K (.ref f22) = true)
    (a23 : PySem.W.nsIn K mainGlobals "steps_along" = some (some (.ref f23)))
    (l23 : K.lookup f23 = some ⟨oc23, od23, .func (PySem.W.fnOf "steps_along" "steps_along" (defArgs sSteps) (defBody sSteps) (defScope sSteps) .none kV23 dc23 pm23 an23 cv23 ct23), sl23⟩)
    (cc23 : PySem.W.codeIn K cv23 "steps_along" = true)
    (k23 : PySem.W.keepIn K (.ref f23) = true)
    (a25 : PySem.W.nsIn K mainGlobals "products_of" = some (some (.ref f25)))
    (l25 : K.lookup f25 = some ⟨oc25, od25, .func (PySem.W.fnOf "products_of" "products_of" (defArgs sProd) (defBody sProd) (defScope sProd) .none kV25 dc25 pm25 an25 cv25 ct25), sl25⟩)
    (cc25 : PySem.W.codeIn K cv25 "products_of" = true)
    (k25 : PySem.W.keepIn K (.ref f25) = true)
    (a38 : PySem.W.nsIn K mainGlobals "_with_room" = some (some (.ref f38)))
    (l38 : K.lookup f38 = some ⟨oc38, od38, .func (PySem.W.fnOf "_with_room" "_with_room" (defArgs sWR) (defBody sWR) (defScope sWR) .none kV38 dc38 pm38 an38 cv38 ct38), sl38⟩)
    (cc38 : PySem.W.codeIn K cv38 "_with_room" = true)
    (k38 : PySem.W.keepIn K (.ref f38) = true)
    (a41 : PySem.W.nsIn K mainGlobals "_law_lens" = some (some (.ref f41)))
    (l41 : K.lookup f41 = some ⟨oc41, od41, .func (PySem.W.fnOf "_law_lens" "_law_lens" (defArgs sLens) (defBody sLens) (defScope sLens) .none kV41 dc41 pm41 an41 cv41 ct41), sl41⟩)
    (cc41 : PySem.W.codeIn K cv41 "_law_lens" = true)
    (k41 : PySem.W.keepIn K (.ref f41) = true)
    (a42 : PySem.W.nsIn K mainGlobals "_law_shot" = some (some (.ref f42)))
    (l42 : K.lookup f42 = some ⟨oc42, od42, .func (PySem.W.fnOf "_law_shot" "_law_shot" (defArgs sShot) (defBody sShot) (defScope sShot) .none kV42 dc42 pm42 an42 cv42 ct42), sl42⟩)
    (cc42 : PySem.W.codeIn K cv42 "_law_shot" = true)
    (k42 : PySem.W.keepIn K (.ref f42) = true)
    (a43 : PySem.W.nsIn K mainGlobals "_law_pick" = some (some (.ref f43)))
    (l43 : K.lookup f43 = some ⟨oc43, od43, .func (PySem.W.fnOf "_law_pick" "_law_pick" (defArgs sPick) (defBody sPick) (defScope sPick) .none kV43 dc43 pm43 an43 cv43 ct43), sl43⟩)
    (cc43 : PySem.W.codeIn K cv43 "_law_pick" = true)
    (k43 : PySem.W.keepIn K (.ref f43) = true)
    (a44 : PySem.W.nsIn K mainGlobals "_law_places" = some (some (.ref f44)))
    (l44 : K.lookup f44 = some ⟨oc44, od44, .func (PySem.W.fnOf "_law_places" "_law_places" (defArgs sPlc) (defBody sPlc) (defScope sPlc) .none kV44 dc44 pm44 an44 cv44 ct44), sl44⟩)
    (cc44 : PySem.W.codeIn K cv44 "_law_places" = true)
    (k44 : PySem.W.keepIn K (.ref f44) = true)
    (a45 : PySem.W.nsIn K mainGlobals "_law_two" = some (some (.ref f45)))
    (l45 : K.lookup f45 = some ⟨oc45, od45, .func (PySem.W.fnOf "_law_two" "_law_two" (defArgs sTw) (defBody sTw) (defScope sTw) .none kV45 dc45 pm45 an45 cv45 ct45), sl45⟩)
    (cc45 : PySem.W.codeIn K cv45 "_law_two" = true)
    (k45 : PySem.W.keepIn K (.ref f45) = true)
    (a46 : PySem.W.nsIn K mainGlobals "_law_at" = some (some (.ref f46)))
    (l46 : K.lookup f46 = some ⟨oc46, od46, .func (PySem.W.fnOf "_law_at" "_law_at" (defArgs sAt) (defBody sAt) (defScope sAt) .none kV46 dc46 pm46 an46 cv46 ct46), sl46⟩)
    (cc46 : PySem.W.codeIn K cv46 "_law_at" = true)
    (k46 : PySem.W.keepIn K (.ref f46) = true)
    (a47 : PySem.W.nsIn K mainGlobals "_law_farthest" = some (some (.ref f47)))
    (l47 : K.lookup f47 = some ⟨oc47, od47, .func (PySem.W.fnOf "_law_farthest" "_law_farthest" (defArgs sFar) (defBody sFar) (defScope sFar) .none kV47 dc47 pm47 an47 cv47 ct47), sl47⟩)
    (cc47 : PySem.W.codeIn K cv47 "_law_farthest" = true)
    (k47 : PySem.W.keepIn K (.ref f47) = true)
    (a48 : PySem.W.nsIn K mainGlobals "_law_heard" = some (some (.ref f48)))
    (l48 : K.lookup f48 = some ⟨oc48, od48, .func (PySem.W.fnOf "_law_heard" "_law_heard" (defArgs sHd) (defBody sHd) (defScope sHd) .none kV48 dc48 pm48 an48 cv48 ct48), sl48⟩)
    (cc48 : PySem.W.codeIn K cv48 "_law_heard" = true)
    (k48 : PySem.W.keepIn K (.ref f48) = true)
    (a49 : PySem.W.nsIn K mainGlobals "_law_due" = some (some (.ref f49)))
    (l49 : K.lookup f49 = some ⟨oc49, od49, .func (PySem.W.fnOf "_law_due" "_law_due" (defArgs sDue) (defBody sDue) (defScope sDue) .none kV49 dc49 pm49 an49 cv49 ct49), sl49⟩)
    (cc49 : PySem.W.codeIn K cv49 "_law_due" = true)
    (k49 : PySem.W.keepIn K (.ref f49) = true)
    (a50 : PySem.W.nsIn K mainGlobals "_law_products" = some (some (.ref f50)))
    (l50 : K.lookup f50 = some ⟨oc50, od50, .func (PySem.W.fnOf "_law_products" "_law_products" (defArgs sLP) (defBody sLP) (defScope sLP) .none kV50 dc50 pm50 an50 cv50 ct50), sl50⟩)
    (cc50 : PySem.W.codeIn K cv50 "_law_products" = true)
    (k50 : PySem.W.keepIn K (.ref f50) = true)
    (a51 : PySem.W.nsIn K mainGlobals "_law_are_times" = some (some (.ref f51)))
    (l51 : K.lookup f51 = some ⟨oc51, od51, .func (PySem.W.fnOf "_law_are_times" "_law_are_times" (defArgs sTm) (defBody sTm) (defScope sTm) .none kV51 dc51 pm51 an51 cv51 ct51), sl51⟩)
    (cc51 : PySem.W.codeIn K cv51 "_law_are_times" = true)
    (k51 : PySem.W.keepIn K (.ref f51) = true)
    (a52 : PySem.W.nsIn K mainGlobals "_law_turned_right" = some (some (.ref f52)))
    (l52 : K.lookup f52 = some ⟨oc52, od52, .func (PySem.W.fnOf "_law_turned_right" "_law_turned_right" (defArgs sTR) (defBody sTR) (defScope sTR) .none kV52 dc52 pm52 an52 (.ref c52) ct52), sl52⟩)
    (cc52 : PySem.W.codeIn K (.ref c52) "_law_turned_right" = true)
    (k52 : PySem.W.keepIn K (.ref f52) = true)
    (a53 : PySem.W.nsIn K mainGlobals "_law_changed_right" = some (some (.ref f53)))
    (l53 : K.lookup f53 = some ⟨oc53, od53, .func (PySem.W.fnOf "_law_changed_right" "_law_changed_right" (defArgs sCH) (defBody sCH) (defScope sCH) .none kV53 dc53 pm53 an53 (.ref c53) ct53), sl53⟩)
    (cc53 : PySem.W.codeIn K (.ref c53) "_law_changed_right" = true)
    (k53 : PySem.W.keepIn K (.ref f53) = true)
    (a54 : PySem.W.nsIn K mainGlobals "_law_refused_right" = some (some (.ref f54)))
    (l54 : K.lookup f54 = some ⟨oc54, od54, .func (PySem.W.fnOf "_law_refused_right" "_law_refused_right" (defArgs sRF) (defBody sRF) (defScope sRF) .none kV54 dc54 pm54 an54 (.ref c54) ct54), sl54⟩)
    (cc54 : PySem.W.codeIn K (.ref c54) "_law_refused_right" = true)
    (k54 : PySem.W.keepIn K (.ref f54) = true)
    (a55 : PySem.W.nsIn K mainGlobals "law" = some (some (.ref f55)))
    (l55 : K.lookup f55 = some ⟨oc55, od55, .func (PySem.W.fnOf "law" "law" (defArgs sLaw) (defBody sLaw) (defScope sLaw) .none kV55 dc55 pm55 an55 cv55 ct55), sl55⟩)
    (cc55 : PySem.W.codeIn K cv55 "law" = true)
    (k55 : PySem.W.keepIn K (.ref f55) = true)
    (hd1 : PySem.W.codeHdIn K c52 P1 = true)
    (nT1 : K.lookup P1 = none)
    (hd2 : PySem.W.codeHdIn K c53 P2 = true)
    (nT2 : K.lookup P2 = none)
    (hd3 : PySem.W.codeHdIn K c54 P3 = true)
    (nT3 : K.lookup P3 = none)
    (z_isinstance : PySem.W.nsIn K mainGlobals "isinstance" = some none)
    (z_int : PySem.W.nsIn K mainGlobals "int" = some none)
    (z_bool : PySem.W.nsIn K mainGlobals "bool" = some none)
    (z_list : PySem.W.nsIn K mainGlobals "list" = some none)
    (z_tuple : PySem.W.nsIn K mainGlobals "tuple" = some none)
    (z_all : PySem.W.nsIn K mainGlobals "all" = some none)
    (z_len : PySem.W.nsIn K mainGlobals "len" = some none)
    (z_range : PySem.W.nsIn K mainGlobals "range" = some none)
    (z_abs : PySem.W.nsIn K mainGlobals "abs" = some none)
    (z_str : PySem.W.nsIn K mainGlobals "str" = some none)
    (z_sum : PySem.W.nsIn K mainGlobals "sum" = some none)
    (z_min : PySem.W.nsIn K mainGlobals "min" = some none)
    (z_enumerate : PySem.W.nsIn K mainGlobals "enumerate" = some none)
    (z_max : PySem.W.nsIn K mainGlobals "max" = some none) :
    LamX.LawAtS l w K CX0 13 63 "_law_script" mg fa h := by
  have e := hfa.symm.trans (PySem.W.mg_of X G a55)
  cases e
  have F11 := fun_mk (st := sInt) l11 cc11 k11
  have F12 := fun_mk (st := sWithin) l12 cc12 k12
  have F13 := fun_mk (st := sIsList) l13 cc13 k13
  have F15 := fun_mk (st := sCI) l15 cc15 k15
  have F19 := fun_mk (st := sRow) l19 cc19 k19
  have F20 := fun_mk (st := sRows) l20 cc20 k20
  have F21 := fun_mk (st := sPlaces) l21 cc21 k21
  have F22 := fun_mk (st := sCR) l22 cc22 k22
  have F23 := fun_mk (st := sSteps) l23 cc23 k23
  have F25 := fun_mk (st := sProd) l25 cc25 k25
  have F38 := fun_mk (st := sWR) l38 cc38 k38
  have F41 := fun_mk (st := sLens) l41 cc41 k41
  have F42 := fun_mk (st := sShot) l42 cc42 k42
  have F43 := fun_mk (st := sPick) l43 cc43 k43
  have F44 := fun_mk (st := sPlc) l44 cc44 k44
  have F45 := fun_mk (st := sTw) l45 cc45 k45
  have F46 := fun_mk (st := sAt) l46 cc46 k46
  have F47 := fun_mk (st := sFar) l47 cc47 k47
  have F48 := fun_mk (st := sHd) l48 cc48 k48
  have F49 := fun_mk (st := sDue) l49 cc49 k49
  have F50 := fun_mk (st := sLP) l50 cc50 k50
  have F51 := fun_mk (st := sTm) l51 cc51 k51
  have F52 := fun_mk (st := sTR) l52 cc52 k52
  have F53 := fun_mk (st := sCH) l53 cc53 k53
  have F54 := fun_mk (st := sRF) l54 cc54 k54
  have F55 := fun_mk (st := sLaw) l55 cc55 k55
  have FB := fun_mk (st := sBI) lB cB kB
  have FN := fun_mk (st := sNI) lN cN kN
  have FT := fun_mk (st := sTI) lT cT kT
  have FI := fun_mk (st := sPI) lI cI kI
  have FE := fun_mk (st := sEqP) lE cE kE
  have FS := fun_mk (st := sStrP) lS cS kS
  have FP := fun_mk (st := sPP) lP cP kP
  have FH := fun_mk (st := sSh) lH cH kH
  have FX := fun_mk (st := sTi) lX cX kX
  have FM := fun_mk (st := sMir) lM cM kM
  have FU : FTu K fU _ := ⟨⟨_, _, _, _, _, _, _, _, _, _, rfl, lU, cU, .inr ⟨(by intro h; cases h), TD, _, [.int 0 tD0, .int 1 tD1], nD, rfl, lD, rfl, .cons ⟨tD0, rfl⟩ (.cons ⟨tD1, rfl⟩ .nil)⟩, .inl rfl⟩, kU⟩
  have B : Bn mg := ⟨PySem.W.mg_none_of X G z_isinstance, PySem.W.mg_none_of X G z_int, PySem.W.mg_none_of X G z_bool, PySem.W.mg_none_of X G z_list, PySem.W.mg_none_of X G z_tuple, PySem.W.mg_none_of X G z_all, PySem.W.mg_none_of X G z_len, PySem.W.mg_none_of X G z_range, PySem.W.mg_none_of X G z_abs, PySem.W.mg_none_of X G z_str, PySem.W.mg_none_of X G z_sum, PySem.W.mg_none_of X G z_min, PySem.W.mg_none_of X G z_enumerate⟩
  have hmax := PySem.W.mg_none_of X G z_max
  obtain ⟨ox, ex, xf, noP, sub⟩ := badB_ok hE
  obtain ⟨oxN, exN, xfN, noN, subN⟩ := badB_ok hN
  obtain ⟨oxT, exT, xfT, no1, no2, subT⟩ := tooB_ok hT
  obtain ⟨pt, pn, mk, kc⟩ := picB_ok hP
  have TBr : BrTxt K mg CB fB := ⟨ox, PySem.W.mg_of X G aB, noP, iB, tB⟩
  have TNr : ErT K mg "BadNumber" CN fN := ⟨oxN, PySem.W.mg_of X G aN, noN, iN, tN⟩
  have TTr : TmT K mg CT fT := ⟨oxT, PySem.W.mg_of X G aT, no1, no2, iT, tT⟩
  have S : SeT K mg CS CN CT := ⟨PySem.W.mg_of X G aS, PySem.W.mg_of X G aN, PySem.W.mg_of X G aT, subN, subT, exN, exT, xfN, xfT, noN, no1, no2, hK⟩
  have L : ∃ t, mg "LIMIT" = some (.int 1000000000 t) := ⟨tL, PySem.W.mg_of X G aL⟩
  refine ⟨PySem.W.fnOf "law" "law" (defArgs sLaw) (defBody sLaw) (defScope sLaw) .none kV55 dc55 pm55 an55 cv55 ct55, [(c52, P1), (c53, P2), (c54, P3)], spLaw K [(P1, qTR), (P2, qCH), (P3, qRF)], fun p hp => ?_, fun p hp => ?_, fun p hp => ?_, fun s u => .of_eq rfl, fun H a ns hl _ hT hS => ?_, fun base _ _ TBs => ?_⟩
  · simp only [List.mem_cons, List.not_mem_nil, or_false] at hp
    rcases hp with rfl | rfl | rfl
    · exact tab1
    · exact tab2
    · exact tab3
  · simp only [List.mem_cons, List.not_mem_nil, or_false] at hp
    rcases hp with rfl | rfl | rfl
    · exact nT1
    · exact nT2
    · exact nT3
  · simp only [List.mem_cons, List.not_mem_nil, or_false] at hp
    rcases hp with rfl | rfl | rfl
    · exact PySem.W.codeHd_of_K X hd1
    · exact PySem.W.codeHd_of_K X hd2
    · exact PySem.W.codeHd_of_K X hd3
  · refine ⟨a, ns, rfl, hS, hl, fun x hx => ?_, fun _ => rfl⟩
    simp only [List.mem_cons, List.not_mem_nil, or_false] at hx
    rcases hx with rfl | rfl | rfl
    · exact LamX.TabS.nil (hT (c52, P1) (by simp))
    · exact LamX.TabS.nil (hT (c53, P2) (by simp))
    · exact LamX.TabS.nil (hT (c54, P3) (by simp))
  · have C11d : Callee l.prog w K mg base CX0 1 "is_integer" ["value"] (spInt K) := ⟨f11, _, PySem.W.mg_of X G a11, F11.kp, F11.binds (ps := ["value"]) fun _ _ _ _ _ _ us hl => match us, hl with | [_], _ => rfl, ok_int F11 B⟩
    have C12d : Callee l.prog w K mg base CX0 2 "is_within" ["value", "least", "most"] (spWithin K) := ⟨f12, _, PySem.W.mg_of X G a12, F12.kp, F12.binds (ps := ["value", "least", "most"]) fun _ _ _ _ _ _ us hl => match us, hl with | [_, _, _], _ => rfl, ok_within F12 C11d⟩
    have C13d : Callee l.prog w K mg base CX0 1 "is_list" ["value"] (spIsList K) := ⟨f13, _, PySem.W.mg_of X G a13, F13.kp, F13.binds (ps := ["value"]) fun _ _ _ _ _ _ us hl => match us, hl with | [_], _ => rfl, ok_isList F13 B⟩
    have C15d : Callee l.prog w K mg base (L2.CX l.prog w) 3 "check_integer" ["value", "part"] (spCI K CN) := ⟨f15, _, PySem.W.mg_of X G a15, F15.kp, F15.binds (ps := ["value", "part"]) fun _ _ _ _ _ _ us hl => match us, hl with | [_, _], _ => rfl, ok_ci F15 TNr FN C11d⟩
    have C19d : Callee l.prog w K mg base CX0 3 "is_row" ["value", "fewest", "most"] (spRow K) := ⟨f19, _, PySem.W.mg_of X G a19, F19.kp, F19.binds (ps := ["value", "fewest", "most"]) fun _ _ _ _ _ _ us hl => match us, hl with | [_, _, _], _ => rfl, ok_row F19 B L C13d C12d⟩
    have C20d : Callee l.prog w K mg base CX0 4 "are_rows" ["value", "size"] (spRows K) := ⟨f20, _, PySem.W.mg_of X G a20, F20.kp, F20.binds (ps := ["value", "size"]) fun _ _ _ _ _ _ us hl => match us, hl with | [_, _], _ => rfl, ok_rows F20 B C13d C19d⟩
    have C21d : Callee l.prog w K mg base CX0 5 "are_places" ["value", "size"] (spPlaces K) := ⟨f21, _, PySem.W.mg_of X G a21, F21.kp, F21.binds (ps := ["value", "size"]) fun _ _ _ _ _ _ us hl => match us, hl with | [_, _], _ => rfl, ok_places F21 B C20d⟩
    have C22d : Callee l.prog w K mg base (L2.CX l.prog w) 3 "check_room" ["places"] (spCR CT) := ⟨f22, _, PySem.W.mg_of X G a22, F22.kp, F22.binds (ps := ["places"]) fun _ _ _ _ _ _ us hl => match us, hl with | [_], _ => rfl, ok_cr F22 B hmax L TTr FT⟩
    have C23d : Callee l.prog w K mg base CX0 1 "steps_along" ["places"] spSteps := ⟨f23, _, PySem.W.mg_of X G a23, F23.kp, F23.binds (ps := ["places"]) fun _ _ _ _ _ _ us hl => match us, hl with | [_], _ => rfl, ok_steps F23 B⟩
    have C25d : Callee l.prog w K mg base CX0 1 "products_of" ["rows"] spProd := ⟨f25, _, PySem.W.mg_of X G a25, F25.kp, F25.binds (ps := ["rows"]) fun _ _ _ _ _ _ us hl => match us, hl with | [_], _ => rfl, ok_prod F25 B⟩
    have mC := PySem.W.mg_of X G aC
    have GI := ok_pi (P := l.prog) (w := w) (base := base) FI B pt TBr FB C21d C23d
    have bI := FI.binds (ps := ["self", "places"]) fun _ _ _ _ _ _ us hl => match us, hl with | [_, _], _ => rfl
    have MkI : Mk K C fI := ⟨mk, iI, nI, kc⟩
    have TP : Pc l.prog w K mg base C CB := ⟨mC, pt, pn, ⟨fI, _, MkI, GI, bI, kbn12 fun us ws h1 h2 => match us, ws, h1, h2 with | [_], [_], _, _ => rfl⟩, ⟨fE, _, ok_eqP FE B pt pn mC, iE, nE, FE.binds (ps := ["self", "other"]) fun _ _ _ _ _ _ us hl => match us, hl with | [_, _], _ => rfl⟩, ⟨fS, _, ok_strP FS pt, iS, nS, FS.binds (ps := ["self"]) fun _ _ _ _ _ _ us hl => match us, hl with | [_], _ => rfl⟩, ⟨fP, _, ⟨iP, nP, FP.kp⟩, ok_pp FP pt C25d, FP.binds (ps := ["self"]) fun _ _ _ _ _ _ us hl => match us, hl with | [_], _ => rfl⟩⟩
    have C38d : Callee l.prog w K mg base (L2.CX l.prog w) 8 "_with_room" ["places"] (spWR C CT) := ⟨f38, _, PySem.W.mg_of X G a38, F38.kp, F38.binds (ps := ["places"]) fun _ _ _ _ _ _ us hl => match us, hl with | [_], _ => rfl, ok_wr F38 C22d mC ⟨fI, _, MkI, GI, bI⟩⟩
    obtain ⟨ds1, v1, u1⟩ := tu_b1 FU
    obtain ⟨ds2, v2, u2⟩ := tu_b2 FU
    obtain ⟨gk, kk1⟩ := tu_k1 FU
    have MP : Pm l.prog w K mg base C CT CN := ⟨⟨fU, _, ds1, ds2, gk, ⟨iU, nU, FU.kp⟩, (ok_tuD FU pt C15d C38d).imp (fun _ _ _ _ h => Bx.un h), tu_b0 FU, v1, u1, v2, u2, tu_k2 FU, kk1⟩,
      ⟨fH, _, ⟨iH, nH, FH.kp⟩, (ok_sh FH pt C15d C38d).imp (fun _ _ _ _ h => Bx.un h), FH.binds (ps := ["self", "x", "y"]) fun _ _ _ _ _ _ us hl => match us, hl with | [_, _, _], _ => rfl, kbnR fun us ws h1 h2 => match us, ws, h1, h2 with | [_], [_, _], _, _ => rfl⟩,
      ⟨fX, _, ⟨iX, nX, FX.kp⟩, (ok_tms FX pt C15d C38d).imp (fun _ _ _ _ h => Bx.un h), FX.binds (ps := ["self", "number"]) fun _ _ _ _ _ _ us hl => match us, hl with | [_, _], _ => rfl, kbn12 fun us ws h1 h2 => match us, ws, h1, h2 with | [_], [_], _, _ => rfl⟩,
      ⟨fM, _, ⟨iM, nM, FM.kp⟩, ok_mir FM B pt mC ⟨fI, _, MkI, GI, bI⟩, FM.binds (ps := ["self"]) fun _ _ _ _ _ _ us hl => match us, hl with | [_], _ => rfl⟩⟩
    have C41d : Callee l.prog w K mg base CX0 1 "_law_lens" ["_law_script"] (spLens K) := ⟨f41, _, PySem.W.mg_of X G a41, F41.kp, F41.binds (ps := ["_law_script"]) fun _ _ _ _ _ _ us hl => match us, hl with | [_], _ => rfl, ok_lens F41 B⟩
    have C42d : Callee l.prog w K mg base CX0 1 "_law_shot" ["_law_lens_here", "_law_many"] spShot := ⟨f42, _, PySem.W.mg_of X G a42, F42.kp, F42.binds (ps := ["_law_lens_here", "_law_many"]) fun _ _ _ _ _ _ us hl => match us, hl with | [_, _], _ => rfl, ok_shot F42 B⟩
    have C43d : Callee l.prog w K mg base CX0 2 "_law_pick" ["_law_lens_here", "_law_some"] spPick := ⟨f43, _, PySem.W.mg_of X G a43, F43.kp, F43.binds (ps := ["_law_lens_here", "_law_some"]) fun _ _ _ _ _ _ us hl => match us, hl with | [_, _], _ => rfl, ok_pick F43 B C42d⟩
    have C44d : Callee l.prog w K mg base CX0 3 "_law_places" ["_law_lens_here"] spPlc := ⟨f44, _, PySem.W.mg_of X G a44, F44.kp, F44.binds (ps := ["_law_lens_here"]) fun _ _ _ _ _ _ us hl => match us, hl with | [_], _ => rfl, ok_plc F44 B C42d C43d⟩
    have C45d : Callee l.prog w K mg base CX0 3 "_law_two" ["_law_lens_here"] spTw := ⟨f45, _, PySem.W.mg_of X G a45, F45.kp, F45.binds (ps := ["_law_lens_here"]) fun _ _ _ _ _ _ us hl => match us, hl with | [_], _ => rfl, ok_tw F45 B C42d C43d⟩
    have C46d : Callee l.prog w K mg base CX0 1 "_law_at" ["_law_places_here", "_law_x", "_law_y"] spAt := ⟨f46, _, PySem.W.mg_of X G a46, F46.kp, F46.binds (ps := ["_law_places_here", "_law_x", "_law_y"]) fun _ _ _ _ _ _ us hl => match us, hl with | [_, _, _], _ => rfl, ok_at F46 B⟩
    have C47d : Callee l.prog w K mg base CX0 1 "_law_farthest" ["_law_places_here"] spFar := ⟨f47, _, PySem.W.mg_of X G a47, F47.kp, F47.binds (ps := ["_law_places_here"]) fun _ _ _ _ _ _ us hl => match us, hl with | [_], _ => rfl, ok_far F47 B hmax⟩
    have C49d : Callee l.prog w K mg base CX0 2 "_law_due" ["_law_places_here"] spDue := ⟨f49, _, PySem.W.mg_of X G a49, F49.kp, F49.binds (ps := ["_law_places_here"]) fun _ _ _ _ _ _ us hl => match us, hl with | [_], _ => rfl, ok_due F49 C47d⟩
    have C50d : Callee l.prog w K mg base CX0 1 "_law_products" ["_law_places_here"] spLP := ⟨f50, _, PySem.W.mg_of X G a50, F50.kp, F50.binds (ps := ["_law_places_here"]) fun _ _ _ _ _ _ us hl => match us, hl with | [_], _ => rfl, ok_lp F50 B⟩
    have C51d : Callee l.prog w K mg base CX0 3 "_law_are_times" ["_law_picture", "_law_places_here", "_law_number"] (spTm C) := ⟨f51, _, PySem.W.mg_of X G a51, F51.kp, F51.binds (ps := ["_law_picture", "_law_places_here", "_law_number"]) fun _ _ _ _ _ _ us hl => match us, hl with | [_, _, _], _ => rfl, ok_tm F51 B pt.pc.cls TP.pp C50d⟩
    have mH := PySem.W.mg_of X G a48
    have hm1 : (P1, qTR) ∈ [(P1, qTR), (P2, qCH), (P3, qRF)] := by simp
    have hu1 : ∀ x ∈ [(P1, qTR), (P2, qCH), (P3, qRF)], x.1 = P1 → x.2 = qTR := fun x hx e => by
      simp only [List.mem_cons, List.not_mem_nil, or_false] at hx
      rcases hx with rfl | rfl | rfl
      · rfl
      · exact absurd e n12.symm
      · exact absurd e n13.symm
    have TB1 := TBs (c52, P1) (by simp)
    have hm2 : (P2, qCH) ∈ [(P1, qTR), (P2, qCH), (P3, qRF)] := by simp
    have hu2 : ∀ x ∈ [(P1, qTR), (P2, qCH), (P3, qRF)], x.1 = P2 → x.2 = qCH := fun x hx e => by
      simp only [List.mem_cons, List.not_mem_nil, or_false] at hx
      rcases hx with rfl | rfl | rfl
      · exact absurd e n12
      · rfl
      · exact absurd e n23.symm
    have TB2 := TBs (c53, P2) (by simp)
    have hm3 : (P3, qRF) ∈ [(P1, qTR), (P2, qCH), (P3, qRF)] := by simp
    have hu3 : ∀ x ∈ [(P1, qTR), (P2, qCH), (P3, qRF)], x.1 = P3 → x.2 = qRF := fun x hx e => by
      simp only [List.mem_cons, List.not_mem_nil, or_false] at hx
      rcases hx with rfl | rfl | rfl
      · exact absurd e n13
      · exact absurd e n23
      · rfl
    have TB3 := TBs (c54, P3) (by simp)
    have C52d : Callee l.prog w K mg base CX0 12 "_law_turned_right" ["_law_lens_here", "_law_places_here"] (spQ [(P1, qTR), (P2, qCH), (P3, qRF)] 6) := ⟨f52, _, PySem.W.mg_of X G a52, F52.kp, F52.binds (ps := ["_law_lens_here", "_law_places_here"]) fun _ _ _ _ _ _ us hl => match us, hl with | [_, _], _ => rfl, ok_tr hm1 hu1 l52 cc52 TB1 B TP MP S F48 mH C45d C46d C49d C51d⟩
    have C53d : Callee l.prog w K mg base CX0 12 "_law_changed_right" ["_law_lens_here", "_law_places_here"] (spQ [(P1, qTR), (P2, qCH), (P3, qRF)] 6) := ⟨f53, _, PySem.W.mg_of X G a53, F53.kp, F53.binds (ps := ["_law_lens_here", "_law_places_here"]) fun _ _ _ _ _ _ us hl => match us, hl with | [_, _], _ => rfl, ok_ch hm2 hu2 l53 cc53 TB2 B hmax TP MP S F48 mH C42d C43d C47d C49d C51d⟩
    have C54d : Callee l.prog w K mg base CX0 12 "_law_refused_right" ["_law_lens_here", "_law_places_here"] (spQ [(P1, qTR), (P2, qCH), (P3, qRF)] 6) := ⟨f54, _, PySem.W.mg_of X G a54, F54.kp, F54.binds (ps := ["_law_lens_here", "_law_places_here"]) fun _ _ _ _ _ _ us hl => match us, hl with | [_, _], _ => rfl, ok_rf hm3 hu3 l54 cc54 TB3 B TP MP S F48 mH C43d⟩
    exact ok_law F55 B C41d C44d C52d C53d C54d
end K12

open PySem PySem.W PyProof.Rows in
set_option maxRecDepth 100000 in
set_option maxHeartbeats 0 in
theorem PySem.Challenge.cw_farseen_k12_pictures_turned_shifted_mult_holds : PySem.Challenge.rw_farseen_k12_pictures_turned_shifted_mult.Holds := by
  w_on; o_law; k_head; (case hw => w_witness2)
  k_fill
  refine LamX.walk_ofTs (l := PySem.Challenge.rw_farseen_k12_pictures_turned_shifted_mult) (n := 63) (k := 13) (x := "_law_script") (CX := fun _ => L2.CX0) rfl (by decide) rfl ⟨rfl, by decide, by decide⟩ (fun w h Y => PySem.W.km_in_of Y) ?F (fun _ _ _ _ _ z => z)
  case F =>
    intro w mg fa h Y KX G hmg
    refine' K12.all_mk (P1 := 445) (P2 := 450) (P3 := 455) KX G hmg (PySem.W.km_tabs_of Y 445 (by decide)) (PySem.W.km_tabs_of Y 450 (by decide)) (PySem.W.km_tabs_of Y 455 (by decide)) (by decide) (by decide) (by decide) ?aC ?aB ?aN ?aT ?aS ?aL ?iB ?tB ?iN ?tN ?iT ?tT ?iI ?nI ?iE ?nE ?iS ?nS ?iP ?nP ?iU ?nU ?iH ?nH ?iX ?nX ?iM ?nM ?lB ?cB ?kB ?lN ?cN ?kN ?lT ?cT ?kT ?lI ?cI ?kI ?lE ?cE ?kE ?lS ?cS ?kS ?lP ?cP ?kP ?lU ?cU ?kU ?lH ?cH ?kH ?lX ?cX ?kX ?lM ?cM ?kM ?lD ?hE ?hN ?hT ?hK ?hP ?a11 ?l11 ?cc11 ?k11 ?a12 ?l12 ?cc12 ?k12 ?a13 ?l13 ?cc13 ?k13 ?a15 ?l15 ?cc15 ?k15 ?a19 ?l19 ?cc19 ?k19 ?a20 ?l20 ?cc20 ?k20 ?a21 ?l21 ?cc21 ?k21 ?a22 ?l22 ?cc22 ?k22 ?a23 ?l23 ?cc23 ?k23 ?a25 ?l25 ?cc25 ?k25 ?a38 ?l38 ?cc38 ?k38 ?a41 ?l41 ?cc41 ?k41 ?a42 ?l42 ?cc42 ?k42 ?a43 ?l43 ?cc43 ?k43 ?a44 ?l44 ?cc44 ?k44 ?a45 ?l45 ?cc45 ?k45 ?a46 ?l46 ?cc46 ?k46 ?a47 ?l47 ?cc47 ?k47 ?a48 ?l48 ?cc48 ?k48 ?a49 ?l49 ?cc49 ?k49 ?a50 ?l50 ?cc50 ?k50 ?a51 ?l51 ?cc51 ?k51 ?a52 ?l52 ?cc52 ?k52 ?a53 ?l53 ?cc53 ?k53 ?a54 ?l54 ?cc54 ?k54 ?a55 ?l55 ?cc55 ?k55 ?hd1 ?nT1 ?hd2 ?nT2 ?hd3 ?nT3 ?z_isinstance ?z_int ?z_bool ?z_list ?z_tuple ?z_all ?z_len ?z_range ?z_abs ?z_str ?z_sum ?z_min ?z_enumerate ?z_max
    (case aC => k_is)
    (case aB => k_is)
    (case aN => k_is)
    (case aT => k_is)
    (case aS => k_is)
    (case aL => k_is)
    (case iB => k_is)
    (case tB => k_is)
    (case iN => k_is)
    (case tN => k_is)
    (case iT => k_is)
    (case tT => k_is)
    (case iI => k_is)
    (case nI => k_is)
    (case iE => k_is)
    (case nE => k_is)
    (case iS => k_is)
    (case nS => k_is)
    (case iP => k_is)
    (case nP => k_is)
    (case iU => k_is)
    (case nU => k_is)
    (case iH => k_is)
    (case nH => k_is)
    (case iX => k_is)
    (case nX => k_is)
    (case iM => k_is)
    (case nM => k_is)
    (case lB => k_is)
    (case cB => k_is)
    (case kB => k_is)
    (case lN => k_is)
    (case cN => k_is)
    (case kN => k_is)
    (case lT => k_is)
    (case cT => k_is)
    (case kT => k_is)
    (case lI => k_is)
    (case cI => k_is)
    (case kI => k_is)
    (case lE => k_is)
    (case cE => k_is)
    (case kE => k_is)
    (case lS => k_is)
    (case cS => k_is)
    (case kS => k_is)
    (case lP => k_is)
    (case cP => k_is)
    (case kP => k_is)
    (case lU => k_is)
    (case cU => k_is)
    (case kU => k_is)
    (case lH => k_is)
    (case cH => k_is)
    (case kH => k_is)
    (case lX => k_is)
    (case cX => k_is)
    (case kX => k_is)
    (case lM => k_is)
    (case cM => k_is)
    (case kM => k_is)
    (case lD => k_is)
    (case hE => first | kernel_rfl | k_is | rfl)
    (case hN => first | kernel_rfl | k_is | rfl)
    (case hT => first | kernel_rfl | k_is | rfl)
    (case hK => first | kernel_rfl | k_is | rfl)
    (case hP => first | kernel_rfl | k_is | rfl)
    (case a11 => k_is)
    (case l11 => k_is)
    (case cc11 => k_is)
    (case k11 => k_is)
    (case a12 => k_is)
    (case l12 => k_is)
    (case cc12 => k_is)
    (case k12 => k_is)
    (case a13 => k_is)
    (case l13 => k_is)
    (case cc13 => k_is)
    (case k13 => k_is)
    (case a15 => k_is)
    (case l15 => k_is)
    (case cc15 => k_is)
    (case k15 => k_is)
    (case a19 => k_is)
    (case l19 => k_is)
    (case cc19 => k_is)
    (case k19 => k_is)
    (case a20 => k_is)
    (case l20 => k_is)
    (case cc20 => k_is)
    (case k20 => k_is)
    (case a21 => k_is)
    (case l21 => k_is)
    (case cc21 => k_is)
    (case k21 => k_is)
    (case a22 => k_is)
    (case l22 => k_is)
    (case cc22 => k_is)
    (case k22 => k_is)
    (case a23 => k_is)
    (case l23 => k_is)
    (case cc23 => k_is)
    (case k23 => k_is)
    (case a25 => k_is)
    (case l25 => k_is)
    (case cc25 => k_is)
    (case k25 => k_is)
    (case a38 => k_is)
    (case l38 => k_is)
    (case cc38 => k_is)
    (case k38 => k_is)
    (case a41 => k_is)
    (case l41 => k_is)
    (case cc41 => k_is)
    (case k41 => k_is)
    (case a42 => k_is)
    (case l42 => k_is)
    (case cc42 => k_is)
    (case k42 => k_is)
    (case a43 => k_is)
    (case l43 => k_is)
    (case cc43 => k_is)
    (case k43 => k_is)
    (case a44 => k_is)
    (case l44 => k_is)
    (case cc44 => k_is)
    (case k44 => k_is)
    (case a45 => k_is)
    (case l45 => k_is)
    (case cc45 => k_is)
    (case k45 => k_is)
    (case a46 => k_is)
    (case l46 => k_is)
    (case cc46 => k_is)
    (case k46 => k_is)
    (case a47 => k_is)
    (case l47 => k_is)
    (case cc47 => k_is)
    (case k47 => k_is)
    (case a48 => k_is)
    (case l48 => k_is)
    (case cc48 => k_is)
    (case k48 => k_is)
    (case a49 => k_is)
    (case l49 => k_is)
    (case cc49 => k_is)
    (case k49 => k_is)
    (case a50 => k_is)
    (case l50 => k_is)
    (case cc50 => k_is)
    (case k50 => k_is)
    (case a51 => k_is)
    (case l51 => k_is)
    (case cc51 => k_is)
    (case k51 => k_is)
    (case a52 => k_is)
    (case l52 => k_is)
    (case cc52 => k_is)
    (case k52 => k_is)
    (case a53 => k_is)
    (case l53 => k_is)
    (case cc53 => k_is)
    (case k53 => k_is)
    (case a54 => k_is)
    (case l54 => k_is)
    (case cc54 => k_is)
    (case k54 => k_is)
    (case a55 => k_is)
    (case l55 => k_is)
    (case cc55 => k_is)
    (case k55 => k_is)
    (case hd1 => first | kernel_rfl | rfl)
    (case nT1 => first | kernel_rfl | rfl)
    (case hd2 => first | kernel_rfl | rfl)
    (case nT2 => first | kernel_rfl | rfl)
    (case hd3 => first | kernel_rfl | rfl)
    (case nT3 => first | kernel_rfl | rfl)
    (case z_isinstance => k_is)
    (case z_int => k_is)
    (case z_bool => k_is)
    (case z_list => k_is)
    (case z_tuple => k_is)
    (case z_all => k_is)
    (case z_len => k_is)
    (case z_range => k_is)
    (case z_abs => k_is)
    (case z_str => k_is)
    (case z_sum => k_is)
    (case z_min => k_is)
    (case z_enumerate => k_is)
    (case z_max => k_is)
