import PyProof.Rows.All
import Wide.All
import OpenK.AllK
import Wide.FinOn
import HandS.ForMost
import HandS.IsInst
import HandS.Wide
import HandS.ExcInit
import HandS.WordsExc
import HandS.SetKeys
import HandS.Zip
import HandS.Style
import HandS.Text
import HandS.Conv
import HandS.ExcIs
import HandS.FStr
import KE.KCallOwn
import HandS.OwnEq
import PyProof.InstEq
import HandS.Defaults
import HandS.MakeKwOnly
import HandS.ExcField
import KE.KExcIs
import HandS.ExcValue
import HandS.MakeKw
import KE.KNestM
import HandS.HeadWalk
import PySem.Challenge.RW_farseen_k11_pictures_made_and_refused
set_option Elab.async false
set_option linter.all false
set_option maxRecDepth 100000
set_option maxHeartbeats 16000000
namespace K11
open PySem PySem.Spec PyProof.Rows L2
def top (i : Nat) : Stmt := PySem.Challenge.pw_farseen_k11_pictures_made_and_refused.main.body.getD i (.Pass ⟨0, 0, 0, 0⟩)
def inClass (s : Stmt) (i : Nat) : Stmt := match s with
  | .ClassDef _ _ _ b _ _ _ _ _ _ _ => b.getD i (.Pass ⟨0, 0, 0, 0⟩)
  | _ => .Pass ⟨0, 0, 0, 0⟩
/-! ### values: kinds -/
def isI : V → Bool
  | .int _ => true
  | _ => false
/-- what is told of the class of pictures, so that isinstance asks its instances -/
structure PicC (K : PySem.W.Frag) (C : Addr) : Prop where
  cls : Cls K C
  ha : PySem.W.findIn K (.ref C) "__class__" = some (some (.builtin "object.__class__"))
  hn : PySem.W.specialIn K (.builtin "object.__class__") "__get__" = some (some (.builtin "getset_descriptor.__get__"))
  ht : PySem.W.takesIn K (.builtin "object.__class__") = some true
  hm : PySem.W.mroIn K C (.type "object") = some true
  ki : PySem.W.kitOne K (.ref C) (.type "int") = some false
  kb : PySem.W.kitOne K (.ref C) (.type "bool") = some false
  kt : PySem.W.kitOne K (.ref C) (.type "tuple") = some false
  ks : PySem.W.kitAny K (.ref C) [.type "list", .type "tuple"] = some false
/-- a value of a kind that is looked at; whether it is a list or a tuple -/
inductive Kd (K : PySem.W.Frag) (H : Hp) : V → Bool → Prop
  | non : Kd K H .non false
  | bl (b : Bool) : Kd K H (.bl b) false
  | int (i : Int) : Kd K H (.int i) false
  | str (x : Str) : Kd K H (.str x) false
  | lst {a : Addr} {xs : List V} (e : H a = some (.lst xs)) : Kd K H (.ref a) true
  | tup {a : Addr} {xs : List V} (e : H a = some (.tup xs)) : Kd K H (.ref a) true
  | dK {a : Addr} {kvs : List (Key × V)} (e : H a = some (.dK kvs)) : Kd K H (.ref a) false
  | ins {a C dx : Addr} {fs : List (Str × V)} (e : H a = some (.ins C dx fs)) (P : PicC K C) : Kd K H (.ref a) false
theorem Kd.same {K : PySem.W.Frag} {H H' : Hp} {v : V} {t : Bool} (k : Kd K H v t) (s : Same H H') : Kd K H' v t := by
  cases k with
  | non => exact .non
  | bl b => exact .bl b
  | int i => exact .int i
  | str x => exact .str x
  | lst e => exact .lst (s _ _ e)
  | tup e => exact .tup (s _ _ e)
  | dK e => exact .dK (s _ _ e)
  | ins e P => exact .ins (s _ _ e) P
theorem no_two {K : PySem.W.Frag} {x : String} (h1 : kitB x "list" = some false) (h2 : kitB x "tuple" = some false) : PySem.W.kitAny K (.type x) [.type "list", .type "tuple"] = some false :=
  kitAny_cons (kit_ty h1) (fun _ => kitAny_cons (kit_ty h2) (fun _ => kitAny_nil) (fun z => nomatch z)) (fun z => nomatch z)
/-- what isinstance is told of it -/
theorem Kd.told {K : PySem.W.Frag} {H : Hp} {v : V} {t : Bool} (k : Kd K H v t) : ∃ (u : Value) (b c : Bool), TyX K H v u ∧ PySem.W.kitOne K u (.type "int") = some b ∧ PySem.W.kitOne K u (.type "bool") = some c ∧ (b && !c) = isI v ∧ PySem.W.kitAny K u [.type "list", .type "tuple"] = some t := by
  cases k with
  | non => exact ⟨_, _, _, .base .non, kit_ty (by decide +kernel : kitB _ _ = some false), kit_ty (by decide +kernel : kitB _ _ = some false), rfl, no_two (by decide +kernel) (by decide +kernel)⟩
  | bl b => exact ⟨_, _, _, .base (.bl b), kit_ty (by decide +kernel : kitB _ _ = some true), kit_ty (by decide +kernel : kitB _ _ = some true), rfl, no_two (by decide +kernel) (by decide +kernel)⟩
  | int i => exact ⟨_, _, _, .base (.int i), kit_ty (by decide +kernel : kitB _ _ = some true), kit_ty (by decide +kernel : kitB _ _ = some false), rfl, no_two (by decide +kernel) (by decide +kernel)⟩
  | str x => exact ⟨_, _, _, .base (.str x), kit_ty (by decide +kernel : kitB _ _ = some false), kit_ty (by decide +kernel : kitB _ _ = some false), rfl, no_two (by decide +kernel) (by decide +kernel)⟩
  | lst e => exact ⟨_, _, _, .base (.lst e), kit_ty (by decide +kernel : kitB _ _ = some false), kit_ty (by decide +kernel : kitB _ _ = some false), rfl, kitAny_cons (kit_ty (by decide +kernel : kitB _ _ = some true)) (fun z => nomatch z) (fun _ => rfl)⟩
  | tup e => exact ⟨_, _, _, .base (.tup e), kit_ty (by decide +kernel : kitB _ _ = some false), kit_ty (by decide +kernel : kitB _ _ = some false), rfl, kitAny_cons (kit_ty (by decide +kernel : kitB _ _ = some false)) (fun _ => kitAny_cons (kit_ty (by decide +kernel : kitB _ _ = some true)) (fun z => nomatch z) (fun _ => rfl)) (fun z => nomatch z)⟩
  | dK e => exact ⟨_, _, _, .base (.dK e), kit_ty (by decide +kernel : kitB _ _ = some false), kit_ty (by decide +kernel : kitB _ _ = some false), rfl, no_two (by decide +kernel) (by decide +kernel)⟩
  | ins e P => exact ⟨_, _, _, .base (.ins e P.cls P.ha P.hn P.ht P.hm), P.ki, P.kb, rfl, P.ks⟩
/-- a list or a tuple of these -/
def Sq (H : Hp) (a : Addr) (xs : List V) : Prop := H a = some (.lst xs) ∨ H a = some (.tup xs)
theorem Sq.same {H H' : Hp} {a : Addr} {xs : List V} (k : Sq H a xs) (s : Same H H') : Sq H' a xs := k.elim (fun e => .inl (s _ _ e)) (fun e => .inr (s _ _ e))
theorem Sq.kd {K : PySem.W.Frag} {H : Hp} {a : Addr} {xs : List V} (k : Sq H a xs) : Kd K H (.ref a) true := k.elim (fun e => .lst e) (fun e => .tup e)
theorem same_new {H : Hp} {p : Addr} {o : HO} (h : H p = none) : Same H (upd H p o) := fun b u e => by
  rw [upd_ne (ne_of_none e h)]
  exact e
theorem Same.me {H : Hp} : Same H H := fun _ _ e => e
theorem take_more {α : Type} : ∀ {l : List α} {i : Nat} {x : α}, l[i]? = some x → l.take (i + 1) = l.take i ++ [x]
  | [], i, x, h => by simp at h
  | a :: l, 0, x, h => by
    have e : a = x := Option.some.inj h
    subst e
    rfl
  | a :: l, i + 1, x, h => by
    have ih := take_more (l := l) (i := i) (x := x) h
    show a :: l.take (i + 1) = a :: l.take i ++ [x]
    rw [ih]
    rfl
/-! ### the built-in names -/
structure Bn (mg : Str → Option Value) : Prop where
  isinstance : mg "isinstance" = none
  int : mg "int" = none
  bool : mg "bool" = none
  list : mg "list" = none
  tuple : mg "tuple" = none
  all : mg "all" = none
  len : mg "len" = none
  range : mg "range" = none
  abs : mg "abs" = none
  str : mg "str" = none
  sum : mg "sum" = none
  min : mg "min" = none
  enumerate : mg "enumerate" = none
/-- a def that may be called by its name -/
def Callee (P : Program) (w : World) (K : PySem.W.Frag) (mg : Str → Option Value) (base : Heap) (CX : CXT) (k : Nat) (x : Str) (ps : List Str) (sp : Sp) : Prop :=
  ∃ (f : Addr) (fd : FuncData), mg x = some (.ref f) ∧ PySem.W.keepIn K (.ref f) = true ∧ Binds K fd ps [] ∧ FnOk P w K mg base CX k f fd ps sp
def RB (b : Bool) (H : Hp) (Q : VK) : Prop := ∀ H', Same H H' → Q (.bl b) H'
section
variable {P : Program} {w : World} {K : PySem.W.Frag} {mg : Str → Option Value} {base : Heap}
/-! ### is_integer -/
def spInt (K : PySem.W.Frag) : Sp := fun vs H Q _ => ∃ v t, vs = [v] ∧ Kd K H v t ∧ Q (.bl (isI v)) H
abbrev sInt : Stmt := top 9
theorem scInt : FnScope ["value"] ["value"] (defScope sInt) := ⟨rfl, rfl, rfl, by decide +kernel, rfl, by decide +kernel, by decide +kernel⟩
theorem ok_int {f : Addr} {fd : FuncData} (F : Fun K "is_integer" "is_integer" sInt f fd) (B : Bn mg) : FnOk P w K mg base CX0 1 f fd ["value"] (spInt K) := by
  refine F.ok scInt (fun vs H Q E h => ?_) (fun cdv A outer s H vs Q E hr h => ?_)
  · obtain ⟨v, t, rfl, _⟩ := h
    rfl
  · obtain ⟨v, t, rfl, k, q⟩ := h
    refine ⟨_, pss_one (ps_ret (pe_and ((pe_callB (r := rIsi K) call_isi (by rfl) B.isinstance boot_isinstance (pa_cons (pv 0) (pa_cons (pe_bltn (v := .ty "int") (by rfl) B.int (by decide +kernel) rfl) pa_nil)))) (pe_one (pe_not (pe_callB (r := rIsi K) call_isi (by rfl) B.isinstance boot_isinstance (pa_cons (pv 0) (pa_cons (pe_bltn (v := .ty "bool") (by rfl) B.bool (by decide +kernel) rfl) pa_nil))))))), ?_⟩
    obtain ⟨u, b, c, ty, hb, hc, e, _⟩ := k.told
    refine ⟨_, rfl, _, _, _, _, b, rfl, .ty _, ty, hb, b, rfl, ?_⟩
    cases b with
    | true =>
      refine iteT ⟨_, rfl, _, _, _, _, c, rfl, .ty _, ty, hc, c, rfl, ?_⟩
      rw [← e] at q
      simpa using q
    | false =>
      refine iteF ?_
      rw [← e] at q
      simpa using q
/-! ### is_list -/
def spIsList (K : PySem.W.Frag) : Sp := fun vs H Q _ => ∃ v t, vs = [v] ∧ Kd K H v t ∧ RB t H Q
abbrev sIsList : Stmt := top 11
theorem scIsList : FnScope ["value"] ["value"] (defScope sIsList) := ⟨rfl, rfl, rfl, by decide +kernel, rfl, by decide +kernel, by decide +kernel⟩
theorem ok_isList {f : Addr} {fd : FuncData} (F : Fun K "is_list" "is_list" sIsList f fd) (B : Bn mg) : FnOk P w K mg base CX0 1 f fd ["value"] (spIsList K) := by
  refine F.ok scIsList (fun vs H Q E h => ?_) (fun cdv A outer s H vs Q E hr h => ?_)
  · obtain ⟨v, t, rfl, _⟩ := h
    rfl
  · obtain ⟨v, t, rfl, k, q⟩ := h
    refine ⟨_, pss_one (ps_ret (pe_callB call_isiT (by rfl) B.isinstance boot_isinstance (pa_cons (pv 0) (pa_cons (pe_tup (pa_cons (pe_bltn (v := .ty "list") (by rfl) B.list (by decide +kernel) rfl) (pa_cons (pe_bltn (v := .ty "tuple") (by rfl) B.tuple (by decide +kernel) rfl) pa_nil))) pa_nil)))), ?_⟩
    refine ⟨_, rfl, by show 2 ≤ sizeLine; decide, fun p hp => ?_⟩
    obtain ⟨u, _, _, ty, _, _, _, hs⟩ := (k.same (same_new (o := .tup [.ty "list", .ty "tuple"]) hp)).told
    exact ⟨_, p, _, _, _, t, rfl, upd_same, .cons (.ty _) (.cons (.ty _) .nil), ty, hs, q _ (same_new hp)⟩
/-! ### is_within -/
def within (v : V) (l m : Int) : Bool := match v with
  | .int n => decide (l ≤ n) && decide (n ≤ m)
  | _ => false
def spWithin (K : PySem.W.Frag) : Sp := fun vs H Q _ => ∃ v t l m, vs = [v, .int l, .int m] ∧ Kd K H v t ∧ Q (.bl (within v l m)) H
abbrev sWithin : Stmt := top 10
theorem scWithin : FnScope ["value", "least", "most"] ["value", "least", "most"] (defScope sWithin) := ⟨rfl, rfl, rfl, by decide +kernel, rfl, by decide +kernel, by decide +kernel⟩
theorem ok_within {f : Addr} {fd : FuncData} (F : Fun K "is_within" "is_within" sWithin f fd) (C1 : Callee P w K mg base CX0 1 "is_integer" ["value"] (spInt K)) : FnOk P w K mg base CX0 2 f fd ["value", "least", "most"] (spWithin K) := by
  obtain ⟨f1, fd1, m1, k1, b1, G1⟩ := C1
  refine F.ok scWithin (fun vs H Q E h => ?_) (fun cdv A outer s H vs Q E hr h => ?_)
  · obtain ⟨v, t, l, m, rfl, _⟩ := h
    rfl
  · obtain ⟨v, t, l, m, rfl, k, q⟩ := h
    refine ⟨_, (pss_cons (ps_if (pt_not (pt_val (pe_call G1 (hr.mono (by decide)) rfl m1 k1 b1 .nil pass0 (pa_cons (pv 0) pa_nil)))) (pss_one (ps_ret pe_bl)) pss_nil) (pss_one (ps_ret (pe_and ((pe_or (pe_cmpR op_isN (pv 1) pe_non (nomark _)) (pe_one (pe_cmpR op_le (pv 1) (pv 0) (nomark _))))) (pe_one ((pe_or (pe_cmpR op_isN (pv 2) pe_non (nomark _)) (pe_one (pe_cmpR op_le (pv 0) (pv 2) (nomark _)))))))))), ?_⟩
    refine ⟨_, rfl, v, t, rfl, k, _, rfl, ?_⟩
    cases e : isI v with
    | false =>
      refine iteT ?_
      have : within v l m = false := by
        cases v <;> first | rfl | cases e
      rw [this] at q
      exact q
    | true =>
      obtain ⟨n, rfl⟩ : ∃ n, v = .int n := by
        cases v <;> first | exact ⟨_, rfl⟩ | cases e
      have q : Q (.bl (decide (l ≤ n) && decide (n ≤ m))) H := q
      refine iteF ⟨_, rfl, rfl, _, rfl, iteF ⟨_, rfl, _, rfl, _, _, rfl, rfl, _, rfl, ?_⟩⟩
      by_cases hl : l ≤ n
      · rw [decide_eq_true hl] at q ⊢
        exact iteT ⟨_, rfl, rfl, _, rfl, iteF ⟨_, rfl, _, rfl, _, _, rfl, rfl, q⟩⟩
      · rw [decide_eq_false hl] at q ⊢
        exact iteF q
end
end K11

namespace K11
open PySem PySem.Spec PyProof.Rows L2
def G9 : Int := 1000000000
def inB (x : V) : Bool := within x (-G9) G9
def rowB (xs : List V) : Bool := decide (xs.length = 2) && xs.all inB
/-- a value judged as a row of two -/
inductive RowV (K : PySem.W.Frag) (H : Hp) : V → Bool → Prop
  | no {v : V} (k : Kd K H v false) : RowV K H v false
  | seq {a : Addr} {xs : List V} (hs : Sq H a xs) (hk : ∀ x ∈ xs, ∃ t, Kd K H x t) (hl : xs.length ≤ 100) : RowV K H (.ref a) (rowB xs)
theorem RowV.same {K : PySem.W.Frag} {H H' : Hp} {v : V} {b : Bool} (k : RowV K H v b) (s : Same H H') : RowV K H' v b := by
  cases k with
  | no k => exact .no (k.same s)
  | seq hs hk hl => exact .seq (hs.same s) (fun x hx => let ⟨t, k⟩ := hk x hx; ⟨t, k.same s⟩) hl
/-- a value judged as rows of two -/
inductive RowsV (K : PySem.W.Frag) (H : Hp) : V → Option (List Bool) → Prop
  | no {v : V} (k : Kd K H v false) : RowsV K H v none
  | seq {a : Addr} {xs : List V} {bs : List Bool} (hs : Sq H a xs) (hk : Paired (RowV K H) xs bs) (hl : xs.length ≤ 100) : RowsV K H (.ref a) (some bs)
theorem paired_same {K : PySem.W.Frag} {H H' : Hp} {xs : List V} {bs : List Bool} (h : Paired (RowV K H) xs bs) (s : Same H H') : Paired (RowV K H') xs bs := by
  induction h with
  | nil => exact .nil
  | cons a _ ih => exact .cons (a.same s) ih
theorem RowsV.same {K : PySem.W.Frag} {H H' : Hp} {v : V} {b : Option (List Bool)} (k : RowsV K H v b) (s : Same H H') : RowsV K H' v b := by
  cases k with
  | no k => exact .no (k.same s)
  | seq hs hk hl => exact .seq (hs.same s) (paired_same hk s) hl
def rowsB : Option (List Bool) → Bool
  | none => false
  | some bs => bs.all id
def plB : Option (List Bool) → Bool
  | none => false
  | some bs => bs.all id && decide (4 ≤ bs.length) && decide (bs.length ≤ 7)
theorem paired_get {α β : Type} {R : α → β → Prop} {xs : List α} {ys : List β} (h : Paired R xs ys) : ∀ {i : Nat} {x : α}, xs[i]? = some x → ∃ y, ys[i]? = some y ∧ R x y := by
  induction h with
  | nil =>
    intro i x e
    simp at e
  | cons a _ ih =>
    intro i x e
    cases i with
    | zero =>
      have z := Option.some.inj e
      subst z
      exact ⟨_, rfl, a⟩
    | succ i => exact ih (by simpa using e)
theorem len100 {α β : Type} {xs : List α} (h : xs.length ≤ 100) (i : Nat) (f : α → β) : ((xs.take i).map f).length < sizeLine := by
  rw [List.length_map, List.length_take]
  exact small1000 (Nat.le_trans (Nat.min_le_right _ _) (by omega))
theorem all_id {xs : List V} {f : V → Bool} : (xs.map f).all id = xs.all f := by
  rw [List.all_map]
  rfl
/-- the list that a comprehension has made so far -/
def At (H0 : Hp) (D : Addr) (ys : List V) (H : Hp) : Prop := Same H0 H ∧ H D = some (.lst ys)
theorem At.step {H0 H H1 : Hp} {D : Addr} {ys zs : List V} {y : V} (hD : H0 D = none) (p : At H0 D ys H) (s : Same H H1) (e : zs = ys ++ [y]) : At H0 D zs (upd H1 D (.lst (ys ++ [y]))) := by
  refine ⟨fun b o h => ?_, by rw [upd_same, e]⟩
  rw [upd_ne (ne_of_none h hD)]
  exact s _ _ (p.1 b o h)
section
variable {P : Program} {w : World} {K : PySem.W.Frag} {mg : Str → Option Value} {base : Heap}
/-! ### is_row -/
def spRow (K : PySem.W.Frag) : Sp := fun vs H Q _ => ∃ v b, vs = [v, .int 2, .int 2] ∧ RowV K H v b ∧ RB b H Q
abbrev sRow : Stmt := top 16
abbrev nRow : List Str := ["value", "fewest", "most", "item"]
theorem scRow : FnScope nRow ["value", "fewest", "most"] (defScope sRow) := ⟨rfl, rfl, rfl, by decide +kernel, rfl, by decide +kernel, by decide +kernel⟩
theorem ok_row {f : Addr} {fd : FuncData} (F : Fun K "is_row" "is_row" sRow f fd) (B : Bn mg) (L : ∃ t, mg "LIMIT" = some (.int 1000000000 t)) (C1 : Callee P w K mg base CX0 1 "is_list" ["value"] (spIsList K)) (C2 : Callee P w K mg base CX0 2 "is_within" ["value", "least", "most"] (spWithin K)) : FnOk P w K mg base CX0 3 f fd ["value", "fewest", "most"] (spRow K) := by
  obtain ⟨f1, fd1, m1, k1, b1, G1⟩ := C1
  obtain ⟨f2, fd2, m2, k2, b2, G2⟩ := C2
  obtain ⟨tL, mL⟩ := L
  have nd := scRow.nd
  refine F.ok scRow (fun vs H Q E h => ?_) (fun cdv A outer s H vs Q E hr h => ?_)
  · obtain ⟨v, b, rfl, _⟩ := h
    rfl
  · obtain ⟨v, b, rfl, j, q⟩ := h
    cases j with
    | no k =>
      refine ⟨_, (pss_cons (ps_if (PW.pt (pw_or (pt_not (pt_val (pe_call G1 (hr.mono (by decide)) rfl m1 k1 b1 .nil pass0 (pa_cons (pv 0) pa_nil)))) (pw_or1 (pt_not (pt_chain op_le op_le (pv 1) (pe_callB call_len_seq (by rfl) B.len PySem.boot_len (pa_cons (pv 0) pa_nil)) (pv 2)))))) (pss_one (ps_ret pe_bl)) pss_nil) (pss_one (ps_ret (pe_callB (cr_all rfl) (by rfl) B.all boot_all (pa_cons (pe_lc (own := [("item", 3)]) (g := gName 3) (tt := tYes) rfl nd (pi_list (pv 0)) (blkOk_by (N := nRow) (sc := defScope sRow) (by decide +kernel)) (fun _ _ _ _ _ => pg_name (i := 3) nd rfl (Or.inl rfl)) (fun _ _ _ _ _ => pts_nil) (fun _ _ _ _ _ => (pe_call G2 (hr.mono (by decide)) rfl m2 k2 b2 .nil pass0 (pa_cons (pv 3) (pa_cons (pe_un un_neg (pe_glob (v := .int 1000000000) rfl mL ⟨_, rfl⟩)) (pa_cons (pe_glob (v := .int 1000000000) rfl mL ⟨_, rfl⟩) pa_nil)))))) pa_nil))))), ?_⟩
      exact ⟨_, rfl, v, false, rfl, k, fun H1 s1 => ⟨_, rfl, iteT (q _ s1)⟩⟩
    | @seq a xs hs hk hl =>
      have key : ∀ H1, Same H H1 → ∀ D H2, At H1 D (xs.map fun x => V.bl (inB x)) H2 → xs.length = 2 → rAll K [.ref D] H2 Q := fun H1 s1 D H2 p h2 => by
        refine ⟨D, xs.map inB, rfl, SqL.of (by rw [p.2, List.map_map]; rfl), ?_⟩
        have e : rowB xs = (xs.map inB).all id := by
          unfold rowB
          rw [decide_eq_true h2, Bool.true_and, all_id]
        rw [← e]
        exact q _ (s1.trans p.1)
      have nok : xs.length ≠ 2 → rowB xs = false := fun h => by
        unfold rowB
        rw [decide_eq_false h]
        rfl
      have sq := hs
      rcases hs with hs | hs
      · refine ⟨_, (pss_cons (ps_if (PW.pt (pw_or (pt_not (pt_val (pe_call G1 (hr.mono (by decide)) rfl m1 k1 b1 .nil pass0 (pa_cons (pv 0) pa_nil)))) (pw_or1 (pt_not (pt_chain op_le op_le (pv 1) (pe_callB call_len_seq (by rfl) B.len PySem.boot_len (pa_cons (pv 0) pa_nil)) (pv 2)))))) (pss_one (ps_ret pe_bl)) pss_nil) (pss_one (ps_ret (pe_callB (cr_all rfl) (by rfl) B.all boot_all (pa_cons (pe_lc (own := [("item", 3)]) (g := gName 3) (tt := tYes) rfl nd (pi_list (pv 0)) (blkOk_by (N := nRow) (sc := defScope sRow) (by decide +kernel)) (fun _ _ _ _ _ => pg_name (i := 3) nd rfl (Or.inl rfl)) (fun _ _ _ _ _ => pts_nil) (fun _ _ _ _ _ => (pe_call G2 (hr.mono (by decide)) rfl m2 k2 b2 .nil pass0 (pa_cons (pv 3) (pa_cons (pe_un un_neg (pe_glob (v := .int 1000000000) rfl mL ⟨_, rfl⟩)) (pa_cons (pe_glob (v := .int 1000000000) rfl mL ⟨_, rfl⟩) pa_nil)))))) pa_nil))))), ?_⟩
        refine ⟨_, rfl, _, true, rfl, sq.kd, fun H1 s1 => ⟨_, rfl, iteF ?_⟩⟩
        refine ⟨_, rfl, _, rfl, a, xs, rfl, .inl (SqL.of (s1 _ _ hs)), _, _, rfl, rfl, _, rfl, ?_⟩
        by_cases h2 : xs.length = 2
        · rw [decide_eq_true (show (2 : Int) ≤ (xs.length : Int) by omega)]
          refine iteT ⟨_, rfl, _, _, rfl, rfl, _, rfl, ?_⟩
          rw [decide_eq_true (show (xs.length : Int) ≤ 2 by omega)]
          refine iteF ⟨_, rfl, a, rfl, ⟨_, SqL.of (s1 _ _ hs)⟩, fun D hD => ?_⟩
          refine lc_list (K := K) (a := a) (xs := xs) (fun i => At H1 D ((xs.take i).map fun x => V.bl (inB x))) ⟨same_new hD, upd_same⟩ (fun i H' _ p => SqL.of (p.1 _ _ (s1 _ _ hs))) (fun i x H' hx p => ?_) (fun H' p => ?_)
          · obtain ⟨tx, kx⟩ := hk x (List.mem_of_getElem? hx)
            refine ⟨rfl, ?_⟩
            show tCall (spWithin K) [] E0 (tCons (tVar 3) (tCons _ (tCons _ tNil))) _ H' _
            refine ⟨_, rfl, _, rfl, x, tx, _, _, rfl, (kx.same s1).same p.1, _, p.2, len100 hl _ _, p.step hD Same.me ?_⟩
            rw [take_more hx, List.map_append]
            rfl
          · rw [List.take_length] at p
            exact key H1 s1 D H' p h2
        · have q2 := q _ s1
          rw [nok h2] at q2
          by_cases h3 : (2 : Int) ≤ (xs.length : Int)
          · rw [decide_eq_true h3]
            refine iteT ⟨_, rfl, _, _, rfl, rfl, _, rfl, ?_⟩
            rw [decide_eq_false (show ¬ (xs.length : Int) ≤ 2 by omega)]
            exact iteT q2
          · rw [decide_eq_false h3]
            exact iteF ⟨_, rfl, iteT q2⟩
      · refine ⟨_, (pss_cons (ps_if (PW.pt (pw_or (pt_not (pt_val (pe_call G1 (hr.mono (by decide)) rfl m1 k1 b1 .nil pass0 (pa_cons (pv 0) pa_nil)))) (pw_or1 (pt_not (pt_chain op_le op_le (pv 1) (pe_callB call_len_seq (by rfl) B.len PySem.boot_len (pa_cons (pv 0) pa_nil)) (pv 2)))))) (pss_one (ps_ret pe_bl)) pss_nil) (pss_one (ps_ret (pe_callB (cr_all rfl) (by rfl) B.all boot_all (pa_cons (pe_lc (own := [("item", 3)]) (g := gName 3) (tt := tYes) rfl nd (pi_tup (pv 0)) (blkOk_by (N := nRow) (sc := defScope sRow) (by decide +kernel)) (fun _ _ _ _ _ => pg_name (i := 3) nd rfl (Or.inl rfl)) (fun _ _ _ _ _ => pts_nil) (fun _ _ _ _ _ => (pe_call G2 (hr.mono (by decide)) rfl m2 k2 b2 .nil pass0 (pa_cons (pv 3) (pa_cons (pe_un un_neg (pe_glob (v := .int 1000000000) rfl mL ⟨_, rfl⟩)) (pa_cons (pe_glob (v := .int 1000000000) rfl mL ⟨_, rfl⟩) pa_nil)))))) pa_nil))))), ?_⟩
        refine ⟨_, rfl, _, true, rfl, sq.kd, fun H1 s1 => ⟨_, rfl, iteF ?_⟩⟩
        refine ⟨_, rfl, _, rfl, a, xs, rfl, .inr (SqT.of (s1 _ _ hs)), _, _, rfl, rfl, _, rfl, ?_⟩
        by_cases h2 : xs.length = 2
        · rw [decide_eq_true (show (2 : Int) ≤ (xs.length : Int) by omega)]
          refine iteT ⟨_, rfl, _, _, rfl, rfl, _, rfl, ?_⟩
          rw [decide_eq_true (show (xs.length : Int) ≤ 2 by omega)]
          refine iteF ⟨_, rfl, a, rfl, ⟨_, SqT.of (s1 _ _ hs)⟩, fun D hD => ?_⟩
          refine lc_tup (K := K) (a := a) (xs := xs) (fun i => At H1 D ((xs.take i).map fun x => V.bl (inB x))) ⟨same_new hD, upd_same⟩ (fun i H' _ p => SqT.of (p.1 _ _ (s1 _ _ hs))) (fun i x H' hx p => ?_) (fun H' p => ?_)
          · obtain ⟨tx, kx⟩ := hk x (List.mem_of_getElem? hx)
            refine ⟨rfl, ?_⟩
            show tCall (spWithin K) [] E0 (tCons (tVar 3) (tCons _ (tCons _ tNil))) _ H' _
            refine ⟨_, rfl, _, rfl, x, tx, _, _, rfl, (kx.same s1).same p.1, _, p.2, len100 hl _ _, p.step hD Same.me ?_⟩
            rw [take_more hx, List.map_append]
            rfl
          · rw [List.take_length] at p
            exact key H1 s1 D H' p h2
        · have q2 := q _ s1
          rw [nok h2] at q2
          by_cases h3 : (2 : Int) ≤ (xs.length : Int)
          · rw [decide_eq_true h3]
            refine iteT ⟨_, rfl, _, _, rfl, rfl, _, rfl, ?_⟩
            rw [decide_eq_false (show ¬ (xs.length : Int) ≤ 2 by omega)]
            exact iteT q2
          · rw [decide_eq_false h3]
            exact iteF ⟨_, rfl, iteT q2⟩
/-! ### are_rows, are_places -/
def spRows (K : PySem.W.Frag) : Sp := fun vs H Q _ => ∃ v o, vs = [v, .int 2] ∧ RowsV K H v o ∧ RB (rowsB o) H Q
abbrev sRows : Stmt := top 17
abbrev nRows : List Str := ["value", "size", "row"]
theorem scRows : FnScope nRows ["value", "size"] (defScope sRows) := ⟨rfl, rfl, rfl, by decide +kernel, rfl, by decide +kernel, by decide +kernel⟩
theorem ok_rows {f : Addr} {fd : FuncData} (F : Fun K "are_rows" "are_rows" sRows f fd) (B : Bn mg) (C1 : Callee P w K mg base CX0 1 "is_list" ["value"] (spIsList K)) (C2 : Callee P w K mg base CX0 3 "is_row" ["value", "fewest", "most"] (spRow K)) : FnOk P w K mg base CX0 4 f fd ["value", "size"] (spRows K) := by
  obtain ⟨f1, fd1, m1, k1, b1, G1⟩ := C1
  obtain ⟨f2, fd2, m2, k2, b2, G2⟩ := C2
  have nd := scRows.nd
  refine F.ok scRows (fun vs H Q E h => ?_) (fun cdv A outer s H vs Q E hr h => ?_)
  · obtain ⟨v, o, rfl, _⟩ := h
    rfl
  · obtain ⟨v, o, rfl, j, q⟩ := h
    cases j with
    | no k =>
      refine ⟨_, pss_one (ps_ret (pe_and ((pe_call G1 (hr.mono (by decide)) rfl m1 k1 b1 .nil pass0 (pa_cons (pv 0) pa_nil))) (pe_one (pe_callB (cr_all rfl) (by rfl) B.all boot_all (pa_cons (pe_lc (own := [("row", 2)]) (g := gName 2) (tt := tYes) rfl nd (pi_list (pv 0)) (blkOk_by (N := nRows) (sc := defScope sRows) (by decide +kernel)) (fun _ _ _ _ _ => pg_name (i := 2) nd rfl (Or.inl rfl)) (fun _ _ _ _ _ => pts_nil) (fun _ _ _ _ _ => (pe_call G2 (hr.mono (by decide)) rfl m2 k2 b2 .nil pass0 (pa_cons (pv 2) (pa_cons (pv 1) (pa_cons (pv 1) pa_nil)))))) pa_nil))))), ?_⟩
      exact ⟨_, rfl, v, false, rfl, k, fun H1 s1 => ⟨_, rfl, iteF (q _ s1)⟩⟩
    | @seq a xs bs hs hk hl =>
      have sq := hs
      rcases hs with hs | hs
      · refine ⟨_, pss_one (ps_ret (pe_and ((pe_call G1 (hr.mono (by decide)) rfl m1 k1 b1 .nil pass0 (pa_cons (pv 0) pa_nil))) (pe_one (pe_callB (cr_all rfl) (by rfl) B.all boot_all (pa_cons (pe_lc (own := [("row", 2)]) (g := gName 2) (tt := tYes) rfl nd (pi_list (pv 0)) (blkOk_by (N := nRows) (sc := defScope sRows) (by decide +kernel)) (fun _ _ _ _ _ => pg_name (i := 2) nd rfl (Or.inl rfl)) (fun _ _ _ _ _ => pts_nil) (fun _ _ _ _ _ => (pe_call G2 (hr.mono (by decide)) rfl m2 k2 b2 .nil pass0 (pa_cons (pv 2) (pa_cons (pv 1) (pa_cons (pv 1) pa_nil)))))) pa_nil))))), ?_⟩
        refine ⟨_, rfl, _, true, rfl, sq.kd, fun H1 s1 => ⟨_, rfl, iteT ?_⟩⟩
        refine ⟨_, rfl, a, rfl, ⟨_, SqL.of (s1 _ _ hs)⟩, fun D hD => ?_⟩
        refine lc_list (K := K) (a := a) (xs := xs) (fun i => At H1 D ((bs.take i).map V.bl)) ⟨same_new hD, upd_same⟩ (fun i H' _ p => SqL.of (p.1 _ _ (s1 _ _ hs))) (fun i x H' hx p => ?_) (fun H' p => ?_)
        · obtain ⟨b, hb, rx⟩ := paired_get hk hx
          refine ⟨rfl, ?_⟩
          show tCall (spRow K) [] E0 (tCons (tVar 2) (tCons (tVar 1) (tCons (tVar 1) tNil))) _ H' _
          refine ⟨_, rfl, _, rfl, _, rfl, x, b, rfl, (rx.same s1).same p.1, fun H2 s2 => ⟨_, s2 _ _ p.2, len100 (by rw [← Paired.length hk]; exact hl) _ _, p.step hD s2 ?_⟩⟩
          rw [take_more hb, List.map_append]
          rfl
        · rw [Paired.length hk, List.take_length] at p
          exact ⟨D, bs, rfl, SqL.of p.2, q _ (s1.trans p.1)⟩
      · refine ⟨_, pss_one (ps_ret (pe_and ((pe_call G1 (hr.mono (by decide)) rfl m1 k1 b1 .nil pass0 (pa_cons (pv 0) pa_nil))) (pe_one (pe_callB (cr_all rfl) (by rfl) B.all boot_all (pa_cons (pe_lc (own := [("row", 2)]) (g := gName 2) (tt := tYes) rfl nd (pi_tup (pv 0)) (blkOk_by (N := nRows) (sc := defScope sRows) (by decide +kernel)) (fun _ _ _ _ _ => pg_name (i := 2) nd rfl (Or.inl rfl)) (fun _ _ _ _ _ => pts_nil) (fun _ _ _ _ _ => (pe_call G2 (hr.mono (by decide)) rfl m2 k2 b2 .nil pass0 (pa_cons (pv 2) (pa_cons (pv 1) (pa_cons (pv 1) pa_nil)))))) pa_nil))))), ?_⟩
        refine ⟨_, rfl, _, true, rfl, sq.kd, fun H1 s1 => ⟨_, rfl, iteT ?_⟩⟩
        refine ⟨_, rfl, a, rfl, ⟨_, SqT.of (s1 _ _ hs)⟩, fun D hD => ?_⟩
        refine lc_tup (K := K) (a := a) (xs := xs) (fun i => At H1 D ((bs.take i).map V.bl)) ⟨same_new hD, upd_same⟩ (fun i H' _ p => SqT.of (p.1 _ _ (s1 _ _ hs))) (fun i x H' hx p => ?_) (fun H' p => ?_)
        · obtain ⟨b, hb, rx⟩ := paired_get hk hx
          refine ⟨rfl, ?_⟩
          show tCall (spRow K) [] E0 (tCons (tVar 2) (tCons (tVar 1) (tCons (tVar 1) tNil))) _ H' _
          refine ⟨_, rfl, _, rfl, _, rfl, x, b, rfl, (rx.same s1).same p.1, fun H2 s2 => ⟨_, s2 _ _ p.2, len100 (by rw [← Paired.length hk]; exact hl) _ _, p.step hD s2 ?_⟩⟩
          rw [take_more hb, List.map_append]
          rfl
        · rw [Paired.length hk, List.take_length] at p
          exact ⟨D, bs, rfl, SqL.of p.2, q _ (s1.trans p.1)⟩
def spPlaces (K : PySem.W.Frag) : Sp := fun vs H Q _ => ∃ v o, vs = [v, .int 2] ∧ RowsV K H v o ∧ RB (plB o) H Q
abbrev sPlaces : Stmt := top 18
theorem scPlaces : FnScope ["value", "size"] ["value", "size"] (defScope sPlaces) := ⟨rfl, rfl, rfl, by decide +kernel, rfl, by decide +kernel, by decide +kernel⟩
theorem ok_places {f : Addr} {fd : FuncData} (F : Fun K "are_places" "are_places" sPlaces f fd) (B : Bn mg) (C1 : Callee P w K mg base CX0 4 "are_rows" ["value", "size"] (spRows K)) : FnOk P w K mg base CX0 5 f fd ["value", "size"] (spPlaces K) := by
  obtain ⟨f1, fd1, m1, k1, b1, G1⟩ := C1
  refine F.ok scPlaces (fun vs H Q E h => ?_) (fun cdv A outer s H vs Q E hr h => ?_)
  · obtain ⟨v, o, rfl, _⟩ := h
    rfl
  · obtain ⟨v, o, rfl, j, q⟩ := h
    refine ⟨_, pss_one (ps_ret (pe_and ((pe_call G1 (hr.mono (by decide)) rfl m1 k1 b1 .nil pass0 (pa_cons (pv 0) (pa_cons (pv 1) pa_nil)))) (pe_one (pe_chain op_le op_le pe_int (pe_callB call_len_seq (by rfl) B.len PySem.boot_len (pa_cons (pv 0) pa_nil)) pe_int)))), ?_⟩
    refine ⟨_, rfl, _, rfl, v, o, rfl, j, fun H1 s1 => ⟨_, rfl, ?_⟩⟩
    have q2 := q _ s1
    cases hb : rowsB o with
    | false =>
      have e : plB o = false := by
        cases o with
        | none => rfl
        | some bs =>
          have hb : bs.all id = false := hb
          show (bs.all id && _ && _) = false
          rw [hb]
          rfl
      rw [e] at q2
      exact iteF q2
    | true =>
      cases j with
      | no k => cases hb
      | @seq a xs bs hs hk hl =>
        have hb : bs.all id = true := hb
        have el : xs.length = bs.length := Paired.length hk
        have e : plB (some bs) = (decide (4 ≤ bs.length) && decide (bs.length ≤ 7)) := by
          show (bs.all id && _ && _) = _
          rw [hb, Bool.true_and]
        rw [e] at q2
        refine iteT ⟨_, rfl, a, xs, rfl, hs.elim (fun z => .inl (SqL.of (s1 _ _ z))) (fun z => .inr (SqT.of (s1 _ _ z))), _, _, rfl, rfl, _, rfl, ?_⟩
        by_cases h4 : 4 ≤ bs.length
        · rw [decide_eq_true h4, Bool.true_and] at q2
          rw [decide_eq_true (show (4 : Int) ≤ (xs.length : Int) by omega)]
          refine iteT ⟨_, _, rfl, rfl, ?_⟩
          have e7 : decide ((xs.length : Int) ≤ 7) = decide (bs.length ≤ 7) := by
            rw [Bool.eq_iff_iff, decide_eq_true_iff, decide_eq_true_iff]
            omega
          rw [← e7] at q2
          exact q2
        · rw [decide_eq_false h4, Bool.false_and] at q2
          rw [decide_eq_false (show ¬ (4 : Int) ≤ (xs.length : Int) by omega)]
          exact iteF q2
end
end K11

namespace K11
open PySem PySem.Spec PyProof.Rows L2
/-- a tuple of pairs -/
def Pr (H : Hp) (a : Addr) (p : Int × Int) : Prop := H a = some (.tup [.int p.1, .int p.2])
def PT (H : Hp) (t : Addr) (ps : List (Int × Int)) : Prop := ∃ ts : List Addr, H t = some (.tup (ts.map V.ref)) ∧ Paired (Pr H) ts ps
def it (k : Nat) (p : Int × Int) : Int := if k = 0 then p.1 else p.2
/-- the steps from pin 0, across (0) and up (1) -/
def sk (k : Nat) (ps : List (Int × Int)) : List Int := (ps.drop 1).map fun p => it k p - it k (ps.headD (0, 0))
def rTu (K : PySem.W.Frag) : List V → Hp → VK → Prop := fun xs H Q => ∃ p ys, xs = [.ref p] ∧ ((SqL K H p ys ∧ ∀ l, H l = none → Q (.ref l) (upd H l (.tup ys))) ∨ (SqT K H p ys ∧ Q (.ref p) H))
theorem call_tu {X : Cx} : CallR X (.type "tuple") (rTu X.K) := call_tuple_of
def rLi (K : PySem.W.Frag) : List V → Hp → VK → Prop := fun xs H Q => ∃ p ys, xs = [.ref p] ∧ (SqL K H p ys ∨ SqT K H p ys) ∧ ∀ l, H l = none → Q (.ref l) (upd H l (.lst ys))
theorem call_li {X : Cx} : CallR X (.type "list") (rLi X.K) := call_list_of
section
variable {X : Cx} {K : PySem.W.Frag}
theorem call_tuK (h : X.K = K := by rfl) : CallR X (.type "tuple") (rTu K) := by subst h; exact call_tu
theorem call_liK (h : X.K = K := by rfl) : CallR X (.type "list") (rLi K) := by subst h; exact call_li
theorem sl_tupK (h : X.K = K := by rfl) : SlR X (rSlT K) := by subst h; exact sl_tup
theorem sl_listK (h : X.K = K := by rfl) : SlR X (rSlL K) := by subst h; exact sl_list
theorem ix_tupK (h : X.K = K := by rfl) : IxR X (rIxT K) := by subst h; exact ix_tup
theorem ix_listK (h : X.K = K := by rfl) : IxR X (rIxL K) := by subst h; exact ix_list
theorem pi_tupK {tg l : Expr} {tl : TE} (K : PySem.W.Frag) (hl : PE X l tl) (h : X.K = K := by rfl) : PI X tg l (iTup K tl) := by subst h; exact pi_tup hl
theorem pi_listK {tg l : Expr} {tl : TE} (K : PySem.W.Frag) (hl : PE X l tl) (h : X.K = K := by rfl) : PI X tg l (iList K tl) := by subst h; exact pi_list hl
theorem ix_seqK (h : X.K = K := by rfl) : IxR X (rIx K) := by subst h; exact ix_seq
end
theorem sIx1 (n : Nat) : HT.sIx n 0 (some 1) = min 1 n := HT.sIx_nat n 0 1
theorem cut1 {xs : List V} (h : 1 ≤ xs.length) : cutV xs (some 1) none = xs.drop 1 := by
  unfold cutV
  have e : HT.sIx xs.length 0 (some 1) = 1 := by
    rw [sIx1]
    omega
  rw [e]
  show (xs.drop 1).take (xs.length - 1) = _
  rw [List.take_of_length_le (by rw [List.length_drop]; exact Nat.le_refl _)]
theorem it_at {k : Nat} (hk : k < 2) (p : Int × Int) : atI [V.int p.1, V.int p.2] (0 + (k : Int)) = some (.int (it k p)) := by
  match k, hk with
  | 0, _ => rfl
  | 1, _ => rfl
theorem PT.len {H : Hp} {ts : List Addr} {ps : List (Int × Int)} (h : Paired (Pr H) ts ps) : ts.length = ps.length := Paired.length h
theorem paired_of {α β : Type} {R : α → β → Prop} {xs : List α} {ys : List β} (h : Paired R xs ys) {i : Nat} {y : β} (e : ys[i]? = some y) : ∃ x, xs[i]? = some x ∧ R x y := by
  induction h generalizing i with
  | nil => simp at e
  | cons a _ ih =>
    cases i with
    | zero =>
      have z := Option.some.inj e
      subst z
      exact ⟨_, rfl, a⟩
    | succ i => exact ih (by simpa using e)
section
variable {P : Program} {w : World} {K : PySem.W.Frag} {mg : Str → Option Value} {base : Heap}
/-! ### steps_along -/
def spSteps : Sp := fun vs H Q _ => ∃ (t : Addr) (ps : List (Int × Int)), vs = [.ref t] ∧ PT H t ps ∧ 4 ≤ ps.length ∧ ps.length ≤ 7 ∧
  ∀ H' u r0 r1, Same H H' → H' u = some (.tup [.ref r0, .ref r1]) → H' r0 = some (.tup ((sk 0 ps).map V.int)) → H' r1 = some (.tup ((sk 1 ps).map V.int)) → Q (.ref u) H'
abbrev sSteps : Stmt := top 19
abbrev nSteps : List Str := ["places", "start", "k", "place"]
theorem scSteps : FnScope nSteps ["places"] (defScope sSteps) := ⟨rfl, rfl, rfl, by decide +kernel, rfl, by decide +kernel, by decide +kernel⟩
abbrev scS1 : Scope := { kind := .function, names := [(".0", .local), ("k", .cell), ("tuple", .globalImplicit), ("places", .cell), ("start", .cell)], isGenerator := false, isCoroutine := false }
theorem ok_steps {f : Addr} {fd : FuncData} (F : Fun K "steps_along" "steps_along" sSteps f fd) (B : Bn mg) : FnOk P w K mg base CX0 1 f fd ["places"] spSteps := by
  have nd := scSteps.nd
  refine F.ok scSteps (fun vs H Q E h => ?_) (fun cdv A outer s H vs Q E hr h => ?_)
  · obtain ⟨t, ps, rfl, _⟩ := h
    rfl
  · obtain ⟨t, ps, rfl, pt, l4, l7, q⟩ := h
    refine ⟨_, (pss_cons (ps_set (i := 1) nd rfl (Or.inr rfl) (pe_ix ix_tup (pv 0) (pe_int) (fun _ _ => rfl))) (pss_one (ps_ret (pe_callTy (T := "tuple") (r := rTu K) call_tuK (by rfl) B.tuple (by decide +kernel) (pa_cons (pe_lc (own := [("k", 2)]) (g := gName 2) (tt := tYes) rfl nd (pi_range1 rfl B.range (pa_cons ((pe_callB call_len_seq (by rfl) B.len PySem.boot_len (pa_cons (pv 1) pa_nil))) pa_nil)) (blkOk_by (N := nSteps) (sc := defScope sSteps) (by decide +kernel)) (fun _ _ _ _ _ => pg_name (i := 2) nd rfl (Or.inr rfl)) (fun _ _ _ _ _ => pts_nil)
        (fun _ _ _ _ _ => (pe_callTy (T := "tuple") (r := rTu K) call_tuK (by rfl) B.tuple (by decide +kernel) (pa_cons (pe_lc (own := [("place", 3)]) (g := gName 3) (tt := tYes) rfl nd (pi_tupK K (pe_slice (r := rSlT K) sl_tupK (pv 0) (po_some pe_int) (po_none))) (blkOk_by (N := nSteps) (sc := scS1) (by decide +kernel)) (fun _ _ _ _ _ => pg_name (i := 3) nd rfl (Or.inl rfl)) (fun _ _ _ _ _ => pts_nil)
          (fun _ _ _ _ _ => pe_op op_sub (pe_ix (r := rIxT K) ix_tupK (pv 3) (pv 2) (fun _ _ => rfl)) (pe_ix (r := rIxT K) ix_tupK (pv 1) (pv 2) (fun _ _ => rfl)))) pa_nil)))) pa_nil))))), ?_⟩
    obtain ⟨ts, ht, hp⟩ := pt
    have lt : ts.length = ps.length := Paired.length hp
    obtain ⟨p0, pz, rfl⟩ : ∃ p0 pz, ps = p0 :: pz := by
      cases ps with
      | nil => exact absurd l4 (by decide)
      | cons a b => exact ⟨a, b, rfl⟩
    obtain ⟨t0, e0, h0⟩ := paired_of hp (i := 0) (y := p0) rfl
    have h0 : H t0 = some (.tup [.int p0.1, .int p0.2]) := h0
    refine ⟨_, rfl, t, _, 0, .ref t0, rfl, rfl, SqT.of ht, atI_nat (j := 0) (by rw [List.getElem?_map, e0]; rfl), ?_⟩
    refine ⟨_, rfl, t0, _, rfl, .inr (SqT.of h0), 2, rfl, by decide, by decide, fun D hD => ?_⟩
    have sD := same_new (o := .lst []) hD
    refine lc_range (lo := 0) (n := 2) (fun i H' => Same H H' ∧ ∃ rs : List Addr, rs.length = i ∧ H' D = some (.lst (rs.map V.ref)) ∧ ∀ j r, rs[j]? = some r → H' r = some (.tup ((sk j (p0 :: pz)).map V.int))) ⟨sD, [], rfl, upd_same, fun j r e => by simp at e⟩ (fun k H1 hk pk => ?_) (fun H1 pk => ?_)
    · obtain ⟨s1, rs, lr, hd, hr⟩ := pk
      refine ⟨rfl, ?_⟩
      refine ⟨_, rfl, _, rfl, t, _, rfl, SqT.of (s1 _ _ ht), ?_, fun c hc => ?_⟩
      · rw [List.length_map]
        intro z
        have z1 := z.1
        have : HT.sIx ts.length 0 (some 1) = 1 := by
          rw [sIx1]
          simp only [List.length_cons] at lt
          omega
        omega
      have l1 : 1 ≤ (ts.map V.ref).length := by
        rw [List.length_map, lt]
        simp
      rw [cut1 l1]
      have sc := same_new (o := .tup ((ts.map V.ref).drop 1)) hc
      have wc : upd H1 c (.tup ((ts.map V.ref).drop 1)) c = some (.tup ((ts.map V.ref).drop 1)) := upd_same
      generalize upd H1 c (.tup ((ts.map V.ref).drop 1)) = H2 at sc wc ⊢
      have s2 := s1.trans sc
      refine ⟨c, rfl, ⟨_, SqT.of wc⟩, fun D2 hD2 => ?_⟩
      refine lc_tup (K := K) (a := c) (xs := (ts.map V.ref).drop 1) (fun i => At H2 D2 (((sk k (p0 :: pz)).take i).map V.int)) ⟨same_new hD2, upd_same⟩ (fun i H' _ p => SqT.of (p.1 _ _ wc)) (fun i x H' hx p => ?_) (fun H' p => ?_)
      · obtain ⟨z, hz⟩ : ∃ z, pz[i]? = some z := by
          rw [List.getElem?_drop, List.getElem?_map] at hx
          have : 1 + i < ts.length := by
            rcases Nat.lt_or_ge (1 + i) ts.length with h | h
            · exact h
            · rw [List.getElem?_eq_none h] at hx
              cases hx
          simp only [List.length_cons] at lt
          exact ⟨pz[i], List.getElem?_eq_getElem (by omega)⟩
        obtain ⟨tz, ez, hzz⟩ := paired_of hp (i := 1 + i) (y := z) (by rw [Nat.add_comm]; exact hz)
        have hzz : H tz = some (.tup [.int z.1, .int z.2]) := hzz
        have ex : x = .ref tz := by
          rw [List.getElem?_drop, List.getElem?_map, ez] at hx
          exact (Option.some.inj hx).symm
        subst ex
        refine ⟨rfl, ?_⟩
        refine ⟨_, rfl, _, rfl, tz, _, _, _, rfl, rfl, SqT.of ((s2.trans p.1) _ _ hzz), it_at hk z, _, rfl, _, rfl, t0, _, _, _, rfl, rfl, SqT.of ((s2.trans p.1) _ _ h0), it_at hk p0, _, _, rfl, rfl, _, p.2, ?_, p.step hD2 Same.me ?_⟩
        · rw [List.length_map, List.length_take]
          refine small1000 (Nat.le_trans (Nat.min_le_right _ _) ?_)
          simp only [sk, List.length_map, List.length_drop, List.length_cons] at l7 ⊢
          omega
        · have es : (sk k (p0 :: pz))[i]? = some (it k z - it k p0) := by
            show (List.map _ pz)[i]? = _
            rw [List.getElem?_map, hz]
            rfl
          rw [take_more es, List.map_append]
          rfl
      · have el : ((ts.map V.ref).drop 1).length = (sk k (p0 :: pz)).length := by
          simp only [sk, List.length_map, List.length_drop, List.length_cons] at lt ⊢
          omega
        rw [el, List.take_length] at p
        obtain ⟨s3, hD3⟩ := p
        refine ⟨D2, _, rfl, .inl ⟨SqL.of hD3, fun r nr => ?_⟩⟩
        have s4 := s3.trans (same_new (o := .tup ((sk k (p0 :: pz)).map V.int)) nr)
        have s5 := sc.trans s4
        have hd5 := s5 _ _ hd
        refine ⟨_, hd5, by rw [List.length_map]; exact small1000 (by omega), fun b o e => ?_, rs ++ [r], by simp [lr], ?_, fun j u e => ?_⟩
        · rw [upd_ne (ne_of_none e hD)]
          exact s5 _ _ (s1 _ _ e)
        · rw [upd_same, List.map_append]
          rfl
        · have nuD : ∀ {u : Addr} {ys : List V}, (upd H' r (.tup ((sk k (p0 :: pz)).map V.int))) u = some (.tup ys) → u ≠ D := fun h => L2.ne_of h hd5 (by intro z; cases z)
          by_cases hj : j < rs.length
          · rw [List.getElem?_append_left hj] at e
            have e2 := s5 _ _ (hr j u e)
            rw [upd_ne (nuD e2)]
            exact e2
          · have hj2 : j = rs.length := by
              rcases Nat.lt_or_ge j (rs ++ [r]).length with h | h
              · simp at h
                omega
              · rw [List.getElem?_eq_none h] at e
                cases e
            subst hj2
            rw [List.getElem?_append_right (Nat.le_refl _), Nat.sub_self] at e
            have eu : r = u := Option.some.inj e
            subst eu
            rw [upd_ne (nuD upd_same), lr]
            exact upd_same
    · obtain ⟨s1, rs, lr, hd, hr⟩ := pk
      obtain ⟨r0, r1, rfl⟩ : ∃ r0 r1, rs = [r0, r1] := by
        match rs, lr with
        | [a, b], _ => exact ⟨a, b, rfl⟩
      refine ⟨D, _, rfl, .inl ⟨SqL.of hd, fun u nu => ?_⟩⟩
      have s2 := same_new (o := .tup ([r0, r1].map V.ref)) nu
      exact q _ u r0 r1 (s1.trans s2) upd_same (s2 _ _ (hr 0 r0 rfl)) (s2 _ _ (hr 1 r1 rfl))
end
end K11

namespace K11
open PySem PySem.Spec PyProof.Rows L2
def crs (xs ys : List Int) (i j : Nat) : Int := xs.getD i 0 * ys.getD j 0 - ys.getD i 0 * xs.getD j 0
/-- all pins on one line -/
def thin (xs ys : List Int) : Prop := ∀ i j, i < j → j < xs.length → crs xs ys i j = 0
theorem cross_zero {x y a b c d : Int} (hxy : x ≠ 0 ∨ y ≠ 0) (h1 : x * b - y * a = 0) (h2 : x * d - y * c = 0) : a * d - b * c = 0 := by
  have e1 : x * b = y * a := by omega
  have e2 : x * d = y * c := by omega
  rcases hxy with h | h
  · have : x * (a * d - b * c) = 0 := by
      have : x * (a * d - b * c) = a * (x * d) - (x * b) * c := by grind
      rw [this, e1, e2]
      grind
    rcases Int.mul_eq_zero.mp this with z | z
    · exact absurd z h
    · exact z
  · have : y * (a * d - b * c) = 0 := by
      have : y * (a * d - b * c) = (y * a) * d - b * (y * c) := by grind
      rw [this, ← e1, ← e2]
      grind
    rcases Int.mul_eq_zero.mp this with z | z
    · exact absurd z h
    · exact z
theorem thin_all {xs ys : List Int} (h : ∀ i, i < xs.length → xs.getD i 0 = 0 ∧ ys.getD i 0 = 0) : thin xs ys := fun i j hij hj => by
  unfold crs
  rw [(h i (by omega)).1, (h i (by omega)).2]
  omega
theorem thin_one {xs ys : List Int} {a : Nat} (ha : a < xs.length) (hz : ∀ i, i < a → xs.getD i 0 = 0 ∧ ys.getD i 0 = 0) (hn : xs.getD a 0 ≠ 0 ∨ ys.getD a 0 ≠ 0) (hm : ∀ j, a < j → j < xs.length → crs xs ys a j = 0) : thin xs ys := fun i j hij hj => by
  rcases Nat.lt_trichotomy i a with h | h | h
  · unfold crs
    rw [(hz i h).1, (hz i h).2]
    omega
  · rw [h]
    exact hm j (by omega) hj
  · have h1 := hm i h (by omega)
    have h2 := hm j (by omega) hj
    unfold crs at h1 h2 ⊢
    have z := cross_zero (x := xs.getD a 0) (y := ys.getD a 0) (a := xs.getD i 0) (b := ys.getD i 0) (c := xs.getD j 0) (d := ys.getD j 0) hn h1 h2
    exact z
theorem ints_at {ns : List Int} {i : Nat} (h : i < ns.length) : atI (ns.map V.int) (i : Int) = some (.int (ns.getD i 0)) := atI_nat (by rw [List.getElem?_map, List.getElem?_eq_getElem h, List.getD_eq_getElem?_getD, List.getElem?_eq_getElem h]; rfl)
def Bd (ns : List Int) : Prop := ∀ n ∈ ns, -(2 ^ 40) < n ∧ n < 2 ^ 40
theorem Bd.get {ns : List Int} (h : Bd ns) (i : Nat) : -(2 ^ 40) < ns.getD i 0 ∧ ns.getD i 0 < 2 ^ 40 := by
  rw [List.getD_eq_getElem?_getD]
  cases e : ns[i]? with
  | none => exact ⟨by decide, by decide⟩
  | some n => exact h n (List.mem_of_getElem? e)
section
variable {P : Program} {w : World} {K : PySem.W.Frag} {mg : Str → Option Value} {base : Heap}
/-! ### first_minor -/
def spMinor : Sp := fun vs H Q _ => ∃ (u v : Addr) (xs ys : List Int), vs = [.ref u, .ref v] ∧ H u = some (.tup (xs.map V.int)) ∧ H v = some (.tup (ys.map V.int)) ∧ ys.length = xs.length ∧ xs.length ≤ 7 ∧ Bd xs ∧ Bd ys ∧
  (thin xs ys → ∀ H', Same H H' → Q .non H') ∧ (¬ thin xs ys → ∀ H' t zs, Same H H' → H' t = some (.tup zs) → Q (.ref t) H')
abbrev sMinor : Stmt := top 21
abbrev nMinor : List Str := ["one", "other", "size", "a", "x", "y", "b", "minor"]
theorem scMinor : FnScope nMinor ["one", "other"] (defScope sMinor) := ⟨rfl, rfl, rfl, by decide +kernel, rfl, by decide +kernel, by decide +kernel⟩
theorem ok_minor {f : Addr} {fd : FuncData} (F : Fun K "first_minor" "first_minor" sMinor f fd) (B : Bn mg) : FnOk P w K mg base CX0 1 f fd ["one", "other"] spMinor := by
  have nd := scMinor.nd
  refine F.ok scMinor (fun vs H Q E h => ?_) (fun cdv A outer s H vs Q E hr h => ?_)
  · obtain ⟨u, v, xs, ys, rfl, _⟩ := h
    rfl
  · obtain ⟨u, v, xs, ys, rfl, hu, hv, ly, l7, bx, by', qy, qn⟩ := h
    refine ⟨_, (pss_cons ((ps_set (i := 2) nd rfl (Or.inl rfl) ((pe_callB call_len_seq (by rfl) B.len PySem.boot_len (pa_cons (pv 0) pa_nil))))) (pss_cons (ps_for PassesOwn.never rfl (pi_range1 rfl B.range (pa_cons (pv 2) pa_nil)) (pg_name (i := 3) nd rfl (Or.inl rfl)) (pss_cons (ps_par (i := 4) (j := 5) rfl nd rfl rfl (by decide) rfl rfl (pa_cons ((pe_ix ix_tup (pv 0) (pv 3) (fun _ _ => rfl))) (pa_cons ((pe_ix ix_tup (pv 1) (pv 3) (fun _ _ => rfl))) pa_nil)) (by rfl)) (pss_one (ps_if (PW.pt (pw_or ((pt_cmpR op_ne (pv 4) (pe_int) (nomark _))) (pw_or1 ((pt_cmpR op_ne (pv 5) (pe_int) (nomark _)))))) (pss_cons (ps_for PassesOwn.never rfl (pi_range2 (by rfl) B.range (pa_cons (pe_op op_add (pv 3) pe_int) (pa_cons (pv 2) pa_nil))) (pg_name (i := 6) nd rfl (Or.inl rfl)) (pss_cons ((ps_set (i := 7) nd rfl (Or.inl rfl) (pe_op op_sub (pe_op op_mul (pv 4) (pe_ix ix_tup (pv 1) (pv 6) (fun _ _ => rfl))) (pe_op op_mul (pv 5) (pe_ix ix_tup (pv 0) (pv 6) (fun _ _ => rfl)))))) (pss_one (ps_if (pt_cmpR op_ne (pv 7) (pe_int) (nomark _)) (pss_one (ps_ret (pe_tup (pa_cons (pv 3) (pa_cons (pv 6) (pa_cons (pv 7) pa_nil)))))) pss_nil)))) (pss_one (ps_ret pe_non))) pss_nil)))) (pss_one (ps_ret pe_non)))), ?_⟩
    refine ⟨_, rfl, u, _, rfl, .inr (SqT.of hu), ?_⟩
    have ln : (xs.map V.int).length = xs.length := List.length_map _
    rw [ln]
    refine ⟨_, rfl, (xs.length : Int), rfl, by omega, by omega, ?_⟩
    rw [Int.toNat_natCast]
    refine for_range (lo := 0) (n := xs.length) (fun a σ H' => H' = H ∧ (∀ i, i < a → xs.getD i 0 = 0 ∧ ys.getD i 0 = 0) ∧ ∃ c1 c2 c3 c4 c5, σ = [some (.ref u), some (.ref v), some (.int xs.length), c1, c2, c3, c4, c5]) ⟨rfl, fun i h => absurd h (Nat.not_lt_zero i), _, _, _, _, _, rfl⟩ (fun a σ H' ha p => ?_) (fun σ H' p => ?_)
    · obtain ⟨rfl, hz, c1, c2, c3, c4, c5, rfl⟩ := p
      have z0 : (0 : Int) + (a : Int) = (a : Int) := by omega
      rw [z0]
      refine ⟨_, rfl, _, rfl, u, _, _, _, rfl, rfl, SqT.of hu, ints_at ha, _, rfl, _, rfl, v, _, _, _, rfl, rfl, SqT.of hv, ints_at (by omega), _, _, rfl, ?_⟩
      obtain ⟨X, hX⟩ : ∃ X, X = xs.getD a 0 := ⟨_, rfl⟩
      obtain ⟨Y, hY⟩ : ∃ Y, Y = ys.getD a 0 := ⟨_, rfl⟩
      have bX := bx.get a
      have bY := by'.get a
      rw [← hX] at bX ⊢
      rw [← hY] at bY ⊢
      refine ⟨_, rfl, rfl, _, rfl, ?_⟩
      by_cases hx : X = 0
      · rw [decide_eq_true (show V.int X = V.int 0 by rw [hx])]
        refine iteF ⟨_, rfl, rfl, _, rfl, ?_⟩
        by_cases hy : Y = 0
        · rw [decide_eq_true (show V.int Y = V.int 0 by rw [hy])]
          refine iteF ⟨rfl, fun i h => ?_, _, _, _, _, _, rfl⟩
          rcases Nat.lt_or_ge i a with h1 | h1
          · exact hz i h1
          · rw [show i = a by omega, ← hX, ← hY]
            exact ⟨hx, hy⟩
        · have hn : X ≠ 0 ∨ Y ≠ 0 := .inr hy
          rw [decide_eq_false (fun z => hy (V.int.inj z))]
          refine iteT ?_
          refine ⟨_, rfl, _, _, rfl, rfl, _, rfl, (a : Int) + 1, (xs.length : Int), rfl, ⟨by omega, by omega, by omega, by omega⟩, ?_⟩
          have en : ((xs.length : Int) - ((a : Int) + 1)).toNat = xs.length - (a + 1) := by omega
          rw [en]
          refine for_range (lo := (a : Int) + 1) (n := xs.length - (a + 1)) (fun b σ H2 => H2 = H' ∧ (∀ j, a < j → j < a + 1 + b → crs xs ys a j = 0) ∧ ∃ d6 d7, σ = [some (.ref u), some (.ref v), some (.int xs.length), some (.int a), some (.int X), some (.int Y), d6, d7]) ⟨rfl, fun j h1 h2 => absurd h2 (by omega), _, _, rfl⟩ (fun b σ H2 hb p => ?_) (fun σ H2 p => ?_)
          · obtain ⟨rfl, hm, d6, d7, rfl⟩ := p
            have zb : (a : Int) + 1 + (b : Int) = ((a + 1 + b : Nat) : Int) := by omega
            rw [zb]
            have hb2 : a + 1 + b < xs.length := by omega
            refine ⟨_, rfl, _, rfl, _, rfl, v, _, _, _, rfl, rfl, SqT.of hv, ints_at (by omega), _, _, rfl, rfl, .inl ⟨by omega, by omega⟩, _, rfl, _, rfl, _, rfl, u, _, _, _, rfl, rfl, SqT.of hu, ints_at hb2, _, _, rfl, rfl, .inl ⟨by omega, by omega⟩, _, _, rfl, rfl, ?_⟩
            have ec : X * ys.getD (a + 1 + b) 0 - Y * xs.getD (a + 1 + b) 0 = crs xs ys a (a + 1 + b) := by
              unfold crs
              rw [← hX, ← hY]
            refine ⟨_, rfl, rfl, _, rfl, ?_⟩
            by_cases hc : crs xs ys a (a + 1 + b) = 0
            · rw [decide_eq_true (show V.int (X * ys.getD (a + 1 + b) 0 - Y * xs.getD (a + 1 + b) 0) = V.int 0 by rw [ec, hc])]
              refine iteF ⟨rfl, fun j h1 h2 => ?_, _, _, rfl⟩
              rcases Nat.lt_or_ge j (a + 1 + b) with h | h
              · exact hm j h1 h
              · rw [show j = a + 1 + b by omega]
                exact hc
            · rw [decide_eq_false (fun z => hc (ec ▸ V.int.inj z))]
              refine iteT ⟨_, rfl, _, rfl, _, rfl, by show 3 ≤ sizeLine; decide, fun t ht => ?_⟩
              exact qn (fun th => hc (th a (a + 1 + b) (by omega) hb2)) _ t _ (same_new ht) upd_same
          · obtain ⟨rfl, hm, d6, d7, rfl⟩ := p
            exact qy (thin_one ha hz (by rw [← hX, ← hY]; exact hn) (fun j h1 h2 => hm j h1 (by omega))) _ Same.me
      · have hn : X ≠ 0 ∨ Y ≠ 0 := .inl hx
        rw [decide_eq_false (fun z => hx (V.int.inj z))]
        refine iteT ?_
        refine ⟨_, rfl, _, _, rfl, rfl, _, rfl, (a : Int) + 1, (xs.length : Int), rfl, ⟨by omega, by omega, by omega, by omega⟩, ?_⟩
        have en : ((xs.length : Int) - ((a : Int) + 1)).toNat = xs.length - (a + 1) := by omega
        rw [en]
        refine for_range (lo := (a : Int) + 1) (n := xs.length - (a + 1)) (fun b σ H2 => H2 = H' ∧ (∀ j, a < j → j < a + 1 + b → crs xs ys a j = 0) ∧ ∃ d6 d7, σ = [some (.ref u), some (.ref v), some (.int xs.length), some (.int a), some (.int X), some (.int Y), d6, d7]) ⟨rfl, fun j h1 h2 => absurd h2 (by omega), _, _, rfl⟩ (fun b σ H2 hb p => ?_) (fun σ H2 p => ?_)
        · obtain ⟨rfl, hm, d6, d7, rfl⟩ := p
          have zb : (a : Int) + 1 + (b : Int) = ((a + 1 + b : Nat) : Int) := by omega
          rw [zb]
          have hb2 : a + 1 + b < xs.length := by omega
          refine ⟨_, rfl, _, rfl, _, rfl, v, _, _, _, rfl, rfl, SqT.of hv, ints_at (by omega), _, _, rfl, rfl, .inl ⟨by omega, by omega⟩, _, rfl, _, rfl, _, rfl, u, _, _, _, rfl, rfl, SqT.of hu, ints_at hb2, _, _, rfl, rfl, .inl ⟨by omega, by omega⟩, _, _, rfl, rfl, ?_⟩
          have ec : X * ys.getD (a + 1 + b) 0 - Y * xs.getD (a + 1 + b) 0 = crs xs ys a (a + 1 + b) := by
            unfold crs
            rw [← hX, ← hY]
          refine ⟨_, rfl, rfl, _, rfl, ?_⟩
          by_cases hc : crs xs ys a (a + 1 + b) = 0
          · rw [decide_eq_true (show V.int (X * ys.getD (a + 1 + b) 0 - Y * xs.getD (a + 1 + b) 0) = V.int 0 by rw [ec, hc])]
            refine iteF ⟨rfl, fun j h1 h2 => ?_, _, _, rfl⟩
            rcases Nat.lt_or_ge j (a + 1 + b) with h | h
            · exact hm j h1 h
            · rw [show j = a + 1 + b by omega]
              exact hc
          · rw [decide_eq_false (fun z => hc (ec ▸ V.int.inj z))]
            refine iteT ⟨_, rfl, _, rfl, _, rfl, by show 3 ≤ sizeLine; decide, fun t ht => ?_⟩
            exact qn (fun th => hc (th a (a + 1 + b) (by omega) hb2)) _ t _ (same_new ht) upd_same
        · obtain ⟨rfl, hm, d6, d7, rfl⟩ := p
          exact qy (thin_one ha hz (by rw [← hX, ← hY]; exact hn) (fun j h1 h2 => hm j h1 (by omega))) _ Same.me
    · obtain ⟨rfl, hz, c1, c2, c3, c4, c5, rfl⟩ := p
      exact qy (thin_all hz) _ Same.me
end
end K11

namespace K11
open PySem PySem.Spec PyProof.Rows L2
/-- what the products have in row i and column j -/
def pg (xs ys : List Int) (i j : Nat) : Int := xs.getD i 0 * xs.getD j 0 + ys.getD i 0 * ys.getD j 0
theorem pg_sym (xs ys : List Int) (i j : Nat) : pg xs ys i j = pg xs ys j i := by
  unfold pg
  rw [Int.mul_comm (xs.getD i 0), Int.mul_comm (ys.getD i 0)]
def mrow (m : Nat → Nat → Int) (n i : Nat) : List Int := (List.range n).map (m i)
def MatL (fs : List Addr) (m : Nat → Nat → Int) (n : Nat) (H : Hp) : Prop := ∀ (j : Nat) (f : Addr), fs[j]? = some f → H f = some (.lst ((mrow m n j).map V.int))
def MatT (H : Hp) (t : Addr) (m : Nat → Nat → Int) (n : Nat) : Prop := ∃ rs : List Addr, rs.length = n ∧ H t = some (.tup (rs.map V.ref)) ∧ ∀ (j : Nat) (r : Addr), rs[j]? = some r → H r = some (.tup ((mrow m n j).map V.int))
def put (m : Nat → Nat → Int) (a b : Nat) (v : Int) : Nat → Nat → Int := fun i j => if i = a ∧ j = b then v else m i j
theorem mrow_len (m : Nat → Nat → Int) (n i : Nat) : (mrow m n i).length = n := by
  unfold mrow
  rw [List.length_map, List.length_range]
theorem mrow_set {m : Nat → Nat → Int} {n a b : Nat} {v : Int} (hb : b < n) : ((mrow m n a).map V.int).set b (.int v) = (mrow (put m a b v) n a).map V.int := by
  apply List.ext_getElem?
  intro j
  unfold mrow
  rw [List.getElem?_set]
  by_cases hj : b = j
  · subst hj
    rw [if_pos rfl, if_pos (by simp [hb])]
    rw [List.getElem?_map, List.getElem?_map, List.getElem?_range hb]
    simp [put]
  · rw [if_neg hj]
    rw [List.getElem?_map, List.getElem?_map, List.getElem?_map, List.getElem?_map]
    cases e : (List.range n)[j]? with
    | none => rfl
    | some k =>
      have : k = j := by
        have h : j < n := by
          rcases Nat.lt_or_ge j n with h | h
          · exact h
          · rw [List.getElem?_eq_none (by rw [List.length_range]; exact h)] at e
            cases e
        rw [List.getElem?_range h] at e
        exact (Option.some.inj e).symm
      subst this
      simp [put, show ¬ k = b from fun z => hj z.symm]
theorem mrow_put {m : Nat → Nat → Int} {n a b i : Nat} {v : Int} (h : i ≠ a) : mrow (put m a b v) n i = mrow m n i := by
  unfold mrow
  refine List.map_congr_left fun j _ => ?_
  unfold put
  rw [if_neg (fun z => h z.1)]
theorem nodup_at {fs : List Addr} (nd : fs.Nodup) {i j : Nat} {f : Addr} (h1 : fs[i]? = some f) (h2 : fs[j]? = some f) : i = j := by
  have a : i < fs.length := by
    rcases Nat.lt_or_ge i fs.length with h | h
    · exact h
    · rw [List.getElem?_eq_none h] at h1
      cases h1
  exact (List.getElem?_inj a nd).mp (h1.trans h2.symm)
theorem MatL.put {fs : List Addr} {m : Nat → Nat → Int} {n a b : Nat} {H : Hp} {f : Addr} {v : Int} (M : MatL fs m n H) (nd : fs.Nodup) (hf : fs[a]? = some f) (hb : b < n) :
    MatL fs (K11.put m a b v) n (upd H f (.lst (((mrow m n a).map V.int).set b (.int v)))) := fun j g hg => by
  by_cases e : g = f
  · subst e
    have : j = a := nodup_at nd hg hf
    subst this
    rw [upd_same, mrow_set hb]
  · have ne : j ≠ a := fun z => e (by rw [z, hf] at hg; exact (Option.some.inj hg).symm)
    rw [upd_ne e, mrow_put ne]
    exact M j g hg
theorem mrow_congr {m m' : Nat → Nat → Int} {n i : Nat} (h : ∀ j, j < n → m i j = m' i j) : mrow m n i = mrow m' n i := by
  unfold mrow
  exact List.map_congr_left fun j hj => h j (List.mem_range.mp hj)
theorem zeros (n : Nat) : (List.replicate n [V.int 0]).flatten = ((mrow (fun _ _ => 0) n 0).map V.int) := by
  unfold mrow
  induction n with
  | zero => rfl
  | succ n ih =>
    rw [List.replicate_succ', List.flatten_append, ih, List.range_succ, List.map_append, List.map_append]
    rfl
theorem ixN_nat {n j : Nat} (h : j < n) : ixN n (j : Int) = some j := by
  unfold ixN
  first
    | (rw [if_neg (by omega), if_pos (by omega)]; simp)
    | (simp; omega)
    | (split <;> simp_all <;> omega)
end K11

namespace K11
open PySem PySem.Spec PyProof.Rows L2
section
variable {P : Program} {w : World} {K : PySem.W.Frag} {mg : Str → Option Value} {base : Heap}
/-- two rows of as many numbers, in a tuple -/
def Two (H : Hp) (u : Addr) (xs ys : List Int) : Prop := ∃ r0 r1, H u = some (.tup [.ref r0, .ref r1]) ∧ H r0 = some (.tup (xs.map V.int)) ∧ H r1 = some (.tup (ys.map V.int))
theorem Two.same {H H' : Hp} {u : Addr} {xs ys : List Int} (h : Two H u xs ys) (s : Same H H') : Two H' u xs ys := let ⟨r0, r1, a, b, c⟩ := h; ⟨r0, r1, s _ _ a, s _ _ b, s _ _ c⟩
/-! ### products_of -/
def spProd : Sp := fun vs H Q _ => ∃ (u : Addr) (xs ys : List Int), vs = [.ref u] ∧ Two H u xs ys ∧ ys.length = xs.length ∧ 1 ≤ xs.length ∧ xs.length ≤ 7 ∧ Bd xs ∧ Bd ys ∧
  ∀ H' t, Same H H' → MatT H' t (pg xs ys) xs.length → Q (.ref t) H'
abbrev sProd : Stmt := top 23
abbrev nProd : List Str := ["rows", "width", "found", "a", "b", "told", "_", "row"]
theorem scProd : FnScope nProd ["rows"] (defScope sProd) := ⟨rfl, rfl, rfl, by decide +kernel, rfl, by decide +kernel, by decide +kernel⟩
theorem ok_prod {f : Addr} {fd : FuncData} (F : Fun K "products_of" "products_of" sProd f fd) (B : Bn mg) : FnOk P w K mg base CX0 1 f fd ["rows"] spProd := by
  have nd := scProd.nd
  refine F.ok scProd (fun vs H Q E h => ?_) (fun cdv A outer s H vs Q E hr h => ?_)
  · obtain ⟨u, xs, ys, rfl, _⟩ := h
    rfl
  · obtain ⟨u, xs, ys, rfl, ⟨r0, r1, hu, h0, h1⟩, ly, l1, l7, bx, by', q⟩ := h
    refine ⟨_, (pss_cons (ps_set (i := 1) nd rfl (Or.inr rfl) (pe_callB call_len_seq (by rfl) B.len PySem.boot_len (pa_cons ((pe_ix ix_tup (pv 0) (pe_int) (fun _ _ => rfl))) pa_nil))) (pss_cons (ps_setLc (i := 2) (own := [("_", 6)]) (g := gName 6) (tt := tYes) rfl nd rfl rfl (sw_true rfl rfl rfl (by decide +kernel)) (pi_range1 rfl B.range (pa_cons (pv 1) pa_nil)) (blkOk_by (N := nProd) (sc := defScope sProd) (by decide +kernel)) (fun _ _ _ _ _ => pg_name (i := 6) nd rfl (Or.inl rfl)) (fun _ _ _ _ _ => pts_nil) (fun _ _ _ _ _ => pe_op op_rep (pe_lst (pa_cons (pe_int) pa_nil)) (pv 1))) (pss_cons (ps_for PassesOwn.never rfl (pi_range1 rfl B.range (pa_cons (pv 1) pa_nil)) (pg_name (i := 3) nd rfl (Or.inr rfl)) (pss_one (ps_for PassesOwn.never rfl (pi_range1 rfl B.range (pa_cons (pe_op op_add (pv 3) pe_int) pa_nil)) (pg_name (i := 4) nd rfl (Or.inr rfl)) (pss_cons ((ps_set (i := 5) nd rfl (Or.inl rfl) (pe_callB (cr_sum rfl) (by rfl) B.sum (by decide +kernel) (pa_cons (pe_lc (own := [("row", 7)]) (g := gName 7) (tt := tYes) rfl nd (pi_tup (pv 0)) (blkOk_by (N := nProd) (sc := defScope sProd) (by decide +kernel)) (fun _ _ _ _ _ => pg_name (i := 7) nd rfl (Or.inl rfl)) (fun _ _ _ _ _ => pts_nil) (fun _ _ _ _ _ => pe_op op_mul (pe_ix (r := rIxT K) ix_tupK (pv 7) (pv 3) (fun _ _ => rfl)) (pe_ix (r := rIxT K) ix_tupK (pv 7) (pv 4) (fun _ _ => rfl)))) pa_nil)))) (pss_cons (ps_asg (pv 5) (pg_sub (pe_ix ix_list (pv 2) (pv 3) (fun _ _ => rfl)) (pv 4) set_list)) (pss_one (ps_asg (pv 5) (pg_sub (pe_ix ix_list (pv 2) (pv 4) (fun _ _ => rfl)) (pv 3) set_list)))))))) (pss_one (ps_ret (pe_callTy (T := "tuple") (r := rTu K) call_tuK (by rfl) B.tuple (by decide +kernel) (pa_cons (pe_lc (own := [("row", 7)]) (g := gName 7) (tt := tYes) rfl nd (pi_list (pv 2)) (blkOk_by (N := nProd) (sc := defScope sProd) (by decide +kernel)) (fun _ _ _ _ _ => pg_name (i := 7) nd rfl (Or.inl rfl)) (fun _ _ _ _ _ => pts_nil) (fun _ _ _ _ _ => (pe_callTy (T := "tuple") (r := rTu K) call_tuK (by rfl) B.tuple (by decide +kernel) (pa_cons (pv 7) pa_nil)))) pa_nil))))))), ?_⟩
    obtain ⟨n, hn⟩ : ∃ n, n = xs.length := ⟨_, rfl⟩
    refine ⟨_, rfl, u, _, 0, .ref r0, rfl, rfl, SqT.of hu, rfl, r0, _, rfl, .inr (SqT.of h0), ?_⟩
    rw [List.length_map, ← hn]
    rw [← hn] at l1 l7 ly
    refine ⟨_, rfl, (n : Int), rfl, by omega, by omega, fun D hD => ?_⟩
    rw [Int.toNat_natCast]
    refine lc_range (lo := 0) (n := n) (fun i H' => Same H H' ∧ ∃ fs : List Addr, fs.length = i ∧ H' D = some (.lst (fs.map V.ref)) ∧ fs.Nodup ∧ (∀ f ∈ fs, f ≠ D ∧ H f = none) ∧ MatL fs (fun _ _ => 0) n H') ⟨same_new hD, [], rfl, upd_same, List.nodup_nil, fun f h => absurd h List.not_mem_nil, fun j f e => by simp at e⟩ (fun i H1 hi pk => ?_) (fun H1 pk => ?_)
    · obtain ⟨s1, fs, lf, hd, ndf, nf, M⟩ := pk
      refine ⟨rfl, ?_⟩
      refine ⟨by show 1 ≤ sizeLine; decide, fun l hl => ?_⟩
      have s2 := same_new (o := .lst [V.int 0]) hl
      refine ⟨_, rfl, l, (n : Int), _, rfl, rfl, upd_same, by omega, by omega, by show 1 * (n : Int).toNat ≤ sizeLine; rw [Int.toNat_natCast, Nat.one_mul]; exact Nat.le_of_lt (small1000 (by omega)), fun g hg => ?_⟩
      rw [Int.toNat_natCast, zeros]
      have s3 := s2.trans (same_new (o := .lst ((mrow (fun _ _ => 0) n 0).map V.int)) hg)
      have hg1 : H1 g = none := s2.free hg
      have wg : (upd (upd H1 l (.lst [V.int 0])) g (.lst ((mrow (fun _ _ => 0) n 0).map V.int))) g = some (.lst ((mrow (fun _ _ => 0) n 0).map V.int)) := upd_same
      generalize upd (upd H1 l (.lst [V.int 0])) g (.lst ((mrow (fun _ _ => 0) n 0).map V.int)) = H3 at s3 wg ⊢
      have gD : g ≠ D := (ne_of_none hd hg1).symm
      refine ⟨_, s3 _ _ hd, by rw [List.length_map]; exact small1000 (by omega), fun b o e => ?_, fs ++ [g], by simp [lf], ?_, ?_, fun f hf => ?_, fun j f e => ?_⟩
      · rw [upd_ne (ne_of_none e hD)]
        exact s3 _ _ (s1 _ _ e)
      · rw [upd_same, List.map_append]
        rfl
      · rw [List.nodup_append]
        refine ⟨ndf, by simp, fun a ha b hb => ?_⟩
        rw [List.mem_singleton.mp hb]
        obtain ⟨j, e⟩ := List.getElem?_of_mem ha
        exact ne_of_none (M j a e) hg1
      · rcases List.mem_append.mp hf with h | h
        · exact nf f h
        · rw [List.mem_singleton.mp h]
          exact ⟨gD, s1.free hg1⟩
      · have fD : f ≠ D := by
          rcases List.mem_append.mp (List.mem_of_getElem? e) with h | h
          · exact (nf f h).1
          · rw [List.mem_singleton.mp h]
            exact gD
        rw [upd_ne fD]
        by_cases hj : j < fs.length
        · rw [List.getElem?_append_left hj] at e
          exact s3 _ _ (M j f e)
        · have hj2 : j = fs.length := by
            rcases Nat.lt_or_ge j (fs ++ [g]).length with h | h
            · simp at h
              omega
            · rw [List.getElem?_eq_none h] at e
              cases e
          subst hj2
          rw [List.getElem?_append_right (Nat.le_refl _), Nat.sub_self] at e
          have eu : g = f := Option.some.inj e
          subst eu
          exact wg
    · obtain ⟨s1, fs, lf, hd, ndf, nf, M⟩ := pk
      refine ⟨_, rfl, (n : Int), rfl, by omega, by omega, ?_⟩
      rw [Int.toNat_natCast]
      refine for_range (lo := 0) (n := n) (fun a σ H2 => Same H H2 ∧ H2 D = some (.lst (fs.map V.ref)) ∧ (∃ m, MatL fs m n H2 ∧ ∀ i j, i < a → j < a → m i j = pg xs ys i j) ∧ ∃ c3 c4 c5 c6 c7, σ = [some (.ref u), some (.int n), some (.ref D), c3, c4, c5, c6, c7])
        ⟨s1, hd, ⟨_, M, fun i j h => absurd h (Nat.not_lt_zero i)⟩, _, _, _, _, _, rfl⟩ (fun a σ H2 ha p => ?_) (fun σ H2 p => ?_)
      · obtain ⟨s2, hd2, ⟨m, M2, g2⟩, c3, c4, c5, c6, c7, rfl⟩ := p
        have z0 : (0 : Int) + (a : Int) = (a : Int) := by omega
        rw [z0]
        refine ⟨_, rfl, _, _, rfl, rfl, (a : Int) + 1, rfl, by omega, by omega, ?_⟩
        have en : ((a : Int) + 1).toNat = a + 1 := by omega
        rw [en]
        refine for_range (lo := 0) (n := a + 1) (fun b σ H3 => Same H H3 ∧ H3 D = some (.lst (fs.map V.ref)) ∧ (∃ m, MatL fs m n H3 ∧ (∀ i j, i < a → j < a → m i j = pg xs ys i j) ∧ ∀ j, j < b → m a j = pg xs ys a j ∧ m j a = pg xs ys j a) ∧ ∃ d4 d5 d6 d7, σ = [some (.ref u), some (.int n), some (.ref D), some (.int a), d4, d5, d6, d7])
          ⟨s2, hd2, ⟨m, M2, g2, fun j h => absurd h (Nat.not_lt_zero j)⟩, _, _, _, _, rfl⟩ (fun b σ H3 hb p => ?_) (fun σ H3 p => ?_)
        · obtain ⟨s3, hd3, ⟨m, M3, g3, k3⟩, d4, d5, d6, d7, rfl⟩ := p
          have zb : (0 : Int) + (b : Int) = (b : Int) := by omega
          rw [zb]
          refine ⟨_, rfl, u, rfl, ⟨_, SqT.of (s3 _ _ hu)⟩, fun L hL => ?_⟩
          refine lc_tup (K := K) (a := u) (xs := [.ref r0, .ref r1]) (fun i => At H3 L (([xs.getD a 0 * xs.getD b 0, ys.getD a 0 * ys.getD b 0].take i).map V.int)) ⟨same_new hL, upd_same⟩ (fun i H' _ p => SqT.of (p.1 _ _ (s3 _ _ hu))) (fun i x H' hx p => ?_) (fun H' p => ?_)
          · refine ⟨rfl, ?_⟩
            match i, hx with
            | 0, hx =>
              have ex : V.ref r0 = x := Option.some.inj hx
              subst ex
              refine ⟨_, rfl, _, rfl, r0, _, _, _, rfl, rfl, SqT.of (p.1 _ _ (s3 _ _ h0)), ints_at (by omega), _, rfl, _, rfl, r0, _, _, _, rfl, rfl, SqT.of (p.1 _ _ (s3 _ _ h0)), ints_at (by omega), _, _, rfl, rfl, .inl ?_, _, p.2, by show 0 < sizeLine; decide, p.step hL Same.me rfl⟩
              have := bx.get a
              exact ⟨by omega, by omega⟩
            | 1, hx =>
              have ex : V.ref r1 = x := Option.some.inj hx
              subst ex
              refine ⟨_, rfl, _, rfl, r1, _, _, _, rfl, rfl, SqT.of (p.1 _ _ (s3 _ _ h1)), ints_at (by omega), _, rfl, _, rfl, r1, _, _, _, rfl, rfl, SqT.of (p.1 _ _ (s3 _ _ h1)), ints_at (by omega), _, _, rfl, rfl, .inl ?_, _, p.2, by show 1 < sizeLine; decide, p.step hL Same.me rfl⟩
              have := by'.get a
              exact ⟨by omega, by omega⟩
          · obtain ⟨sL, wL⟩ := p
            refine ⟨L, [xs.getD a 0 * xs.getD b 0, ys.getD a 0 * ys.getD b 0], rfl, SqL.of wL, ?_⟩
            have es : [xs.getD a 0 * xs.getD b 0, ys.getD a 0 * ys.getD b 0].sum = pg xs ys a b := by
              show _ + (_ + 0) = _
              rw [Int.add_zero]
              rfl
            rw [es]
            have M4 : MatL fs m n H' := fun j g e => sL _ _ (M3 j g e)
            have hd4 := sL _ _ hd3
            have s4 := s3.trans sL
            obtain ⟨fa, efa⟩ : ∃ fa, fs[a]? = some fa := ⟨fs[a], List.getElem?_eq_getElem (by omega)⟩
            obtain ⟨fb, efb⟩ : ∃ fb, fs[b]? = some fb := ⟨fs[b], List.getElem?_eq_getElem (by omega)⟩
            have nfa := nf fa (List.mem_of_getElem? efa)
            have nfb := nf fb (List.mem_of_getElem? efb)
            have iat : ∀ {i : Nat} {g : Addr}, fs[i]? = some g → atI (fs.map V.ref) (i : Int) = some (.ref g) := fun e => atI_nat (by rw [List.getElem?_map, e]; rfl)
            refine ⟨_, rfl, _, rfl, _, rfl, D, _, _, _, rfl, rfl, SqL.of hd4, iat efa, _, rfl, fa, _, _, b, rfl, rfl, M4 a fa efa, by rw [List.length_map, mrow_len]; exact ixN_nat (by omega), ?_⟩
            have M5 := M4.put ndf efa (b := b) (v := pg xs ys a b) (by omega)
            have s5 : Same H (upd H' fa (.lst (((mrow m n a).map V.int).set b (.int (pg xs ys a b))))) := fun c o e => by
              rw [upd_ne (ne_of_none e nfa.2)]
              exact s4 _ _ e
            have hd5 : (upd H' fa (.lst (((mrow m n a).map V.int).set b (.int (pg xs ys a b))))) D = some (.lst (fs.map V.ref)) := by
              rw [upd_ne nfa.1.symm]
              exact hd4
            generalize upd H' fa (.lst (((mrow m n a).map V.int).set b (.int (pg xs ys a b)))) = H5 at M5 s5 hd5 ⊢
            refine ⟨_, rfl, _, rfl, _, rfl, D, _, _, _, rfl, rfl, SqL.of hd5, iat efb, _, rfl, fb, _, _, a, rfl, rfl, M5 b fb efb, by rw [List.length_map, mrow_len]; exact ixN_nat ha, ?_⟩
            have M6 := M5.put ndf efb (b := a) (v := pg xs ys a b) ha
            refine ⟨fun c o e => ?_, ?_, ⟨_, M6, fun i j hi hj => ?_, fun j hj => ?_⟩, _, _, _, _, rfl⟩
            · rw [upd_ne (ne_of_none e nfb.2)]
              exact s5 _ _ e
            · rw [upd_ne nfb.1.symm]
              exact hd5
            · unfold put
              rw [if_neg (by omega), if_neg (by omega)]
              exact g3 i j hi hj
            · have hs := pg_sym xs ys a b
              unfold put
              by_cases ej : j = b
              · subst ej
                constructor
                · by_cases eab : a = j
                  · rw [if_pos ⟨eab, eab.symm⟩]
                  · rw [if_neg (fun z => eab z.1), if_pos ⟨rfl, rfl⟩]
                · rw [if_pos ⟨rfl, rfl⟩]
                  exact hs
              · have kj := k3 j (by omega)
                constructor
                · rw [if_neg (by omega), if_neg (by omega)]
                  exact kj.1
                · rw [if_neg (by omega), if_neg (by omega)]
                  exact kj.2
        · obtain ⟨s3, hd3, ⟨m, M3, g3, k3⟩, d4, d5, d6, d7, rfl⟩ := p
          refine ⟨s3, hd3, ⟨m, M3, fun i j hi hj => ?_⟩, _, _, _, _, _, rfl⟩
          by_cases ei : i = a
          · rw [ei]
            exact (k3 j hj).1
          · by_cases ej : j = a
            · rw [ej]
              exact (k3 i hi).2
            · exact g3 i j (by omega) (by omega)
      · obtain ⟨s2, hd2, ⟨m, M2, g2⟩, c3, c4, c5, c6, c7, rfl⟩ := p
        refine ⟨_, rfl, D, rfl, ⟨_, SqL.of hd2⟩, fun L hL => ?_⟩
        refine lc_list (K := K) (a := D) (xs := fs.map V.ref) (fun i H' => Same H2 H' ∧ ∃ rs : List Addr, rs.length = i ∧ H' L = some (.lst (rs.map V.ref)) ∧ ∀ j r, rs[j]? = some r → H' r = some (.tup ((mrow (pg xs ys) n j).map V.int))) ⟨same_new hL, [], rfl, upd_same, fun j r e => by simp at e⟩ (fun i H' _ p => SqL.of (p.1 _ _ hd2)) (fun i x H' hx p => ?_) (fun H' p => ?_)
        · obtain ⟨s3, rs, lr, hL3, hr⟩ := p
          have hi : i < fs.length := by
            rcases Nat.lt_or_ge i fs.length with h | h
            · exact h
            · rw [List.getElem?_eq_none (by rw [List.length_map]; exact h)] at hx
              cases hx
          obtain ⟨g, eg⟩ : ∃ g, fs[i]? = some g := ⟨fs[i], List.getElem?_eq_getElem hi⟩
          have ex : x = .ref g := by
            rw [List.getElem?_map, eg] at hx
            exact (Option.some.inj hx).symm
          subst ex
          refine ⟨rfl, ?_⟩
          refine ⟨_, rfl, g, _, rfl, .inl ⟨SqL.of (s3 _ _ (M2 i g eg)), fun r nr => ?_⟩⟩
          have em : mrow m n i = mrow (pg xs ys) n i := mrow_congr fun j hj => g2 i j (by omega) hj
          rw [em]
          have s4 := same_new (o := .tup ((mrow (pg xs ys) n i).map V.int)) nr
          have wr : upd H' r (.tup ((mrow (pg xs ys) n i).map V.int)) r = some (.tup ((mrow (pg xs ys) n i).map V.int)) := upd_same
          generalize upd H' r (.tup ((mrow (pg xs ys) n i).map V.int)) = H4 at s4 wr ⊢
          have hL4 := s4 _ _ hL3
          refine ⟨_, hL4, by rw [List.length_map]; exact small1000 (by omega), fun b o e => ?_, rs ++ [r], by simp [lr], ?_, fun j v e => ?_⟩
          · rw [upd_ne (ne_of_none e hL)]
            exact s4 _ _ (s3 _ _ e)
          · rw [upd_same, List.map_append]
            rfl
          · have nvL : ∀ {v : Addr} {zs : List V}, H4 v = some (.tup zs) → v ≠ L := fun h => L2.ne_of h hL4 (by intro z; cases z)
            by_cases hj : j < rs.length
            · rw [List.getElem?_append_left hj] at e
              have e2 := s4 _ _ (hr j v e)
              rw [upd_ne (nvL e2)]
              exact e2
            · have hj2 : j = rs.length := by
                rcases Nat.lt_or_ge j (rs ++ [r]).length with h | h
                · simp at h
                  omega
                · rw [List.getElem?_eq_none h] at e
                  cases e
              subst hj2
              rw [List.getElem?_append_right (Nat.le_refl _), Nat.sub_self] at e
              have eu : r = v := Option.some.inj e
              subst eu
              rw [upd_ne (nvL wr), lr]
              exact wr
        · obtain ⟨s3, rs, lr, hL3, hr⟩ := p
          rw [List.length_map, lf] at lr
          refine ⟨L, _, rfl, .inl ⟨SqL.of hL3, fun t nt => ?_⟩⟩
          have s4 := same_new (o := .tup (rs.map V.ref)) nt
          refine q _ t ((s2.trans s3).trans s4) ?_
          rw [← hn]
          exact ⟨rs, lr, upd_same, fun j r e => s4 _ _ (hr j r e)⟩
end
end K11

namespace K11
open PySem PySem.Spec PyProof.Rows L2
/-! ### BadPicture -/
structure BrTxt (K : PySem.W.Frag) (mg : Str → Option Value) (C fI : Addr) : Prop where
  oex : OexC K C
  mgC : mg "BadPicture" = some (.ref C)
  noP : PySem.W.findIn K (.ref C) "part" = some none
  iC : PySem.W.findIn K (.ref C) "__init__" = some (some (.ref fI))
  tI : PySem.W.typeIn K (.ref fI) = some (.type "function")
/-- a BadPicture is raised: its own dict d tells the part -/
def Rz (C : Addr) (z : Str) (H : Hp) (E : XK) : Prop := ∀ d H', Same H H' → H d = none → H' d = some (.xd [(("part" : Str), .str z)]) → E (.ref C) (some d) H'
theorem raised {H H1 : Hp} {C a dx : Addr} {z : Str} {E : XK} (h : Rz C z H E) (s1 : Same H H1) (ha : H1 a = none) (hd : upd H1 a (exo a C none) dx = none) (ne : dx ≠ a) :
    E (.ref C) (some dx) (upd (L2.del (upd (upd (upd H1 a (exo a C none)) dx (exd dx [(("part" : Str), V.str z)])) a (exo a C (some dx))) a) dx (.xd [(("part" : Str), V.str z)])) := by
  have hd1 : H1 dx = none := by
    rw [upd_ne ne] at hd
    exact hd
  refine h dx _ (fun b o e => ?_) (s1.free hd1) upd_same
  have e1 := s1 b o e
  have nb : b ≠ dx := ne_of_none e1 hd1
  have na : b ≠ a := ne_of_none e1 ha
  rw [upd_ne nb, del_ne na, upd_ne na, upd_ne nb, upd_ne na]
  exact e1
theorem RB.same {z : Bool} {H H1 : Hp} {Q : VK} (h : RB z H Q) (s : Same H H1) : RB z H1 Q := fun H' s' => h H' (s.trans s')
/-- all but what stands at a -/
def Kp (a : Addr) (H H' : Hp) : Prop := ∀ b o, b ≠ a → H b = some o → H' b = some o
theorem Kp.of {a : Addr} {H H' : Hp} (s : Same H H') : Kp a H H' := fun b o _ e => s b o e
theorem Kp.trans {a : Addr} {H H1 H2 : Hp} (x : Kp a H H1) (y : Kp a H1 H2) : Kp a H H2 := fun b o n e => y b o n (x b o n e)
theorem Kp.set {a : Addr} {H : Hp} {o : HO} : Kp a H (upd H a o) := fun b u n e => by rw [upd_ne n]; exact e
/-! ### places that are right -/
def OkP (ps : List (Int × Int)) : Prop := 4 ≤ ps.length ∧ ps.length ≤ 7 ∧ ∀ p ∈ ps, -G9 ≤ p.1 ∧ p.1 ≤ G9 ∧ -G9 ≤ p.2 ∧ p.2 ≤ G9
def PlA (H : Hp) (x : V) (p : Int × Int) : Prop := ∃ r, x = .ref r ∧ Sq H r [.int p.1, .int p.2]
/-- a list or a tuple of pairs, lists or tuples -/
def Pls (H : Hp) (v : V) (ps : List (Int × Int)) : Prop := ∃ b xs, v = .ref b ∧ Sq H b xs ∧ Paired (PlA H) xs ps
theorem PlA.same {H H' : Hp} {x : V} {p : Int × Int} (h : PlA H x p) (s : Same H H') : PlA H' x p := let ⟨r, e, q⟩ := h; ⟨r, e, q.same s⟩
theorem paired_mono {α β : Type} {R S : α → β → Prop} {xs : List α} {ys : List β} (h : Paired R xs ys) (i : ∀ x y, R x y → S x y) : Paired S xs ys := by
  induction h with
  | nil => exact .nil
  | cons a _ ih => exact .cons (i _ _ a) ih
theorem Pls.same {H H' : Hp} {v : V} {ps : List (Int × Int)} (h : Pls H v ps) (s : Same H H') : Pls H' v ps := let ⟨b, xs, e, q, k⟩ := h; ⟨b, xs, e, q.same s, paired_mono k fun _ _ z => z.same s⟩
theorem inB_of {n : Int} (h : -G9 ≤ n) (h2 : n ≤ G9) : inB (.int n) = true := by
  show (decide (-G9 ≤ n) && decide (n ≤ G9)) = true
  rw [decide_eq_true h, decide_eq_true h2]
  rfl
theorem pl_rows {K : PySem.W.Frag} {H : Hp} {xs : List V} {ps : List (Int × Int)} (h : Paired (PlA H) xs ps) (b : ∀ p ∈ ps, -G9 ≤ p.1 ∧ p.1 ≤ G9 ∧ -G9 ≤ p.2 ∧ p.2 ≤ G9) : Paired (RowV K H) xs (ps.map fun _ => true) := by
  induction h with
  | nil => exact .nil
  | @cons x p xs ps a _ ih =>
    refine .cons ?_ (ih fun q hq => b q (List.mem_cons_of_mem _ hq))
    obtain ⟨r, rfl, q⟩ := a
    obtain ⟨b1, b2, b3, b4⟩ := b p List.mem_cons_self
    have z : RowV K H (.ref r) (rowB [.int p.1, .int p.2]) := .seq q (fun x hx => by
      rcases List.mem_cons.mp hx with e | e
      · rw [e]
        exact ⟨_, .int _⟩
      · rw [List.mem_singleton.mp e]
        exact ⟨_, .int _⟩) (by show 2 ≤ 100; decide)
    have e : rowB [V.int p.1, V.int p.2] = true := by
      show (decide _ && (inB _ && (inB _ && true))) = true
      rw [inB_of b1 b2, inB_of b3 b4]
      rfl
    rw [e] at z
    exact z
theorem Pls.rows {K : PySem.W.Frag} {H : Hp} {v : V} {ps : List (Int × Int)} (h : Pls H v ps) (ok : OkP ps) : RowsV K H v (some (ps.map fun _ => true)) ∧ plB (some (ps.map fun _ => true)) = true := by
  obtain ⟨b, xs, rfl, q, k⟩ := h
  refine ⟨.seq q (pl_rows k ok.2.2) ?_, ?_⟩
  · rw [Paired.length k]
    exact Nat.le_trans ok.2.1 (by decide)
  · have h1 := ok.1
    have h2 := ok.2.1
    have e : (ps.map fun _ => true).all id = true := by
      rw [List.all_map]
      exact List.all_eq_true.mpr fun _ _ => rfl
    show (_ && decide _ && decide _) = true
    rw [e, List.length_map, decide_eq_true h1, decide_eq_true h2]
    rfl
/-! ### pictures -/
structure PicT (K : PySem.W.Frag) (C : Addr) : Prop where
  pc : PicC K C
  n1 : NoAttr K C "places"
  n2 : NoAttr K C "pins"
  n3 : NoAttr K C "rows"
/-- at a: the picture with these places -/
def PicF (H : Hp) (C a : Addr) (ps : List (Int × Int)) : Prop := ∃ dx t u, H a = some (.ins C dx [("places", .ref t), ("pins", .int ps.length), ("rows", .ref u)]) ∧ PT H t ps ∧ Two H u (sk 0 ps) (sk 1 ps)
theorem PT.same {H H' : Hp} {t : Addr} {ps : List (Int × Int)} (h : PT H t ps) (s : Same H H') : PT H' t ps := let ⟨ts, a, b⟩ := h; ⟨ts, s _ _ a, paired_mono b fun _ _ z => s _ _ z⟩
theorem PicF.same {H H' : Hp} {C a : Addr} {ps : List (Int × Int)} (h : PicF H C a ps) (s : Same H H') : PicF H' C a ps := let ⟨dx, t, u, e, p, q⟩ := h; ⟨dx, t, u, s _ _ e, p.same s, q.same s⟩
theorem PT.kp {H H' : Hp} {t a C dx : Addr} {fs : List (Str × V)} {ps : List (Int × Int)} (h : PT H t ps) (ha : H a = some (.ins C dx fs)) (k : Kp a H H') : PT H' t ps := by
  obtain ⟨ts, e, b⟩ := h
  have ne : ∀ {x : Addr} {xs : List V}, H x = some (.tup xs) → x ≠ a := fun h => L2.ne_of h ha (by intro z; cases z)
  exact ⟨ts, k _ _ (ne e) e, paired_mono b fun _ _ z => k _ _ (ne z) z⟩
theorem Two.kp {H H' : Hp} {u a C dx : Addr} {fs : List (Str × V)} {xs ys : List Int} (h : Two H u xs ys) (ha : H a = some (.ins C dx fs)) (k : Kp a H H') : Two H' u xs ys := by
  obtain ⟨r0, r1, e, e0, e1⟩ := h
  have ne : ∀ {x : Addr} {xs : List V}, H x = some (.tup xs) → x ≠ a := fun h => L2.ne_of h ha (by intro z; cases z)
  exact ⟨r0, r1, k _ _ (ne e) e, k _ _ (ne e0) e0, k _ _ (ne e1) e1⟩
section
variable {P : Program} {w : World} {K : PySem.W.Frag} {mg : Str → Option Value} {base : Heap} {C CB fB : Addr}
def spBI (K : PySem.W.Frag) (C : Addr) : Sp := fun vs H Q _ => ∃ (a : Addr) (y : V), vs = [.ref a, y] ∧ OexC K C ∧ PySem.W.findIn K (.ref C) "part" = some none ∧ H a = some (exo a C none) ∧
  ∀ dx, H dx = none → dx ≠ a → Q .non (upd (upd H dx (exd dx [(("part" : Str), y)])) a (exo a C (some dx)))
abbrev sBI : Stmt := inClass (top 3) 0
theorem scBI : FnScope ["self", "part"] ["self", "part"] (defScope sBI) := ⟨rfl, rfl, rfl, by decide +kernel, rfl, by decide +kernel, by decide +kernel⟩
theorem ok_bi {f C : Addr} {fd : FuncData} (F : Fun K "__init__" "BadPicture.__init__" sBI f fd) : FnOk P w K mg base CX0 1 f fd ["self", "part"] (spBI K C) := by
  refine F.ok scBI (fun vs H Q E h => ?_) (fun cdv A outer s H vs Q E hr h => ?_)
  · obtain ⟨a, y, rfl, _⟩ := h
    rfl
  · obtain ⟨a, y, rfl, T, no, ha, q⟩ := h
    refine ⟨_, pss_one (ps_ost (pv 0) (pv 1)), ?_⟩
    exact ⟨_, rfl, _, rfl, a, C, rfl, T, no, .inl ⟨ha, q⟩⟩
/-! ### Picture.__init__ -/
def spPI (K : PySem.W.Frag) (C CB : Addr) : Sp := fun vs H Q E => ∃ (a dx : Addr) (v : V), vs = [.ref a, v] ∧ H a = some (.ins C dx []) ∧
  ((∃ ps, Pls H v ps ∧ OkP ps ∧ ∀ H', Kp a H H' → PicF H' C a ps → Q .non H') ∨ (∃ o, RowsV K H v o ∧ plB o = false ∧ Rz CB "places" H E))
abbrev sPI : Stmt := inClass (top 35) 0
abbrev nPI : List Str := ["self", "places", "place"]
theorem scPI : FnScope nPI ["self", "places"] (defScope sPI) := ⟨rfl, rfl, rfl, by decide +kernel, rfl, by decide +kernel, by decide +kernel⟩
theorem ok_pi {f : Addr} {fd fdB : FuncData} (F : Fun K "__init__" "Picture.__init__" sPI f fd) (B : Bn mg) (T : PicT K C) (TB : BrTxt K mg CB fB) (FB : Fun K "__init__" "BadPicture.__init__" sBI fB fdB) (C1 : Callee P w K mg base CX0 5 "are_places" ["value", "size"] (spPlaces K)) (C2 : Callee P w K mg base CX0 1 "steps_along" ["places"] spSteps) :
    FnOk P w K mg base (L2.CX P w) 6 f fd ["self", "places"] (spPI K C CB) := by
  obtain ⟨f1, fd1, m1, k1, b1, G1⟩ := C1
  obtain ⟨f2, fd2, m2, k2, b2, G2⟩ := C2
  have GB : FnOk P w K mg base CX0 1 fB fdB ["self", "part"] (spBI K CB) := ok_bi FB
  have bB : Binds K fdB ["self", "part"] [] := FB.binds (ps := ["self", "part"]) fun _ _ _ _ _ _ us hl => match us, hl with | [_, _], _ => rfl
  have nd := scPI.nd
  refine F.okX scPI (fun vs H Q E h => ?_) (fun cdv A outer s H vs Q E hr h => ?_)
  · obtain ⟨a, dx, v, rfl, _⟩ := h
    rfl
  · obtain ⟨a, dx, v, rfl, ha, h⟩ := h
    rcases h with ⟨ps, pls, ok, q⟩ | ⟨o, ro, po, r⟩
    · obtain ⟨ro, po⟩ := pls.rows (K := K) ok
      obtain ⟨b, xs, rfl, hs, hk⟩ := pls
      have lx : xs.length = ps.length := Paired.length hk
      have step : ∀ {H1 H' : Hp} {D : Addr} {i : Nat} {x : V} {ts : List Addr}, Same H H1 → H1 D = none → Same H1 H' → xs[i]? = some x → ts.length = i → H' D = some (.lst (ts.map V.ref)) → (∀ (j : Nat) t p, ts[j]? = some t → ps[j]? = some p → Pr H' t p) →
          ∃ g, x = .ref g ∧ ((∃ zs, H' g = some (.lst zs) ∧ (∃ p, ps[i]? = some p ∧ zs = [.int p.1, .int p.2])) ∨ (∃ p, ps[i]? = some p ∧ H' g = some (.tup [.int p.1, .int p.2]))) := fun s1 _ s2 hx _ _ _ => by
        obtain ⟨p, hp, g, rfl, e⟩ := paired_get hk hx
        refine ⟨g, rfl, ?_⟩
        rcases e with e | e
        · exact .inl ⟨_, s2 _ _ (s1 _ _ e), p, hp, rfl⟩
        · exact .inr ⟨p, hp, s2 _ _ (s1 _ _ e)⟩
      have grow : ∀ {H1 H' H2 : Hp} {D g : Addr} {i : Nat} {ts : List Addr} {p : Int × Int}, H1 D = none → Same H1 H' → Same H' H2 → ts.length = i → H' D = some (.lst (ts.map V.ref)) → (∀ (j : Nat) t p, ts[j]? = some t → ps[j]? = some p → Pr H' t p) → ps[i]? = some p → Pr H2 g p →
          ∃ acc, H2 D = some (.lst acc) ∧ acc.length < sizeLine ∧ (Same H1 (upd H2 D (.lst (acc ++ [V.ref g]))) ∧ ∃ ts' : List Addr, ts'.length = i + 1 ∧ (upd H2 D (.lst (acc ++ [V.ref g]))) D = some (.lst (ts'.map V.ref)) ∧ ∀ (j : Nat) t p, ts'[j]? = some t → ps[j]? = some p → Pr (upd H2 D (.lst (acc ++ [V.ref g]))) t p) := fun {H1 H' H2 D g i ts p} hD s2 s3 lt hd ht hp hg => by
        have hd2 := s3 _ _ hd
        have hi : i < ps.length := by
          rcases Nat.lt_or_ge i ps.length with h | h
          · exact h
          · rw [List.getElem?_eq_none h] at hp
            cases hp
        have ok7 := ok.2.1
        refine ⟨_, hd2, by rw [List.length_map]; exact small1000 (by omega), fun c o e => ?_, ts ++ [g], by simp [lt], ?_, fun j t p' et ep => ?_⟩
        · rw [upd_ne (ne_of_none e hD)]
          exact s3 _ _ (s2 _ _ e)
        · rw [upd_same, List.map_append]
          rfl
        · have nD : ∀ {t : Addr} {zs : List V}, H2 t = some (.tup zs) → t ≠ D := fun h => L2.ne_of h hd2 (by intro z; cases z)
          unfold Pr
          by_cases hj : j < ts.length
          · rw [List.getElem?_append_left hj] at et
            have e2 : H2 t = some (.tup [.int p'.1, .int p'.2]) := s3 _ _ (ht j t p' et ep)
            rw [upd_ne (nD e2)]
            exact e2
          · have hj2 : j = ts.length := by
              rcases Nat.lt_or_ge j (ts ++ [g]).length with h | h
              · simp at h
                omega
              · rw [List.getElem?_eq_none h] at et
                cases et
            subst hj2
            rw [List.getElem?_append_right (Nat.le_refl _), Nat.sub_self] at et
            have eu : g = t := Option.some.inj et
            subst eu
            rw [lt] at ep
            rw [hp] at ep
            have e3 : p = p' := Option.some.inj ep
            subst e3
            have hg : H2 g = some (.tup [.int p.1, .int p.2]) := hg
            rw [upd_ne (nD hg)]
            exact hg
      have fin : ∀ {H1 H' : Hp} {D : Addr} {ts : List Addr}, Same H H1 → Same H1 H' → ts.length = ps.length → H' D = some (.lst (ts.map V.ref)) → (∀ (j : Nat) t p, ts[j]? = some t → ps[j]? = some p → Pr H' t p) → ∀ t H2, H' t = none → H2 = upd H' t (.tup (ts.map V.ref)) → (PT H2 t ps ∧ Same H H2) := fun {H1 H' D ts} s1 s2 lt hd ht t H2 nt e2 => by
        subst e2
        have s3 := same_new (o := .tup (ts.map V.ref)) nt
        refine ⟨⟨ts, upd_same, ?_⟩, (s1.trans s2).trans s3⟩
        have : ∀ (as : List Addr) (qs : List (Int × Int)), as.length = qs.length → (∀ (j : Nat) t p, as[j]? = some t → qs[j]? = some p → Pr H' t p) → Paired (Pr (upd H' t (.tup (ts.map V.ref)))) as qs := by
          intro as
          induction as with
          | nil =>
            intro qs l _
            cases qs with
            | nil => exact .nil
            | cons _ _ => cases l
          | cons c as ih =>
            intro qs l h
            cases qs with
            | nil => cases l
            | cons p qs => exact .cons (s3 _ _ (h 0 c p rfl rfl)) (ih qs (by simpa using l) fun j t p e1 e2 => h (j + 1) t p (by simpa using e1) (by simpa using e2))
        exact this ts ps lt ht
      rcases hs with hs | hs
      · refine ⟨_, (pss_cons (ps_if (pt_not (pt_val (pe_call G1 (hr.mono (by decide)) rfl m1 k1 b1 .nil pass0 (pa_cons (pv 1) (pa_cons (pe_int) pa_nil))))) (pss_one (ps_raise rfl (takes_of rfl rfl rfl rfl) (pmk_oex TB.oex TB.iC TB.tI GB (hr.mono (by decide)) bB .nil pass0 rfl TB.mgC (pa_cons pe_str pa_nil)))) pss_nil) (pss_cons (ps_fld (pv 0) (pe_callTy (T := "tuple") (r := rTu K) call_tuK (by rfl) B.tuple (by decide +kernel) (pa_cons (pe_lc (own := [("place", 2)]) (g := gName 2) (tt := tYes) rfl nd (pi_list (pv 1)) (blkOk_by (N := nPI) (sc := defScope sPI) (by decide +kernel)) (fun _ _ _ _ _ => pg_name (i := 2) nd rfl (Or.inl rfl)) (fun _ _ _ _ _ => pts_nil) (fun _ _ _ _ _ => (pe_callTy (T := "tuple") (r := rTu K) call_tuK (by rfl) B.tuple (by decide +kernel) (pa_cons (pv 2) pa_nil)))) pa_nil)) rfl) (pss_cons (ps_fld (pv 0) (pe_callB call_len_seq (by rfl) B.len PySem.boot_len (pa_cons (pe_fld (pv 0) rfl) pa_nil)) rfl) (pss_one (ps_fld (pv 0) (pe_call G2 (hr.mono (by decide)) rfl m2 k2 b2 .nil pass0 (pa_cons (pe_fld (pv 0) rfl) pa_nil)) rfl))))), ?_⟩
        refine ⟨_, rfl, _, _, rfl, ro, fun H1 s1 => ⟨_, rfl, ?_⟩⟩
        rw [po]
        refine iteF ?_
        refine ⟨_, rfl, b, rfl, ⟨_, SqL.of (s1 _ _ hs)⟩, fun D hD => ?_⟩
        refine lc_list (K := K) (a := b) (xs := xs) (fun i H' => Same H1 H' ∧ ∃ ts : List Addr, ts.length = i ∧ H' D = some (.lst (ts.map V.ref)) ∧ ∀ (j : Nat) t p, ts[j]? = some t → ps[j]? = some p → Pr H' t p) ⟨same_new hD, [], rfl, upd_same, fun j t p e => by simp at e⟩ (fun i H' _ p => SqL.of (p.1 _ _ (s1 _ _ hs))) (fun i x H' hx p => ?_) (fun H' p => ?_)
        · obtain ⟨s2, ts, lt, hd, ht⟩ := p
          refine ⟨rfl, ?_⟩
          obtain ⟨g, rfl, ⟨zs, hg, p, hp, rfl⟩ | ⟨p, hp, hg⟩⟩ := step s1 hD s2 hx lt hd ht
          · exact ⟨_, rfl, g, _, rfl, .inl ⟨SqL.of hg, fun r nr => grow hD s2 (same_new nr) lt hd ht hp upd_same⟩⟩
          · exact ⟨_, rfl, g, _, rfl, .inr ⟨SqT.of hg, grow hD s2 Same.me lt hd ht hp hg⟩⟩
        · obtain ⟨s2, ts, lt, hd, ht⟩ := p
          rw [lx] at lt
          refine ⟨D, _, rfl, .inl ⟨SqL.of hd, fun t nt => ?_⟩⟩
          obtain ⟨ptn, s3⟩ := fin s1 s2 lt hd ht t _ nt rfl
          generalize upd H' t (.tup (ts.map V.ref)) = H3 at ptn s3 ⊢
          have ha3 := s3 _ _ ha
          refine ⟨_, rfl, a, C, dx, [], rfl, ha3, T.pc.cls, T.n1, by show 0 < 1000; decide, ?_⟩
          have pt4 := ptn.kp ha3 (Kp.set (o := .ins C dx (putF "places" (.ref t) [])))
          have ha4 : upd H3 a (.ins C dx (putF "places" (.ref t) [])) a = some (.ins C dx [("places", .ref t)]) := upd_same
          have k4 : Kp a H (upd H3 a (.ins C dx (putF "places" (.ref t) []))) := (Kp.of s3).trans Kp.set
          generalize upd H3 a (.ins C dx (putF "places" (.ref t) [])) = H4 at pt4 ha4 k4 ⊢
          obtain ⟨ts2, e2, pr2⟩ := pt4
          have l2 : (ts2.map V.ref).length = ps.length := by
            rw [List.length_map]
            exact Paired.length pr2
          refine ⟨_, rfl, a, C, dx, _, .ref t, rfl, ha4, T.pc.cls, T.n1, rfl, t, _, rfl, .inr (SqT.of e2), ?_⟩
          rw [l2]
          refine ⟨_, rfl, a, C, dx, _, rfl, ha4, T.pc.cls, T.n2, by show 1 < 1000; decide, ?_⟩
          have pt5 := PT.kp ⟨ts2, e2, pr2⟩ ha4 (Kp.set (o := .ins C dx (putF "pins" (.int ps.length) [("places", .ref t)])))
          have ha5 : upd H4 a (.ins C dx (putF "pins" (.int ps.length) [("places", .ref t)])) a = some (.ins C dx [("places", .ref t), ("pins", .int ps.length)]) := upd_same
          have k5 : Kp a H (upd H4 a (.ins C dx (putF "pins" (.int ps.length) [("places", .ref t)]))) := k4.trans Kp.set
          generalize upd H4 a (.ins C dx (putF "pins" (.int ps.length) [("places", .ref t)])) = H5 at pt5 ha5 k5 ⊢
          refine ⟨_, rfl, a, C, dx, _, .ref t, rfl, ha5, T.pc.cls, T.n1, rfl, t, ps, rfl, pt5, ok.1, ok.2.1, fun H6 u r0 r1 s6 hu h0 h1 => ?_⟩
          have ha6 := s6 _ _ ha5
          refine ⟨_, rfl, a, C, dx, _, rfl, ha6, T.pc.cls, T.n3, by show 2 < 1000; decide, ?_⟩
          refine q _ ((k5.trans (Kp.of s6)).trans Kp.set) ⟨dx, t, u, upd_same, (pt5.same s6).kp ha6 Kp.set, Two.kp ⟨r0, r1, hu, h0, h1⟩ ha6 Kp.set⟩
      · refine ⟨_, (pss_cons (ps_if (pt_not (pt_val (pe_call G1 (hr.mono (by decide)) rfl m1 k1 b1 .nil pass0 (pa_cons (pv 1) (pa_cons (pe_int) pa_nil))))) (pss_one (ps_raise rfl (takes_of rfl rfl rfl rfl) (pmk_oex TB.oex TB.iC TB.tI GB (hr.mono (by decide)) bB .nil pass0 rfl TB.mgC (pa_cons pe_str pa_nil)))) pss_nil) (pss_cons (ps_fld (pv 0) (pe_callTy (T := "tuple") (r := rTu K) call_tuK (by rfl) B.tuple (by decide +kernel) (pa_cons (pe_lc (own := [("place", 2)]) (g := gName 2) (tt := tYes) rfl nd (pi_tup (pv 1)) (blkOk_by (N := nPI) (sc := defScope sPI) (by decide +kernel)) (fun _ _ _ _ _ => pg_name (i := 2) nd rfl (Or.inl rfl)) (fun _ _ _ _ _ => pts_nil) (fun _ _ _ _ _ => (pe_callTy (T := "tuple") (r := rTu K) call_tuK (by rfl) B.tuple (by decide +kernel) (pa_cons (pv 2) pa_nil)))) pa_nil)) rfl) (pss_cons (ps_fld (pv 0) (pe_callB call_len_seq (by rfl) B.len PySem.boot_len (pa_cons (pe_fld (pv 0) rfl) pa_nil)) rfl) (pss_one (ps_fld (pv 0) (pe_call G2 (hr.mono (by decide)) rfl m2 k2 b2 .nil pass0 (pa_cons (pe_fld (pv 0) rfl) pa_nil)) rfl))))), ?_⟩
        refine ⟨_, rfl, _, _, rfl, ro, fun H1 s1 => ⟨_, rfl, ?_⟩⟩
        rw [po]
        refine iteF ?_
        refine ⟨_, rfl, b, rfl, ⟨_, SqT.of (s1 _ _ hs)⟩, fun D hD => ?_⟩
        refine lc_tup (K := K) (a := b) (xs := xs) (fun i H' => Same H1 H' ∧ ∃ ts : List Addr, ts.length = i ∧ H' D = some (.lst (ts.map V.ref)) ∧ ∀ (j : Nat) t p, ts[j]? = some t → ps[j]? = some p → Pr H' t p) ⟨same_new hD, [], rfl, upd_same, fun j t p e => by simp at e⟩ (fun i H' _ p => SqT.of (p.1 _ _ (s1 _ _ hs))) (fun i x H' hx p => ?_) (fun H' p => ?_)
        · obtain ⟨s2, ts, lt, hd, ht⟩ := p
          refine ⟨rfl, ?_⟩
          obtain ⟨g, rfl, ⟨zs, hg, p, hp, rfl⟩ | ⟨p, hp, hg⟩⟩ := step s1 hD s2 hx lt hd ht
          · exact ⟨_, rfl, g, _, rfl, .inl ⟨SqL.of hg, fun r nr => grow hD s2 (same_new nr) lt hd ht hp upd_same⟩⟩
          · exact ⟨_, rfl, g, _, rfl, .inr ⟨SqT.of hg, grow hD s2 Same.me lt hd ht hp hg⟩⟩
        · obtain ⟨s2, ts, lt, hd, ht⟩ := p
          rw [lx] at lt
          refine ⟨D, _, rfl, .inl ⟨SqL.of hd, fun t nt => ?_⟩⟩
          obtain ⟨ptn, s3⟩ := fin s1 s2 lt hd ht t _ nt rfl
          generalize upd H' t (.tup (ts.map V.ref)) = H3 at ptn s3 ⊢
          have ha3 := s3 _ _ ha
          refine ⟨_, rfl, a, C, dx, [], rfl, ha3, T.pc.cls, T.n1, by show 0 < 1000; decide, ?_⟩
          have pt4 := ptn.kp ha3 (Kp.set (o := .ins C dx (putF "places" (.ref t) [])))
          have ha4 : upd H3 a (.ins C dx (putF "places" (.ref t) [])) a = some (.ins C dx [("places", .ref t)]) := upd_same
          have k4 : Kp a H (upd H3 a (.ins C dx (putF "places" (.ref t) []))) := (Kp.of s3).trans Kp.set
          generalize upd H3 a (.ins C dx (putF "places" (.ref t) [])) = H4 at pt4 ha4 k4 ⊢
          obtain ⟨ts2, e2, pr2⟩ := pt4
          have l2 : (ts2.map V.ref).length = ps.length := by
            rw [List.length_map]
            exact Paired.length pr2
          refine ⟨_, rfl, a, C, dx, _, .ref t, rfl, ha4, T.pc.cls, T.n1, rfl, t, _, rfl, .inr (SqT.of e2), ?_⟩
          rw [l2]
          refine ⟨_, rfl, a, C, dx, _, rfl, ha4, T.pc.cls, T.n2, by show 1 < 1000; decide, ?_⟩
          have pt5 := PT.kp ⟨ts2, e2, pr2⟩ ha4 (Kp.set (o := .ins C dx (putF "pins" (.int ps.length) [("places", .ref t)])))
          have ha5 : upd H4 a (.ins C dx (putF "pins" (.int ps.length) [("places", .ref t)])) a = some (.ins C dx [("places", .ref t), ("pins", .int ps.length)]) := upd_same
          have k5 : Kp a H (upd H4 a (.ins C dx (putF "pins" (.int ps.length) [("places", .ref t)]))) := k4.trans Kp.set
          generalize upd H4 a (.ins C dx (putF "pins" (.int ps.length) [("places", .ref t)])) = H5 at pt5 ha5 k5 ⊢
          refine ⟨_, rfl, a, C, dx, _, .ref t, rfl, ha5, T.pc.cls, T.n1, rfl, t, ps, rfl, pt5, ok.1, ok.2.1, fun H6 u r0 r1 s6 hu h0 h1 => ?_⟩
          have ha6 := s6 _ _ ha5
          refine ⟨_, rfl, a, C, dx, _, rfl, ha6, T.pc.cls, T.n3, by show 2 < 1000; decide, ?_⟩
          refine q _ ((k5.trans (Kp.of s6)).trans Kp.set) ⟨dx, t, u, upd_same, (pt5.same s6).kp ha6 Kp.set, Two.kp ⟨r0, r1, hu, h0, h1⟩ ha6 Kp.set⟩
    · refine ⟨_, (pss_cons (ps_if (pt_not (pt_val (pe_call G1 (hr.mono (by decide)) rfl m1 k1 b1 .nil pass0 (pa_cons (pv 1) (pa_cons (pe_int) pa_nil))))) (pss_one (ps_raise rfl (takes_of rfl rfl rfl rfl) (pmk_oex TB.oex TB.iC TB.tI GB (hr.mono (by decide)) bB .nil pass0 rfl TB.mgC (pa_cons pe_str pa_nil)))) pss_nil) (pss_cons (ps_fld (pv 0) (pe_callTy (T := "tuple") (r := rTu K) call_tuK (by rfl) B.tuple (by decide +kernel) (pa_cons (pe_lc (own := [("place", 2)]) (g := gName 2) (tt := tYes) rfl nd (pi_list (pv 1)) (blkOk_by (N := nPI) (sc := defScope sPI) (by decide +kernel)) (fun _ _ _ _ _ => pg_name (i := 2) nd rfl (Or.inl rfl)) (fun _ _ _ _ _ => pts_nil) (fun _ _ _ _ _ => (pe_callTy (T := "tuple") (r := rTu K) call_tuK (by rfl) B.tuple (by decide +kernel) (pa_cons (pv 2) pa_nil)))) pa_nil)) rfl) (pss_cons (ps_fld (pv 0) (pe_callB call_len_seq (by rfl) B.len PySem.boot_len (pa_cons (pe_fld (pv 0) rfl) pa_nil)) rfl) (pss_one (ps_fld (pv 0) (pe_call G2 (hr.mono (by decide)) rfl m2 k2 b2 .nil pass0 (pa_cons (pe_fld (pv 0) rfl) pa_nil)) rfl))))), ?_⟩
      refine ⟨_, rfl, _, _, rfl, ro, fun H1 s1 => ⟨_, rfl, ?_⟩⟩
      rw [po]
      refine iteT ⟨by show 1 ≤ 1000; decide, fun e he => ?_⟩
      exact ⟨e, _, rfl, TB.oex, TB.noP, upd_same, fun dx hdx ne => ⟨rfl, dx, _, upd_same, by rw [upd_ne ne]; exact upd_same, by rw [upd_ne ne] at hdx; exact hdx, raised r s1 he hdx ne⟩⟩
end
end K11

namespace K11
open PySem PySem.Spec PyProof.Rows L2
/-! ### places as data -/
def en (p : Int × Int) : PyData := .tuple [.int p.1, .int p.2]
def enc (ps : List (Int × Int)) : PyData := .tuple (ps.map en)
theorem enc_lay : ∀ ps : List (Int × Int), PyData.canLayAll0 (ps.map en) = true
  | [] => rfl
  | p :: ps => by
    show (PyData.canLay0 (en p) && PyData.canLayAll0 (ps.map en)) = true
    rw [enc_lay ps]
    rfl
theorem enc_depth : ∀ ps : List (Int × Int), PyData.depthAll (ps.map en) ≤ 1
  | [] => by decide
  | p :: ps => by
    show max (PyData.depth (en p)) (PyData.depthAll (ps.map en)) ≤ 1
    have h := enc_depth ps
    have e : PyData.depth (en p) = 1 := rfl
    omega
theorem enc_shaped (ps : List (Int × Int)) : SeqAt.shaped (enc ps) = true := by
  show (PyData.canLayAll0 (ps.map en) && decide (PyData.depthAll (ps.map en) + 1 ≤ 64)) = true
  rw [enc_lay, Bool.true_and, decide_eq_true_iff]
  have := enc_depth ps
  omega
theorem en_eqv (p q : Int × Int) : PyData.eqv (en p) (en q) = decide (p = q) := by
  show (p.1 == q.1 && (p.2 == q.2 && true)) = _
  obtain ⟨a, b⟩ := p
  obtain ⟨c, d⟩ := q
  rw [Bool.and_true, Bool.eq_iff_iff, decide_eq_true_iff, Bool.and_eq_true, beq_iff_eq, beq_iff_eq, Prod.mk.injEq]
theorem enc_eqv : ∀ ps qs : List (Int × Int), PyData.eqvAll (ps.map en) (qs.map en) = decide (ps = qs)
  | [], [] => rfl
  | [], _ :: _ => rfl
  | _ :: _, [] => rfl
  | p :: ps, q :: qs => by
    show (PyData.eqv (en p) (en q) && PyData.eqvAll (ps.map en) (qs.map en)) = _
    rw [en_eqv, enc_eqv ps qs, Bool.eq_iff_iff, Bool.and_eq_true, decide_eq_true_iff, decide_eq_true_iff, decide_eq_true_iff, List.cons.injEq]
theorem dp_pairs {K : PySem.W.Frag} {H : Hp} {ts : List Addr} {ps : List (Int × Int)} (h : Paired (Pr H) ts ps) : DpAll K H (ts.map V.ref) (ps.map en) := by
  induction h with
  | nil => exact .nil
  | cons a _ ih => exact .cons (.tup (SqT.of a) (.cons (.int _) (.cons (.int _) .nil))) ih
theorem PT.dp {K : PySem.W.Frag} {H : Hp} {t : Addr} {ps : List (Int × Int)} (h : PT H t ps) : Dp K H (.ref t) (enc ps) := let ⟨_, e, p⟩ := h; .tup (SqT.of e) (dp_pairs p)
theorem sk_bd {ps : List (Int × Int)} (ok : OkP ps) (k : Nat) : Bd (sk k ps) := fun n hn => by
  unfold sk at hn
  obtain ⟨p, hp, rfl⟩ := List.mem_map.mp hn
  have b1 := ok.2.2 p (List.mem_of_mem_drop hp)
  have b2 : -G9 ≤ (ps.headD (0, 0)).1 ∧ (ps.headD (0, 0)).1 ≤ G9 ∧ -G9 ≤ (ps.headD (0, 0)).2 ∧ (ps.headD (0, 0)).2 ≤ G9 := by
    cases ps with
    | nil => exact absurd ok.1 (by decide)
    | cons q qs => exact ok.2.2 q List.mem_cons_self
  unfold it
  have e : G9 = 1000000000 := rfl
  split <;> constructor <;> omega
theorem sk_len (k : Nat) (ps : List (Int × Int)) : (sk k ps).length = ps.length - 1 := by
  unfold sk
  rw [List.length_map, List.length_drop]
/-! ### values that are no pictures -/
inductive Np (H : Hp) : V → String → Prop
  | non : Np H .non "NoneType"
  | str (z : Str) : Np H (.str z) "str"
  | lst {a : Addr} {xs : List V} (e : H a = some (.lst xs)) : Np H (.ref a) "list"
  | tup {a : Addr} {xs : List V} (e : H a = some (.tup xs)) : Np H (.ref a) "tuple"
theorem Np.ty {K : PySem.W.Frag} {H : Hp} {v : V} {t : String} (k : Np H v t) : TyX K H v (.type t) := by
  cases k with
  | non => exact .base .non
  | str z => exact .base (.str z)
  | lst e => exact .base (.lst e)
  | tup e => exact .base (.tup e)
theorem Np.same {H H' : Hp} {v : V} {t : String} (k : Np H v t) (s : Same H H') : Np H' v t := by
  cases k with
  | non => exact .non
  | str z => exact .str z
  | lst e => exact .lst (s _ _ e)
  | tup e => exact .tup (s _ _ e)
/-- what the class tells of other kinds -/
structure PicN (K : PySem.W.Frag) (C : Addr) : Prop where
  k : ∀ t ∈ ["NoneType", "str", "list", "tuple"], PySem.W.kitOne K (.type t) (.ref C) = some false ∧ PySem.W.notFirst K C (.type t) = true
  ne : PySem.W.findIn K (.ref C) "__ne__" = some (some (.builtin "object.__ne__"))
theorem PicN.of {K : PySem.W.Frag} {C : Addr} {H : Hp} {v : V} {t : String} (N : PicN K C) (k : Np H v t) : PySem.W.kitOne K (.type t) (.ref C) = some false ∧ PySem.W.notFirst K C (.type t) = true := by
  cases k with
  | non => exact N.k _ (by decide)
  | str z => exact N.k _ (by decide)
  | lst e => exact N.k _ (by decide)
  | tup e => exact N.k _ (by decide)
/-- whether a picture equals it -/
def Eqs (H : Hp) (C : Addr) (ps : List (Int × Int)) (y : V) (b : Bool) : Prop := (∃ t, Np H y t ∧ b = false) ∨ (∃ q qs, y = .ref q ∧ PicF H C q qs ∧ b = decide (ps = qs))
theorem kit_self {K : PySem.W.Frag} {C : Addr} : PySem.W.kitOne K (.ref C) (.ref C) = some true := by
  unfold PySem.W.kitOne
  rw [if_pos (beq_self_eq_true _)]
theorem PicF.ty {K : PySem.W.Frag} {H : Hp} {C a : Addr} {ps : List (Int × Int)} (h : PicF H C a ps) (T : PicT K C) : TyX K H (.ref a) (.ref C) := let ⟨_, _, _, e, _⟩ := h; .base (.ins e T.pc.cls T.pc.ha T.pc.hn T.pc.ht T.pc.hm)
section
variable {P : Program} {w : World} {K : PySem.W.Frag} {mg : Str → Option Value} {base : Heap} {C : Addr}
/-! ### Picture.__eq__ -/
def spEqP (C : Addr) : Sp := fun vs H Q _ => ∃ (a : Addr) (y : V) (ps : List (Int × Int)) (b : Bool), vs = [.ref a, y] ∧ PicF H C a ps ∧ Eqs H C ps y b ∧ Q (.bl b) H
abbrev sEqP : Stmt := inClass (top 35) 1
theorem scEqP : FnScope ["self", "other"] ["self", "other"] (defScope sEqP) := ⟨rfl, rfl, rfl, by decide +kernel, rfl, by decide +kernel, by decide +kernel⟩
theorem ok_eqP {f : Addr} {fd : FuncData} (F : Fun K "__eq__" "Picture.__eq__" sEqP f fd) (B : Bn mg) (T : PicT K C) (N : PicN K C) (mC : mg "Picture" = some (.ref C)) : FnOk P w K mg base CX0 1 f fd ["self", "other"] (spEqP C) := by
  refine F.ok scEqP (fun vs H Q E h => ?_) (fun cdv A outer s H vs Q E hr h => ?_)
  · obtain ⟨a, y, ps, b, rfl, _⟩ := h
    rfl
  · obtain ⟨a, y, ps, b, rfl, hp, he, q⟩ := h
    refine ⟨_, pss_one (ps_ret (pe_and (pe_callB (r := rIsi K) call_isi (by rfl) B.isinstance boot_isinstance (pa_cons (pv 1) (pa_cons (pe_glob (v := .ref C) rfl mC rfl) pa_nil))) (pe_one (pe_cmpR (op_eqD hr.units) (pe_fld (pv 0) rfl) (pe_fld (pv 1) rfl) (nomark _))))), ?_⟩
    rcases he with ⟨t, np, rfl⟩ | ⟨c, qs, rfl, hq, rfl⟩
    · exact ⟨_, rfl, _, _, _, _, false, rfl, .own _, np.ty, (N.of np).1, _, rfl, iteF q⟩
    · refine ⟨_, rfl, _, _, _, _, true, rfl, .own _, hq.ty T, kit_self, _, rfl, iteT ?_⟩
      obtain ⟨dx, t, u, ha, ht, _⟩ := hp
      obtain ⟨dx2, t2, u2, hc, ht2, _⟩ := hq
      refine ⟨_, rfl, a, C, dx, _, .ref t, rfl, ha, T.pc.cls, T.n1, rfl, _, rfl, c, C, dx2, _, .ref t2, rfl, hc, T.pc.cls, T.n1, rfl, _, _, ht.dp, ht2.dp, enc_shaped _, enc_shaped _, ?_⟩
      have e : PyData.eqv (enc ps) (enc qs) = decide (ps = qs) := enc_eqv ps qs
      rw [e]
      exact q
/-! ### Picture.products, Picture.is_thin -/
def spPP (C : Addr) : Sp := fun vs H Q _ => ∃ (a : Addr) (ps : List (Int × Int)), vs = [.ref a] ∧ PicF H C a ps ∧ OkP ps ∧ ∀ H' t, Same H H' → MatT H' t (pg (sk 0 ps) (sk 1 ps)) (ps.length - 1) → Q (.ref t) H'
abbrev sPP : Stmt := inClass (top 35) 4
theorem scPP : FnScope ["self"] ["self"] (defScope sPP) := ⟨rfl, rfl, rfl, by decide +kernel, rfl, by decide +kernel, by decide +kernel⟩
theorem ok_pp {f : Addr} {fd : FuncData} (F : Fun K "products" "Picture.products" sPP f fd) (T : PicT K C) (C1 : Callee P w K mg base CX0 1 "products_of" ["rows"] spProd) : FnOk P w K mg base CX0 2 f fd ["self"] (spPP C) := by
  obtain ⟨f1, fd1, m1, k1, b1, G1⟩ := C1
  refine F.ok scPP (fun vs H Q E h => ?_) (fun cdv A outer s H vs Q E hr h => ?_)
  · obtain ⟨a, ps, rfl, _⟩ := h
    rfl
  · obtain ⟨a, ps, rfl, hp, ok, q⟩ := h
    refine ⟨_, pss_one (ps_ret (pe_call G1 (hr.mono (by decide)) rfl m1 k1 b1 .nil pass0 (pa_cons (pe_fld (pv 0) rfl) pa_nil))), ?_⟩
    obtain ⟨dx, t, u, ha, ht, hu⟩ := hp
    have l4 := ok.1
    have l7 := ok.2.1
    have e0 := sk_len 0 ps
    refine ⟨_, rfl, a, C, dx, _, .ref u, rfl, ha, T.pc.cls, T.n3, rfl, u, _, _, rfl, hu, by rw [sk_len, sk_len], by omega, by omega, sk_bd ok 0, sk_bd ok 1, fun H' t s m => q H' t s ?_⟩
    rw [e0] at m
    exact m
def spPh (C : Addr) : Sp := fun vs H Q _ => ∃ (a : Addr) (ps : List (Int × Int)), vs = [.ref a] ∧ PicF H C a ps ∧ OkP ps ∧ (thin (sk 0 ps) (sk 1 ps) → ∀ H', Same H H' → Q (.bl true) H') ∧ (¬ thin (sk 0 ps) (sk 1 ps) → ∀ H', Same H H' → Q (.bl false) H')
abbrev sPh : Stmt := inClass (top 35) 5
theorem scPh : FnScope ["self"] ["self"] (defScope sPh) := ⟨rfl, rfl, rfl, by decide +kernel, rfl, by decide +kernel, by decide +kernel⟩
theorem ok_ph {f : Addr} {fd : FuncData} (F : Fun K "is_thin" "Picture.is_thin" sPh f fd) (T : PicT K C) (C1 : Callee P w K mg base CX0 1 "first_minor" ["one", "other"] spMinor) : FnOk P w K mg base CX0 2 f fd ["self"] (spPh C) := by
  obtain ⟨f1, fd1, m1, k1, b1, G1⟩ := C1
  refine F.ok scPh (fun vs H Q E h => ?_) (fun cdv A outer s H vs Q E hr h => ?_)
  · obtain ⟨a, ps, rfl, _⟩ := h
    rfl
  · obtain ⟨a, ps, rfl, hp, ok, qy, qn⟩ := h
    refine ⟨_, pss_one (ps_ret (pe_cmpR op_isN (pe_call G1 (hr.mono (by decide)) rfl m1 k1 b1 .nil pass0 (pa_cons ((pe_ix ix_tup (pe_fld (pv 0) rfl) (pe_int) (fun _ _ => rfl))) (pa_cons ((pe_ix ix_tup (pe_fld (pv 0) rfl) (pe_int) (fun _ _ => rfl))) pa_nil))) pe_non (nomark _))), ?_⟩
    obtain ⟨dx, t, u, ha, ht, r0, r1, hu, h0, h1⟩ := hp
    have l4 := ok.1
    have l7 := ok.2.1
    have e0 := sk_len 0 ps
    refine ⟨_, rfl, a, C, dx, _, .ref u, rfl, ha, T.pc.cls, T.n3, rfl, u, _, 0, .ref r0, rfl, rfl, SqT.of hu, rfl, _, rfl, a, C, dx, _, .ref u, rfl, ha, T.pc.cls, T.n3, rfl, u, _, 1, .ref r1, rfl, rfl, SqT.of hu, rfl,
      r0, r1, _, _, rfl, h0, h1, by rw [sk_len, sk_len], by omega, sk_bd ok 0, sk_bd ok 1, fun th H' s => ⟨rfl, qy th H' s⟩, fun nt H' t zs s e => ⟨rfl, qn nt H' s⟩⟩
end
end K11

namespace K11
open PySem PySem.Spec PyProof.Rows L2
theorem str_len (a b : Str) : (a ++ b).length = a.length + b.length := by
  show (a.cps ++ b.cps).size = a.cps.size + b.cps.size
  exact Array.size_append
def tJoined (ts : List TE) : TE := fun σ H Q => tJs ts Str.empty σ H fun out H1 => Q (.str out) H1
theorem pe_joinedN {X : Cx} {v1 v2 : Expr} {rest : List Expr} {ts : List TE} {pos : Pos} (h : PJ X (v1 :: v2 :: rest) ts) : PE X (.JoinedStr (v1 :: v2 :: rest) pos) (tJoined ts) := pe_joined h
def rJn (K : PySem.W.Frag) : V → List V → Hp → VK → Prop := fun x xs H Q => ∃ a p, ∃ ys : List Str, x = .str a ∧ xs = [.ref p] ∧ (SqL K H p (ys.map V.str) ∨ SqT K H p (ys.map V.str)) ∧ (ys.map (·.length)).sum + ys.length * a.length ≤ 16777216 ∧ Q (.str (Txt.join a ys)) H
theorem pe_joinN {X : Cx} {o e : Expr} {to te : TE} {apos pos : Pos} (ho : PE X o to) (he : PE X e te) (hs : starEach [e] X.env = [(false, eval e X.env)] := by rfl) (hbase : attributeBase o "join" X.env (eval o X.env) = eval o X.env := by rfl) (hline : (apos.endLine == pos.line) = true := by rfl) :
    PE X (.Call (.Attribute o "join" apos) [e] [] pos) (tM1 (rJn X.K) to te) := pe_join ho he hs hbase hline
section
variable {P : Program} {w : World} {K : PySem.W.Frag} {mg : Str → Option Value} {base : Heap} {C : Addr}
/-! ### Picture.__str__ -/
def spStrP (C : Addr) : Sp := fun vs H Q _ => ∃ (a : Addr) (ps : List (Int × Int)), vs = [.ref a] ∧ PicF H C a ps ∧ OkP ps ∧ ∀ z H', Same H H' → Q (.str z) H'
abbrev sStrP : Stmt := inClass (top 35) 2
abbrev nStrP : List Str := ["self", "x", "y"]
theorem scStrP : FnScope nStrP ["self"] (defScope sStrP) := ⟨rfl, rfl, rfl, by decide +kernel, rfl, by decide +kernel, by decide +kernel⟩
theorem log_small {n : Int} (h : -G9 ≤ n) (h2 : n ≤ G9) : n.natAbs.log2 < 1920 := Nat.lt_trans (PySem.Flt.log2_lt_of (k := 31) (by decide) (by have : G9 = 1000000000 := rfl; omega)) (by decide)
theorem ok_strP {f : Addr} {fd : FuncData} (F : Fun K "__str__" "Picture.__str__" sStrP f fd) (T : PicT K C) : FnOk P w K mg base CX0 1 f fd ["self"] (spStrP C) := by
  have nd := scStrP.nd
  refine F.ok scStrP (fun vs H Q E h => ?_) (fun cdv A outer s H vs Q E hr h => ?_)
  · obtain ⟨a, ps, rfl, _⟩ := h
    rfl
  · obtain ⟨a, ps, rfl, hp, ok, q⟩ := h
    refine ⟨_, pss_one (ps_ret (pe_joinN pe_str (pe_lc (own := [("x", 1), ("y", 2)]) (g := gTup K 2 (gCons (gName 1) (gCons (gName 2) gNil))) (tt := tYes) rfl nd (pi_tup (pe_fld (pv 0) rfl)) (blkOk_by (N := nStrP) (sc := defScope sStrP) (by decide +kernel)) (fun _ _ _ _ _ => pg_tup rfl (pgs_cons (pg_name (i := 1) nd rfl (Or.inl rfl)) (pgs_cons (pg_name (i := 2) nd rfl (Or.inl rfl)) pgs_nil))) (fun _ _ _ _ _ => pts_nil)
      (fun _ _ _ _ _ => pe_joinedN (.cons (pe_fmt (pv 1)) (.cons pe_str (.cons (pe_fmt (pv 2)) .nil))))))), ?_⟩
    obtain ⟨dx, t, u, ha, ⟨ts, ht, hk⟩, hu⟩ := hp
    have lt : ts.length = ps.length := Paired.length hk
    have l7 := ok.2.1
    refine ⟨⟨_, rfl⟩, ?_⟩
    refine ⟨_, rfl, a, C, dx, _, .ref t, rfl, ha, T.pc.cls, T.n1, rfl, t, rfl, ⟨_, SqT.of ht⟩, fun D hD => ?_⟩
    refine lc_tup (K := K) (a := t) (xs := ts.map V.ref) (fun i H' => Same H H' ∧ ∃ ys : List Str, ys.length = i ∧ H' D = some (.lst (ys.map V.str)) ∧ ∀ y ∈ ys, y.length ≤ 4000) ⟨same_new hD, [], rfl, upd_same, fun y h => absurd h List.not_mem_nil⟩ (fun i H' _ p => SqT.of (p.1 _ _ ht)) (fun i x H' hx p => ?_) (fun H' p => ?_)
    · obtain ⟨s1, ys, ly, hd, hb⟩ := p
      have hi : i < ts.length := by
        rcases Nat.lt_or_ge i ts.length with h | h
        · exact h
        · rw [List.getElem?_eq_none (by rw [List.length_map]; exact h)] at hx
          cases hx
      obtain ⟨pp, hpp, hpr⟩ := paired_get hk (i := i) (x := ts[i]) (List.getElem?_eq_getElem hi)
      have hpr : H ts[i] = some (.tup [.int pp.1, .int pp.2]) := hpr
      have ex : x = .ref ts[i] := by
        rw [List.getElem?_map, List.getElem?_eq_getElem hi] at hx
        exact (Option.some.inj hx).symm
      subst ex
      obtain ⟨g1, g2, g3, g4⟩ := ok.2.2 pp (List.mem_of_getElem? hpp)
      have lx := log_small g1 g2
      have ly2 := log_small g3 g4
      have tx := int_text_len_1921 lx
      have ty := int_text_len_1921 ly2
      refine ⟨ts[i], _, rfl, SqT.of (s1 _ _ hpr), rfl, _, _, rfl, _, _, rfl, rfl, ?_⟩
      refine ⟨rfl, ?_⟩
      have e0 : (Str.empty).length = 0 := rfl
      have e1 : (Str.ofString " ").length = 1 := by decide +kernel
      have big : ∀ n, n ≤ 4000 → n ≤ sizeLine := fun n h => Nat.le_of_lt (Nat.lt_of_le_of_lt h (by decide))
      refine ⟨_, rfl, .inr ⟨_, rfl, lx, _, rfl, ?_, _, rfl, ?_, _, rfl, .inr ⟨_, rfl, ly2, _, rfl, ?_, _, hd, by rw [List.length_map]; exact small1000 (by omega), fun b o e => ?_, ys ++ [_], by simp [ly], by rw [upd_same, List.map_append]; rfl, fun y hy => ?_⟩⟩⟩
      · rw [str_len]
        exact big _ (by omega)
      · rw [str_len, str_len]
        exact big _ (by omega)
      · rw [str_len, str_len, str_len]
        exact big _ (by omega)
      · rw [upd_ne (ne_of_none e hD)]
        exact s1 _ _ e
      · rcases List.mem_append.mp hy with h | h
        · exact hb y h
        · rw [List.mem_singleton.mp h, str_len, str_len, str_len]
          omega
    · obtain ⟨s1, ys, ly, hd, hb⟩ := p
      refine ⟨_, D, ys, rfl, rfl, .inl (SqL.of hd), ?_, q _ _ s1⟩
      rw [List.length_map, lt] at ly
      have e3 : (Str.ofString " / ").length = 3 := by decide +kernel
      have sm : ∀ ys : List Str, (∀ y ∈ ys, y.length ≤ 4000) → (ys.map (·.length)).sum ≤ 4000 * ys.length := fun ys => by
        induction ys with
        | nil => exact fun _ => Nat.le_refl _
        | cons y ys ih =>
          intro h
          have h1 := h y List.mem_cons_self
          have h2 := ih fun z hz => h z (List.mem_cons_of_mem _ hz)
          rw [List.map_cons, List.sum_cons, List.length_cons]
          omega
      have h1 := sm ys hb
      rw [e3]
      omega
end
end K11

namespace K11
open PySem PySem.Spec PyProof.Rows L2
/-! ### a call of a def in places where no expression stands -/
section
variable {X : Cx} {k : Nat} {f : Addr} {fd : FuncData} {ps : List Str} {sp : Sp}
theorem Env0.around {P : Program} {w : World} {K : PySem.W.Frag} {mg : Str → Option Value} {base : Heap} {A A' : Around} {st : List Env} {s : Shared} {H : Hp} (e : Env0 P w K mg base A st s H) (h : A'.frames = A.frames) : Env0 P w K mg base A' st s H := ⟨by rw [h]; exact e.frames, e.mod, e.bs, e.bsz, e.funs, e.frf, e.hok, e.bare⟩
theorem run_at {A : Around} {pins : List (Addr × Obj)} {σ : L2.St} {H : Hp} {s : Shared} {Q : VK} {us : List Value} {vs : List V} (F : FnOk X.prog X.w X.K X.mg X.base CX0 k f fd ps sp) (hr : Room k A) (hf : A.frames = X.A.frames) (hb : Binds X.K fd ps [])
    (I : Inv X pins σ H s) (r : Vals vs us) (h : sp vs H Q (fun _ _ _ => False)) : wpAny (model X.prog X.w) A (call (.ref f) us) (EP X pins σ Q) X.xe s := by
  have hl := F.len _ _ _ _ h
  refine wpAny_call (codeAny_mono (F.run A X.stack s H ⟨us, []⟩ us vs Q _ hr (Env0.around I.env0 hf) (by
    have := hb s us I.kIn (by rw [List.append_nil, ← r.length]; exact hl)
    rw [List.append_nil] at this
    exact this) r h) fun r s' hq => ?_)
  cases r with
  | error e => exact False.elim hq
  | ok fl =>
    cases fl with
    | ret u => exact I.after hq
    | next => exact False.elim hq
    | brk => exact False.elim hq
    | cont => exact False.elim hq
end
section
variable {prog : Program} {w : World} {A : Around} {E : Value → Shared → Prop} {h : Heap} {g : Array GenState} {d : Drawn} {t : Nat} {os : OsState} {K : PySem.W.Frag} {x C : Addr} {ob : Obj} {od : Option Obj}
theorem special_in {name : Str} {id : String} {args : List Value} {Q : Option Value → Shared → Prop} (Y : K.In h) (J : PySem.W.InstAt h x ob C od) (ha : PySem.W.findIn K (.ref C) name = some (some (.builtin id))) (S : Slot "object" name id)
    (go : wpAny (model prog w) A (call (.builtin id) (.ref x :: args)) (fun v => Q (some v)) E ⟨h, g, d, t, os⟩) : wpAny (model prog w) A (callSpecialIfBound? (.ref x) name args) Q E ⟨h, g, d, t, os⟩ := by
  simp only [callSpecialIfBound?, bindSpecialIfBound?]
  refine wpAny_holding (wpAny_bind (wpAny_bind ?_))
  unfold specialOf
  refine wpAny_bind (J.type.at ((PySem.W.looks_findIn Y ha).at ?_))
  simp only [S.bind]
  refine wpAny_bind (wpAny_askSetting (wpAny_ite ?_))
  have fin : wpAny (model prog w) A (call (.builtin id) ([.ref x] ++ args) >>= fun v => pure (some v)) Q E ⟨h, g, d, t, os⟩ :=
    wpAny_bind (wpAny_mono go (fun v z hz => wpAny_pure hz) fun _ _ hz => hz)
  split
  · exact wpAny_bind (wpAny_pure (wpAny_pure fin))
  · exact wpAny_tryCatch (wpAny_bind (wpAny_pure (wpAny_pure fin)))
end
/-! ### == and != of pictures -/
def rEqP (K : PySem.W.Frag) (C : Addr) : R2 := fun x y H Q => ∃ (a : Addr) (ps : List (Int × Int)) (b : Bool), x = .ref a ∧ PicF H C a ps ∧ Eqs H C ps y b ∧ Q (.bl b) H
def rNeP (K : PySem.W.Frag) (C : Addr) : R2 := fun x y H Q => ∃ (a : Addr) (ps : List (Int × Int)) (b : Bool), x = .ref a ∧ PicF H C a ps ∧ Eqs H C ps y b ∧ Q (.bl (!b)) H
section
variable {X : Cx} {C fE : Addr} {fd : FuncData}
theorem pic_inst {pins : List (Addr × Obj)} {σ : L2.St} {H : Hp} {s : Shared} {a : Addr} {ps : List (Int × Int)} (I : Inv X pins σ H s) (h : PicF H C a ps) : ∃ (ob : Obj) (od : Obj), PySem.W.InstAt s.heap a ob C (some od) := by
  obtain ⟨dx, t, u, e, _⟩ := h
  obtain ⟨mA, J, _⟩ := ins_get I.hok e
  obtain ⟨od, J, _⟩ := J.look
  exact ⟨_, od, J⟩
theorem eqs_type {pins : List (Addr × Obj)} {σ : L2.St} {H : Hp} {s : Shared} {y : V} {u : Value} {b : Bool} {ps : List (Int × Int)} (I : Inv X pins σ H s) (N : PicN X.K C) (ry : RelV y u) (h : Eqs H C ps y b) :
    ∃ tb, PySem.W.Looks (model X.prog X.w) s.heap (typeOf u) tb ∧ PySem.W.notFirst X.K C tb = true := by
  rcases h with ⟨t, np, _⟩ | ⟨q, qs, rfl, hq, _⟩
  · obtain ⟨P, Z, p, _⟩ := kit_of I ry np.ty
    exact ⟨_, Z.ty _ _ I.kIn p, (N.of np).2⟩
  · obtain rfl : u = Value.ref q := ry
    obtain ⟨ob, od, J⟩ := pic_inst I hq
    exact ⟨_, J.type, by simp [PySem.W.notFirst]⟩
theorem op_eqP (G : FnOk X.prog X.w X.K X.mg X.base CX0 1 fE fd ["self", "other"] (spEqP C)) (hs : PySem.W.findIn X.K (.ref C) "__eq__" = some (some (.ref fE))) (hf : PySem.W.isFn X.K (.ref fE) = true) (hb : Binds X.K fd ["self", "other"] []) (N : PicN X.K C) (hr : Room 2 X.A) :
    OpR X (compareOp .Eq) (rEqP X.K C) := by
  intro pins s σ H x y v u Q I rx ry h
  obtain ⟨a, ps, b, rfl, hp, he, q⟩ := h
  obtain rfl : v = Value.ref a := rx
  obtain ⟨ob, od, J⟩ := pic_inst I hp
  obtain ⟨tb, L, nf⟩ := eqs_type I N ry he
  obtain ⟨m, hF⟩ := I.fr
  refine PySem.W.cmp_K (op := .Eq) (tb := tb) hr.units0 hF I.ok.mod.kin J L nf hs hf ?_
  refine wpAny_mono (run_at (vs := [.ref a, y]) (us := [.ref a, u]) (Q := fun r H' => r = .bl b ∧ Q (.bl b) H') G (hr.mono (by decide)) rfl hb I (.cons rfl (.cons ry .nil)) ⟨a, y, ps, b, rfl, hp, he, rfl, q⟩) (fun r s' hq => ?_) fun _ _ z => z
  obtain ⟨v, H', I', rv, ev, q'⟩ := hq
  subst ev
  obtain rfl : r = Value.bool b := rv
  exact ⟨.bl b, H', I', rfl, q'⟩
theorem op_neP (G : FnOk X.prog X.w X.K X.mg X.base CX0 1 fE fd ["self", "other"] (spEqP C)) (hs : PySem.W.findIn X.K (.ref C) "__eq__" = some (some (.ref fE))) (hf : PySem.W.isFn X.K (.ref fE) = true) (hb : Binds X.K fd ["self", "other"] []) (N : PicN X.K C) (T : PicT X.K C) (hr : Room 3 X.A) :
    OpR X (compareOp .NotEq) (rNeP X.K C) := by
  intro pins s σ H x y v u Q I rx ry h
  obtain ⟨a, ps, b, rfl, hp, he, q⟩ := h
  obtain rfl : v = Value.ref a := rx
  obtain ⟨ob, od, J⟩ := pic_inst I hp
  obtain ⟨tb, L, nf⟩ := eqs_type I N ry he
  have hu : X.A.units + 1 < cLine := hu_of hr
  have isO : PySem.W.Looks (model X.prog X.w) s.heap (isInstance (.ref a) (.type "object")) true := J.type.andThen (PySem.W.looks_mroIn I.kIn T.pc.hm)
  have neDone : ∀ {Q' : Fin → Shared → Prop}, (∀ s', (∃ H', Inv X pins σ H' s' ∧ Q (.bl (!b)) H') → Q' (.done (.ret (.bool (!b)))) s') → wpAny (model X.prog X.w) X.A.in1 (Builtin.«object.__ne__» ⟨[.ref a, u], []⟩) Q' X.xe s := fun {Q'} k => by
    unfold Builtin.«object.__ne__»
    have go : wpAny (model X.prog X.w) X.A.in1 (callSpecialIfBound? (.ref a) (Str.ofString "__eq__") [u]) (fun r s' => r = some (.bool b) ∧ ∃ H', Inv X pins σ H' s' ∧ Q (.bl (!b)) H') X.xe s :=
      PySem.W.ifBound_K I.kIn J hs hf (wpAny_mono (run_at (A := X.A.in1) (vs := [.ref a, y]) (us := [.ref a, u]) (Q := fun r H' => r = .bl b ∧ Q (.bl (!b)) H') G (hr.mono (by decide : 2 ≤ 3)).in1 rfl hb I (.cons rfl (.cons ry .nil)) ⟨a, y, ps, b, rfl, hp, he, rfl, q⟩) (fun r s' hq => by
        obtain ⟨v, H', I', rv, ev, q'⟩ := hq
        subst ev
        obtain rfl : r = Value.bool b := rv
        exact ⟨rfl, H', I', q'⟩) fun _ _ z => z)
    repeat (first
      | with_reducible refine wpAny_cRoomFor (show X.A.in1.units < cLine from hu) ?_
      | (refine wpAny_bind (m := callSpecialIfBound? (.ref a) (Str.ofString "__eq__") [u]) (wpAny_mono go (fun r s' hr => by
          obtain ⟨rfl, hq⟩ := hr
          have z := k s' hq
          repeat (first | exact z | exact wpAny_pure z | exact wpAny_truthy_bool z | (refine wpAny_bind (m := truthy (.bool _)) (wpAny_truthy_bool ?_)) | wp_step)) fun _ _ e => e))
      | wp_step)
  have tryDone : wpAny (model X.prog X.w) X.A (tryCompare (.ref a) "__ne__" u) (fun r s' => r = some (.bool (!b)) ∧ ∃ H', Inv X pins σ H' s' ∧ Q (.bl (!b)) H') X.xe s := by
    simp only [tryCompare]
    obtain ⟨hp', g, d, t, os⟩ := s
    refine wpAny_bind (special_in I.kIn J N.ne F.cmp_object.ne (wpAny_call (codeAny_call_builtin F.cmp_object.ne.plain F.cmpEntry_ne (PySem.W.check_slot F.cmpKind_ne F.cmpSplit_ne isO (F.cmpArgs_ne _ _) (neDone (fun s' hq => ?_))))))
    exact wpAny_pure ⟨rfl, hq⟩
  show wpAny _ _ (richCompare .NotEq (.ref a) u) _ _ s
  unfold richCompare
  simp only [oneThing_ref, cmpInfo_NotEq]
  refine wpAny_holding (wpAny_bind (wpAny_cRoomFor (Nat.lt_of_succ_lt hu) ?_))
  refine wpAny_bind (J.type.here (wpAny_bind (L.here ?_)))
  split
  · rename_i q'
    have e : PySem.W.subIn X.K tb (.ref C) = some false := by
      unfold PySem.W.notFirst at nf
      rcases Bool.or_eq_true_iff.mp nf with e | e
      · rw [beq_iff_eq.mp e] at q'; simp at q'
      · exact beq_iff_eq.mp e
    refine wpAny_bind ((PySem.W.looks_subIn I.kIn e).here ?_)
    simp only [Bool.false_eq_true, if_false]
    refine wpAny_bind (wpAny_mono tryDone (fun r s' z => ?_) fun _ _ e => e)
    obtain ⟨rfl, H', I', hq⟩ := z
    exact wpAny_pure ⟨.bl (!b), H', I', rfl, hq⟩
  · refine wpAny_bind (wpAny_pure ?_)
    simp only [Bool.false_eq_true, if_false]
    refine wpAny_bind (wpAny_mono tryDone (fun r s' z => ?_) fun _ _ e => e)
    obtain ⟨rfl, H', I', hq⟩ := z
    exact wpAny_pure ⟨.bl (!b), H', I', rfl, hq⟩
end
end K11

namespace K11
open PySem PySem.Spec PyProof.Rows L2
/-! ### str(picture) -/
def rStrP (C : Addr) : List V → Hp → VK → Prop := fun xs H Q => ∃ (a : Addr) (ps : List (Int × Int)), xs = [.ref a] ∧ PicF H C a ps ∧ OkP ps ∧ ∀ z H', Same H H' → Q (.str z) H'
section
variable {X : Cx} {C fS : Addr} {fd : FuncData}
theorem call_strP (G : FnOk X.prog X.w X.K X.mg X.base CX0 1 fS fd ["self"] (spStrP C)) (hs : PySem.W.findIn X.K (.ref C) "__str__" = some (some (.ref fS))) (hf : PySem.W.isFn X.K (.ref fS) = true) (hb : Binds X.K fd ["self"] []) (hr : Room 3 X.A) : CallR X (.type "str") (rStrP C) := by
  intro pins s σ H xs us Q I r h
  obtain ⟨a, ps, rfl, hp, ok, q⟩ := h
  obtain ⟨u, rfl, ru⟩ := vals1 r
  obtain rfl : u = Value.ref a := ru
  obtain ⟨ob, od, J⟩ := pic_inst I hp
  have hu : X.A.in1.in1.units < cLine := by
    have := hr.un
    show X.A.units + 1 + 1 < cLine
    omega
  refine PySem.W.kso_call hu I.kIn J hs hf (wpAny_mono (run_at (A := X.A.in1.in1) (vs := [.ref a]) (us := [.ref a]) (Q := fun r H' => ∃ z, r = .str z ∧ Q (.str z) H') G (hr.in1.in1) rfl hb I (.cons rfl .nil) ⟨a, ps, rfl, hp, ok, fun z H' s' => ⟨z, rfl, q z H' s'⟩⟩) (fun r s' hq => ?_) fun _ _ z => z)
  obtain ⟨v, H', I', rv, z, ev, q'⟩ := hq
  subst ev
  obtain ⟨t, rfl⟩ := rv
  exact ⟨.str z, H', I', ⟨t, rfl⟩, q'⟩
end
/-! ### a picture is made -/
/-- a new picture with these places -/
def NewP (C : Addr) (ps : List (Int × Int)) (H : Hp) (Q : VK) : Prop := ∀ a H', Same H H' → H a = none → PicF H' C a ps → Q (.ref a) H'
/-- how a picture is made of a value: of places, or refused -/
def MkP (K : PySem.W.Frag) (C CB : Addr) (v : V) (H : Hp) (Q : VK) (E : XK) : Prop := (∃ ps, Pls H v ps ∧ OkP ps ∧ NewP C ps H Q) ∨ (∃ o, RowsV K H v o ∧ plB o = false ∧ Rz CB "places" H E)
theorem rz_same {C : Addr} {z : Str} {H H1 : Hp} {E : XK} (h : Rz C z H E) (s : Same H H1) : Rz C z H1 E := fun d H' s' n e => h d H' (s.trans s') (s.free n) e
theorem mk_in {K : PySem.W.Frag} {C CB : Addr} {v : V} {H : Hp} {Q : VK} {E : XK} (m : MkP K C CB v H Q E) : ∀ x dx, H x = none → H dx = none → dx ≠ x → spPI K C CB [.ref x, v] (upd (upd H dx (.own x)) x (.ins C dx [])) (fun r H2 => r = .non ∧ Q (.ref x) H2) E := fun x dx hx hdx ne => by
  have s0 : Same H (upd (upd H dx (.own x)) x (.ins C dx [])) := fun b o e => by
    rw [upd_ne (ne_of_none e hx), upd_ne (ne_of_none e hdx)]
    exact e
  refine ⟨x, dx, v, rfl, upd_same, ?_⟩
  rcases m with ⟨ps, pls, ok, n⟩ | ⟨o, ro, po, r⟩
  · exact .inl ⟨ps, pls.same s0, ok, fun H' k p => ⟨rfl, n x H' (fun b o e => k b o (ne_of_none e hx) (s0 _ _ e)) hx p⟩⟩
  · exact .inr ⟨o, ro.same s0, po, rz_same r s0⟩
/-- the class of pictures, as its callers see it -/
structure Pc (P : Program) (w : World) (K : PySem.W.Frag) (mg : Str → Option Value) (base : Heap) (C CB : Addr) : Prop where
  mgC : mg "Picture" = some (.ref C)
  t : PicT K C
  n : PicN K C
  ini : ∃ (fI : Addr) (fd : FuncData), Mk K C fI ∧ FnOk P w K mg base (L2.CX P w) 6 fI fd ["self", "places"] (spPI K C CB) ∧ Binds K fd ["self", "places"] [] ∧ KBn K fd ["self", "places"] 1 ["places"] (fun us ws => us ++ ws) (fun vs zs => vs ++ zs)
  eq : ∃ (fE : Addr) (fd : FuncData), FnOk P w K mg base CX0 1 fE fd ["self", "other"] (spEqP C) ∧ PySem.W.findIn K (.ref C) "__eq__" = some (some (.ref fE)) ∧ PySem.W.isFn K (.ref fE) = true ∧ Binds K fd ["self", "other"] []
  st : ∃ (fS : Addr) (fd : FuncData), FnOk P w K mg base CX0 1 fS fd ["self"] (spStrP C) ∧ PySem.W.findIn K (.ref C) "__str__" = some (some (.ref fS)) ∧ PySem.W.isFn K (.ref fS) = true ∧ Binds K fd ["self"] []
  pp : ∃ (f : Addr) (fd : FuncData), Meth K C "products" f ∧ FnOk P w K mg base CX0 2 f fd ["self"] (spPP C) ∧ Binds K fd ["self"] []
  ph : ∃ (f : Addr) (fd : FuncData), Meth K C "is_thin" f ∧ FnOk P w K mg base CX0 2 f fd ["self"] (spPh C) ∧ Binds K fd ["self"] []
section
variable {X : Cx} {C CB : Addr} {x : Str} {e : Expr} {es : List Expr} {kws : List Keyword} {t tk : TA} {p pos : Pos}
/-- Picture(e), which is not refused -/
def tMkP (K : PySem.W.Frag) (C CB : Addr) (E : XK) (t : TA) : TE := fun σ H Q => t σ H fun vs H1 => ∃ v, vs = [v] ∧ MkP K C CB v H1 Q E
theorem pe_mkP {E : XK} (T : Pc X.prog X.w X.K X.mg X.base C CB) (hr : Room 7 X.A) (hx : Passes (L2.CX X.prog X.w) X E) (hg : Gl X "Picture") (ha : PA X (e :: es) t) (he : starEach (e :: es) X.env = (false, eval e X.env) :: starEach es X.env := by rfl) (hpl : (backTo pos (starEach es X.env)).any (·.1) = false := by rfl) :
    PE X (.Call (.Name "Picture" p) (e :: es) [] pos) (tMkP X.K C CB E t) := by
  obtain ⟨fI, fd, M, G, b, _⟩ := T.ini
  refine ⟨fun pins s σ H Q I h => ?_⟩
  refine wpAny_Call_Name_kw (ld_glob I hg T.mgC ?_ (by decide))
  refine PySem.W.callWith_K (h₀ := X.base) I.ok.mod.kin M.kp (thn (ha.run pos pins s σ H _ I h) fun us s1 ⟨vs, H1, I1, r, v, ev, m⟩ => ⟨I1.kIn, ?_⟩) he hpl
  subst ev
  exact run_make (dvs := []) (ds := []) M G hr b .nil hx I1 r (mk_in m)
/-- Picture(places=e) -/
theorem pe_mkPK {E : XK} (T : Pc X.prog X.w X.K X.mg X.base C CB) (hr : Room 7 X.A) (hx : Passes (L2.CX X.prog X.w) X E) (hg : Gl X "Picture") (hkw : PK X kws tk)
    (hall : (backToKw pos (keywordEach kws X.env)).all (·.1.isSome) = true := by rfl) (hks : (backToKw pos (keywordEach kws X.env)).filterMap (·.1) = (["places"] : List Str) := by rfl)
    (hpl : ((backTo pos (starEach [] X.env)).any (·.1) || (backToKw pos (keywordEach kws X.env)).any (·.1.isNone)) = false := by rfl) :
    PE X (.Call (.Name "Picture" p) [] kws pos) (tMkP X.K C CB E tk) := by
  obtain ⟨fI, fd, M, G, _, b⟩ := T.ini
  refine ⟨fun pins s σ H Q I h => ?_⟩
  refine wpAny_Call_Name_kw (ld_glob I hg T.mgC ?_ (by decide))
  refine PySem.W.callWith_KW0 (h₀ := X.base) I.ok.mod.kin M.kp hall ?_ hpl
  refine thn (hkw.run pos pins s σ H _ I h) fun ws s2 ⟨zs, H2, I2, rz, v, ev, m⟩ => ⟨I2.kIn, ?_⟩
  subst ev
  rw [hks]
  exact run_makeN (n := 0) (us := []) (vs := []) M G hr b hx I2 .nil rz rfl rfl (mk_in m)
/-- as run_make, what is raised being wished for at the caller's slots -/
def tMkPS (K : PySem.W.Frag) (C CB : Addr) (E : L2.St → XK) (t : TA) : TE := fun σ H Q => t σ H fun vs H1 => ∃ v, vs = [v] ∧ MkP K C CB v H1 Q (E σ)
theorem pe_mkPS {E : L2.St → XK} (T : Pc X.prog X.w X.K X.mg X.base C CB) (hr : Room 7 X.A) (hx : ∀ σ, PassesAt (L2.CX X.prog X.w) X σ (E σ)) (hg : Gl X "Picture") (ha : PA X (e :: es) t) (he : starEach (e :: es) X.env = (false, eval e X.env) :: starEach es X.env := by rfl) (hpl : (backTo pos (starEach es X.env)).any (·.1) = false := by rfl) :
    PE X (.Call (.Name "Picture" p) (e :: es) [] pos) (tMkPS X.K C CB E t) := by
  obtain ⟨fI, fd, M, G, b, _⟩ := T.ini
  refine ⟨fun pins s σ H Q I h => ?_⟩
  refine wpAny_Call_Name_kw (ld_glob I hg T.mgC ?_ (by decide))
  refine PySem.W.callWith_K (h₀ := X.base) I.ok.mod.kin M.kp (thn (ha.run pos pins s σ H _ I h) fun us s1 ⟨vs, H1, I1, r, v, ev, m⟩ => ⟨I1.kIn, ?_⟩) he hpl
  subst ev
  have hq := mk_in m (s1.heap.objs.size + 1) s1.heap.objs.size (I1.hok.fresh (Nat.le_succ _)) (I1.hok.fresh (Nat.le_refl _)) (Nat.ne_of_lt (Nat.lt_succ_self _))
  have I2 := Inv.made (C := C) I1
  have r2 : Vals [V.ref (s1.heap.objs.size + 1), v] (Value.ref (s1.heap.objs.size + 1) :: us) := .cons rfl r
  have hl : (Value.ref (s1.heap.objs.size + 1) :: us ++ []).length = (["self", "places"] : List Str).length := by
    rw [List.append_nil, ← r2.length]
    rfl
  have bb := b _ (Value.ref (s1.heap.objs.size + 1) :: us) I2.kIn hl
  rw [List.append_nil] at bb
  refine wpAny_call (make_map (f := fI) I1.kIn M.makes M.init (beq_iff_eq.mp M.fn) (codeAny_mono (G.run _ X.stack _ _ ⟨Value.ref (s1.heap.objs.size + 1) :: us, []⟩ (Value.ref (s1.heap.objs.size + 1) :: us) _ _ (E σ) (hr.make C us [])
    (I2.env0.make C us []) bb r2 hq) fun r s' hq' => ?_))
  cases r with
  | error e => exact hx σ pins _ _ e s' I2 hq'
  | ok fl =>
    cases fl with
    | ret u =>
      obtain ⟨v, H', I3, rv, ev, q3⟩ := I2.after hq'
      subst ev
      exact ⟨rv, ⟨V.ref (s1.heap.objs.size + 1), H', I3, rfl, q3⟩⟩
    | next => exact False.elim hq'
    | brk => exact False.elim hq'
    | cont => exact False.elim hq'
end
end K11

namespace K11
open PySem PySem.Spec PyProof.Rows L2
/-! ### floor division by any divisor but 0 -/
def CDivWN (_ j : Int) : Prop := j ≠ 0 ∧ j.natAbs.log2 < 9000
theorem op_fdivWN {X : Cx} : OpR X (binaryOp .FloorDiv) (rI CDivWN fun i j => .int (i.fdiv j)) := opI fun _ _ _ _ _ _ _ hc q => floordiv_int hc.1 q (.inl (PyProof.noPylong_of_log2 hc.2))
theorem cdiv_of {i j : Int} {b : Nat} (h : j ≠ 0) (hb : j.natAbs < 2 ^ b) (h0 : 0 < b) (h9 : b ≤ 9000) : CDivWN i j := ⟨h, Nat.lt_of_lt_of_le (PySem.Flt.log2_lt_of h0 hb) h9⟩
/-! ### the lens -/
/-- but at p all stands as it stood, and what draws keeps its cells -/
def SB (p : Addr) (H H' : Hp) : Prop := (∀ b o, b ≠ p → H b = some o → H' b = some o) ∧ ∀ c x y, H p = some (.lst [.ref c, x, y]) → ∃ x' y', H' p = some (.lst [.ref c, x', y'])
theorem SB.refl (p : Addr) (H : Hp) : SB p H H := ⟨fun _ _ _ h => h, fun _ _ _ h => ⟨_, _, h⟩⟩
theorem SB.trans {p : Addr} {H H1 H2 : Hp} (a : SB p H H1) (b : SB p H1 H2) : SB p H H2 := ⟨fun c o n h => b.1 c o n (a.1 c o n h), fun c x y h => let ⟨_, _, h1⟩ := a.2 c x y h; b.2 _ _ _ h1⟩
theorem SB.of {p : Addr} {H H' : Hp} (s : Same H H') : SB p H H' := ⟨fun b o _ h => s b o h, fun _ _ _ h => ⟨_, _, s _ _ h⟩⟩
theorem SB.set {p c : Addr} {x y x' y' : V} {H : Hp} (e : H p = some (.lst [.ref c, x, y])) : SB p H (upd H p (.lst [.ref c, x', y'])) := ⟨fun b o n h => by
  rw [upd_ne n]
  exact h, fun d _ _ h => by
  rw [e] at h
  have z := V.ref.inj (List.cons.inj (HO.lst.inj (Option.some.inj h))).1
  exact ⟨x', y', by rw [upd_same, z]⟩⟩
/-- the lens at p, of n turns at most -/
def Lens (H : Hp) (p : Addr) (n : Nat) : Prop := ∃ (c : Addr) (ns : List Int) (spot store : Int), H p = some (.lst [.ref c, .int spot, .int store]) ∧ H c = some (.lst (ns.map V.int)) ∧ c ≠ p ∧ 0 ≤ spot ∧ spot ≤ n
theorem Lens.same {H H' : Hp} {p : Addr} {n : Nat} (v : Lens H p n) (s : Same H H') : Lens H' p n := by
  obtain ⟨c, ns, a, b, h1, h2, h⟩ := v
  exact ⟨c, ns, a, b, s _ _ h1, s _ _ h2, h⟩
theorem Lens.le {H : Hp} {p : Addr} {n m : Nat} (v : Lens H p n) (h : n ≤ m) : Lens H p m := by
  obtain ⟨c, ns, a, b, h1, h2, h3, h4, h5⟩ := v
  exact ⟨c, ns, a, b, h1, h2, h3, h4, by omega⟩
theorem Lens.at {H : Hp} {p : Addr} {n : Nat} (v : Lens H p n) : ∃ (c : Addr) (a b : Int), H p = some (.lst [.ref c, .int a, .int b]) := by
  obtain ⟨c, ns, a, b, h1, _⟩ := v
  exact ⟨c, a, b, h1⟩
/-- a thing made later is no part of what draws -/
theorem Lens.upd {H4 H : Hp} {p D : Addr} {n n4 : Nat} {o : HO} (v : Lens H p n) (v4 : Lens H4 p n4) (s : SB p H4 H) (hD : H4 D = none) : Lens (upd H D o) p n := by
  obtain ⟨c, ns, x, y, h1, h2, h3, h4, h5⟩ := v
  obtain ⟨c4, ms, x4, y4, g1, g2, g3, _⟩ := v4
  obtain ⟨x', y', e⟩ := s.2 _ _ _ g1
  rw [h1] at e
  have z : c = c4 := V.ref.inj (List.cons.inj (HO.lst.inj (Option.some.inj e))).1
  subst z
  exact ⟨c, ns, x, y, by rw [upd_ne (ne_of_none g1 hD)]; exact h1, by rw [upd_ne (ne_of_none g2 hD)]; exact h2, h3, h4, h5⟩
/-- a comprehension without a test keeps every item -/
theorem yes_of {T N : Hp → Prop} {σ : L2.St} {H : Hp} (h : T H) : tYes σ H fun b H3 => if b = true then T H3 else N H3 := by
  show if true = true then T H else N H
  rw [if_pos rfl]
  exact h
theorem cut_ints (ns : List Int) (lo hi : Option Int) : ∃ ms : List Int, cutV (ns.map V.int) lo hi = ms.map V.int ∧ ms.length ≤ ns.length := by
  refine ⟨(ns.drop (HT.sIx (ns.map V.int).length 0 lo)).take (HT.sIx (ns.map V.int).length (ns.map V.int).length hi - HT.sIx (ns.map V.int).length 0 lo), ?_, ?_⟩
  · unfold cutV
    rw [List.map_take, List.map_drop]
  · rw [List.length_take, List.length_drop]
    omega
theorem get_ints {ns : List Int} {i : Nat} {x : V} (h : (ns.map V.int)[i]? = some x) : ∃ z, ns[i]? = some z ∧ x = .int z := by
  rw [List.getElem?_map] at h
  cases e : ns[i]? with
  | none =>
    rw [e] at h
    cases h
  | some z =>
    rw [e] at h
    exact ⟨z, rfl, (Option.some.inj h).symm⟩
theorem dp_ints {K : PySem.W.Frag} {H : Hp} : ∀ ns : List Int, DpAll K H (ns.map V.int) (ns.map PyData.int)
  | [] => .nil
  | n :: ns => .cons (.int n) (dp_ints ns)
theorem ix_cells {ns : List Int} {spot : Int} (h0 : 0 ≤ spot) (hn : ns ≠ []) : ∃ z, atI (ns.map V.int) (spot % (ns.map V.int).length) = some (.int z) := by
  have hl : 0 < ns.length := List.length_pos_iff.mpr hn
  have e1 := Int.emod_nonneg spot (show ((ns.map V.int).length : Int) ≠ 0 by rw [List.length_map]; omega)
  have e2 := Int.emod_lt_of_pos spot (show (0 : Int) < ((ns.map V.int).length : Int) by rw [List.length_map]; omega)
  obtain ⟨j, hj⟩ := Int.eq_ofNat_of_zero_le e1
  have hj2 : j < ns.length := by
    rw [List.length_map] at hj e2
    omega
  refine ⟨ns[j], ?_⟩
  rw [hj]
  refine atI_nat ?_
  rw [List.getElem?_map, List.getElem?_eq_getElem hj2]
  rfl
section
variable {P : Program} {w : World} {K : PySem.W.Frag} {mg : Str → Option Value} {base : Heap}
def spLens (K : PySem.W.Frag) : Sp := fun vs H Q _ => ∃ (a : Addr) (ns : List Int), vs = [.ref a] ∧ SqL K H a (ns.map V.int) ∧ ns.length ≤ 63 ∧ ∀ H' p, Same H H' → H p = none → Lens H' p 0 → Q (.ref p) H'
abbrev sLens : Stmt := top 38
theorem scLens : FnScope ["_law_script", "_law_cell"] ["_law_script"] (defScope sLens) := ⟨rfl, rfl, rfl, by decide +kernel, rfl, by decide +kernel, by decide +kernel⟩
theorem ok_lens {f : Addr} {fd : FuncData} (F : Fun K "_law_lens" "_law_lens" sLens f fd) (B : Bn mg) : FnOk P w K mg base CX0 1 f fd ["_law_script"] (spLens K) := by
  refine F.ok scLens (fun vs H Q E h => ?_) (fun cdv A outer s H vs Q E hr h => ?_)
  · obtain ⟨a, ns, rfl, _⟩ := h
    rfl
  · obtain ⟨a, ns, rfl, hS, hl, q⟩ := h
    refine ⟨_, pss_one (ps_ret (pe_lst (pa_cons (pe_lc (own := [("_law_cell", 1)]) (g := gName 1) (tt := tYes) rfl scLens.nd (pi_list (pe_slice sl_list (pv 0) po_none (po_some pe_int))) (blkOk_by (N := ["_law_script", "_law_cell"]) (sc := defScope sLens) (by decide +kernel)) (fun _ _ _ _ _ => pg_name (i := 1) scLens.nd rfl (Or.inl rfl)) (fun _ _ _ _ _ => pts_nil)
      (fun _ _ _ _ _ => pe_callTy call_int1 (by rfl) B.int boot_int (pa_cons (pv 1) pa_nil))) (pa_cons pe_int (pa_cons pe_int pa_nil))))), ?_⟩
    obtain ⟨ms, em, hm⟩ := cut_ints ns none (some 61)
    refine ⟨_, rfl, 61, rfl, a, _, rfl, hS, fun p hp => ?_⟩
    rw [em]
    refine ⟨p, rfl, ⟨_, SqL.of upd_same⟩, fun D hD => ?_⟩
    refine lc_list (K := K) (a := p) (xs := ms.map V.int) (fun i H' => Same (upd H p (.lst (ms.map V.int))) H' ∧ H' D = some (.lst ((ms.map V.int).take i))) ⟨same_new hD, upd_same⟩ (fun i H' _ p' => SqL.of (p'.1 _ _ upd_same)) (fun i x H' hx p' => ?_) (fun H' p' => ?_)
    · obtain ⟨z, _, rfl⟩ := get_ints hx
      refine ⟨rfl, yes_of ?_⟩
      refine ⟨_, rfl, .inl ⟨z, rfl, _, p'.2, ?_, ?_, ?_⟩⟩
      · rw [List.length_take, List.length_map]
        exact small1000 (by omega)
      · intro b o e
        rw [upd_ne (ne_of_none e hD)]
        exact p'.1 b o e
      · rw [upd_same, take_more hx]
    · have e := p'.2
      rw [List.take_length] at e
      refine ⟨by show 3 ≤ sizeLine; decide, fun t ht => ?_⟩
      have s0 : Same H (upd H p (.lst (ms.map V.int))) := same_new hp
      refine q _ t ((s0.trans p'.1).trans (same_new ht)) (s0.free (p'.1.free ht)) ⟨D, ms, 0, 0, upd_same, ?_, ne_of_none e ht, by decide, by decide⟩
      rw [upd_ne (ne_of_none e ht)]
      exact e
theorem mix_lt (x : Int) : 0 ≤ x % 2147483579 ∧ x % 2147483579 < 2147483579 := ⟨Int.emod_nonneg _ (by decide), Int.emod_lt_of_pos _ (by decide)⟩
theorem mixmul (x j : Int) : CMul (x % 2147483579) j := .inl ⟨by have := mix_lt x; omega, by have := mix_lt x; omega⟩
theorem pw5 (x : Int) {spot : Int} (h0 : 0 ≤ spot) (h1 : spot < 60000) : CPow (x % 2147483549 + 81001 * spot + 3119) 5 := by
  have a := Int.emod_nonneg x (show (2147483549 : Int) ≠ 0 by decide)
  have b := Int.emod_lt_of_pos x (show (0 : Int) < 2147483549 by decide)
  exact ⟨by decide, by decide, by omega⟩
theorem pw3 (y spot : Int) (a : 0 ≤ y) (b : y < 2147483579) (h0 : 0 ≤ spot) (h1 : spot < 60000) : CPow (y * (2 * spot + 1907) + 40127 * spot * spot + 81001) 3 := by
  have c1 : y * (2 * spot + 1907) ≤ 2147483579 * 121907 := Int.mul_le_mul (by omega) (by omega) (by omega) (by omega)
  have c0 : 0 ≤ y * (2 * spot + 1907) := Int.mul_nonneg a (by omega)
  have d1 : 40127 * spot * spot ≤ 40127 * 60000 * 60000 := Int.mul_le_mul (by omega) (by omega) (by omega) (by omega)
  have d0 : 0 ≤ 40127 * spot * spot := Int.mul_nonneg (by omega) h0
  exact ⟨by decide, by decide, by omega⟩
def spShot : Sp := fun vs H Q _ => ∃ (p : Addr) (m : Int) (n : Nat), vs = [.ref p, .int m] ∧ Lens H p n ∧ n < 60000 ∧ 0 < m ∧ m.natAbs < 2 ^ 64 ∧ ∀ H' d, SB p H H' → Lens H' p (n + 1) → 0 ≤ d → d < m → Q (.int d) H'
abbrev sShot : Stmt := top 39
abbrev nShot : List Str := ["_law_lens_here", "_law_many", "_law_rest", "_law_turn", "_law_cell", "_law_mixed"]
theorem scShot : FnScope nShot ["_law_lens_here", "_law_many"] (defScope sShot) := ⟨rfl, rfl, rfl, by decide +kernel, rfl, by decide +kernel, by decide +kernel⟩
theorem ok_shot {f : Addr} {fd : FuncData} (F : Fun K "_law_shot" "_law_shot" sShot f fd) (B : Bn mg) : FnOk P w K mg base CX0 1 f fd ["_law_lens_here", "_law_many"] spShot := by
  refine F.ok scShot (fun vs H Q E h => ?_) (fun cdv A outer s H vs Q E hr h => ?_)
  · obtain ⟨p, m, n, rfl, _⟩ := h
    rfl
  · obtain ⟨p, m, n, rfl, ⟨c, ns, spot, store, hp, hc, npc, h0, h1⟩, hn, hm0, hm, q⟩ := h
    have nd := scShot.nd
    refine ⟨_, (pss_cons (ps_if (pt_cmpR op_gt (pe_ix ix_list (pv 0) (pe_int) (fun _ _ => rfl)) pe_int (nomark _))
        (pss_cons ((ps_set (i := 2) nd rfl (Or.inl rfl) ((pe_ix ix_list (pv 0) (pe_int) (fun _ _ => rfl))))) (pss_cons (ps_asg (pe_op op_fdivWN (pe_callTy call_int1 (by rfl) B.int boot_int (pa_cons (pv 2) pa_nil)) (pv 1)) (pg_sub (pv 0) pe_int set_list)) (pss_one (ps_ret (pe_op op_mod (pe_callTy call_int1 (by rfl) B.int boot_int (pa_cons (pv 2) pa_nil)) (pv 1)))))) pss_nil) (pss_cons ((ps_set (i := 3) nd rfl (Or.inl rfl) ((pe_ix ix_list (pv 0) (pe_int) (fun _ _ => rfl))))) (pss_cons (ps_asg (pe_op op_add (pv 3) pe_int) (pg_sub (pv 0) pe_int set_list)) (pss_cons ((ps_set (i := 4) nd rfl (Or.inl rfl) (pe_op op_add (pe_op op_mul pe_int (pv 3)) pe_int))) (pss_cons (ps_if (pt_cmpR (op_neD hr.units) (pe_ix ix_list (pv 0) (pe_int) (fun _ _ => rfl)) (pe_lst pa_nil) (nomark _))
        (pss_one ((ps_set (i := 4) nd rfl (Or.inl rfl) ((pe_ix ix_list ((pe_ix ix_list (pv 0) (pe_int) (fun _ _ => rfl))) (pe_op op_mod (pe_callTy call_int1 (by rfl) B.int boot_int (pa_cons (pv 3) pa_nil)) (pe_callB call_len_seq (by rfl) B.len PySem.boot_len (pa_cons ((pe_ix ix_list (pv 0) (pe_int) (fun _ _ => rfl))) pa_nil))) (fun _ _ => rfl)))))) pss_nil) (pss_cons (ps_if (PW.pt (pw_and (pt_cmpR op_lt (pv 3) (pe_callB call_len_seq (by rfl) B.len PySem.boot_len (pa_cons ((pe_ix ix_list (pv 0) (pe_int) (fun _ _ => rfl))) pa_nil)) (nomark _)) (pw_and1 (pt_cmpR op_ge (pe_callB call_abs (by rfl) B.abs (by decide +kernel) (pa_cons (pv 4) pa_nil)) (pe_op op_pow pe_int pe_int) (nomark _)))))
        (pss_cons ((ps_set (i := 2) nd rfl (Or.inl rfl) (pe_op op_add (pe_op op_mul pe_int (pe_op op_sub (pe_callB call_abs (by rfl) B.abs (by decide +kernel) (pa_cons (pv 4) pa_nil)) (pe_op op_pow pe_int pe_int))) (pe_callTy call_int1 (by rfl) B.int boot_int (pa_cons (pe_cmpR op_lt (pv 4) pe_int (nomark _)) pa_nil))))) (pss_cons (ps_asg (pe_op op_fdivWN (pe_callTy call_int1 (by rfl) B.int boot_int (pa_cons (pv 2) pa_nil)) (pv 1)) (pg_sub (pv 0) pe_int set_list)) (pss_one (ps_ret (pe_op op_mod (pe_callTy call_int1 (by rfl) B.int boot_int (pa_cons (pv 2) pa_nil)) (pv 1)))))) pss_nil) (pss_cons ((ps_set (i := 5) nd rfl (Or.inl rfl) (pe_op op_mod (pe_callTy call_int1 (by rfl) B.int boot_int (pa_cons (pe_op op_pow (pe_op op_add (pe_op op_add (pe_op op_mod (pe_callTy call_int1 (by rfl) B.int boot_int (pa_cons (pv 4) pa_nil)) pe_int) (pe_op op_mul pe_int (pv 3))) pe_int) pe_int) pa_nil)) pe_int))) (pss_cons ((ps_set (i := 5) nd rfl (Or.inl rfl) (pe_op op_mod (pe_callTy call_int1 (by rfl) B.int boot_int (pa_cons (pe_op op_pow (pe_op op_add (pe_op op_add (pe_op op_mul (pv 5) (pe_op op_add (pe_op op_mul pe_int (pv 3)) pe_int)) (pe_op op_mul (pe_op op_mul pe_int (pv 3)) (pv 3))) pe_int) pe_int) pa_nil)) pe_int))) (pss_one (ps_ret (pe_op op_mod (pe_callTy call_int1 (by rfl) B.int boot_int (pa_cons (pe_op op_fdiv (pv 5) pe_int) pa_nil)) (pv 1)))))))))))), ?_⟩
    have hdm : ∀ x : Int, CDivWN x m := fun x => cdiv_of (by omega) hm (by decide) (by decide)
    refine ⟨_, rfl, p, _, 2, _, rfl, rfl, SqL.of hp, rfl, _, _, rfl, rfl, _, rfl, ?_⟩
    have fin : ∀ (x st sp : Int) (H1 : Hp), H1 p = some (.lst [.ref c, .int sp, .int st]) → SB p H H1 → 0 ≤ sp → sp ≤ (n + 1 : Nat) → Q (.int (x % m)) H1 := fun x st sp H1 e s1 h0 h1 =>
      q _ _ s1 ⟨c, ns, sp, st, e, s1.1 _ _ npc hc, npc, h0, h1⟩ (Int.emod_nonneg _ (by omega)) (Int.emod_lt_of_pos _ hm0)
    by_cases hpos : 0 < store
    · rw [decide_eq_true hpos]
      refine iteT ⟨_, rfl, p, _, 2, _, rfl, rfl, SqL.of hp, rfl, ?_⟩
      refine ⟨_, rfl, .inl ⟨_, rfl, _, rfl, _, _, rfl, rfl, hdm _, ?_⟩⟩
      refine ⟨_, rfl, p, _, 2, 2, rfl, rfl, hp, rfl, ?_⟩
      refine ⟨_, rfl, .inl ⟨_, rfl, _, rfl, _, _, rfl, rfl, hm0, ?_⟩⟩
      exact fin store _ spot _ upd_same (SB.set hp) h0 (by omega)
    · rw [decide_eq_false hpos]
      refine iteF ⟨_, rfl, p, _, 1, _, rfl, rfl, SqL.of hp, rfl, ?_⟩
      refine ⟨_, rfl, _, _, rfl, rfl, _, rfl, p, _, 1, 1, rfl, rfl, hp, rfl, ?_⟩
      have hp1 : (upd H p (.lst [.ref c, .int (spot + 1), .int store])) p = some (.lst [.ref c, .int (spot + 1), .int store]) := upd_same
      have s1 : SB p H (upd H p (.lst [.ref c, .int (spot + 1), .int store])) := SB.set hp
      have e1 : upd H p (.lst (List.set [V.ref c, V.int spot, V.int store] 1 (V.int (spot + 1)))) = upd H p (.lst [.ref c, .int (spot + 1), .int store]) := rfl
      generalize hH1 : upd H p (.lst [.ref c, .int (spot + 1), .int store]) = H1 at hp1 s1 e1
      rw [e1]
      refine ⟨_, rfl, _, _, rfl, rfl, .inl ⟨by decide, by decide⟩, _, _, rfl, rfl, ?_⟩
      have hc1 := s1.1 _ _ npc hc
      refine ⟨_, rfl, p, _, 0, _, rfl, rfl, SqL.of hp1, rfl, Nat.zero_le _, fun l hl' => ?_⟩
      have hp2 : upd H1 l (.lst []) p = some (.lst [.ref c, .int (spot + 1), .int store]) := same_new hl' _ _ hp1
      have hc2 : upd H1 l (.lst []) c = some (.lst (ns.map V.int)) := same_new hl' _ _ hc1
      have s2 : SB p H (upd H1 l (.lst [])) := s1.trans (SB.of (same_new hl'))
      have hl2 : upd H1 l (.lst []) l = some (.lst []) := upd_same
      have hsn : spot < 60000 := by omega
      clear hl'
      generalize upd H1 l (.lst []) = H2 at hp2 hc2 s2 hl2
      refine ⟨.list (ns.map PyData.int), .list [], .lst (SqL.of hc2) (dp_ints ns), .lst (SqL.of hl2) .nil, PySem.W.ke_shaped_ints ns, by decide, _, rfl, ?_⟩
      by_cases hnn : ns = []
      · have e : (!PyData.eqv (.list (ns.map PyData.int)) (.list [])) = false := by subst hnn; rfl
        rw [e]
        refine iteF ?_
        generalize 40127 * spot + 3119 = x
        refine ⟨_, rfl, _, rfl, p, _, 0, _, rfl, rfl, SqL.of hp2, rfl, c, _, rfl, .inl (SqL.of hc2), _, _, rfl, rfl, _, rfl, ?_⟩
        refine ite2 (fun ha => ?_) (fun ha => ?_)
        · refine ⟨_, rfl, _, rfl, _, _, rfl, rfl, ⟨by decide, by decide, by decide⟩, _, _, rfl, rfl, _, rfl, ?_⟩
          refine ite2 (fun hb => ?_) (fun hb => ?_)
          · refine ⟨_, rfl, _, rfl, _, _, rfl, rfl, ⟨by decide, by decide, by decide⟩, _, _, rfl, rfl, _, _, rfl, rfl, .inl ⟨by decide, by decide⟩, _, rfl, _, _, rfl, rfl, .inr ⟨_, rfl, _, _, rfl, rfl, ?_⟩⟩
            refine ⟨_, rfl, .inl ⟨_, rfl, _, rfl, _, _, rfl, rfl, hdm _, ?_⟩⟩
            refine ⟨_, rfl, p, _, 2, 2, rfl, rfl, hp2, rfl, ?_⟩
            refine ⟨_, rfl, .inl ⟨_, rfl, _, rfl, _, _, rfl, rfl, hm0, ?_⟩⟩
            exact fin _ _ (spot + 1) _ upd_same (s2.trans (SB.set hp2)) (by omega) (by omega)
          · refine ⟨_, rfl, .inl ⟨_, rfl, _, _, rfl, rfl, (by show (0 : Int) < 2147483549; decide), _, rfl, _, _, rfl, rfl, .inl ⟨by decide, by decide⟩, _, _, rfl, rfl, _, _, rfl, rfl, _, _, rfl, rfl, pw5 _ h0 hsn, .inl ⟨_, rfl, _, _, rfl, rfl, (by show (0 : Int) < 2147483579; decide), ?_⟩⟩⟩
            refine ⟨_, rfl, _, rfl, _, _, rfl, rfl, .inl ⟨by decide, by decide⟩, _, _, rfl, rfl, _, _, rfl, rfl, mixmul _ _, _, rfl, _, _, rfl, rfl, .inl ⟨by decide, by decide⟩, _, rfl, _, _, rfl, rfl, .inr ⟨by omega, by omega⟩, _, _, rfl, rfl, _, _, rfl, rfl, _, _, rfl, rfl, pw3 _ spot (mix_lt _).1 (mix_lt _).2 h0 hsn, .inl ⟨_, rfl, _, _, rfl, rfl, (by show (0 : Int) < 2147483629; decide), ?_⟩⟩
            refine ⟨_, rfl, _, _, rfl, rfl, ⟨by decide, by decide⟩, .inl ⟨_, rfl, _, rfl, _, _, rfl, rfl, hm0, ?_⟩⟩
            exact fin _ _ _ _ hp2 s2 (by omega) (by omega)
        · refine iteF ?_
          refine ⟨_, rfl, .inl ⟨_, rfl, _, _, rfl, rfl, (by show (0 : Int) < 2147483549; decide), _, rfl, _, _, rfl, rfl, .inl ⟨by decide, by decide⟩, _, _, rfl, rfl, _, _, rfl, rfl, _, _, rfl, rfl, pw5 _ h0 hsn, .inl ⟨_, rfl, _, _, rfl, rfl, (by show (0 : Int) < 2147483579; decide), ?_⟩⟩⟩
          refine ⟨_, rfl, _, rfl, _, _, rfl, rfl, .inl ⟨by decide, by decide⟩, _, _, rfl, rfl, _, _, rfl, rfl, mixmul _ _, _, rfl, _, _, rfl, rfl, .inl ⟨by decide, by decide⟩, _, rfl, _, _, rfl, rfl, .inr ⟨by omega, by omega⟩, _, _, rfl, rfl, _, _, rfl, rfl, _, _, rfl, rfl, pw3 _ spot (mix_lt _).1 (mix_lt _).2 h0 hsn, .inl ⟨_, rfl, _, _, rfl, rfl, (by show (0 : Int) < 2147483629; decide), ?_⟩⟩
          refine ⟨_, rfl, _, _, rfl, rfl, ⟨by decide, by decide⟩, .inl ⟨_, rfl, _, rfl, _, _, rfl, rfl, hm0, ?_⟩⟩
          exact fin _ _ _ _ hp2 s2 (by omega) (by omega)
      · have e : (!PyData.eqv (.list (ns.map PyData.int)) (.list [])) = true := by
          cases ns with
          | nil => exact absurd rfl hnn
          | cons => rfl
        rw [e]
        obtain ⟨z, hz⟩ := ix_cells (ns := ns) h0 hnn
        refine iteT ⟨_, rfl, p, _, 0, _, rfl, rfl, SqL.of hp2, rfl, _, rfl, .inl ⟨_, rfl, _, rfl, p, _, 0, _, rfl, rfl, SqL.of hp2, rfl, c, _, rfl, .inl (SqL.of hc2), _, _, rfl, rfl, ?_, c, _, _, _, rfl, rfl, SqL.of hc2, hz, ?_⟩⟩
        · rw [List.length_map]
          have := List.length_pos_iff.mpr hnn
          omega
        generalize z = x
        refine ⟨_, rfl, _, rfl, p, _, 0, _, rfl, rfl, SqL.of hp2, rfl, c, _, rfl, .inl (SqL.of hc2), _, _, rfl, rfl, _, rfl, ?_⟩
        refine ite2 (fun ha => ?_) (fun ha => ?_)
        · refine ⟨_, rfl, _, rfl, _, _, rfl, rfl, ⟨by decide, by decide, by decide⟩, _, _, rfl, rfl, _, rfl, ?_⟩
          refine ite2 (fun hb => ?_) (fun hb => ?_)
          · refine ⟨_, rfl, _, rfl, _, _, rfl, rfl, ⟨by decide, by decide, by decide⟩, _, _, rfl, rfl, _, _, rfl, rfl, .inl ⟨by decide, by decide⟩, _, rfl, _, _, rfl, rfl, .inr ⟨_, rfl, _, _, rfl, rfl, ?_⟩⟩
            refine ⟨_, rfl, .inl ⟨_, rfl, _, rfl, _, _, rfl, rfl, hdm _, ?_⟩⟩
            refine ⟨_, rfl, p, _, 2, 2, rfl, rfl, hp2, rfl, ?_⟩
            refine ⟨_, rfl, .inl ⟨_, rfl, _, rfl, _, _, rfl, rfl, hm0, ?_⟩⟩
            exact fin _ _ (spot + 1) _ upd_same (s2.trans (SB.set hp2)) (by omega) (by omega)
          · refine ⟨_, rfl, .inl ⟨_, rfl, _, _, rfl, rfl, (by show (0 : Int) < 2147483549; decide), _, rfl, _, _, rfl, rfl, .inl ⟨by decide, by decide⟩, _, _, rfl, rfl, _, _, rfl, rfl, _, _, rfl, rfl, pw5 _ h0 hsn, .inl ⟨_, rfl, _, _, rfl, rfl, (by show (0 : Int) < 2147483579; decide), ?_⟩⟩⟩
            refine ⟨_, rfl, _, rfl, _, _, rfl, rfl, .inl ⟨by decide, by decide⟩, _, _, rfl, rfl, _, _, rfl, rfl, mixmul _ _, _, rfl, _, _, rfl, rfl, .inl ⟨by decide, by decide⟩, _, rfl, _, _, rfl, rfl, .inr ⟨by omega, by omega⟩, _, _, rfl, rfl, _, _, rfl, rfl, _, _, rfl, rfl, pw3 _ spot (mix_lt _).1 (mix_lt _).2 h0 hsn, .inl ⟨_, rfl, _, _, rfl, rfl, (by show (0 : Int) < 2147483629; decide), ?_⟩⟩
            refine ⟨_, rfl, _, _, rfl, rfl, ⟨by decide, by decide⟩, .inl ⟨_, rfl, _, rfl, _, _, rfl, rfl, hm0, ?_⟩⟩
            exact fin _ _ _ _ hp2 s2 (by omega) (by omega)
        · refine iteF ?_
          refine ⟨_, rfl, .inl ⟨_, rfl, _, _, rfl, rfl, (by show (0 : Int) < 2147483549; decide), _, rfl, _, _, rfl, rfl, .inl ⟨by decide, by decide⟩, _, _, rfl, rfl, _, _, rfl, rfl, _, _, rfl, rfl, pw5 _ h0 hsn, .inl ⟨_, rfl, _, _, rfl, rfl, (by show (0 : Int) < 2147483579; decide), ?_⟩⟩⟩
          refine ⟨_, rfl, _, rfl, _, _, rfl, rfl, .inl ⟨by decide, by decide⟩, _, _, rfl, rfl, _, _, rfl, rfl, mixmul _ _, _, rfl, _, _, rfl, rfl, .inl ⟨by decide, by decide⟩, _, rfl, _, _, rfl, rfl, .inr ⟨by omega, by omega⟩, _, _, rfl, rfl, _, _, rfl, rfl, _, _, rfl, rfl, pw3 _ spot (mix_lt _).1 (mix_lt _).2 h0 hsn, .inl ⟨_, rfl, _, _, rfl, rfl, (by show (0 : Int) < 2147483629; decide), ?_⟩⟩
          refine ⟨_, rfl, _, _, rfl, rfl, ⟨by decide, by decide⟩, .inl ⟨_, rfl, _, rfl, _, _, rfl, rfl, hm0, ?_⟩⟩
          exact fin _ _ _ _ hp2 s2 (by omega) (by omega)
/-! ### _law_pick -/
def spPick : Sp := fun vs H Q _ => ∃ (p a : Addr) (n : Nat) (xs : List V), vs = [.ref p, .ref a] ∧ Lens H p n ∧ n < 60000 ∧ H a = some (.lst xs) ∧ a ≠ p ∧ 0 < xs.length ∧ xs.length ≤ 1000 ∧ ∀ H' x, SB p H H' → Lens H' p (n + 1) → x ∈ xs → Q x H'
abbrev sPick : Stmt := top 40
theorem scPick : FnScope ["_law_lens_here", "_law_some"] ["_law_lens_here", "_law_some"] (defScope sPick) := ⟨rfl, rfl, rfl, by decide +kernel, rfl, by decide +kernel, by decide +kernel⟩
theorem ok_pick {f : Addr} {fd : FuncData} (F : Fun K "_law_pick" "_law_pick" sPick f fd) (B : Bn mg) (C1 : Callee P w K mg base CX0 1 "_law_shot" ["_law_lens_here", "_law_many"] spShot) : FnOk P w K mg base CX0 2 f fd ["_law_lens_here", "_law_some"] spPick := by
  obtain ⟨f1, fd1, m1, k1, b1, G1⟩ := C1
  refine F.ok scPick (fun vs H Q E h => ?_) (fun cdv A outer s H vs Q E hr h => ?_)
  · obtain ⟨p, a, n, xs, rfl, _⟩ := h
    rfl
  · obtain ⟨p, a, n, xs, rfl, hv, hn, ha, nap, h0, h1, q⟩ := h
    refine ⟨_, pss_one (ps_ret (pe_ix ix_list (pv 1) ((pe_call G1 (hr.mono (by decide)) rfl m1 k1 b1 .nil pass0 (pa_cons (pv 0) (pa_cons ((pe_callB call_len_seq (by rfl) B.len PySem.boot_len (pa_cons (pv 1) pa_nil))) pa_nil)))) (fun _ _ => rfl))), ?_⟩
    refine ⟨_, rfl, _, rfl, _, rfl, a, xs, rfl, .inl (SqL.of ha), p, _, n, rfl, hv, hn, by omega, by rw [Int.natAbs_natCast]; exact Nat.lt_of_le_of_lt h1 (by decide), fun H' d s1 v1 d0 d1 => ?_⟩
    obtain ⟨j, rfl⟩ := Int.eq_ofNat_of_zero_le d0
    have hj : j < xs.length := by omega
    exact ⟨a, xs, _, xs[j], rfl, rfl, SqL.of (s1.1 _ _ nap ha), atI_nat (List.getElem?_eq_getElem hj), q _ _ s1 v1 (List.getElem_mem hj)⟩
/-! ### _law_number -/
def spNum : Sp := fun vs H Q _ => ∃ (p : Addr) (n : Nat), vs = [.ref p] ∧ Lens H p n ∧ n + 3 < 60000 ∧ ∀ H' z, SB p H H' → Lens H' p (n + 3) → -G9 ≤ z → z ≤ G9 → Q (.int z) H'
abbrev sNum : Stmt := top 41
abbrev nNum : List Str := ["_law_lens_here", "_law_way"]
theorem scNum : FnScope nNum ["_law_lens_here"] (defScope sNum) := ⟨rfl, rfl, rfl, by decide +kernel, rfl, by decide +kernel, by decide +kernel⟩
theorem ok_num {f : Addr} {fd : FuncData} (F : Fun K "_law_number" "_law_number" sNum f fd) (B : Bn mg) (C1 : Callee P w K mg base CX0 1 "_law_shot" ["_law_lens_here", "_law_many"] spShot) (C2 : Callee P w K mg base CX0 2 "_law_pick" ["_law_lens_here", "_law_some"] spPick) : FnOk P w K mg base CX0 3 f fd ["_law_lens_here"] spNum := by
  obtain ⟨f1, fd1, m1, k1, b1, G1⟩ := C1
  obtain ⟨f2, fd2, m2, k2, b2, G2⟩ := C2
  have nd := scNum.nd
  have eG : G9 = 1000000000 := rfl
  refine F.ok scNum (fun vs H Q E h => ?_) (fun cdv A outer s H vs Q E hr h => ?_)
  · obtain ⟨p, n, rfl, _⟩ := h
    rfl
  · obtain ⟨p, n, rfl, hv, hn, q⟩ := h
    refine ⟨_, (pss_cons ((ps_set (i := 1) nd rfl (Or.inl rfl) ((pe_call G1 (hr.mono (by decide)) rfl m1 k1 b1 .nil pass0 (pa_cons (pv 0) (pa_cons (pe_int) pa_nil)))))) (pss_cons (ps_if (pt_cmpR op_lt (pv 1) pe_int (nomark _)) (pss_one (ps_ret (pe_op op_sub (pe_call G1 (hr.mono (by decide)) rfl m1 k1 b1 .nil pass0 (pa_cons (pv 0) (pa_cons (pe_int) pa_nil))) pe_int))) pss_nil) (pss_cons (ps_if (pt_cmpR op_lt (pv 1) pe_int (nomark _)) (pss_one (ps_ret (pe_op op_sub (pe_call G1 (hr.mono (by decide)) rfl m1 k1 b1 .nil pass0 (pa_cons (pv 0) (pa_cons (pe_int) pa_nil))) pe_int))) pss_nil) (pss_one (ps_ret (pe_op op_mul (pe_op op_sub pe_int (pe_op op_mul pe_int (pe_call G1 (hr.mono (by decide)) rfl m1 k1 b1 .nil pass0 (pa_cons (pv 0) (pa_cons (pe_int) pa_nil))))) (pe_op op_sub (pe_op op_pow pe_int pe_int) (pe_call G2 (hr.mono (by decide)) rfl m2 k2 b2 .nil pass0 (pa_cons (pv 0) (pa_cons (pe_lst (pa_cons (pe_int) (pa_cons (pe_int) (pa_cons (pe_int) (pa_cons (pe_int) pa_nil))))) pa_nil)))))))))), ?_⟩
    refine ⟨_, rfl, p, 8, n, rfl, hv, by omega, by decide, by decide, fun H1 d1 s1 v1 d10 d11 => ?_⟩
    refine ⟨_, rfl, _, _, rfl, rfl, _, rfl, ?_⟩
    refine ite2 (fun h5 => ?_) (fun h5 => ⟨_, rfl, _, _, rfl, rfl, _, rfl, ?_⟩)
    · refine ⟨_, rfl, p, 9, n + 1, rfl, v1, by omega, by decide, by decide, fun H2 d2 s2 v2 d20 d21 => ⟨_, _, rfl, rfl, q _ _ (s1.trans s2) (v2.le (by omega)) ?_ ?_⟩⟩
      · show -G9 ≤ d2 - 4
        omega
      · show d2 - 4 ≤ G9
        omega
    · refine ite2 (fun h7 => ?_) (fun h7 => ?_)
      · refine ⟨_, rfl, p, 1999, n + 1, rfl, v1, by omega, by decide, by decide, fun H2 d2 s2 v2 d20 d21 => ⟨_, _, rfl, rfl, q _ _ (s1.trans s2) (v2.le (by omega)) ?_ ?_⟩⟩
        · show -G9 ≤ d2 - 999
          omega
        · show d2 - 999 ≤ G9
          omega
      · refine ⟨_, rfl, p, 2, n + 1, rfl, v1, by omega, by decide, by decide, fun H2 d2 s2 v2 d20 d21 => ?_⟩
        refine ⟨_, _, rfl, rfl, .inl ⟨by decide, by decide⟩, _, _, rfl, rfl, _, _, rfl, rfl, ⟨by decide, by decide, by decide⟩, _, rfl, by show 4 ≤ sizeLine; decide, fun l hl => ?_⟩
        have sl := same_new (o := .lst [V.int 0, V.int 0, V.int 1, V.int 500000007]) hl
        have nlp : l ≠ p := by
          obtain ⟨_, _, _, e⟩ := v2.at
          exact (ne_of_none e hl).symm
        refine ⟨p, l, n + 2, _, rfl, v2.same sl, by omega, upd_same, nlp, by show 0 < 4; decide, by show 4 ≤ 1000; decide, fun H3 x s3 v3 hx => ?_⟩
        obtain ⟨z, rfl, z0, z1⟩ : ∃ z : Int, x = .int z ∧ 0 ≤ z ∧ z ≤ 500000007 := by
          simp only [List.mem_cons, List.not_mem_nil, or_false] at hx
          rcases hx with e | e | e | e
          · exact ⟨_, e, by decide, by decide⟩
          · exact ⟨_, e, by decide, by decide⟩
          · exact ⟨_, e, by decide, by decide⟩
          · exact ⟨_, e, by decide, by decide⟩
        have e9 : (10 : Int) ^ (Int.toNat 9) = 1000000000 := by decide
        have cd : d2 = 0 ∨ d2 = 1 := by omega
        refine ⟨_, _, rfl, rfl, _, _, rfl, rfl, .inl ⟨by omega, by omega⟩, q _ _ ((s1.trans s2).trans ((SB.of sl).trans s3)) v3 ?_ ?_⟩
        · show -G9 ≤ (1 - 2 * d2) * ((10 : Int) ^ (Int.toNat 9) - z)
          rw [e9]
          rcases cd with rfl | rfl <;> omega
        · show (1 - 2 * d2) * ((10 : Int) ^ (Int.toNat 9) - z) ≤ G9
          rw [e9]
          rcases cd with rfl | rfl <;> omega
end
end K11

namespace K11
open PySem PySem.Spec PyProof.Rows L2
/-! ### a list of pairs -/
def LP (H : Hp) (a : Addr) (ts : List Addr) (ps : List (Int × Int)) : Prop := H a = some (.lst (ts.map V.ref)) ∧ Paired (Pr H) ts ps
theorem Lens.not_tup {H : Hp} {p a : Addr} {n : Nat} {xs : List V} (v : Lens H p n) (h : H a = some (.tup xs)) : a ≠ p := by
  obtain ⟨c, x, y, e⟩ := v.at
  exact L2.ne_of h e (by intro z; cases z)
theorem Lens.not_none {H : Hp} {p a : Addr} {n : Nat} (v : Lens H p n) (h : H a = none) : a ≠ p := by
  obtain ⟨c, x, y, e⟩ := v.at
  exact (ne_of_none e h).symm
theorem Pr.sb {H H' : Hp} {p a : Addr} {n : Nat} {q : Int × Int} (h : Pr H a q) (v : Lens H p n) (s : SB p H H') : Pr H' a q := s.1 _ _ (v.not_tup h) h
theorem prs_sb {H H' : Hp} {p : Addr} {n : Nat} {ts : List Addr} {ps : List (Int × Int)} (h : Paired (Pr H) ts ps) (v : Lens H p n) (s : SB p H H') : Paired (Pr H') ts ps := paired_mono h fun _ _ z => z.sb v s
theorem LP.sb {H H' : Hp} {p a : Addr} {n : Nat} {ts : List Addr} {ps : List (Int × Int)} (h : LP H a ts ps) (v : Lens H p n) (na : a ≠ p) (s : SB p H H') : LP H' a ts ps := ⟨s.1 _ _ na h.1, prs_sb h.2 v s⟩
theorem LP.same {H H' : Hp} {a : Addr} {ts : List Addr} {ps : List (Int × Int)} (h : LP H a ts ps) (s : Same H H') : LP H' a ts ps := ⟨s _ _ h.1, paired_mono h.2 fun _ _ z => s _ _ z⟩
theorem paired_snoc {α β : Type} {R : α → β → Prop} {xs : List α} {ys : List β} {x : α} {y : β} (h : Paired R xs ys) (r : R x y) : Paired R (xs ++ [x]) (ys ++ [y]) := by
  induction h with
  | nil => exact .cons r .nil
  | cons a _ ih => exact .cons a ih
theorem prs_upd {H : Hp} {D : Addr} {xs zs : List V} {ts : List Addr} {ps : List (Int × Int)} (hd : H D = some (.lst xs)) (h : Paired (Pr H) ts ps) : Paired (Pr (upd H D (.lst zs))) ts ps := paired_mono h fun t q z => by
  have z : H t = some (.tup [.int q.1, .int q.2]) := z
  show upd H D (.lst zs) t = _
  rw [upd_ne (L2.ne_of z hd (by intro z; cases z))]
  exact z
theorem LP.snoc {H : Hp} {D g : Addr} {ts : List Addr} {ps : List (Int × Int)} {q : Int × Int} (h : LP H D ts ps) (r : Pr H g q) : LP (upd H D (.lst (ts.map V.ref ++ [V.ref g]))) D (ts ++ [g]) (ps ++ [q]) :=
  ⟨by rw [upd_same, List.map_append]; rfl, prs_upd h.1 (paired_snoc h.2 r)⟩
theorem LP.len {H : Hp} {D : Addr} {ts : List Addr} {ps : List (Int × Int)} (h : LP H D ts ps) : ts.length = ps.length := Paired.length h.2
theorem SB.upd {H4 H : Hp} {p D : Addr} {o : HO} {n : Nat} (v4 : Lens H4 p n) (s : SB p H4 H) (hD : H4 D = none) : SB p H4 (upd H D o) := ⟨fun b o n h => by
  rw [upd_ne (ne_of_none h hD)]
  exact s.1 _ _ n h, fun c x y h => by
  obtain ⟨x', y', e⟩ := s.2 c x y h
  exact ⟨x', y', by rw [upd_ne (ne_of_none h hD)]; exact e⟩⟩
/-- all in reach -/
def InB (B : Int) (ps : List (Int × Int)) : Prop := ∀ p ∈ ps, -B ≤ p.1 ∧ p.1 ≤ B ∧ -B ≤ p.2 ∧ p.2 ≤ B
theorem InB.snoc {B : Int} {ps : List (Int × Int)} {a b : Int} (h : InB B ps) (h1 : -B ≤ a) (h2 : a ≤ B) (h3 : -B ≤ b) (h4 : b ≤ B) : InB B (ps ++ [(a, b)]) := fun p hp => by
  rcases List.mem_append.mp hp with e | e
  · exact h p e
  · rw [List.mem_singleton.mp e]
    exact ⟨h1, h2, h3, h4⟩
theorem InB.nil {B : Int} : InB B [] := fun p h => by cases h
theorem InB.le {B C : Int} {ps : List (Int × Int)} (h : InB B ps) (l : B ≤ C) : InB C ps := fun p hp => by
  have := h p hp
  exact ⟨by omega, by omega, by omega, by omega⟩
theorem InB.set {B : Int} {ps : List (Int × Int)} {j : Nat} {a b : Int} (h : InB B ps) (h1 : -B ≤ a) (h2 : a ≤ B) (h3 : -B ≤ b) (h4 : b ≤ B) : InB B (ps.set j (a, b)) := fun p hp => by
  rcases List.mem_or_eq_of_mem_set hp with e | e
  · exact h p e
  · rw [e]
    exact ⟨h1, h2, h3, h4⟩
theorem paired_set {α β : Type} {R : α → β → Prop} {xs : List α} {ys : List β} {x : α} {y : β} (h : Paired R xs ys) (r : R x y) : ∀ j, Paired R (xs.set j x) (ys.set j y) := by
  induction h with
  | nil => exact fun _ => .nil
  | cons a t ih => exact fun j => match j with
    | 0 => .cons r t
    | j + 1 => .cons a (ih j)
theorem LP.set {H : Hp} {D g : Addr} {ts : List Addr} {ps : List (Int × Int)} {q : Int × Int} (h : LP H D ts ps) (r : Pr H g q) (j : Nat) : LP (upd H D (.lst ((ts.map V.ref).set j (V.ref g)))) D (ts.set j g) (ps.set j q) :=
  ⟨by rw [upd_same, List.map_set], prs_upd h.1 (paired_set h.2 r j)⟩
theorem LP.mem {H : Hp} {D : Addr} {ts : List Addr} {ps : List (Int × Int)} {x : V} (h : LP H D ts ps) (hx : x ∈ ts.map V.ref) : ∃ g q, x = .ref g ∧ q ∈ ps ∧ Pr H g q := by
  obtain ⟨g, hg, rfl⟩ := List.mem_map.mp hx
  obtain ⟨i, hi⟩ := List.mem_iff_getElem?.mp hg
  obtain ⟨q, hq, r⟩ := paired_get h.2 hi
  exact ⟨g, q, rfl, List.mem_of_getElem? hq, r⟩
theorem LP.at {H : Hp} {D : Addr} {ts : List Addr} {ps : List (Int × Int)} {i : Nat} (h : LP H D ts ps) (hi : i < ps.length) : ∃ g q, (ts.map V.ref)[i]? = some (.ref g) ∧ ps[i]? = some q ∧ Pr H g q := by
  obtain ⟨g, hg, r⟩ := paired_of h.2 (List.getElem?_eq_getElem hi)
  exact ⟨g, _, by rw [List.getElem?_map, hg]; rfl, List.getElem?_eq_getElem hi, r⟩
theorem mul_small {a b : Int} (h1 : -4 ≤ a) (h2 : a ≤ 4) (h3 : -3 ≤ b) (h4 : b ≤ 3) : -12 ≤ a * b ∧ a * b ≤ 12 := by
  have : a = -4 ∨ a = -3 ∨ a = -2 ∨ a = -1 ∨ a = 0 ∨ a = 1 ∨ a = 2 ∨ a = 3 ∨ a = 4 := by omega
  rcases this with rfl | rfl | rfl | rfl | rfl | rfl | rfl | rfl | rfl <;> omega
/-- what a comprehension of pairs keeps: m shots a turn -/
def Gw (B : Int) (p D : Addr) (H0 : Hp) (n m i : Nat) (H : Hp) : Prop := SB p H0 H ∧ Lens H p (n + m * i) ∧ ∃ ts ps, ps.length = i ∧ LP H D ts ps ∧ InB B ps
theorem gw_nil {B : Int} {p D : Addr} {H0 : Hp} {n m : Nat} (v : Lens H0 p n) (hD : H0 D = none) : Gw B p D H0 n m 0 (upd H0 D (.lst [])) := ⟨SB.of (same_new hD), (v.same (same_new hD)).le (Nat.le_add_right _ _), [], [], rfl, ⟨upd_same, .nil⟩, InB.nil⟩
theorem gw_step {B : Int} {p D g : Addr} {H0 H' H2 : Hp} {n m i k : Nat} {a b : Int} {ts : List Addr} {ps : List (Int × Int)} (v0 : Lens H0 p k) (hD : H0 D = none) (s : SB p H0 H') (v' : Lens H' p (n + m * i)) (l : ps.length = i) (lp : LP H' D ts ps) (b9 : InB B ps) (hi : i < 7)
    (s2 : SB p H' H2) (v2 : Lens H2 p (n + m * i + m)) (hg : Pr H2 g (a, b)) (h1 : -B ≤ a) (h2 : a ≤ B) (h3 : -B ≤ b) (h4 : b ≤ B) :
    ∃ acc, H2 D = some (.lst acc) ∧ acc.length < sizeLine ∧ Gw B p D H0 n m (i + 1) (upd H2 D (.lst (acc ++ [V.ref g]))) := by
  have nD : D ≠ p := v0.not_none hD
  have lp2 := lp.sb v' nD s2
  exact ⟨_, lp2.1, by rw [List.length_map, lp.len, l]; exact small1000 (by omega), (s.trans s2).upd v0 hD, (v2.upd v0 (s.trans s2) hD).le (by rw [Nat.mul_add]; omega), _, _, by rw [List.length_append, l]; rfl, lp2.snoc hg, b9.snoc h1 h2 h3 h4⟩
section
variable {P : Program} {w : World} {K : PySem.W.Frag} {mg : Str → Option Value} {base : Heap}
/-! ### _law_places -/
def spPlc : Sp := fun vs H Q _ => ∃ (p : Addr) (k n : Nat), vs = [.ref p, .int k] ∧ Lens H p n ∧ n + 60 < 60000 ∧ 4 ≤ k ∧ k ≤ 7 ∧ ∀ H' a ts ps, SB p H H' → Lens H' p (n + 50) → a ≠ p → LP H' a ts ps → OkP ps → Q (.ref a) H'
abbrev sPlc : Stmt := top 42
abbrev nPlc : List Str := ["_law_lens_here", "_law_pins", "_law_way", "_law_step", "_law_pin", "_law_some", "_law_begin", "_law_found", "_law_far", "_law_at", "_law_place"]
theorem scPlc : FnScope nPlc ["_law_lens_here", "_law_pins"] (defScope sPlc) := ⟨rfl, rfl, rfl, by decide +kernel, rfl, by decide +kernel, by decide +kernel⟩
theorem ok_plc {f : Addr} {fd : FuncData} (F : Fun K "_law_places" "_law_places" sPlc f fd) (B : Bn mg) (C1 : Callee P w K mg base CX0 1 "_law_shot" ["_law_lens_here", "_law_many"] spShot) (C2 : Callee P w K mg base CX0 2 "_law_pick" ["_law_lens_here", "_law_some"] spPick) (C3 : Callee P w K mg base CX0 3 "_law_number" ["_law_lens_here"] spNum) :
    FnOk P w K mg base CX0 4 f fd ["_law_lens_here", "_law_pins"] spPlc := by
  obtain ⟨f1, fd1, m1, k1, b1, G1⟩ := C1
  obtain ⟨f2, fd2, m2, k2, b2, G2⟩ := C2
  obtain ⟨f3, fd3, m3, k3, b3, G3⟩ := C3
  have nd := scPlc.nd
  have eG : G9 = 1000000000 := rfl
  refine F.ok scPlc (fun vs H Q E h => ?_) (fun cdv A outer s H vs Q E hr h => ?_)
  · obtain ⟨p, k, n, rfl, _⟩ := h
    rfl
  · obtain ⟨p, k, n, rfl, hv, hn, k4, k7, q⟩ := h
    refine ⟨_, (pss_cons (ps_par (i := 2) (j := 3) rfl nd rfl rfl (by decide) rfl rfl (pa_cons ((pe_call G1 (hr.mono (by decide)) rfl m1 k1 b1 .nil pass0 (pa_cons (pv 0) (pa_cons (pe_int) pa_nil)))) (pa_cons (pe_tup (pa_cons (pe_op op_sub (pe_call G1 (hr.mono (by decide)) rfl m1 k1 b1 .nil pass0 (pa_cons (pv 0) (pa_cons (pe_int) pa_nil))) pe_int) (pa_cons (pe_op op_sub (pe_call G1 (hr.mono (by decide)) rfl m1 k1 b1 .nil pass0 (pa_cons (pv 0) (pa_cons (pe_int) pa_nil))) pe_int) pa_nil))) pa_nil)) (by rfl)) (pss_cons (ps_if (pt_cmpR op_lt (pv 2) pe_int (nomark _)) (pss_one (ps_ret (pe_lc (own := [("_law_pin", 4)]) (g := gName 4) (tt := tYes) rfl nd (pi_range1 rfl B.range (pa_cons (pv 1) pa_nil)) (blkOk_by (N := nPlc) (sc := defScope sPlc) (by decide +kernel)) (fun _ _ _ _ _ => (pg_name (i := 4) nd rfl (Or.inl rfl))) (fun _ _ _ _ _ => pts_nil)
        (fun _ _ _ _ _ => pe_tup (pa_cons ((pe_call G3 (hr.mono (by decide)) rfl m3 k3 b3 .nil pass0 (pa_cons (pv 0) pa_nil))) (pa_cons ((pe_call G3 (hr.mono (by decide)) rfl m3 k3 b3 .nil pass0 (pa_cons (pv 0) pa_nil))) pa_nil)))))) pss_nil) (pss_cons (ps_if (pt_cmpR op_eq (pv 2) (pe_int) (nomark _)) (pss_cons (ps_asg (pe_lc (own := [("_law_place", 10)]) (g := gName 10) (tt := tYes) rfl nd (pi_range1 rfl B.range (pa_cons (pe_int) pa_nil)) (blkOk_by (N := nPlc) (sc := defScope sPlc) (by decide +kernel)) (fun _ _ _ _ _ => (pg_name (i := 10) nd rfl (Or.inl rfl))) (fun _ _ _ _ _ => pts_nil)
          (fun _ _ _ _ _ => pe_tup (pa_cons (pe_op op_sub (pe_call G1 (hr.mono (by decide)) rfl m1 k1 b1 .nil pass0 (pa_cons (pv 0) (pa_cons (pe_int) pa_nil))) pe_int) (pa_cons (pe_op op_sub (pe_call G1 (hr.mono (by decide)) rfl m1 k1 b1 .nil pass0 (pa_cons (pv 0) (pa_cons (pe_int) pa_nil))) pe_int) pa_nil)))) (pg_name (i := 5) nd rfl (Or.inr rfl))) (pss_one (ps_ret (pe_lc (own := [("_law_pin", 4)]) (g := gName 4) (tt := tYes) rfl nd (pi_range1 rfl B.range (pa_cons (pv 1) pa_nil)) (blkOk_by (N := nPlc) (sc := defScope sPlc) (by decide +kernel)) (fun _ _ _ _ _ => (pg_name (i := 4) nd rfl (Or.inl rfl))) (fun _ _ _ _ _ => pts_nil)
          (fun _ _ _ _ _ => (pe_call G2 (hr.mono (by decide)) rfl m2 k2 b2 .nil pass0 (pa_cons (pv 0) (pa_cons (pv 5) pa_nil)))))))) pss_nil) (pss_cons (ps_par (i := 6) (j := 7) rfl nd rfl rfl (by decide) rfl rfl (pa_cons (pe_tup (pa_cons (pe_op op_sub (pe_call G1 (hr.mono (by decide)) rfl m1 k1 b1 .nil pass0 (pa_cons (pv 0) (pa_cons (pe_int) pa_nil))) pe_int) (pa_cons (pe_op op_sub (pe_call G1 (hr.mono (by decide)) rfl m1 k1 b1 .nil pass0 (pa_cons (pv 0) (pa_cons (pe_int) pa_nil))) pe_int) pa_nil))) (pa_cons (pe_lst pa_nil) pa_nil)) (by rfl)) (pss_cons (ps_for PassesOwn.never rfl (pi_range1 rfl B.range (pa_cons (pv 1) pa_nil)) (pg_name (i := 4) nd rfl (Or.inl rfl)) (pss_cons ((ps_set (i := 8) nd rfl (Or.inl rfl) (pe_op op_sub (pe_call G1 (hr.mono (by decide)) rfl m1 k1 b1 .nil pass0 (pa_cons (pv 0) (pa_cons (pe_int) pa_nil))) pe_int))) (pss_one (ps_expr (pe_bm PySem.F.plainAttrs_list PySem.F.slot_list_append PySem.F.type_list_append mt_append (pv 7) (pa_cons (pe_tup (pa_cons (pe_op op_add (pe_ix ix_tup (pv 6) (pe_int) (fun _ _ => rfl)) (pe_op op_mul (pv 8) (pe_ix ix_tup (pv 3) (pe_int) (fun _ _ => rfl)))) (pa_cons (pe_op op_add (pe_ix ix_tup (pv 6) (pe_int) (fun _ _ => rfl)) (pe_op op_mul (pv 8) (pe_ix ix_tup (pv 3) (pe_int) (fun _ _ => rfl)))) pa_nil))) pa_nil)))))) (pss_cons (ps_if (pt_cmpR op_eq (pv 2) (pe_int) (nomark _)) (pss_cons ((ps_set (i := 9) nd rfl (Or.inl rfl) ((pe_call G1 (hr.mono (by decide)) rfl m1 k1 b1 .nil pass0 (pa_cons (pv 0) (pa_cons (pv 1) pa_nil)))))) (pss_one (ps_asg (pe_tup (pa_cons (pe_op op_sub (pe_op op_add (pe_ix ix_tup ((pe_ix ix_list (pv 7) (pv 9) (fun _ _ => rfl))) (pe_int) (fun _ _ => rfl)) (pe_call G1 (hr.mono (by decide)) rfl m1 k1 b1 .nil pass0 (pa_cons (pv 0) (pa_cons (pe_int) pa_nil)))) pe_int) (pa_cons (pe_op op_add (pe_ix ix_tup ((pe_ix ix_list (pv 7) (pv 9) (fun _ _ => rfl))) (pe_int) (fun _ _ => rfl)) pe_int) pa_nil))) (pg_sub (pv 7) (pv 9) set_list)))) pss_nil) (pss_one (ps_ret (pv 7))))))))), ?_⟩
    refine ⟨_, rfl, p, 6, n, rfl, hv, by omega, by decide, by decide, fun H1 d1 s1 v1 d10 d11 => ?_⟩
    refine ⟨_, rfl, p, 7, n + 1, rfl, v1, by omega, by decide, by decide, fun H2 d2 s2 v2 d20 d21 => ⟨_, _, rfl, rfl, ?_⟩⟩
    refine ⟨_, rfl, p, 7, n + 2, rfl, v2, by omega, by decide, by decide, fun H3 d3 s3 v3 d30 d31 => ⟨_, _, rfl, rfl, ?_⟩⟩
    refine ⟨by show 2 ≤ sizeLine; decide, fun st hst => ?_⟩
    have sT := same_new (o := .tup [V.int (d2 - 3), V.int (d3 - 3)]) hst
    have gst : upd H3 st (.tup [V.int (d2 - 3), V.int (d3 - 3)]) st = some (.tup [V.int (d2 - 3), V.int (d3 - 3)]) := upd_same
    have v4 := v3.same sT
    have s4 : SB p H (upd H3 st (.tup [V.int (d2 - 3), V.int (d3 - 3)])) := ((s1.trans s2).trans s3).trans (SB.of sT)
    generalize upd H3 st (.tup [V.int (d2 - 3), V.int (d3 - 3)]) = H4 at gst v4 s4 ⊢
    clear sT hst v3 v2 v1 s1 s2 s3
    refine ⟨_, _, rfl, ?_⟩
    refine ⟨_, rfl, _, _, rfl, rfl, _, rfl, ?_⟩
    refine ite2 (fun h3 => ?_) (fun h3 => ?_)
    · refine ⟨_, rfl, (k : Int), rfl, by omega, by omega, fun D hD => ?_⟩
      rw [Int.toNat_natCast]
      refine lc_range (lo := 0) (n := k) (Gw G9 p D H4 (n + 3) 6) (gw_nil v4 hD) (fun i H' hi pv => ?_) (fun H' pv => ?_)
      · obtain ⟨s, v, ts, ps, l, lp, b9⟩ := pv
        refine ⟨rfl, ?_⟩
        refine ⟨_, rfl, p, _, rfl, v, by omega, fun Ha x sa va xa xb => ?_⟩
        refine ⟨_, rfl, p, _, rfl, va, by omega, fun Hb y sb vb ya yb => ?_⟩
        refine ⟨by show 2 ≤ sizeLine; decide, fun g hg => ?_⟩
        have sg := same_new (o := .tup [V.int x, V.int y]) hg
        exact gw_step v4 hD s v l lp b9 (by omega) ((sa.trans sb).trans (SB.of sg)) ((vb.same sg).le (by omega)) upd_same xa xb ya yb
      · obtain ⟨s, v, ts, ps, l, lp, b9⟩ := pv
        exact q _ _ _ _ (s4.trans s) (v.le (by omega)) (v4.not_none hD) lp ⟨by omega, by omega, b9⟩
    · refine ⟨_, rfl, rfl, _, rfl, ?_⟩
      by_cases h5 : d1 = 5
      · rw [decide_eq_true (show V.int d1 = V.int 5 by rw [h5])]
        refine iteT ?_
        refine ⟨2, rfl, by decide, by decide, fun D hD => ?_⟩
        refine lc_range (lo := 0) (n := 2) (Gw G9 p D H4 (n + 3) 2) (gw_nil v4 hD) (fun i H' hi pv => ?_) (fun H' pv => ?_)
        · obtain ⟨s, v, ts, ps, l, lp, b9⟩ := pv
          refine ⟨rfl, ?_⟩
          refine ⟨_, rfl, p, 5, _, rfl, v, by omega, by decide, by decide, fun Ha x sa va xa xb => ⟨_, _, rfl, rfl, ?_⟩⟩
          refine ⟨_, rfl, p, 5, _, rfl, va, by omega, by decide, by decide, fun Hb y sb vb ya yb => ⟨_, _, rfl, rfl, ?_⟩⟩
          refine ⟨by show 2 ≤ sizeLine; decide, fun g hg => ?_⟩
          have sg := same_new (o := .tup [V.int (x - 2), V.int (y - 2)]) hg
          exact gw_step v4 hD s v l lp b9 (by omega) ((sa.trans sb).trans (SB.of sg)) ((vb.same sg).le (by omega)) upd_same (by omega) (by omega) (by omega) (by omega)
        · obtain ⟨s, v, ts, ps, l, lp, b9⟩ := pv
          have nD := v4.not_none hD
          refine ⟨_, rfl, (k : Int), rfl, by omega, by omega, fun D2 hD2 => ?_⟩
          rw [Int.toNat_natCast]
          refine lc_range (lo := 0) (n := k) (Gw G9 p D2 H' (n + 3 + 2 * 2) 1) (gw_nil v hD2) (fun i H2 hi pv => ?_) (fun H2 pv => ?_)
          · obtain ⟨s2, v2, ts2, ps2, l2, lp2, b92⟩ := pv
            have lp3 := lp.sb v nD s2
            refine ⟨rfl, ?_⟩
            refine ⟨_, rfl, _, rfl, p, D, _, _, rfl, v2, by omega, lp3.1, nD, by rw [List.length_map, lp3.len, l]; decide, by rw [List.length_map, lp3.len, l]; decide, fun Ha x sa va hx => ?_⟩
            obtain ⟨g, ⟨qa, qb⟩, rfl, hq, hg⟩ := lp3.mem hx
            obtain ⟨q1, q2, q3, q4⟩ := b9 _ hq
            exact gw_step v hD2 s2 v2 l2 lp2 b92 (by omega) sa va (hg.sb v2 sa) q1 q2 q3 q4
          · obtain ⟨s2, v2, ts2, ps2, l2, lp2, b92⟩ := pv
            exact q _ _ _ _ ((s4.trans s).trans s2) (v2.le (by omega)) (v.not_none hD2) lp2 ⟨by omega, by omega, b92⟩
      · rw [decide_eq_false (fun z => h5 (V.int.inj z))]
        refine iteF ?_
        refine ⟨_, rfl, p, 99, _, rfl, v4, by omega, by decide, by decide, fun H5 b1 s5 v5 b10 b11 => ⟨_, _, rfl, rfl, ?_⟩⟩
        refine ⟨_, rfl, p, 99, _, rfl, v5, by omega, by decide, by decide, fun H6 b2 s6 v6 b20 b21 => ⟨_, _, rfl, rfl, ?_⟩⟩
        refine ⟨by show 2 ≤ sizeLine; decide, fun bg hbg => ?_⟩
        have sg := same_new (o := .tup [V.int (b1 - 49), V.int (b2 - 49)]) hbg
        have gbg : upd H6 bg (.tup [V.int (b1 - 49), V.int (b2 - 49)]) bg = some (.tup [V.int (b1 - 49), V.int (b2 - 49)]) := upd_same
        have v7 := v6.same sg
        have s46 : SB p H4 H6 := s5.trans s6
        have s7 : SB p H (upd H6 bg (.tup [V.int (b1 - 49), V.int (b2 - 49)])) := (s4.trans s46).trans (SB.of sg)
        have gst7 := sg _ _ (s46.1 _ _ (v4.not_tup gst) gst)
        generalize upd H6 bg (.tup [V.int (b1 - 49), V.int (b2 - 49)]) = H7 at gbg v7 s7 gst7 ⊢
        clear sg hbg v6 v5 s5 s6 s46
        refine ⟨Nat.zero_le _, fun L hL => ?_⟩
        have nL := v7.not_none hL
        refine ⟨_, _, rfl, ?_⟩
        refine ⟨_, rfl, (k : Int), rfl, by omega, by omega, ?_⟩
        rw [Int.toNat_natCast]
        refine for_range (lo := 0) (n := k) (fun i σ H' => Gw 80 p L H7 (n + 5) 1 i H' ∧ ∃ c4 c8, σ = [some (.ref p), some (.int k), some (.int d1), some (.ref st), c4, none, some (.ref bg), some (.ref L), c8, none, none]) ⟨gw_nil v7 hL, _, _, rfl⟩ (fun i σ H' hi pv => ?_) (fun σ H' pv => ?_)
        · obtain ⟨⟨s, v, ts, ps, l, lp, b9⟩, c4, c8, rfl⟩ := pv
          refine ⟨_, rfl, p, 9, _, rfl, v, by omega, by decide, by decide, fun Ha x sa va xa xb => ⟨_, _, rfl, rfl, ?_⟩⟩
          have gb := sa.1 _ _ (v.not_tup (s.1 _ _ (v7.not_tup gbg) gbg)) (s.1 _ _ (v7.not_tup gbg) gbg)
          have gs := sa.1 _ _ (v.not_tup (s.1 _ _ (v7.not_tup gst7) gst7)) (s.1 _ _ (v7.not_tup gst7) gst7)
          have m1 := mul_small (a := x - 4) (b := d2 - 3) (by omega) (by omega) (by omega) (by omega)
          have m2 := mul_small (a := x - 4) (b := d3 - 3) (by omega) (by omega) (by omega) (by omega)
          have lpa := lp.sb v nL sa
          refine ⟨_, rfl, .inl ⟨rfl, _, SqL.of lpa.1⟩, ?_⟩
          refine ⟨_, rfl, bg, _, 0, _, rfl, rfl, SqT.of gb, rfl, _, rfl, _, rfl, st, _, 0, _, rfl, rfl, SqT.of gs, rfl, _, _, rfl, rfl, .inl ⟨by omega, by omega⟩, _, _, rfl, rfl, ?_⟩
          refine ⟨_, rfl, bg, _, 1, _, rfl, rfl, SqT.of gb, rfl, _, rfl, _, rfl, st, _, 1, _, rfl, rfl, SqT.of gs, rfl, _, _, rfl, rfl, .inl ⟨by omega, by omega⟩, _, _, rfl, rfl, ?_⟩
          refine ⟨by show 2 ≤ sizeLine; decide, fun g hg => ?_⟩
          have sg := same_new (o := .tup [V.int (b1 - 49 + (x - 4) * (d2 - 3)), V.int (b2 - 49 + (x - 4) * (d3 - 3))]) hg
          obtain ⟨acc, e1, e2, e3⟩ := gw_step v7 hL s v l lp b9 (by omega) (sa.trans (SB.of sg)) (va.same sg) upd_same (by omega) (by omega) (by omega) (by omega)
          exact ⟨L, _, _, rfl, rfl, e1, e2, e3, _, _, rfl⟩
        · obtain ⟨⟨s, v, ts, ps, l, lp, b9⟩, c4, c8, rfl⟩ := pv
          refine ⟨_, rfl, rfl, _, rfl, ?_⟩
          by_cases h4 : d1 = 4
          · rw [decide_eq_true (show V.int d1 = V.int 4 by rw [h4])]
            refine iteT ?_
            refine ⟨_, rfl, _, rfl, p, k, _, rfl, v, by omega, by omega, by rw [Int.natAbs_natCast]; exact Nat.lt_of_le_of_lt k7 (by decide), fun Ha at' sa va a0 a1 => ?_⟩
            obtain ⟨j, rfl⟩ := Int.eq_ofNat_of_zero_le a0
            have hj : j < k := by omega
            have lpa := lp.sb v nL sa
            obtain ⟨g, ⟨qa, qb⟩, eg, eq, hg⟩ := lpa.at (i := j) (by omega)
            have hg0 : Ha g = some (.tup [.int qa, .int qb]) := hg
            obtain ⟨q1, q2, q3, q4⟩ := b9 _ (List.mem_of_getElem? eq)
            refine ⟨_, rfl, _, rfl, L, _, _, .ref g, rfl, rfl, SqL.of lpa.1, atI_nat eg, g, _, 0, _, rfl, rfl, SqT.of hg0, rfl, ?_⟩
            refine ⟨_, rfl, p, 3, _, rfl, va, by omega, by decide, by decide, fun Hb y sb vb y0 y1 => ⟨_, _, rfl, rfl, _, _, rfl, rfl, ?_⟩⟩
            have lpb := lpa.sb va nL sb
            have hgb : Hb g = some (.tup [.int qa, .int qb]) := hg.sb va sb
            refine ⟨_, rfl, _, rfl, L, _, _, .ref g, rfl, rfl, SqL.of lpb.1, atI_nat eg, g, _, 1, _, rfl, rfl, SqT.of hgb, rfl, _, _, rfl, rfl, ?_⟩
            refine ⟨by show 2 ≤ sizeLine; decide, fun t ht => ?_⟩
            have st' := same_new (o := .tup [V.int (qa + y - 1), V.int (qb + 1)]) ht
            have lpt := lpb.same st'
            refine ⟨_, rfl, _, rfl, L, _, _, j, rfl, rfl, lpt.1, ixN_nat (by rw [List.length_map, lpt.len]; omega), ?_⟩
            have lps := lpt.set (g := t) (q := (qa + y - 1, qb + 1)) upd_same j
            refine ⟨_, rfl, q _ _ _ _ (s7.trans (SB.upd v7 (s.trans (sa.trans (sb.trans (SB.of st')))) hL)) (((vb.same st').upd v7 (s.trans (sa.trans (sb.trans (SB.of st')))) hL).le (by omega)) nL lps ⟨by rw [List.length_set]; omega, by rw [List.length_set]; omega, InB.set (b9.le (by omega)) (by omega) (by omega) (by omega) (by omega)⟩⟩
          · rw [decide_eq_false (fun z => h4 (V.int.inj z))]
            refine iteF ?_
            exact ⟨_, rfl, q _ _ _ _ (s7.trans s) (v.le (by omega)) nL lp ⟨by omega, by omega, b9.le (by omega)⟩⟩
end
end K11

namespace K11
open PySem PySem.Spec PyProof.Rows L2
/-- the same tuples of integers, of depth d -/
def Pd : Nat → Hp → V → V → Prop
  | 0, _, x, y => ∃ i, x = .int i ∧ y = .int i
  | d + 1, H, x, y => ∃ a b xs ys, x = .ref a ∧ y = .ref b ∧ H a = some (.tup xs) ∧ H b = some (.tup ys) ∧ xs.length ≤ 100 ∧ Paired (Pd d H) xs ys
theorem Pd.same {H H' : Hp} (s : Same H H') : ∀ {d : Nat} {x y : V}, Pd d H x y → Pd d H' x y
  | 0, _, _, h => h
  | d + 1, _, _, ⟨a, b, xs, ys, e1, e2, ha, hb, l, p⟩ => ⟨a, b, xs, ys, e1, e2, s _ _ ha, s _ _ hb, l, paired_mono p fun _ _ z => Pd.same s z⟩
section
variable {P : Program} {w : World} {K : PySem.W.Frag} {mg : Str → Option Value} {base : Heap}
/-! ### _law_is_plain -/
def spPla : Nat → Sp
  | 0 => fun _ _ _ _ => False
  | d + 1 => fun vs H Q _ => ∃ x y, vs = [x, y] ∧ Pd d H x y ∧ RB true H Q
abbrev sPla : Stmt := top 43
abbrev nPla : List Str := ["_law_told", "_law_due", "_law_at"]
theorem scPla : FnScope nPla ["_law_told", "_law_due"] (defScope sPla) := ⟨rfl, rfl, rfl, by decide +kernel, rfl, by decide +kernel, by decide +kernel⟩
theorem ok_pla {f : Addr} {fd : FuncData} (F : Fun K "_law_is_plain" "_law_is_plain" sPla f fd) (B : Bn mg) (m1 : mg "_law_is_plain" = some (.ref f)) (k1 : PySem.W.keepIn K (.ref f) = true) (b1 : Binds K fd ["_law_told", "_law_due"] []) :
    ∀ d, FnOk P w K mg base CX0 d f fd ["_law_told", "_law_due"] (spPla d)
  | 0 => ⟨fun _ _ _ _ h => False.elim h, fun _ _ _ _ _ _ _ _ _ _ _ _ _ h => False.elim h⟩
  | d + 1 => by
    have G1 := ok_pla F B m1 k1 b1 d
    have nd := scPla.nd
    refine F.ok scPla (fun vs H Q E h => ?_) (fun cdv A outer s H vs Q E hr h => ?_)
    · obtain ⟨x, y, rfl, _⟩ := h
      rfl
    · obtain ⟨x, y, rfl, h, q⟩ := h
      refine ⟨_, (pss_cons (ps_if (pt_not (pt_val (pe_callB (r := rIsi K) call_isi (by rfl) B.isinstance boot_isinstance (pa_cons (pv 1) (pa_cons (pe_bltn (v := .ty "tuple") (by rfl) B.tuple (by decide +kernel) rfl) pa_nil))))) (pss_one (ps_ret (pe_and ((pe_callB (r := rIsi K) call_isi (by rfl) B.isinstance boot_isinstance (pa_cons (pv 0) (pa_cons (pe_bltn (v := .ty "int") (by rfl) B.int (by decide +kernel) rfl) pa_nil)))) (pe_and (pe_not (pe_callB (r := rIsi K) call_isi (by rfl) B.isinstance boot_isinstance (pa_cons (pv 0) (pa_cons (pe_bltn (v := .ty "bool") (by rfl) B.bool (by decide +kernel) rfl) pa_nil)))) (pe_one ((pe_cmpR op_eq (pv 0) (pv 1) (nomark _)))))))) pss_nil) (pss_cons (ps_if (PW.pt (pw_or (pt_not (pt_val (pe_callB (r := rIsi K) call_isi (by rfl) B.isinstance boot_isinstance (pa_cons (pv 0) (pa_cons (pe_bltn (v := .ty "tuple") (by rfl) B.tuple (by decide +kernel) rfl) pa_nil))))) (pw_or1 ((pt_cmpR op_ne ((pe_callB call_len_seq (by rfl) B.len PySem.boot_len (pa_cons (pv 0) pa_nil))) ((pe_callB call_len_seq (by rfl) B.len PySem.boot_len (pa_cons (pv 1) pa_nil))) (nomark _)))))) (pss_one (ps_ret pe_bl)) pss_nil) (pss_one (ps_ret (pe_cmpR (op_eqD hr.units) (pe_lc (own := [("_law_at", 2)]) (g := gName 2) rfl nd (pi_range1 rfl B.range (pa_cons ((pe_callB call_len_seq (by rfl) B.len PySem.boot_len (pa_cons (pv 1) pa_nil))) pa_nil)) (blkOk_by (N := nPla) (sc := defScope sPla) (by decide +kernel)) (fun _ _ _ _ _ => (pg_name (i := 2) nd rfl (Or.inl rfl)))
          (fun _ _ _ _ _ => pts_one (pt_not (pt_val (pe_call G1 hr rfl m1 k1 b1 .nil pass0 (pa_cons ((pe_ix (r := rIxT K) ix_tupK (pv 0) (pv 2) (fun _ _ => rfl))) (pa_cons ((pe_ix (r := rIxT K) ix_tupK (pv 1) (pv 2) (fun _ _ => rfl))) pa_nil)))))) (fun _ _ _ _ _ => pv 2)) (pe_lst pa_nil) (nomark _)))))), ?_⟩
      cases d with
      | zero =>
        obtain ⟨i, rfl, rfl⟩ := h
        refine ⟨_, rfl, _, _, _, _, false, rfl, .ty _, .base (.int i), kit_ty (by decide +kernel : kitB _ _ = some false), false, rfl, iteT ?_⟩
        refine ⟨_, rfl, _, _, _, _, true, rfl, .ty _, .base (.int i), kit_ty (by decide +kernel : kitB _ _ = some true), true, rfl, iteT ?_⟩
        refine ⟨_, rfl, _, _, _, _, false, rfl, .ty _, .base (.int i), kit_ty (by decide +kernel : kitB _ _ = some false), false, rfl, ?_⟩
        refine ⟨_, rfl, iteT ⟨_, rfl, _, rfl, rfl, ?_⟩⟩
        rw [decide_eq_true rfl]
        exact q _ Same.me
      | succ d =>
        obtain ⟨a, b, xs, ys, rfl, rfl, ha, hb, l, p⟩ := h
        have lxy : ys.length = xs.length := (Paired.length p).symm
        refine ⟨_, rfl, _, _, _, _, true, rfl, .ty _, .base (.tup hb), kit_ty (by decide +kernel : kitB _ _ = some true), true, rfl, iteF ?_⟩
        refine ⟨_, rfl, _, _, _, _, true, rfl, .ty _, .base (.tup ha), kit_ty (by decide +kernel : kitB _ _ = some true), true, rfl, iteF ?_⟩
        refine ⟨_, rfl, a, _, rfl, .inr (SqT.of ha), _, rfl, b, _, rfl, .inr (SqT.of hb), rfl, _, rfl, ?_⟩
        rw [decide_eq_true (show V.int (xs.length : Int) = V.int (ys.length : Int) by rw [lxy])]
        refine iteF ?_
        refine ⟨_, rfl, b, _, rfl, .inr (SqT.of hb), (ys.length : Int), rfl, by omega, by omega, fun D hD => ?_⟩
        rw [Int.toNat_natCast]
        refine lc_range (lo := 0) (n := ys.length) (fun i H' => At H D [] H') ⟨same_new hD, upd_same⟩ (fun i H' hi p' => ?_) (fun H' p' => ?_)
        · refine ⟨rfl, ?_⟩
          have z0 : (0 : Int) + (i : Int) = (i : Int) := by omega
          rw [z0]
          obtain ⟨x, hx, r⟩ := paired_of p (List.getElem?_eq_getElem hi)
          refine ⟨_, rfl, _, rfl, a, _, _, _, rfl, rfl, SqT.of (p'.1 _ _ ha), atI_nat hx, _, rfl, _, rfl, b, _, _, _, rfl, rfl, SqT.of (p'.1 _ _ hb), atI_nat (List.getElem?_eq_getElem hi), x, _, rfl, r.same p'.1, fun H2 s2 => ⟨_, rfl, ?_⟩⟩
          exact ⟨p'.1.trans s2, s2 _ _ p'.2⟩
        · refine ⟨Nat.zero_le _, fun l hl => ?_⟩
          have sl := same_new (o := .lst []) hl
          refine ⟨.list [], .list [], .lst (SqL.of (sl _ _ p'.2)) .nil, .lst (SqL.of upd_same) .nil, by decide, by decide, ?_⟩
          exact q _ (p'.1.trans sl)
end
end K11

namespace K11
open PySem PySem.Spec PyProof.Rows L2
/-- the steps from pin 0 -/
def stp (ps : List (Int × Int)) : List (Int × Int) := (ps.drop 1).map fun p => (p.1 - (ps.headD (0, 0)).1, p.2 - (ps.headD (0, 0)).2)
theorem stp_len (ps : List (Int × Int)) : (stp ps).length = ps.length - 1 := by
  unfold stp
  rw [List.length_map, List.length_drop]
theorem stp_fst (ps : List (Int × Int)) : (stp ps).map (·.1) = sk 0 ps := by
  unfold stp sk
  rw [List.map_map]
  rfl
theorem stp_snd (ps : List (Int × Int)) : (stp ps).map (·.2) = sk 1 ps := by
  unfold stp sk
  rw [List.map_map]
  rfl
section
variable {P : Program} {w : World} {K : PySem.W.Frag} {mg : Str → Option Value} {base : Heap}
/-! ### _law_steps -/
def spStp : Sp := fun vs H Q _ => ∃ (a : Addr) (ts : List Addr) (ps : List (Int × Int)), vs = [.ref a] ∧ LP H a ts ps ∧ 4 ≤ ps.length ∧ ps.length ≤ 7 ∧ ∀ H' b us, Same H H' → H b = none → LP H' b us (stp ps) → Q (.ref b) H'
abbrev sStp : Stmt := top 44
abbrev nStp : List Str := ["_law_places_here", "_law_place"]
theorem scStp : FnScope nStp ["_law_places_here"] (defScope sStp) := ⟨rfl, rfl, rfl, by decide +kernel, rfl, by decide +kernel, by decide +kernel⟩
theorem ok_stp {f : Addr} {fd : FuncData} (F : Fun K "_law_steps" "_law_steps" sStp f fd) (B : Bn mg) : FnOk P w K mg base CX0 1 f fd ["_law_places_here"] spStp := by
  have nd := scStp.nd
  refine F.ok scStp (fun vs H Q E h => ?_) (fun cdv A outer s H vs Q E hr h => ?_)
  · obtain ⟨a, ts, ps, rfl, _⟩ := h
    rfl
  · obtain ⟨a, ts, ps, rfl, lp, l4, l7, q⟩ := h
    refine ⟨_, pss_one (ps_ret (pe_lc (own := [("_law_place", 1)]) (g := gName 1) (tt := tYes) rfl nd (pi_listK K (pe_slice (r := rSlL K) sl_listK (pv 0) (po_some pe_int) (po_none))) (blkOk_by (N := nStp) (sc := defScope sStp) (by decide +kernel)) (fun _ _ _ _ _ => (pg_name (i := 1) nd rfl (Or.inl rfl))) (fun _ _ _ _ _ => pts_nil)
      (fun _ _ _ _ _ => pe_tup (pa_cons (pe_op op_sub (pe_ix (r := rIxT K) ix_tupK (pv 1) (pe_int) (fun _ _ => rfl)) (pe_ix (r := rIxT K) ix_tupK ((pe_ix (r := rIxL K) ix_listK (pv 0) (pe_int) (fun _ _ => rfl))) (pe_int) (fun _ _ => rfl))) (pa_cons (pe_op op_sub (pe_ix (r := rIxT K) ix_tupK (pv 1) (pe_int) (fun _ _ => rfl)) (pe_ix (r := rIxT K) ix_tupK ((pe_ix (r := rIxL K) ix_listK (pv 0) (pe_int) (fun _ _ => rfl))) (pe_int) (fun _ _ => rfl))) pa_nil))))), ?_⟩
    have lt := lp.len
    obtain ⟨t0, p0, e0, z0, h0⟩ := lp.at (i := 0) (by omega)
    have h0 : H t0 = some (.tup [.int p0.1, .int p0.2]) := h0
    refine ⟨_, rfl, _, rfl, a, _, rfl, SqL.of lp.1, fun c hc => ?_⟩
    rw [cut1 (by rw [List.length_map]; omega)]
    have sc := same_new (o := .lst ((ts.map V.ref).drop 1)) hc
    have wc : upd H c (.lst ((ts.map V.ref).drop 1)) c = some (.lst ((ts.map V.ref).drop 1)) := upd_same
    generalize upd H c (.lst ((ts.map V.ref).drop 1)) = H1 at sc wc ⊢
    refine ⟨c, rfl, ⟨_, SqL.of wc⟩, fun D hD => ?_⟩
    have hh : ps.headD (0, 0) = p0 := by
      cases ps with
      | nil => cases z0
      | cons x xs => exact Option.some.inj z0
    refine lc_list (K := K) (a := c) (xs := (ts.map V.ref).drop 1) (fun i H' => Same H1 H' ∧ ∃ us, LP H' D us ((stp ps).take i)) ⟨same_new hD, [], upd_same, .nil⟩ (fun i H' _ p => SqL.of (p.1 _ _ wc)) (fun i x H' hx p => ?_) (fun H' p => ?_)
    · obtain ⟨s1, us, lpu⟩ := p
      rw [List.getElem?_drop] at hx
      have hi : 1 + i < ps.length := by
        have := (List.getElem?_eq_some_iff.mp hx).1
        rw [List.length_map] at this
        omega
      obtain ⟨g, q1, eg, eq, hg⟩ := lp.at hi
      rw [eg] at hx
      have ex : x = .ref g := (Option.some.inj hx).symm
      subst ex
      have hg : H g = some (.tup [.int q1.1, .int q1.2]) := hg
      have s2 := sc.trans s1
      refine ⟨rfl, ?_⟩
      refine ⟨_, rfl, g, _, 0, _, rfl, rfl, SqT.of (s2 _ _ hg), rfl, _, rfl, a, _, 0, _, rfl, rfl, SqL.of (s2 _ _ lp.1), atI_nat (j := 0) e0, t0, _, 0, _, rfl, rfl, SqT.of (s2 _ _ h0), rfl, _, _, rfl, rfl, ?_⟩
      refine ⟨_, rfl, g, _, 1, _, rfl, rfl, SqT.of (s2 _ _ hg), rfl, _, rfl, a, _, 0, _, rfl, rfl, SqL.of (s2 _ _ lp.1), atI_nat (j := 0) e0, t0, _, 1, _, rfl, rfl, SqT.of (s2 _ _ h0), rfl, _, _, rfl, rfl, ?_⟩
      refine ⟨by show 2 ≤ sizeLine; decide, fun n hn => ?_⟩
      have sn := same_new (o := .tup [V.int (q1.1 - p0.1), V.int (q1.2 - p0.2)]) hn
      have lpn := lpu.same sn
      have eS : (stp ps)[i]? = some (q1.1 - p0.1, q1.2 - p0.2) := by
        unfold stp
        rw [List.getElem?_map, List.getElem?_drop, eq, hh]
        rfl
      have z := lpn.snoc (g := n) (q := (q1.1 - p0.1, q1.2 - p0.2)) upd_same
      rw [← take_more eS] at z
      refine ⟨_, lpn.1, by rw [List.length_map, lpn.len]; exact small1000 (Nat.le_trans (List.length_take_le _ _) (by omega)), fun b o e => ?_, _, z⟩
      rw [upd_ne (ne_of_none e hD)]
      exact sn _ _ (s1 _ _ e)
    · obtain ⟨s1, us, lpu⟩ := p
      rw [List.take_of_length_le (by rw [stp_len, List.length_drop, List.length_map]; omega)] at lpu
      exact q _ D us (sc.trans s1) (sc.free hD) lpu
end
end K11

namespace K11
open PySem PySem.Spec PyProof.Rows L2
/-- over an enumerated list: each item in a new pair -/
theorem for_enum {K : PySem.W.Frag} {a : Addr} {xs : List V} {g : TG} {tb : TS} {D : Ends} {σ : L2.St} {H : Hp} (Pv : Nat → L2.St → Hp → Prop) (h0 : Pv 0 σ H) (hl : ∀ i σ H, i ≤ xs.length → Pv i σ H → SqL K H a xs)
    (hs : ∀ i x σ H T, xs[i]? = some x → Pv i σ H → H T = none → g (.ref T) σ (upd H T (.tup [.int (i : Nat), x])) fun σ2 H2 => tb { D with nx := Pv (i + 1), ct := Pv (i + 1), bk := D.nx } σ2 H2) (hd : ∀ σ H, Pv xs.length σ H → D.nx σ H) :
    ∃ W : Nat → Nat → L2.St → Hp → Prop, (∃ m, W 0 m σ H) ∧ ∀ i m σ H, W i m σ H →
      ((Ite K a).stop i H ∧ D.nx σ H) ∨ ((Ite K a).go i H ∧ ∃ N : L2.St → Hp → Prop, (∀ σ' H', N σ' H' → ∃ m', m' < m ∧ W (i + 1) m' σ' H') ∧ ∀ x H', (Ite K a).yld i H x H' → g x σ H' fun σ2 H2 => tb { D with nx := N, ct := N, bk := D.nx } σ2 H2) := by
  refine ⟨fun i m σ H => m = xs.length - i ∧ i ≤ xs.length ∧ Pv i σ H, ⟨xs.length, by simp, Nat.zero_le _, h0⟩, ?_⟩
  rintro i m σ H ⟨rfl, hi, p⟩
  have q := hl i σ H hi p
  by_cases hlt : i < xs.length
  · refine .inr ⟨⟨xs, xs[i], q, by simp [hlt]⟩, Pv (i + 1), fun σ' H' p' => ⟨xs.length - (i + 1), by omega, rfl, hlt, p'⟩, fun x H' y => ?_⟩
    obtain ⟨T, z, rfl, nT, rfl, hz⟩ := y
    exact hs i z σ H T (hz xs q) p nT
  · have e : i = xs.length := by omega
    subst e
    exact .inl ⟨⟨xs, q, Nat.le_refl _⟩, hd σ H p⟩
theorem sameUpd {H H' : Hp} {D : Addr} {o : HO} (s : Same H H') (n : H D = none) : Same H (upd H' D o) := fun b u e => by
  rw [upd_ne (ne_of_none e n)]
  exact s _ _ e
/-! ### lists of lists -/
def PrL (H : Hp) (r : Addr) (p : Int × Int) : Prop := H r = some (.lst [.int p.1, .int p.2])
def LL (H : Hp) (a : Addr) (rs : List Addr) (ps : List (Int × Int)) : Prop := H a = some (.lst (rs.map V.ref)) ∧ Paired (PrL H) rs ps
theorem refs_ne {H : Hp} {a r : Addr} {rs : List Addr} {x : Int} {zs : List V} (h : H a = some (.lst (rs.map V.ref))) (e : H r = some (.lst (.int x :: zs))) : r ≠ a := fun z => by
  subst z
  rw [h] at e
  have e := HO.lst.inj (Option.some.inj e)
  cases rs with
  | nil => cases e
  | cons _ _ => cases (List.cons.inj e).1
theorem LL.same {H H' : Hp} {a : Addr} {rs : List Addr} {ps : List (Int × Int)} (h : LL H a rs ps) (s : Same H H') : LL H' a rs ps := ⟨s _ _ h.1, paired_mono h.2 fun _ _ z => s _ _ z⟩
theorem LL.len {H : Hp} {a : Addr} {rs : List Addr} {ps : List (Int × Int)} (h : LL H a rs ps) : rs.length = ps.length := Paired.length h.2
theorem LL.snoc {H : Hp} {D g : Addr} {rs : List Addr} {ps : List (Int × Int)} {q : Int × Int} (h : LL H D rs ps) (r : PrL H g q) : LL (upd H D (.lst (rs.map V.ref ++ [V.ref g]))) D (rs ++ [g]) (ps ++ [q]) :=
  ⟨by rw [upd_same, List.map_append]; rfl, paired_mono (paired_snoc h.2 r) fun t q z => by
    have z : H t = some (.lst [.int q.1, .int q.2]) := z
    show upd H D _ t = _
    rw [upd_ne (refs_ne h.1 z)]
    exact z⟩
theorem LL.at {H : Hp} {D : Addr} {rs : List Addr} {ps : List (Int × Int)} {i : Nat} (h : LL H D rs ps) (hi : i < ps.length) : ∃ g q, rs[i]? = some g ∧ ps[i]? = some q ∧ H g = some (.lst [.int q.1, .int q.2]) := by
  obtain ⟨g, hg, r⟩ := paired_of h.2 (List.getElem?_eq_getElem hi)
  exact ⟨g, _, hg, List.getElem?_eq_getElem hi, r⟩
/-- what [list(place) for place in places] keeps -/
def Cp (H0 : Hp) (D : Addr) (ps : List (Int × Int)) (i : Nat) (H : Hp) : Prop := Same H0 H ∧ ∃ rs, LL H D rs (ps.take i) ∧ ∀ r ∈ rs, H0 r = none
theorem cp_nil {H0 : Hp} {D : Addr} {ps : List (Int × Int)} (hD : H0 D = none) : Cp H0 D ps 0 (upd H0 D (.lst [])) := ⟨same_new hD, [], ⟨upd_same, .nil⟩, fun _ h => nomatch h⟩
theorem cp_step {H0 H' : Hp} {D a : Addr} {i : Nat} {x : V} {ts : List Addr} {ps : List (Int × Int)} (hD : H0 D = none) (lp : LP H0 a ts ps) (l7 : ps.length ≤ 7) (c : Cp H0 D ps i H') (hx : (ts.map V.ref)[i]? = some x) :
    ∃ (g : Addr) (q : Int × Int), x = .ref g ∧ H' g = some (.tup [.int q.1, .int q.2]) ∧ ∀ l, H' l = none → ∃ acc, (upd H' l (.lst [.int q.1, .int q.2])) D = some (.lst acc) ∧ acc.length < sizeLine ∧ Cp H0 D ps (i + 1) (upd (upd H' l (.lst [.int q.1, .int q.2])) D (.lst (acc ++ [V.ref l]))) := by
  obtain ⟨s, rs, ll, nw⟩ := c
  have hi : i < ps.length := by
    have := (List.getElem?_eq_some_iff.mp hx).1
    rw [List.length_map, lp.len] at this
    exact this
  obtain ⟨g, q, eg, eq, hg⟩ := lp.at hi
  rw [eg] at hx
  refine ⟨g, q, (Option.some.inj hx).symm, s _ _ hg, fun l hl => ?_⟩
  have sl := same_new (o := .lst [V.int q.1, V.int q.2]) hl
  have ll2 := ll.same sl
  have z := ll2.snoc (g := l) (q := q) upd_same
  rw [← take_more eq] at z
  refine ⟨_, ll2.1, by rw [List.length_map, ll.len]; exact small1000 (Nat.le_trans (List.length_take_le _ _) (by omega)), fun b o e => ?_, _, z, fun r hr => ?_⟩
  · rw [upd_ne (ne_of_none e hD)]
    exact sl _ _ (s _ _ e)
  · rcases List.mem_append.mp hr with h | h
    · exact nw r h
    · rw [List.mem_singleton.mp h]
      exact s.free hl
theorem pla_prs {H : Hp} {ts : List Addr} {ps : List (Int × Int)} (h : Paired (Pr H) ts ps) : Paired (PlA H) (ts.map V.ref) ps := by
  induction h with
  | nil => exact .nil
  | cons a _ ih => exact .cons ⟨_, rfl, .inr a⟩ ih
theorem pla_prl {H : Hp} {ts : List Addr} {ps : List (Int × Int)} (h : Paired (PrL H) ts ps) : Paired (PlA H) (ts.map V.ref) ps := by
  induction h with
  | nil => exact .nil
  | cons a _ ih => exact .cons ⟨_, rfl, .inl a⟩ ih
theorem LP.pls {H : Hp} {a : Addr} {ts : List Addr} {ps : List (Int × Int)} (h : LP H a ts ps) : Pls H (.ref a) ps := ⟨a, _, rfl, .inl h.1, pla_prs h.2⟩
theorem LL.pls {H : Hp} {a : Addr} {ts : List Addr} {ps : List (Int × Int)} (h : LL H a ts ps) : Pls H (.ref a) ps := ⟨a, _, rfl, .inl h.1, pla_prl h.2⟩
theorem PT.pls {H : Hp} {a : Addr} {ps : List (Int × Int)} (h : PT H a ps) : Pls H (.ref a) ps := let ⟨_, e, p⟩ := h; ⟨a, _, rfl, .inr e, pla_prs p⟩
theorem LP.pt {H : Hp} {a t : Addr} {ts : List Addr} {ps : List (Int × Int)} (h : LP H a ts ps) (n : H t = none) : PT (upd H t (.tup (ts.map V.ref))) t ps := ⟨ts, upd_same, (h.same (same_new n)).2⟩
/-! ### a list is changed -/
theorem PicF.kpl {H H' : Hp} {C a r : Addr} {ps : List (Int × Int)} {xs : List V} (h : PicF H C a ps) (e : H r = some (.lst xs)) (k : Kp r H H') : PicF H' C a ps := by
  obtain ⟨dx, t, u, ha, ⟨ts, ht, hp⟩, r0, r1, hu, h0, h1⟩ := h
  have nt : ∀ {x : Addr} {zs : List V}, H x = some (.tup zs) → x ≠ r := fun z => L2.ne_of z e (by intro z; cases z)
  exact ⟨dx, t, u, k _ _ (L2.ne_of ha e (by intro z; cases z)) ha, ⟨ts, k _ _ (nt ht) ht, paired_mono hp fun _ _ z => k _ _ (nt z) z⟩, r0, r1, k _ _ (nt hu) hu, k _ _ (nt h0) h0, k _ _ (nt h1) h1⟩
theorem LP.kpl {H H' : Hp} {a r : Addr} {ts : List Addr} {ps : List (Int × Int)} {xs : List V} (h : LP H a ts ps) (na : a ≠ r) (e : H r = some (.lst xs)) (k : Kp r H H') : LP H' a ts ps :=
  ⟨k _ _ na h.1, paired_mono h.2 fun _ _ z => k _ _ (L2.ne_of z e (by intro z; cases z)) z⟩
/-! ### equal tuples -/
theorem pd_ints {H : Hp} {a b : Addr} {ns : List Int} (ha : H a = some (.tup (ns.map V.int))) (hb : H b = some (.tup (ns.map V.int))) (l : ns.length ≤ 100) : Pd 1 H (.ref a) (.ref b) :=
  ⟨a, b, _, _, rfl, rfl, ha, hb, by rw [List.length_map]; exact l, by
    clear ha hb l
    induction ns with
    | nil => exact .nil
    | cons n ns ih => exact .cons ⟨n, rfl, rfl⟩ ih⟩
theorem pd_pt {H : Hp} {a b : Addr} {ps : List (Int × Int)} (ha : PT H a ps) (hb : PT H b ps) (l : ps.length ≤ 100) : Pd 2 H (.ref a) (.ref b) := by
  obtain ⟨ts, ea, pa⟩ := ha
  obtain ⟨us, eb, pb⟩ := hb
  refine ⟨a, b, _, _, rfl, rfl, ea, eb, by rw [List.length_map, Paired.length pa]; exact l, ?_⟩
  clear ea eb l
  induction pa generalizing us with
  | nil => cases pb; exact .nil
  | cons r _ ih =>
    cases pb with
    | cons r2 p2 => exact .cons (pd_ints (ns := [_, _]) r r2 (by show 2 ≤ 100; decide)) (ih _ p2)
theorem pd_two {H : Hp} {a b : Addr} {xs ys : List Int} (ha : Two H a xs ys) (hb : Two H b xs ys) (l : xs.length ≤ 100) (l2 : ys.length ≤ 100) : Pd 2 H (.ref a) (.ref b) := by
  obtain ⟨r0, r1, ea, e0, e1⟩ := ha
  obtain ⟨q0, q1, eb, f0, f1⟩ := hb
  exact ⟨a, b, _, _, rfl, rfl, ea, eb, by show 2 ≤ 100; decide, .cons (pd_ints e0 f0 l) (.cons (pd_ints e1 f1 l2) .nil)⟩
theorem paired_by {α β : Type} {R : α → β → Prop} : ∀ {xs : List α} {ys : List β}, xs.length = ys.length → (∀ (i : Nat) x y, xs[i]? = some x → ys[i]? = some y → R x y) → Paired R xs ys
  | [], [], _, _ => .nil
  | [], _ :: _, h, _ => by cases h
  | _ :: _, [], h, _ => by cases h
  | x :: xs, y :: ys, h, r => .cons (r 0 x y rfl rfl) (paired_by (by simpa using h) fun i x y e1 e2 => r (i + 1) x y (by simpa using e1) (by simpa using e2))
theorem pd_mat {H : Hp} {a b : Addr} {m : Nat → Nat → Int} {n : Nat} (ha : MatT H a m n) (hb : MatT H b m n) (l : n ≤ 100) : Pd 2 H (.ref a) (.ref b) := by
  obtain ⟨rs, lr, ea, ra⟩ := ha
  obtain ⟨qs, lq, eb, rb⟩ := hb
  refine ⟨a, b, _, _, rfl, rfl, ea, eb, by rw [List.length_map, lr]; exact l, paired_by (by rw [List.length_map, List.length_map, lr, lq]) fun i x y e1 e2 => ?_⟩
  rw [List.getElem?_map] at e1 e2
  cases f1 : rs[i]? with
  | none => rw [f1] at e1; cases e1
  | some r =>
    cases f2 : qs[i]? with
    | none => rw [f2] at e2; cases e2
    | some s =>
      rw [f1] at e1
      rw [f2] at e2
      rw [← Option.some.inj e1, ← Option.some.inj e2]
      exact pd_ints (ra i r f1) (rb i s f2) (by unfold mrow; rw [List.length_map, List.length_range]; exact l)
theorem mat_same {H H' : Hp} {a : Addr} {m : Nat → Nat → Int} {n : Nat} (h : MatT H a m n) (s : Same H H') : MatT H' a m n := let ⟨rs, l, e, r⟩ := h; ⟨rs, l, s _ _ e, fun j x z => s _ _ (r j x z)⟩
theorem cut_to {xs : List V} {i : Nat} (h : i ≤ xs.length) : cutV xs none (some (i : Int)) = xs.take i := by
  unfold cutV
  have e : HT.sIx xs.length xs.length (some (i : Int)) = min i xs.length := HT.sIx_nat _ _ i
  have e0 : HT.sIx xs.length 0 none = 0 := rfl
  rw [e, e0, List.drop_zero, Nat.sub_zero, Nat.min_eq_left h]
/-! ### the steps and the rows -/
theorem stp_sk {ps : List (Int × Int)} {i : Nat} {q : Int × Int} (h : (stp ps)[i]? = some q) : (sk 0 ps).getD i 0 = q.1 ∧ (sk 1 ps).getD i 0 = q.2 := by
  rw [← stp_fst, ← stp_snd, List.getD_eq_getElem?_getD, List.getD_eq_getElem?_getD, List.getElem?_map, List.getElem?_map, h]
  exact ⟨rfl, rfl⟩
theorem stp_bd {ps : List (Int × Int)} (ok : OkP ps) {i : Nat} {q : Int × Int} (h : (stp ps)[i]? = some q) : (-(2 ^ 40) < q.1 ∧ q.1 < 2 ^ 40) ∧ (-(2 ^ 40) < q.2 ∧ q.2 < 2 ^ 40) := by
  obtain ⟨e1, e2⟩ := stp_sk h
  rw [← e1, ← e2]
  exact ⟨(sk_bd ok 0).get i, (sk_bd ok 1).get i⟩
section
variable {P : Program} {w : World} {K : PySem.W.Frag} {mg : Str → Option Value} {base : Heap} {C CB : Addr}
/-! ### _law_made_right -/
def spMR : Sp := fun vs H Q _ => ∃ (x : V) (a : Addr) (ts : List Addr) (ps : List (Int × Int)), vs = [x, .ref a] ∧ LP H a ts ps ∧ OkP ps ∧ RB true H Q
abbrev sMR : Stmt := top 45
abbrev nMR : List Str := ["_law_lens_here", "_law_places_here", "_law_passed", "_law_made", "_law_other", "_law_steps_here", "_law_due", "_law_found", "_law_number_here", "_law_step", "_law_place", "_law_its"]
theorem scMR : FnScope nMR ["_law_lens_here", "_law_places_here"] (defScope sMR) := ⟨rfl, rfl, rfl, by decide +kernel, rfl, by decide +kernel, by decide +kernel⟩
abbrev scM1 : Scope := { kind := .function, names := [(".0", .local), ("_law_step", .cell), ("tuple", .globalImplicit), ("_law_steps_here", .cell)], isGenerator := false, isCoroutine := false }
/-- _law_is_plain at each depth -/
def Plain (P : Program) (w : World) (K : PySem.W.Frag) (mg : Str → Option Value) (base : Heap) : Prop := ∃ (f : Addr) (fd : FuncData), mg "_law_is_plain" = some (.ref f) ∧ PySem.W.keepIn K (.ref f) = true ∧ Binds K fd ["_law_told", "_law_due"] [] ∧ ∀ d, FnOk P w K mg base CX0 d f fd ["_law_told", "_law_due"] (spPla d)
theorem ok_mr {f : Addr} {fd : FuncData} (F : Fun K "_law_made_right" "_law_made_right" sMR f fd) (B : Bn mg) (T : Pc P w K mg base C CB) (C1 : Plain P w K mg base) (C2 : Callee P w K mg base CX0 1 "_law_steps" ["_law_places_here"] spStp) :
    FnOk P w K mg base CX0 8 f fd ["_law_lens_here", "_law_places_here"] spMR := by
  obtain ⟨f1, fd1, m1, k1, b1, GA⟩ := C1
  have G1 := GA 3
  have G0 := GA 1
  obtain ⟨f2, fd2, m2, k2, b2, G2⟩ := C2
  obtain ⟨fE, fdE, GE, hsE, hfE, hbE⟩ := T.eq
  obtain ⟨fp, fdp, Mp, GP, bp⟩ := T.pp
  obtain ⟨fh, fdh, Mh, GH, bh⟩ := T.ph
  have cl := T.t.pc.cls
  have nd := scMR.nd
  refine F.ok scMR (fun vs H Q E h => ?_) (fun cdv A outer s H vs Q E hr h => ?_)
  · obtain ⟨x, a, ts, ps, rfl, _⟩ := h
    rfl
  · obtain ⟨x, a, ts, ps, rfl, lp, ok, q⟩ := h
    refine ⟨_, (pss_cons (ps_setLc (i := 2) (own := [("_law_place", 10)]) (g := gName 10) (tt := tYes) rfl nd rfl rfl (sw_true rfl rfl rfl (by decide +kernel)) (pi_list (pv 1)) (blkOk_by (N := nMR) (sc := defScope sMR) (by decide +kernel)) (fun _ _ _ _ _ => (pg_name (i := 10) nd rfl (Or.inl rfl))) (fun _ _ _ _ _ => pts_nil) (fun _ _ _ _ _ => (pe_callTy (T := "list") (r := rLi K) call_liK (by rfl) B.list (by decide +kernel) (pa_cons (pv 10) pa_nil)))) (pss_cons (ps_asg (pe_tup (pa_cons (pe_mkP (E := E0) T (hr.mono (by decide)) passL rfl (pa_cons (pv 2) pa_nil)) (pa_cons (pe_mkPK (E := E0) T (hr.mono (by decide)) passL rfl (pk_cons (pe_callTy (T := "tuple") (r := rTu K) call_tuK (by rfl) B.tuple (by decide +kernel) (pa_cons (pv 1) pa_nil)) pk_nil)) (pa_cons ((pe_call G2 (hr.mono (by decide)) rfl m2 k2 b2 .nil pass0 (pa_cons (pv 1) pa_nil))) pa_nil)))) (pg_tup rfl (pgs_cons (pg_name (i := 3) nd rfl (Or.inl rfl)) (pgs_cons (pg_name (i := 4) nd rfl (Or.inl rfl)) (pgs_cons (pg_name (i := 5) nd rfl (Or.inr rfl)) pgs_nil))))) (pss_cons (ps_asg (pe_op op_add (pe_ix ix_list ((pe_ix ix_list (pv 2) (pe_int) (fun _ _ => rfl))) (pe_int) (fun _ _ => rfl)) pe_int) (pg_sub (pe_ix ix_list (pv 2) (pe_int) (fun _ _ => rfl)) pe_int set_list)) (pss_cons (ps_expr (pe_bm PySem.F.plainAttrs_list PySem.F.slot_list_append PySem.F.type_list_append mt_append (pv 2) (pa_cons (pe_lst (pa_cons (pe_int) (pa_cons (pe_int) pa_nil))) pa_nil))) (pss_cons (ps_if (PW.pt (pw_or (pt_not (pt_val (pe_call G1 (hr.mono (by decide)) rfl m1 k1 b1 .nil pass0 (pa_cons (pe_fld (pv 3) rfl) (pa_cons ((pe_callTy (T := "tuple") (r := rTu K) call_tuK (by rfl) B.tuple (by decide +kernel) (pa_cons (pv 1) pa_nil))) pa_nil))))) (pw_or1 (pt_not (pt_val (pe_call G0 (hr.mono (by decide)) rfl m1 k1 b1 .nil pass0 (pa_cons (pe_fld (pv 3) rfl) (pa_cons ((pe_callB call_len_seq (by rfl) B.len PySem.boot_len (pa_cons (pv 1) pa_nil))) pa_nil)))))))) (pss_one (ps_ret pe_bl)) pss_nil) (pss_cons (ps_if (pt_not (pt_val (pe_call G1 (hr.mono (by decide)) rfl m1 k1 b1 .nil pass0 (pa_cons (pe_fld (pv 3) rfl) (pa_cons (pe_tup (pa_cons ((pe_callTy (T := "tuple") (r := rTu K) call_tuK (by rfl) B.tuple (by decide +kernel) (pa_cons (pe_lc (own := [("_law_step", 9)]) (g := gName 9) (tt := tYes) rfl nd (pi_list (pv 5)) (blkOk_by (N := nMR) (sc := defScope sMR) (by decide +kernel)) (fun _ _ _ _ _ => (pg_name (i := 9) nd rfl (Or.inl rfl))) (fun _ _ _ _ _ => pts_nil) (fun _ _ _ _ _ => (pe_ix (r := rIxT K) ix_tupK (pv 9) (pe_int) (fun _ _ => rfl)))) pa_nil))) (pa_cons ((pe_callTy (T := "tuple") (r := rTu K) call_tuK (by rfl) B.tuple (by decide +kernel) (pa_cons (pe_lc (own := [("_law_step", 9)]) (g := gName 9) (tt := tYes) rfl nd (pi_list (pv 5)) (blkOk_by (N := nMR) (sc := defScope sMR) (by decide +kernel)) (fun _ _ _ _ _ => (pg_name (i := 9) nd rfl (Or.inl rfl))) (fun _ _ _ _ _ => pts_nil) (fun _ _ _ _ _ => (pe_ix (r := rIxT K) ix_tupK (pv 9) (pe_int) (fun _ _ => rfl)))) pa_nil))) pa_nil))) pa_nil))))) (pss_one (ps_ret pe_bl)) pss_nil) (pss_cons ((ps_set (i := 6) nd rfl (Or.inl rfl) ((pe_callTy (T := "tuple") (r := rTu K) call_tuK (by rfl) B.tuple (by decide +kernel) (pa_cons (pe_lc (own := [("_law_step", 9)]) (g := gName 9) (tt := tYes) rfl nd (pi_list (pv 5)) (blkOk_by (N := nMR) (sc := defScope sMR) (by decide +kernel)) (fun _ _ _ _ _ => pg_name (i := 9) nd rfl (Or.inr rfl)) (fun _ _ _ _ _ => pts_nil)
        (fun _ _ _ _ _ => (pe_callTy (T := "tuple") (r := rTu K) call_tuK (by rfl) B.tuple (by decide +kernel) (pa_cons (pe_lc (own := [("_law_its", 11)]) (g := gName 11) (tt := tYes) rfl nd (pi_listK K (pv 5)) (blkOk_by (N := nMR) (sc := scM1) (by decide +kernel)) (fun _ _ _ _ _ => pg_name (i := 11) nd rfl (Or.inl rfl)) (fun _ _ _ _ _ => pts_nil)
          (fun _ _ _ _ _ => pe_op op_add (pe_op op_mul (pe_ix (r := rIxT K) ix_tupK (pv 9) (pe_int) (fun _ _ => rfl)) (pe_ix (r := rIxT K) ix_tupK (pv 11) (pe_int) (fun _ _ => rfl))) (pe_op op_mul (pe_ix (r := rIxT K) ix_tupK (pv 9) (pe_int) (fun _ _ => rfl)) (pe_ix (r := rIxT K) ix_tupK (pv 11) (pe_int) (fun _ _ => rfl))))) pa_nil)))) pa_nil))))) (pss_cons (ps_if (PW.pt (pw_or (pt_not (pt_val (pe_call G1 (hr.mono (by decide)) rfl m1 k1 b1 .nil pass0 (pa_cons (pe_meth0 (pv 3) cl Mp GP (hr.mono (by decide)) bp .nil pass0) (pa_cons (pv 6) pa_nil))))) (pw_or (pt_not (pt_cmpR (op_eqP GE hsE hfE hbE T.n (hr.mono (by decide))) (pv 3) (pv 4) (nomark _))) (pw_or1 (pt_cmpR (op_neP GE hsE hfE hbE T.n T.t (hr.mono (by decide))) (pv 3) (pv 4) (nomark _)))))) (pss_one (ps_ret pe_bl)) pss_nil) (pss_cons ((ps_set (i := 7) nd rfl (Or.inl rfl) (pe_bl))) (pss_cons (ps_for PassesOwn.never rfl (pi_enum rfl B.enumerate (pa_cons (pv 5) pa_nil)) (pg_tup rfl (pgs_cons ((pg_name (i := 8) nd rfl (Or.inl rfl))) (pgs_cons (pg_name (i := 9) nd rfl (Or.inr rfl)) pgs_nil))) (pss_one (ps_if (pt_cmpR (op_neD hr.units) (pe_lc (own := [("_law_its", 11)]) (g := gName 11) rfl nd (pi_listK K (pe_slice (r := rSlL K) sl_listK (pv 5) (po_none) (po_some (pv 8)))) (blkOk_by (N := nMR) (sc := defScope sMR) (by decide +kernel)) (fun _ _ _ _ _ => (pg_name (i := 11) nd rfl (Or.inl rfl)))
          (fun _ _ _ _ _ => pts_one (pt_cmpR op_ne (pe_op op_sub (pe_op op_mul (pe_ix (r := rIxT K) ix_tupK (pv 9) (pe_int) (fun _ _ => rfl)) (pe_ix (r := rIxT K) ix_tupK (pv 11) (pe_int) (fun _ _ => rfl))) (pe_op op_mul (pe_ix (r := rIxT K) ix_tupK (pv 9) (pe_int) (fun _ _ => rfl)) (pe_ix (r := rIxT K) ix_tupK (pv 11) (pe_int) (fun _ _ => rfl)))) (pe_int) (nomark _))) (fun _ _ _ _ _ => pe_int)) (pe_lst pa_nil) (nomark _)) (pss_one ((ps_set (i := 7) nd rfl (Or.inl rfl) (pe_bl)))) pss_nil))) (pss_one (ps_ret (pe_ifExp (pt_val (pv 7)) (pe_cmpR op_isBl (pe_meth0 (pv 3) cl Mh GH (hr.mono (by decide)) bh .nil pass0) pe_bl (nomark _)) (pe_cmpR op_isBl (pe_meth0 (pv 3) cl Mh GH (hr.mono (by decide)) bh .nil pass0) pe_bl (nomark _))))))))))))))), ?_⟩
    have l4 := ok.1
    have l7 := ok.2.1
    refine ⟨_, rfl, a, rfl, ⟨_, SqL.of lp.1⟩, fun D hD => ?_⟩
    refine lc_list (K := K) (a := a) (xs := ts.map V.ref) (Cp H D ps) (cp_nil hD) (fun i H' _ p => SqL.of (p.1 _ _ lp.1)) (fun i x H' hx p => ?_) (fun H1 p => ?_)
    · obtain ⟨g, q1, rfl, hg, k⟩ := cp_step hD lp l7 p hx
      exact ⟨rfl, _, rfl, g, _, rfl, .inr (SqT.of hg), k⟩
    rw [List.length_map, lp.len] at p
    obtain ⟨s1, rs, ll1, nrs⟩ := p
    rw [List.take_length] at ll1
    refine ⟨_, rfl, _, rfl, .inl ⟨ps, ll1.pls, ok, fun p1 H2 s2 n2 pf1 => ?_⟩⟩
    have lp2 := lp.same (s1.trans s2)
    refine ⟨_, rfl, a, _, rfl, .inl ⟨SqL.of lp2.1, fun t nt => ?_⟩⟩
    have st := same_new (o := .tup (ts.map V.ref)) nt
    refine ⟨_, rfl, .inl ⟨ps, (lp2.pt nt).pls, ok, fun p2 H3 s3 n3 pf2 => ?_⟩⟩
    have s13 := (s2.trans st).trans s3
    refine ⟨_, rfl, a, ts, ps, rfl, lp2.same (st.trans s3), l4, l7, fun H4 b us s4 nb lps => ?_⟩
    refine ⟨by show 3 ≤ sizeLine; decide, fun tt ntt => ?_⟩
    have s5 := same_new (o := .tup [V.ref p1, V.ref p2, V.ref b]) ntt
    refine ⟨tt, _, rfl, SqT.of upd_same, rfl, _, _, rfl, _, _, rfl, _, _, rfl, rfl, ?_⟩
    have s14 := (s13.trans s4).trans s5
    have pf1 := pf1.same ((st.trans s3).trans (s4.trans s5))
    have pf2 := pf2.same (s4.trans s5)
    have lps := lps.same s5
    have ll5 := ll1.same s14
    have s05 := s1.trans s14
    generalize upd H4 tt (.tup [V.ref p1, V.ref p2, V.ref b]) = H5 at pf1 pf2 lps ll5 s05 ⊢
    obtain ⟨r0, q0, er0, eq0, hr0⟩ := ll5.at (i := 0) (by omega)
    have e0 : atI (rs.map V.ref) 0 = some (.ref r0) := atI_nat (j := 0) (by rw [List.getElem?_map, er0]; rfl)
    refine ⟨_, rfl, D, _, 0, _, rfl, rfl, SqL.of ll5.1, e0, r0, _, 0, _, rfl, rfl, SqL.of hr0, rfl, _, _, rfl, rfl, ?_⟩
    refine ⟨_, rfl, D, _, 0, _, rfl, rfl, SqL.of ll5.1, e0, r0, _, 0, 0, rfl, rfl, hr0, rfl, ?_⟩
    have hnr0 := nrs r0 (List.mem_of_getElem? er0)
    have k6 : Kp r0 H5 (upd H5 r0 (.lst (List.set [V.int q0.1, V.int q0.2] 0 (V.int (q0.1 + 1))))) := Kp.set
    have nbr : b ≠ r0 := fun z => by
      subst z
      exact refs_ne lps.1 hr0 rfl
    have s06 : Same H (upd H5 r0 (.lst (List.set [V.int q0.1, V.int q0.2] 0 (V.int (q0.1 + 1))))) := sameUpd s05 hnr0
    have pf1 := pf1.kpl hr0 k6
    have pf2 := pf2.kpl hr0 k6
    have lps := lps.kpl nbr hr0 k6
    have hD6 := k6 D _ (fun z => by subst z; exact refs_ne ll5.1 hr0 rfl) ll5.1
    generalize upd H5 r0 (.lst (List.set [V.int q0.1, V.int q0.2] 0 (V.int (q0.1 + 1)))) = H6 at pf1 pf2 lps hD6 s06 ⊢
    clear k6 nbr ll5 s05 hr0
    refine ⟨_, rfl, .inl ⟨rfl, _, SqL.of hD6⟩, by show 2 ≤ sizeLine; decide, fun l nl => ?_⟩
    have s7 := same_new (o := .lst [V.int 0, V.int 0]) nl
    have hD7 := s7 _ _ hD6
    have pf1 := pf1.same s7
    have pf2 := pf2.same s7
    have lps := lps.same s7
    have s07 := s06.trans s7
    generalize upd H6 l (.lst [V.int 0, V.int 0]) = H7 at pf1 pf2 lps hD7 s07 ⊢
    refine ⟨D, _, _, rfl, rfl, hD7, by rw [List.length_map, ll1.len]; exact small1000 (by omega), ?_⟩
    have nbD : b ≠ D := (ne_of_none (s13 _ _ ll1.1) nb).symm
    have k8 : Kp D H7 (upd H7 D (.lst (rs.map V.ref ++ [V.ref l]))) := Kp.set
    have pf1 := pf1.kpl hD7 k8
    have pf2 := pf2.kpl hD7 k8
    have lps := lps.kpl nbD hD7 k8
    have s08 : Same H (upd H7 D (.lst (rs.map V.ref ++ [V.ref l]))) := sameUpd s07 hD
    generalize upd H7 D (.lst (rs.map V.ref ++ [V.ref l])) = H8 at pf1 pf2 lps s08 ⊢
    clear k8 hD7 s07 s06 hD6 s7 nl
    have lp8 := lp.same s08
    clear s14 nb s13
    obtain ⟨dx, t3, u3, hp, hpt, htw⟩ := id pf1
    refine ⟨_, rfl, p1, C, dx, _, .ref t3, rfl, hp, cl, T.t.n1, rfl, _, rfl, a, _, rfl, .inl ⟨SqL.of lp8.1, fun t4 nt4 => ?_⟩⟩
    have s9 := same_new (o := .tup (ts.map V.ref)) nt4
    refine ⟨_, _, rfl, pd_pt (hpt.same s9) (lp8.pt nt4) (by omega), fun H9 s9' => ⟨_, rfl, iteF ?_⟩⟩
    have s89 := s9.trans s9'
    refine ⟨_, rfl, p1, C, dx, _, .int ps.length, rfl, s89 _ _ hp, cl, T.t.n2, rfl, _, rfl, a, _, rfl, .inl (SqL.of (s89 _ _ lp8.1)), _, _, rfl, ⟨_, rfl, by rw [List.length_map, lp.len]⟩, fun H10 s10 => ⟨_, rfl, iteF ?_⟩⟩
    have s810 := s89.trans s10
    clear s9 s9' s89 nt4
    have lst := lps.len
    have lsp := stp_len ps
    have step1 : ∀ {k : Nat} {H0 H' : Hp} {D2 : Addr} {i : Nat} {x : V}, k < 2 → Same H8 H0 → At H0 D2 (((sk k ps).take i).map V.int) H' → (us.map V.ref)[i]? = some x → ∃ (g : Addr) (q : Int × Int), x = .ref g ∧ H' g = some (.tup [.int q.1, .int q.2]) ∧ (stp ps)[i]? = some q ∧ (sk k ps)[i]? = some (it k q) := fun {k H0 H' D2 i x} hk s0 p hx => by
      have hi : i < (stp ps).length := by
        have := (List.getElem?_eq_some_iff.mp hx).1
        rw [List.length_map, lst] at this
        exact this
      obtain ⟨g, q, eg, eq, hg⟩ := lps.at hi
      rw [eg] at hx
      refine ⟨g, q, (Option.some.inj hx).symm, p.1 _ _ (s0 _ _ hg), eq, ?_⟩
      match k, hk with
      | 0, _ => rw [← stp_fst, List.getElem?_map, eq]; rfl
      | 1, _ => rw [← stp_snd, List.getElem?_map, eq]; rfl
    have skl : ∀ k, (us.map V.ref).length = (sk k ps).length := fun k => by
      rw [List.length_map, lst, lsp, sk_len]
    have sk7 : ∀ k i, (((sk k ps).take i).map V.int).length < sizeLine := fun k i => by
      rw [List.length_map]
      exact small1000 (Nat.le_trans (List.length_take_le' _ _) (by rw [sk_len]; omega))
    refine ⟨_, rfl, p1, C, dx, _, .ref u3, rfl, s810 _ _ hp, cl, T.t.n3, rfl, ?_⟩
    refine ⟨_, rfl, b, rfl, ⟨_, SqL.of (s810 _ _ lps.1)⟩, fun D2 hD2 => ?_⟩
    refine lc_list (K := K) (a := b) (xs := us.map V.ref) (fun i => At H10 D2 (((sk 0 ps).take i).map V.int)) ⟨same_new hD2, upd_same⟩ (fun i H' _ p => SqL.of (p.1 _ _ (s810 _ _ lps.1))) (fun i x H' hx p => ?_) (fun H11 p => ?_)
    · obtain ⟨g, q1, rfl, hg, _, es⟩ := step1 (by decide) s810 p hx
      refine ⟨rfl, _, rfl, g, _, 0, _, rfl, rfl, SqT.of hg, rfl, _, p.2, sk7 _ _, p.step hD2 Same.me ?_⟩
      rw [take_more es, List.map_append]
      rfl
    rw [skl 0, List.take_length] at p
    refine ⟨D2, _, rfl, .inl ⟨SqL.of p.2, fun w0 nw0 => ?_⟩⟩
    have s12 := same_new (o := .tup ((sk 0 ps).map V.int)) nw0
    have hw0 : upd H11 w0 (.tup ((sk 0 ps).map V.int)) w0 = some (.tup ((sk 0 ps).map V.int)) := upd_same
    have s812 := (s810.trans p.1).trans s12
    generalize upd H11 w0 (.tup ((sk 0 ps).map V.int)) = H12 at hw0 s812 ⊢
    clear p s12 nw0 hD2
    refine ⟨_, rfl, b, rfl, ⟨_, SqL.of (s812 _ _ lps.1)⟩, fun D3 hD3 => ?_⟩
    refine lc_list (K := K) (a := b) (xs := us.map V.ref) (fun i => At H12 D3 (((sk 1 ps).take i).map V.int)) ⟨same_new hD3, upd_same⟩ (fun i H' _ p => SqL.of (p.1 _ _ (s812 _ _ lps.1))) (fun i x H' hx p => ?_) (fun H13 p => ?_)
    · obtain ⟨g, q1, rfl, hg, _, es⟩ := step1 (by decide) s812 p hx
      refine ⟨rfl, _, rfl, g, _, 1, _, rfl, rfl, SqT.of hg, rfl, _, p.2, sk7 _ _, p.step hD3 Same.me ?_⟩
      rw [take_more es, List.map_append]
      rfl
    rw [skl 1, List.take_length] at p
    refine ⟨D3, _, rfl, .inl ⟨SqL.of p.2, fun w1 nw1 => ?_⟩⟩
    have s14 := same_new (o := .tup ((sk 1 ps).map V.int)) nw1
    refine ⟨by show 2 ≤ sizeLine; decide, fun u5 nu5 => ?_⟩
    have s15 := same_new (o := .tup [V.ref w0, V.ref w1]) nu5
    have s815 := s812.trans ((p.1.trans s14).trans s15)
    refine ⟨_, _, rfl, pd_two (htw.same s815) ⟨w0, w1, upd_same, ((p.1.trans s14).trans s15) _ _ hw0, s15 _ _ upd_same⟩ (by rw [sk_len]; omega) (by rw [sk_len]; omega), fun H16 s16 => ⟨_, rfl, iteF ?_⟩⟩
    have s816 := s815.trans s16
    clear s16 s815 s15 nu5 s14 nw1 p hD3 hw0 s812 s810
    have step2 : ∀ {H' : Hp} {i : Nat} {x : V}, Same H8 H' → (us.map V.ref)[i]? = some x → ∃ (g : Addr) (q : Int × Int), x = .ref g ∧ H' g = some (.tup [.int q.1, .int q.2]) ∧ (stp ps)[i]? = some q := fun {H' i x} s0 hx => by
      have hi : i < (stp ps).length := by
        have := (List.getElem?_eq_some_iff.mp hx).1
        rw [List.length_map, lst] at this
        exact this
      obtain ⟨g, q, eg, eq, hg⟩ := lps.at hi
      rw [eg] at hx
      exact ⟨g, q, (Option.some.inj hx).symm, s0 _ _ hg, eq⟩
    obtain ⟨m, hm⟩ : ∃ m, m = pg (sk 0 ps) (sk 1 ps) := ⟨_, rfl⟩
    obtain ⟨n, hn⟩ : ∃ n, n = ps.length - 1 := ⟨_, rfl⟩
    have mat : ∀ {i j : Nat} {q1 q2 : Int × Int}, (stp ps)[i]? = some q1 → (stp ps)[j]? = some q2 → q1.1 * q2.1 + q1.2 * q2.2 = m i j := fun {i j q1 q2} e1 e2 => by
      obtain ⟨a1, a2⟩ := stp_sk e1
      obtain ⟨b1, b2⟩ := stp_sk e2
      rw [hm]
      unfold pg
      rw [a1, a2, b1, b2]
    have usn : (us.map V.ref).length = n := by
      rw [List.length_map, lst, lsp, hn]
    refine ⟨_, rfl, b, rfl, ⟨_, SqL.of (s816 _ _ lps.1)⟩, fun D4 hD4 => ?_⟩
    refine lc_list (K := K) (a := b) (xs := us.map V.ref) (fun i H' => Same H16 H' ∧ ∃ rows : List Addr, rows.length = i ∧ H' D4 = some (.lst (rows.map V.ref)) ∧ ∀ (j : Nat) r, rows[j]? = some r → H' r = some (.tup ((mrow m n j).map V.int))) ⟨same_new hD4, [], rfl, upd_same, fun j r e => by simp at e⟩ (fun i H' _ p => SqL.of (p.1 _ _ (s816 _ _ lps.1))) (fun i x H' hx p => ?_) (fun H17 p => ?_)
    · obtain ⟨s17, rows, lr, hd, hr⟩ := p
      have s817 := s816.trans s17
      obtain ⟨g, q1, rfl, hg, eq1⟩ := step2 s817 hx
      refine ⟨rfl, _, rfl, b, rfl, ⟨_, SqL.of (s817 _ _ lps.1)⟩, fun D5 hD5 => ?_⟩
      refine lc_list (K := K) (a := b) (xs := us.map V.ref) (fun j => At H' D5 (((mrow m n i).take j).map V.int)) ⟨same_new hD5, upd_same⟩ (fun i H2 _ p => SqL.of (p.1 _ _ (s817 _ _ lps.1))) (fun j x H2 hx2 p => ?_) (fun H2 p => ?_)
      · obtain ⟨g2, q2, rfl, hg2, eq2⟩ := step2 (s817.trans p.1) hx2
        have hg1 := p.1 _ _ hg
        obtain ⟨⟨c1, c2⟩, c3, c4⟩ := stp_bd ok eq1
        refine ⟨rfl, _, rfl, g, _, 0, _, rfl, rfl, SqT.of hg1, rfl, _, rfl, g2, _, 0, _, rfl, rfl, SqT.of hg2, rfl, _, _, rfl, rfl, .inl ⟨by omega, by omega⟩, ?_⟩
        refine ⟨_, rfl, g, _, 1, _, rfl, rfl, SqT.of hg1, rfl, _, rfl, g2, _, 1, _, rfl, rfl, SqT.of hg2, rfl, _, _, rfl, rfl, .inl ⟨by omega, by omega⟩, _, _, rfl, rfl, ?_⟩
        have hj : j < n := by
          have := (List.getElem?_eq_some_iff.mp hx2).1
          omega
        have er : (mrow m n i)[j]? = some (m i j) := by
          unfold mrow
          rw [List.getElem?_map, List.getElem?_range hj]
          rfl
        refine ⟨_, p.2, by rw [List.length_map]; exact small1000 (Nat.le_trans (List.length_take_le' _ _) (by unfold mrow; rw [List.length_map, List.length_range]; omega)), p.step hD5 Same.me ?_⟩
        rw [take_more er, List.map_append, ← mat eq1 eq2]
        rfl
      · rw [usn, List.take_of_length_le (by unfold mrow; rw [List.length_map, List.length_range]; exact Nat.le_refl _)] at p
        refine ⟨D5, _, rfl, .inl ⟨SqL.of p.2, fun r nr => ?_⟩⟩
        have s18 := p.1.trans (same_new (o := .tup ((mrow m n i).map V.int)) nr)
        have hd2 := s18 _ _ hd
        have hi : i < n := by
          have := (List.getElem?_eq_some_iff.mp hx).1
          omega
        refine ⟨_, hd2, by rw [List.length_map]; exact small1000 (by omega), fun c o e => ?_, rows ++ [r], by simp [lr], ?_, fun j u e => ?_⟩
        · rw [upd_ne (ne_of_none e hD4)]
          exact s18 _ _ (s17 _ _ e)
        · rw [upd_same, List.map_append]
          rfl
        · have nuD : ∀ {u : Addr} {ys : List V}, (upd H2 r (.tup ((mrow m n i).map V.int))) u = some (.tup ys) → u ≠ D4 := fun h => L2.ne_of h hd2 (by intro z; cases z)
          by_cases hj : j < rows.length
          · rw [List.getElem?_append_left hj] at e
            have e2 := s18 _ _ (hr j u e)
            rw [upd_ne (nuD e2)]
            exact e2
          · have hj2 : j = rows.length := by
              rcases Nat.lt_or_ge j (rows ++ [r]).length with h | h
              · simp at h
                omega
              · rw [List.getElem?_eq_none h] at e
                cases e
            subst hj2
            rw [List.getElem?_append_right (Nat.le_refl _), Nat.sub_self] at e
            have eu : r = u := Option.some.inj e
            subst eu
            rw [upd_ne (nuD upd_same), lr]
            exact upd_same
    obtain ⟨s17, rows, lr, hd, hrw⟩ := p
    rw [usn] at lr
    refine ⟨D4, _, rfl, .inl ⟨SqL.of hd, fun du ndu => ?_⟩⟩
    have s18 := same_new (o := .tup (rows.map V.ref)) ndu
    have mt : MatT (upd H17 du (.tup (rows.map V.ref))) du m n := ⟨rows, lr, upd_same, fun j r e => s18 _ _ (hrw j r e)⟩
    have s818 := s816.trans (s17.trans s18)
    generalize upd H17 du (.tup (rows.map V.ref)) = H18 at mt s818 ⊢
    clear s18 ndu hd hrw s17 hD4 s816
    refine ⟨_, rfl, p1, dx, _, rfl, s818 _ _ hp, rfl, p1, ps, rfl, pf1.same s818, ok, fun H19 pt s19 mt2 => ?_⟩
    rw [← hm, ← hn] at mt2
    refine ⟨_, rfl, _, _, rfl, pd_mat mt2 (mat_same mt s19) (by omega), fun H20 s20 => ⟨_, rfl, iteF ?_⟩⟩
    have s820 := s818.trans (s19.trans s20)
    clear s20 mt2 s19 mt s818
    refine ⟨_, rfl, _, rfl, p1, ps, _, rfl, pf1.same s820, .inr ⟨p2, ps, rfl, pf2.same s820, rfl⟩, _, rfl, ?_⟩
    rw [decide_eq_true rfl]
    refine iteF ⟨_, rfl, _, rfl, p1, ps, _, rfl, pf1.same s820, .inr ⟨p2, ps, rfl, pf2.same s820, rfl⟩, _, rfl, ?_⟩
    rw [decide_eq_true rfl]
    refine iteF ?_
    refine ⟨_, rfl, b, _, rfl, SqL.of (s820 _ _ lps.1), ?_⟩
    refine for_enum (K := K) (a := b) (xs := us.map V.ref) (fun i σ H' => Same H20 H' ∧ ∃ fl f8 f9, σ = [some x, some (.ref a), some (.ref D), some (.ref p1), some (.ref p2), some (.ref b), some (.ref du), some (.bl fl), f8, f9, none, none] ∧ (fl = true → ¬ thin (sk 0 ps) (sk 1 ps)) ∧ (fl = false → ∀ c d, c < d → d < i → crs (sk 0 ps) (sk 1 ps) c d = 0)) ⟨Same.me, _, _, _, rfl, (fun h => nomatch h), fun _ c d _ h => absurd h (Nat.not_lt_zero d)⟩ (fun i _ _ _ p => SqL.of (p.1 _ _ (s820 _ _ lps.1))) (fun i y σ H' Tn hx p nT => ?_) (fun σ H' p => ?_)
    · obtain ⟨s21, fl, f8, f9, rfl, hf1, hf2⟩ := p
      have hi : i < ps.length - 1 := by
        have := (List.getElem?_eq_some_iff.mp hx).1
        omega
      have sT := same_new (o := .tup [.int (i : Nat), y]) nT
      have s822 := s820.trans (s21.trans sT)
      have s2022 := s21.trans sT
      refine ⟨Tn, _, rfl, SqT.of upd_same, rfl, _, _, rfl, _, _, rfl, rfl, ?_⟩
      generalize upd H' Tn (.tup [.int (i : Nat), y]) = H22 at s822 s2022 ⊢
      clear sT nT
      obtain ⟨g, q1, rfl, hg, eq1⟩ := step2 s822 hx
      obtain ⟨⟨c1, c2⟩, c3, c4⟩ := stp_bd ok eq1
      obtain ⟨a1, a2⟩ := stp_sk eq1
      refine ⟨_, rfl, _, rfl, _, rfl, b, _, rfl, SqL.of (s822 _ _ lps.1), fun c nc => ?_⟩
      rw [cut_to (by omega)]
      have sc := same_new (o := .lst ((us.map V.ref).take i)) nc
      have wc : upd H22 c (.lst ((us.map V.ref).take i)) c = some (.lst ((us.map V.ref).take i)) := upd_same
      generalize upd H22 c (.lst ((us.map V.ref).take i)) = H23 at sc wc ⊢
      have tl : ((us.map V.ref).take i).length = i := by
        rw [List.length_take]
        omega
      refine ⟨c, rfl, ⟨_, SqL.of wc⟩, fun D6 hD6 => ?_⟩
      refine lc_list (K := K) (a := c) (xs := (us.map V.ref).take i) (fun j H' => Same H23 H' ∧ ∃ zs : List Int, H' D6 = some (.lst (zs.map V.int)) ∧ zs.length ≤ j ∧ (zs = [] → ∀ k, k < j → crs (sk 0 ps) (sk 1 ps) k i = 0) ∧ (zs ≠ [] → ¬ thin (sk 0 ps) (sk 1 ps))) ⟨same_new hD6, [], upd_same, Nat.le_refl _, fun _ k h => absurd h (Nat.not_lt_zero k), fun h => absurd rfl h⟩ (fun i H' _ p => SqL.of (p.1 _ _ wc)) (fun j z H' hz p => ?_) (fun H' p => ?_)
      · obtain ⟨s24, zs, hd, hl, h0, h1⟩ := p
        have hj : j < i := by
          have := (List.getElem?_eq_some_iff.mp hz).1
          omega
        rw [List.getElem?_take_of_lt hj] at hz
        obtain ⟨g2, q2, rfl, hg2, eq2⟩ := step2 ((s822.trans sc).trans s24) hz
        have hg1 := (sc.trans s24) _ _ hg
        obtain ⟨b1', b2'⟩ := stp_sk eq2
        refine ⟨rfl, ?_⟩
        refine ⟨_, rfl, g, _, 0, _, rfl, rfl, SqT.of hg1, rfl, _, rfl, g2, _, 1, _, rfl, rfl, SqT.of hg2, rfl, _, _, rfl, rfl, .inl ⟨by omega, by omega⟩, ?_⟩
        refine ⟨_, rfl, g, _, 1, _, rfl, rfl, SqT.of hg1, rfl, _, rfl, g2, _, 0, _, rfl, rfl, SqT.of hg2, rfl, _, _, rfl, rfl, .inl ⟨by omega, by omega⟩, _, _, rfl, rfl, rfl, _, rfl, ?_⟩
        have ec : crs (sk 0 ps) (sk 1 ps) j i = -(q1.1 * q2.2 - q1.2 * q2.1) := by
          unfold crs
          rw [a1, a2, b1', b2', Int.mul_comm q2.1 q1.2, Int.mul_comm q2.2 q1.1]
          omega
        by_cases hc : q1.1 * q2.2 - q1.2 * q2.1 = 0
        · rw [decide_eq_true (show V.int (q1.1 * q2.2 - q1.2 * q2.1) = V.int 0 by rw [hc])]
          refine iteF ⟨s24, zs, hd, by omega, fun hz k hk => ?_, h1⟩
          rcases Nat.lt_or_ge k j with h | h
          · exact h0 hz k h
          · rw [show k = j by omega, ec, hc]
            rfl
        · rw [decide_eq_false (fun z => hc (V.int.inj z))]
          refine iteT ⟨_, hd, by rw [List.length_map]; exact small1000 (by omega), sameUpd s24 hD6, zs ++ [1], by rw [upd_same, List.map_append]; rfl, by rw [List.length_append]; show zs.length + 1 ≤ j + 1; omega, fun h => absurd h (by simp), fun _ th => hc ?_⟩
          have := th j i hj (by rw [sk_len]; omega)
          omega
      · obtain ⟨s24, zs, hd, hl, h0, h1⟩ := p
        rw [tl] at h0
        refine ⟨Nat.zero_le _, fun l nl => ?_⟩
        have sl := same_new (o := .lst []) nl
        refine ⟨.list (zs.map PyData.int), .list [], .lst (SqL.of (sl _ _ hd)) (dp_ints zs), .lst (SqL.of upd_same) .nil, PySem.W.ke_shaped_ints zs, by decide, _, rfl, ?_⟩
        have sE := ((s2022.trans sc).trans s24).trans sl
        by_cases hz : zs = []
        · have e : (!PyData.eqv (.list (zs.map PyData.int)) (.list [])) = false := by subst hz; rfl
          rw [e]
          refine iteF ⟨sE, fl, _, _, rfl, hf1, fun h c d h1 h2 => ?_⟩
          rcases Nat.lt_or_ge d i with h3 | h3
          · exact hf2 h c d h1 h3
          · have e : d = i := by omega
            subst e
            exact h0 hz c h1
        · have e : (!PyData.eqv (.list (zs.map PyData.int)) (.list [])) = true := by
            cases zs with
            | nil => exact absurd rfl hz
            | cons => rfl
          rw [e]
          exact iteT ⟨sE, true, _, _, rfl, (fun _ => h1 hz), (fun h => nomatch h)⟩
    · obtain ⟨s21, fl, f8, f9, rfl, hf1, hf2⟩ := p
      have s821 := s820.trans s21
      have hp2 := s821 _ _ hp
      rw [usn] at hf2
      refine ⟨_, rfl, _, rfl, ?_⟩
      cases fl with
      | true =>
        refine iteT ⟨_, rfl, p1, dx, _, rfl, hp2, rfl, p1, ps, rfl, pf1.same s821, ok, fun th => absurd th (hf1 rfl), fun _ H' s' => ⟨_, _, rfl, rfl, ?_⟩⟩
        exact q _ (s08.trans (s821.trans s'))
      | false =>
        refine iteF ⟨_, rfl, p1, dx, _, rfl, hp2, rfl, p1, ps, rfl, pf1.same s821, ok, fun _ H' s' => ⟨_, _, rfl, rfl, ?_⟩, fun nt => absurd (fun c d h1 h2 => hf2 rfl c d h1 (by rw [sk_len] at h2; omega)) nt⟩
        exact q _ (s08.trans (s821.trans s'))
end
end K11

namespace K11
open PySem PySem.Spec PyProof.Rows L2
/-! ### one number of a pair -/
def pt2 (k : Nat) (q : Int × Int) (z : Int) : Int × Int := if k = 0 then (z, q.2) else (q.1, z)
theorem at2 {k : Nat} (hk : k < 2) (q : Int × Int) : atI [V.int q.1, V.int q.2] (k : Int) = some (.int (it k q)) := by
  match k, hk with
  | 0, _ => rfl
  | 1, _ => rfl
theorem set2 {k : Nat} (hk : k < 2) (q : Int × Int) (z : Int) : List.set [V.int q.1, V.int q.2] k (V.int z) = [V.int (pt2 k q z).1, V.int (pt2 k q z).2] := by
  match k, hk with
  | 0, _ => rfl
  | 1, _ => rfl
theorem pt2_in {k : Nat} {q : Int × Int} {z B : Int} (h : -B ≤ q.1 ∧ q.1 ≤ B ∧ -B ≤ q.2 ∧ q.2 ≤ B) (h1 : -B ≤ z) (h2 : z ≤ B) : -B ≤ (pt2 k q z).1 ∧ (pt2 k q z).1 ≤ B ∧ -B ≤ (pt2 k q z).2 ∧ (pt2 k q z).2 ≤ B := by
  unfold pt2
  split
  · exact ⟨h1, h2, h.2.2.1, h.2.2.2⟩
  · exact ⟨h.1, h.2.1, h1, h2⟩
theorem it_in {k : Nat} {q : Int × Int} {B : Int} (h : -B ≤ q.1 ∧ q.1 ≤ B ∧ -B ≤ q.2 ∧ q.2 ≤ B) : -B ≤ it k q ∧ it k q ≤ B := by
  unfold it
  split
  · exact ⟨h.1, h.2.1⟩
  · exact ⟨h.2.2.1, h.2.2.2⟩
/-- a row is changed: some places are there again -/
theorem prl_bent {H : Hp} {r : Addr} {q : Int × Int} {B : Int} (hq : -B ≤ q.1 ∧ q.1 ≤ B ∧ -B ≤ q.2 ∧ q.2 ≤ B) {rs : List Addr} {ps : List (Int × Int)} (h : Paired (PrL H) rs ps) (b : InB B ps) : ∃ qs, qs.length = ps.length ∧ InB B qs ∧ Paired (PrL (upd H r (.lst [.int q.1, .int q.2]))) rs qs := by
  induction h with
  | nil => exact ⟨[], rfl, b, .nil⟩
  | @cons t p rs ps a _ ih =>
    obtain ⟨qs, l, b2, k⟩ := ih fun x hx => b x (List.mem_cons_of_mem _ hx)
    by_cases e : t = r
    · subst e
      refine ⟨q :: qs, by simp [l], fun x hx => ?_, .cons upd_same k⟩
      rcases List.mem_cons.mp hx with z | z
      · rw [z]; exact hq
      · exact b2 x z
    · refine ⟨p :: qs, by simp [l], fun x hx => ?_, .cons ?_ k⟩
      · rcases List.mem_cons.mp hx with z | z
        · rw [z]; exact b p List.mem_cons_self
        · exact b2 x z
      · show upd H r _ t = _
        rw [upd_ne e]
        exact a
/-! ### lists of lists as data -/
def eL (p : Int × Int) : PyData := .list [.int p.1, .int p.2]
theorem eL_lay : ∀ ps : List (Int × Int), PyData.canLayAll0 (ps.map eL) = true
  | [] => rfl
  | p :: ps => by
    show (PyData.canLay0 (eL p) && PyData.canLayAll0 (ps.map eL)) = true
    rw [eL_lay ps]
    rfl
theorem eL_depth : ∀ ps : List (Int × Int), PyData.depthAll (ps.map eL) ≤ 1
  | [] => by decide
  | p :: ps => by
    show max (PyData.depth (eL p)) (PyData.depthAll (ps.map eL)) ≤ 1
    have h := eL_depth ps
    have e : PyData.depth (eL p) = 1 := rfl
    omega
theorem eL_shaped (ps : List (Int × Int)) : SeqAt.shaped (.list (ps.map eL)) = true := by
  show (PyData.canLayAll0 (ps.map eL) && decide (PyData.depthAll (ps.map eL) + 1 ≤ 64)) = true
  rw [eL_lay, Bool.true_and, decide_eq_true_iff]
  have := eL_depth ps
  omega
theorem eL_eqv (p q : Int × Int) : PyData.eqv (eL p) (eL q) = decide (p = q) := by
  show (p.1 == q.1 && (p.2 == q.2 && true)) = _
  obtain ⟨a, b⟩ := p
  obtain ⟨c, d⟩ := q
  rw [Bool.and_true, Bool.eq_iff_iff, decide_eq_true_iff, Bool.and_eq_true, beq_iff_eq, beq_iff_eq, Prod.mk.injEq]
theorem eLs_eqv : ∀ ps qs : List (Int × Int), PyData.eqvAll (ps.map eL) (qs.map eL) = decide (ps = qs)
  | [], [] => rfl
  | [], _ :: _ => rfl
  | _ :: _, [] => rfl
  | p :: ps, q :: qs => by
    show (PyData.eqv (eL p) (eL q) && PyData.eqvAll (ps.map eL) (qs.map eL)) = _
    rw [eL_eqv, eLs_eqv ps qs, Bool.eq_iff_iff, Bool.and_eq_true, decide_eq_true_iff, decide_eq_true_iff, decide_eq_true_iff, List.cons.injEq]
theorem dp_lists {K : PySem.W.Frag} {H : Hp} {rs : List Addr} {ps : List (Int × Int)} (h : Paired (PrL H) rs ps) : DpAll K H (rs.map V.ref) (ps.map eL) := by
  induction h with
  | nil => exact .nil
  | cons a _ ih => exact .cons (.lst (SqL.of a) (.cons (.int _) (.cons (.int _) .nil))) ih
theorem LL.dp {K : PySem.W.Frag} {H : Hp} {a : Addr} {rs : List Addr} {ps : List (Int × Int)} (h : LL H a rs ps) : Dp K H (.ref a) (.list (ps.map eL)) := .lst (SqL.of h.1) (dp_lists h.2)
/-! ### pairs, turned and cut -/
theorem tIf_key {tA : TT} {ta tb : TE} {σ : L2.St} {H : Hp} {Q : VK} (G : V → Hp → Prop) (h : ∀ Q : VK, (∀ v H', G v H' → Q v H') → tIf tA ta tb σ H Q) (k : ∀ v H', G v H' → Q v H') : tIf tA ta tb σ H Q := h Q k
theorem paired_rev {α β : Type} {R : α → β → Prop} {xs : List α} {ys : List β} (h : Paired R xs ys) : Paired R xs.reverse ys.reverse := by
  induction h with
  | nil => exact .nil
  | cons a _ ih =>
    rw [List.reverse_cons, List.reverse_cons]
    exact paired_snoc ih a
theorem paired_take {α β : Type} {R : α → β → Prop} {xs : List α} {ys : List β} (h : Paired R xs ys) : ∀ n, Paired R (xs.take n) (ys.take n) := by
  induction h with
  | nil => intro n; cases n <;> exact .nil
  | cons a _ ih =>
    intro n
    cases n with
    | zero => exact .nil
    | succ n => exact .cons a (ih n)
theorem cut_last {xs : List V} : cutV xs none (some (-1)) = xs.take (xs.length - 1) := by
  unfold cutV
  have e : HT.sIx xs.length xs.length (some (-1)) = xs.length - 1 := by
    show (if (-1 : Int) < 0 then ((-1 : Int) + (xs.length : Int)).toNat else min (-1 : Int).toNat xs.length) = _
    rw [if_pos (by decide)]
    omega
  have e0 : HT.sIx xs.length 0 none = 0 := rfl
  rw [e, e0, List.drop_zero, Nat.sub_zero]
/-- a comprehension of pairs over new objects -/
def Lq (H0 : Hp) (D i : Nat) (H : Hp) : Prop := Same H0 H ∧ ∃ ts qs, qs.length = i ∧ LP H D ts qs ∧ InB G9 qs
theorem lq_nil {H0 : Hp} {D : Addr} (hD : H0 D = none) : Lq H0 D 0 (upd H0 D (.lst [])) := ⟨same_new hD, [], [], rfl, ⟨upd_same, .nil⟩, InB.nil⟩
theorem lq_step {H0 H' H2 : Hp} {D g : Addr} {i : Nat} {a b : Int} (hD : H0 D = none) (c : Lq H0 D i H') (hi : i < 7) (s : Same H' H2) (hg : Pr H2 g (a, b)) (h1 : -G9 ≤ a) (h2 : a ≤ G9) (h3 : -G9 ≤ b) (h4 : b ≤ G9) :
    ∃ acc, H2 D = some (.lst acc) ∧ acc.length < sizeLine ∧ Lq H0 D (i + 1) (upd H2 D (.lst (acc ++ [V.ref g]))) := by
  obtain ⟨s0, ts, qs, l, lp, b9⟩ := c
  have lp2 := lp.same s
  exact ⟨_, lp2.1, by rw [List.length_map, lp2.len, l]; exact small1000 (by omega), sameUpd (s0.trans s) hD, _, _, by rw [List.length_append, l]; rfl, lp2.snoc hg, b9.snoc h1 h2 h3 h4⟩
theorem cp_stepP {H0 H' : Hp} {D : Addr} {i : Nat} {x : V} {ts : List Addr} {ps : List (Int × Int)} (hD : H0 D = none) (pp : Paired (Pr H0) ts ps) (l7 : ps.length ≤ 7) (c : Cp H0 D ps i H') (hx : (ts.map V.ref)[i]? = some x) :
    ∃ (g : Addr) (q : Int × Int), x = .ref g ∧ H' g = some (.tup [.int q.1, .int q.2]) ∧ ∀ l, H' l = none → ∃ acc, (upd H' l (.lst [.int q.1, .int q.2])) D = some (.lst acc) ∧ acc.length < sizeLine ∧ Cp H0 D ps (i + 1) (upd (upd H' l (.lst [.int q.1, .int q.2])) D (.lst (acc ++ [V.ref l]))) := by
  obtain ⟨s, rs, ll, nw⟩ := c
  have hi : i < ps.length := by
    have := (List.getElem?_eq_some_iff.mp hx).1
    rw [List.length_map, Paired.length pp] at this
    exact this
  obtain ⟨g, hg1, hg⟩ := paired_of pp (List.getElem?_eq_getElem hi)
  have eq := List.getElem?_eq_getElem hi
  generalize ps[i] = q at hg eq
  rw [List.getElem?_map, hg1] at hx
  refine ⟨g, q, (Option.some.inj hx).symm, s _ _ hg, fun l hl => ?_⟩
  have sl := same_new (o := .lst [V.int q.1, V.int q.2]) hl
  have ll2 := ll.same sl
  have z := ll2.snoc (g := l) (q := q) upd_same
  rw [← take_more eq] at z
  refine ⟨_, ll2.1, by rw [List.length_map, ll.len]; exact small1000 (Nat.le_trans (List.length_take_le _ _) (by omega)), fun b o e => ?_, _, z, fun r hr => ?_⟩
  · rw [upd_ne (ne_of_none e hD)]
    exact sl _ _ (s _ _ e)
  · rcases List.mem_append.mp hr with h | h
    · exact nw r h
    · rw [List.mem_singleton.mp h]
      exact s.free hl
theorem SB.kp {p : Addr} {H H' : Hp} (s : SB p H H') : Kp p H H' := s.1
section
variable {P : Program} {w : World} {K : PySem.W.Frag} {mg : Str → Option Value} {base : Heap} {C CB : Addr}
/-! ### _law_unlike_right -/
def spUR : Sp := fun vs H Q _ => ∃ (p a : Addr) (n : Nat) (ts : List Addr) (ps : List (Int × Int)), vs = [.ref p, .ref a] ∧ Lens H p n ∧ n + 10 < 60000 ∧ a ≠ p ∧ LP H a ts ps ∧ OkP ps ∧ ∀ H', SB p H H' → Lens H' p (n + 2) → Q (.bl true) H'
abbrev sUR : Stmt := top 46
abbrev nUR : List Str := ["_law_lens_here", "_law_places_here", "_law_made", "_law_at", "_law_side", "_law_bent", "_law_near", "_law_others", "_law_other", "_law_same", "_law_place", "_law_its"]
theorem scUR : FnScope nUR ["_law_lens_here", "_law_places_here"] (defScope sUR) := ⟨rfl, rfl, rfl, by decide +kernel, rfl, by decide +kernel, by decide +kernel⟩
abbrev scU1 : Scope := { kind := .function, names := [(".0", .local), ("_law_place", .local), ("min", .globalImplicit), ("_law_places_here", .cell)], isGenerator := false, isCoroutine := false }
theorem ok_ur {f : Addr} {fd : FuncData} (F : Fun K "_law_unlike_right" "_law_unlike_right" sUR f fd) (B : Bn mg) (T : Pc P w K mg base C CB) (C1 : Callee P w K mg base CX0 1 "_law_shot" ["_law_lens_here", "_law_many"] spShot) :
    FnOk P w K mg base CX0 8 f fd ["_law_lens_here", "_law_places_here"] spUR := by
  obtain ⟨f1, fd1, m1, k1, b1, G1⟩ := C1
  obtain ⟨fE, fdE, GE, hsE, hfE, hbE⟩ := T.eq
  obtain ⟨fS, fdS, GS, hsS, hfS, hbS⟩ := T.st
  have cl := T.t.pc.cls
  have nd := scUR.nd
  have eG : G9 = 1000000000 := rfl
  refine F.ok scUR (fun vs H Q E h => ?_) (fun cdv A outer s H vs Q E hr h => ?_)
  · obtain ⟨p, a, n, ts, ps, rfl, _⟩ := h
    rfl
  · obtain ⟨p, a, n, ts, ps, rfl, hv, hn, na, lp, ok, q⟩ := h
    refine ⟨_, (pss_cons (ps_asg (pe_tup (pa_cons ((pe_mkP (E := E0) T (hr.mono (by decide)) passL rfl (pa_cons (pv 1) pa_nil))) (pa_cons ((pe_call G1 (hr.mono (by decide)) rfl m1 k1 b1 .nil pass0 (pa_cons (pv 0) (pa_cons ((pe_callB call_len_seq (by rfl) B.len PySem.boot_len (pa_cons (pv 1) pa_nil))) pa_nil)))) (pa_cons ((pe_call G1 (hr.mono (by decide)) rfl m1 k1 b1 .nil pass0 (pa_cons (pv 0) (pa_cons (pe_int) pa_nil)))) pa_nil)))) (pg_tup rfl (pgs_cons (pg_name (i := 2) nd rfl (Or.inr rfl)) (pgs_cons (pg_name (i := 3) nd rfl (Or.inl rfl)) (pgs_cons (pg_name (i := 4) nd rfl (Or.inl rfl)) pgs_nil))))) (pss_cons (ps_setLc (i := 5) (own := [("_law_place", 10)]) (g := gName 10) (tt := tYes) rfl nd rfl rfl (sw_true rfl rfl rfl (by decide +kernel)) (pi_list (pv 1)) (blkOk_by (N := nUR) (sc := defScope sUR) (by decide +kernel)) (fun _ _ _ _ _ => (pg_name (i := 10) nd rfl (Or.inl rfl))) (fun _ _ _ _ _ => pts_nil) (fun _ _ _ _ _ => (pe_callTy (T := "list") (r := rLi K) call_liK (by rfl) B.list (by decide +kernel) (pa_cons (pv 10) pa_nil)))) (pss_cons (ps_asg (pe_ifExp (pt_cmpR op_gt (pe_ix ix_list ((pe_ix ix_list (pv 5) (pv 3) (fun _ _ => rfl))) (pv 4) (fun _ _ => rfl)) pe_int (nomark _)) (pe_op op_sub (pe_ix ix_list ((pe_ix ix_list (pv 5) (pv 3) (fun _ _ => rfl))) (pv 4) (fun _ _ => rfl)) pe_int) (pe_op op_add (pe_ix ix_list ((pe_ix ix_list (pv 5) (pv 3) (fun _ _ => rfl))) (pv 4) (fun _ _ => rfl)) pe_int)) (pg_sub (pe_ix ix_list (pv 5) (pv 3) (fun _ _ => rfl)) (pv 4) set_list)) (pss_cons (ps_setLc (i := 6) (own := [("_law_place", 10)]) (g := gName 10) (tt := tYes) rfl nd rfl rfl (sw_true rfl rfl rfl (by decide +kernel)) (pi_list (pv 1)) (blkOk_by (N := nUR) (sc := defScope sUR) (by decide +kernel)) (fun _ _ _ _ _ => (pg_name (i := 10) nd rfl (Or.inl rfl))) (fun _ _ _ _ _ => pts_nil)
        (fun _ _ _ _ _ => pe_tup (pa_cons (pe_ifExp (pt_cmpR op_gt (pe_callB (r := rMin K) (cr_min rfl) (by rfl) B.min (by decide +kernel) (pa_cons (pe_lc (own := [("_law_its", 11)]) (g := gName 11) (tt := tYes) rfl nd (pi_listK K (pv 1)) (blkOk_by (N := nUR) (sc := scU1) (by decide +kernel)) (fun _ _ _ _ _ => pg_name (i := 11) nd rfl (Or.inl rfl)) (fun _ _ _ _ _ => pts_nil) (fun _ _ _ _ _ => (pe_ix (r := rIxT K) ix_tupK (pv 11) (pe_int) (fun _ _ => rfl)))) pa_nil)) (pe_un un_neg (pe_op op_pow pe_int pe_int)) (nomark _)) (pe_op op_sub (pe_ix (r := rIxT K) ix_tupK (pv 10) (pe_int) (fun _ _ => rfl)) pe_int) (pe_ix (r := rIxT K) ix_tupK (pv 10) (pe_int) (fun _ _ => rfl))) (pa_cons ((pe_ix (r := rIxT K) ix_tupK (pv 10) (pe_int) (fun _ _ => rfl))) pa_nil)))) (pss_cons ((ps_set (i := 7) nd rfl (Or.inl rfl) (pe_lst (pa_cons ((pe_mkP (E := E0) T (hr.mono (by decide)) passL rfl (pa_cons (pv 5) pa_nil))) (pa_cons ((pe_mkP (E := E0) T (hr.mono (by decide)) passL rfl (pa_cons (pe_lc (own := [("_law_place", 10)]) (g := gName 10) (tt := tYes) rfl nd (pi_list (pv 1)) (blkOk_by (N := nUR) (sc := defScope sUR) (by decide +kernel)) (fun _ _ _ _ _ => (pg_name (i := 10) nd rfl (Or.inl rfl))) (fun _ _ _ _ _ => pts_nil) (fun _ _ _ _ _ => pe_tup (pa_cons ((pe_ix (r := rIxT K) ix_tupK (pv 10) (pe_int) (fun _ _ => rfl))) (pa_cons ((pe_ix (r := rIxT K) ix_tupK (pv 10) (pe_int) (fun _ _ => rfl))) pa_nil)))) pa_nil))) (pa_cons ((pe_mkP (E := E0) T (hr.mono (by decide)) passL rfl (pa_cons (pv 6) pa_nil))) (pa_cons ((pe_mkP (E := E0) T (hr.mono (by decide)) passL rfl (pa_cons (pe_revL (pv 1)) pa_nil))) pa_nil))))))) (pss_cons (ps_expr (pe_bm PySem.F.plainAttrs_list PySem.F.slot_list_append PySem.F.type_list_append mt_append (pv 7) (pa_cons ((pe_mkP (E := E0) T (hr.mono (by decide)) passL rfl (pa_cons (pe_ifExp (pt_cmpR op_gt (pe_callB call_len_seq (by rfl) B.len PySem.boot_len (pa_cons (pv 1) pa_nil)) pe_int (nomark _)) (pe_slice (r := rSlL K) sl_listK (pv 1) (po_none) (po_some (pe_un un_neg pe_int))) (pe_op op_cat (pv 1) (pe_lst (pa_cons (pe_tup (pa_cons (pe_int) (pa_cons (pe_int) pa_nil))) pa_nil)))) pa_nil))) pa_nil))) (pss_cons (ps_for PassesOwn.never rfl (pi_list (pv 7)) (pg_name (i := 8) nd rfl (Or.inl rfl)) (pss_cons ((ps_set (i := 9) nd rfl (Or.inl rfl) ((pe_cmpR (op_eqD hr.units) (pe_lc (own := [("_law_place", 10)]) (g := gName 10) (tt := tYes) rfl nd (pi_tup (pe_fld (pv 8) rfl)) (blkOk_by (N := nUR) (sc := defScope sUR) (by decide +kernel)) (fun _ _ _ _ _ => (pg_name (i := 10) nd rfl (Or.inl rfl))) (fun _ _ _ _ _ => pts_nil) (fun _ _ _ _ _ => (pe_callTy (T := "list") (r := rLi K) call_liK (by rfl) B.list (by decide +kernel) (pa_cons (pv 10) pa_nil)))) (pe_lc (own := [("_law_place", 10)]) (g := gName 10) (tt := tYes) rfl nd (pi_list (pv 1)) (blkOk_by (N := nUR) (sc := defScope sUR) (by decide +kernel)) (fun _ _ _ _ _ => (pg_name (i := 10) nd rfl (Or.inl rfl))) (fun _ _ _ _ _ => pts_nil) (fun _ _ _ _ _ => (pe_callTy (T := "list") (r := rLi K) call_liK (by rfl) B.list (by decide +kernel) (pa_cons (pv 10) pa_nil)))) (nomark _))))) (pss_one (ps_if (PW.pt (pw_or ((pt_cmpR op_ne (pe_cmpR (op_eqP GE hsE hfE hbE T.n (hr.mono (by decide))) (pv 2) (pv 8) (nomark _)) (pv 9) (nomark _))) (pw_or1 ((pt_cmpR op_eq (pe_cmpR (op_neP GE hsE hfE hbE T.n T.t (hr.mono (by decide))) (pv 2) (pv 8) (nomark _)) (pv 9) (nomark _)))))) (pss_one (ps_ret pe_bl)) pss_nil)))) (pss_one (ps_ret (pe_cmpR (op_eqD hr.units) (pe_lc (own := [("_law_other", 8)]) (g := gName 8) rfl nd (pi_tup (pe_tup (pa_cons (pv 1) (pa_cons ((pe_callTy (T := "tuple") (r := rTu K) call_tuK (by rfl) B.tuple (by decide +kernel) (pa_cons (pv 1) pa_nil))) (pa_cons (pe_non) (pa_cons (pe_fld (pv 2) rfl) (pa_cons (pe_callTy (T := "str") (r := rStrP C) (call_strP GS hsS hfS hbS (hr.mono (by decide))) (by rfl) B.str (by decide +kernel) (pa_cons (pv 2) pa_nil)) pa_nil))))))) (blkOk_by (N := nUR) (sc := defScope sUR) (by decide +kernel)) (fun _ _ _ _ _ => (pg_name (i := 8) nd rfl (Or.inl rfl)))
        (fun _ _ _ _ _ => pts_one (PW.pt (pw_or (pt_cmpR (r := rEqP K C) (op_eqP GE hsE hfE hbE T.n (hr.mono (by decide))) (pv 2) (pv 8) (nomark _)) (pw_or1 (pt_not (pt_cmpR (r := rNeP K C) (op_neP GE hsE hfE hbE T.n T.t (hr.mono (by decide))) (pv 2) (pv 8) (nomark _))))))) (fun _ _ _ _ _ => pv 8)) (pe_lst pa_nil) (nomark _))))))))))), ?_⟩
    have l4 := ok.1
    have l7 := ok.2.1
    have tsl : (ts.map V.ref).length = ps.length := by rw [List.length_map, lp.len]
    refine ⟨_, rfl, _, rfl, .inl ⟨ps, lp.pls, ok, fun pm H1 s1 n1 pf1 => ?_⟩⟩
    refine ⟨_, rfl, _, rfl, a, _, rfl, .inl (SqL.of (s1 _ _ lp.1)), p, _, n, rfl, hv.same s1, by omega, by rw [tsl]; omega, by rw [Int.natAbs_natCast, tsl]; exact Nat.lt_of_le_of_lt l7 (by decide), fun H2 ai s2 v2 a0 a1 => ?_⟩
    rw [tsl] at a1
    refine ⟨_, rfl, p, 2, _, rfl, v2, by omega, by decide, by decide, fun H3 di s3 v3 d0 d1 => ?_⟩
    obtain ⟨i, rfl⟩ := Int.eq_ofNat_of_zero_le a0
    obtain ⟨k, rfl⟩ := Int.eq_ofNat_of_zero_le d0
    have hi : i < ps.length := by omega
    have hk : k < 2 := by omega
    refine ⟨by show 3 ≤ sizeLine; decide, fun tt ntt => ?_⟩
    have st := same_new (o := .tup [V.ref pm, V.int i, V.int k]) ntt
    have s04 : SB p H (upd H3 tt (.tup [V.ref pm, V.int i, V.int k])) := (SB.of s1).trans (s2.trans (s3.trans (SB.of st)))
    have v4 := v3.same st
    have lp4 := lp.sb hv na s04
    have pf4 : PicF (upd H3 tt (.tup [V.ref pm, V.int i, V.int k])) C pm ps := by
      obtain ⟨_, _, _, e⟩ := (hv.same s1).at
      exact pf1.kpl e (s2.trans (s3.trans (SB.of st))).kp
    refine ⟨tt, _, rfl, SqT.of upd_same, rfl, _, _, rfl, _, _, rfl, _, _, rfl, rfl, ?_⟩
    have q : ∀ H', Same (upd H3 tt (.tup [V.ref pm, V.int i, V.int k])) H' → Q (.bl true) H' := fun H' s => q H' (s04.trans (SB.of s)) (v4.same s)
    generalize upd H3 tt (.tup [V.ref pm, V.int i, V.int k]) = H4 at s04 v4 lp4 pf4 q ⊢
    clear st ntt v3 s3 v2 s2 s1 n1 pf1
    -- the bent one
    refine ⟨_, rfl, a, rfl, ⟨_, SqL.of lp4.1⟩, fun D hD => ?_⟩
    refine lc_list (K := K) (a := a) (xs := ts.map V.ref) (Cp H4 D ps) (cp_nil hD) (fun i H' _ p => SqL.of (p.1 _ _ lp4.1)) (fun i x H' hx p => ?_) (fun H5 p5 => ?_)
    · obtain ⟨g, q1, rfl, hg, k⟩ := cp_step hD lp4 l7 p hx
      exact ⟨rfl, _, rfl, g, _, rfl, .inr (SqT.of hg), k⟩
    rw [tsl] at p5
    obtain ⟨s5, rs, ll5, nrs⟩ := p5
    rw [List.take_length] at ll5
    obtain ⟨r, q0, er, eq, hr0⟩ := ll5.at hi
    have e0 : atI (rs.map V.ref) (i : Int) = some (.ref r) := atI_nat (by rw [List.getElem?_map, er]; rfl)
    have hq0 := ok.2.2 q0 (List.mem_of_getElem? eq)
    obtain ⟨i1, i2⟩ := it_in (k := k) hq0
    have nr := nrs r (List.mem_of_getElem? er)
    dsimp only [gName, tSeq, tAsg]
    refine tIf_key (fun v H' => ∃ z : Int, v = .int z ∧ H' = H5 ∧ -G9 ≤ z ∧ z ≤ G9) (fun Q hQ => ?_) (fun v H' hG => ?_)
    · refine ⟨_, rfl, _, rfl, D, _, _, .ref r, rfl, rfl, SqL.of ll5.1, e0, _, rfl, r, _, _, _, rfl, rfl, SqL.of hr0, at2 hk q0, _, _, rfl, rfl, _, rfl, ?_⟩
      refine ite2 (fun h => ?_) (fun h => ?_)
      · have h1 : 0 < it k q0 := of_decide_eq_true h
        exact ⟨_, rfl, _, rfl, D, _, _, .ref r, rfl, rfl, SqL.of ll5.1, e0, _, rfl, r, _, _, _, rfl, rfl, SqL.of hr0, at2 hk q0, _, _, rfl, rfl, hQ _ _ ⟨it k q0 - 1, rfl, rfl, by omega, by omega⟩⟩
      · have h1 : ¬ 0 < it k q0 := fun z => h (decide_eq_true z)
        exact ⟨_, rfl, _, rfl, D, _, _, .ref r, rfl, rfl, SqL.of ll5.1, e0, _, rfl, r, _, _, _, rfl, rfl, SqL.of hr0, at2 hk q0, _, _, rfl, rfl, hQ _ _ ⟨it k q0 + 1, rfl, rfl, by omega, by omega⟩⟩
    obtain ⟨z, rfl, rfl, z1, z2⟩ := hG
    refine ⟨_, rfl, _, rfl, D, _, _, .ref r, rfl, rfl, SqL.of ll5.1, e0, _, rfl, r, _, _, k, rfl, rfl, hr0, ixN_nat (by show k < 2; exact hk), ?_⟩
    rw [set2 hk]
    obtain ⟨qs1, lq1, bq1, pq1⟩ := prl_bent (r := r) (pt2_in hq0 z1 z2) ll5.2 ok.2.2
    have ll6 : LL (upd H' r (.lst [V.int (pt2 k q0 z).1, V.int (pt2 k q0 z).2])) D rs qs1 := ⟨by rw [upd_ne (refs_ne ll5.1 hr0).symm]; exact ll5.1, pq1⟩
    have s6 : Same H4 (upd H' r (.lst [V.int (pt2 k q0 z).1, V.int (pt2 k q0 z).2])) := sameUpd s5 nr
    generalize upd H' r (.lst [V.int (pt2 k q0 z).1, V.int (pt2 k q0 z).2]) = H6 at ll6 s6 ⊢
    have lp6 := lp4.same s6
    clear ll5 s5 hr0 pq1 e0 er eq
    -- the near one
    have pick : ∀ {H0 H' : Hp} {i : Nat} {x : V}, LP H0 a ts ps → Same H0 H' → (ts.map V.ref)[i]? = some x → ∃ (g : Addr) (q : Int × Int), x = .ref g ∧ H' g = some (.tup [.int q.1, .int q.2]) ∧ ps[i]? = some q ∧ i < 7 := fun {H0 H' i x} lp s0 hx => by
      have hi : i < ps.length := by
        have := (List.getElem?_eq_some_iff.mp hx).1
        rw [tsl] at this
        exact this
      obtain ⟨g, q, eg, eq, hg⟩ := lp.at hi
      rw [eg] at hx
      exact ⟨g, q, (Option.some.inj hx).symm, s0 _ _ hg, eq, by omega⟩
    have e9 : (10 : Int) ^ (Int.toNat 9) = 1000000000 := by decide
    refine ⟨_, rfl, a, rfl, ⟨_, SqL.of lp6.1⟩, fun D2 hD2 => ?_⟩
    refine lc_list (K := K) (a := a) (xs := ts.map V.ref) (Lq H6 D2) (lq_nil hD2) (fun i H' _ p => SqL.of (p.1 _ _ lp6.1)) (fun j x H' hx p => ?_) (fun H7 p7 => ?_)
    · obtain ⟨g, q1, rfl, hg, eq1, hj⟩ := pick lp6 p.1 hx
      have lpj := lp6.same p.1
      have bq := ok.2.2 q1 (List.mem_of_getElem? eq1)
      refine ⟨rfl, ?_⟩
      refine ⟨_, rfl, a, rfl, ⟨_, SqL.of lpj.1⟩, fun D3 hD3 => ?_⟩
      refine lc_list (K := K) (a := a) (xs := ts.map V.ref) (fun j => At H' D3 (((ps.map (·.1)).take j).map V.int)) ⟨same_new hD3, upd_same⟩ (fun i H2 _ p => SqL.of (p.1 _ _ lpj.1)) (fun j2 x H2 hx2 p2 => ?_) (fun H2 p2 => ?_)
      · obtain ⟨g2, q2, rfl, hg2, eq2, hj2⟩ := pick lpj p2.1 hx2
        refine ⟨rfl, _, rfl, g2, _, 0, _, rfl, rfl, SqT.of hg2, rfl, _, p2.2, by rw [List.length_map]; exact small1000 (Nat.le_trans (List.length_take_le _ _) (by omega)), p2.step hD3 Same.me ?_⟩
        rw [take_more (x := q2.1) (by rw [List.getElem?_map, eq2]; rfl), List.map_append]
        rfl
      · rw [tsl, List.take_of_length_le (by rw [List.length_map]; exact Nat.le_refl _)] at p2
        refine ⟨D3, _, rfl, SqL.of p2.2, by rw [List.length_map]; omega, fun m hm hmin => ?_⟩
        have hm1 : m ≤ q1.1 := hmin _ (List.mem_map.mpr ⟨q1, List.mem_of_getElem? eq1, rfl⟩)
        have hg2 := p2.1 _ _ hg
        refine ⟨_, _, rfl, rfl, ⟨by decide, by decide, by decide⟩, _, rfl, _, _, rfl, rfl, _, rfl, ?_⟩
        refine ite2 (fun h => ?_) (fun h => ?_)
        · have h1 : -(10 : Int) ^ (Int.toNat 9) < m := of_decide_eq_true h
          rw [e9] at h1
          refine ⟨_, rfl, g, _, 0, _, rfl, rfl, SqT.of hg2, rfl, _, _, rfl, rfl, _, rfl, g, _, 1, _, rfl, rfl, SqT.of hg2, rfl, by show 2 ≤ sizeLine; decide, fun w nw => ?_⟩
          exact lq_step (a := q1.1 - 1) (b := q1.2) hD2 p hj (p2.1.trans (same_new nw)) upd_same (by omega) (by omega) (by omega) (by omega)
        · refine ⟨_, rfl, g, _, 0, _, rfl, rfl, SqT.of hg2, rfl, _, rfl, g, _, 1, _, rfl, rfl, SqT.of hg2, rfl, by show 2 ≤ sizeLine; decide, fun w nw => ?_⟩
          exact lq_step (a := q1.1) (b := q1.2) hD2 p hj (p2.1.trans (same_new nw)) upd_same (by omega) (by omega) (by omega) (by omega)
    rw [tsl] at p7
    obtain ⟨s67, tsN, qsN, lN, lpN, bN⟩ := p7
    have s7 : Same H4 H7 := s6.trans s67
    have ll7 := ll6.same s67
    clear s67 ll6
    -- the others
    refine ⟨_, rfl, _, rfl, .inl ⟨qs1, ll7.pls, ⟨by omega, by omega, bq1⟩, fun o1 H8 s8 n8 po1 => ?_⟩⟩
    have lp8 := lp4.same (s7.trans s8)
    refine ⟨_, rfl, a, rfl, ⟨_, SqL.of lp8.1⟩, fun D4 hD4 => ?_⟩
    refine lc_list (K := K) (a := a) (xs := ts.map V.ref) (Lq H8 D4) (lq_nil hD4) (fun i H' _ p => SqL.of (p.1 _ _ lp8.1)) (fun j x H' hx p => ?_) (fun H9 p9 => ?_)
    · obtain ⟨g, q1, rfl, hg, eq1, hj⟩ := pick lp8 p.1 hx
      have bq := ok.2.2 q1 (List.mem_of_getElem? eq1)
      refine ⟨rfl, _, rfl, g, _, 1, _, rfl, rfl, SqT.of hg, rfl, _, rfl, g, _, 0, _, rfl, rfl, SqT.of hg, rfl, by show 2 ≤ sizeLine; decide, fun w nw => ?_⟩
      exact lq_step (a := q1.2) (b := q1.1) hD4 p hj (same_new nw) upd_same (by omega) (by omega) (by omega) (by omega)
    rw [tsl] at p9
    obtain ⟨s89, tsS, qsS, lS, lpS, bS⟩ := p9
    refine ⟨_, rfl, .inl ⟨qsS, lpS.pls, ⟨by omega, by omega, bS⟩, fun o2 H10 s10 n10 po2 => ?_⟩⟩
    have s710 := s8.trans (s89.trans s10)
    refine ⟨_, rfl, _, rfl, .inl ⟨qsN, (lpN.same s710).pls, ⟨by omega, by omega, bN⟩, fun o3 H11 s11 n11 po3 => ?_⟩⟩
    have lp11 := lp4.same (s7.trans (s710.trans s11))
    refine ⟨_, rfl, a, _, rfl, SqL.of lp11.1, fun c nc => ?_⟩
    have sc := same_new (o := .lst (ts.map V.ref).reverse) nc
    have lpR : LP (upd H11 c (.lst (ts.map V.ref).reverse)) c ts.reverse ps.reverse := ⟨by rw [upd_same, List.map_reverse], paired_mono (paired_rev lp11.2) fun _ _ z => sc _ _ z⟩
    refine ⟨_, rfl, .inl ⟨ps.reverse, lpR.pls, ⟨by rw [List.length_reverse]; exact l4, by rw [List.length_reverse]; exact l7, fun x hx => ok.2.2 x (List.mem_reverse.mp hx)⟩, fun o4 H12 s12 n12 po4 => ?_⟩⟩
    refine ⟨by show 4 ≤ sizeLine; decide, fun O nO => ?_⟩
    have sO := same_new (o := .lst [V.ref o1, V.ref o2, V.ref o3, V.ref o4]) nO
    have hO : upd H12 O (.lst [V.ref o1, V.ref o2, V.ref o3, V.ref o4]) O = some (.lst [V.ref o1, V.ref o2, V.ref o3, V.ref o4]) := upd_same
    have s712 : Same H7 H12 := s710.trans (s11.trans (sc.trans s12))
    have nO4 : H4 O = none := (s7.trans s712).free nO
    have naO : a ≠ O := ne_of_none lp4.1 nO4
    have po4 := po4.same sO
    have po3 := po3.same ((sc.trans s12).trans sO)
    have po2 := po2.same ((s11.trans (sc.trans s12)).trans sO)
    have po1 := po1.same ((s89.trans s10).trans ((s11.trans (sc.trans s12)).trans sO))
    have s13 : Same H4 (upd H12 O (.lst [V.ref o1, V.ref o2, V.ref o3, V.ref o4])) := s7.trans (s712.trans sO)
    generalize upd H12 O (.lst [V.ref o1, V.ref o2, V.ref o3, V.ref o4]) = H13 at hO po1 po2 po3 po4 s13 ⊢
    have lp13 := lp4.same s13
    clear sO nO s712 s710 s89 lpR sc nc lp11 lp8 n12 n11 n10 n8
    refine ⟨_, rfl, .inl ⟨rfl, _, SqL.of hO⟩, ?_⟩
    dsimp only [tCons, tMkP]
    refine tIf_key (fun v H' => ∃ (c : Addr) (ts' : List Addr) (qs : List (Int × Int)), v = .ref c ∧ Same H13 H' ∧ LP H' c ts' qs ∧ OkP qs) (fun Q hQ => ?_) (fun v H14 hG => ?_)
    · refine ⟨_, rfl, a, _, rfl, .inl (SqL.of lp13.1), _, _, rfl, rfl, _, rfl, ?_⟩
      refine ite2 (fun h => ?_) (fun h => ?_)
      · have h1 : (4 : Int) < ((ts.map V.ref).length : Int) := of_decide_eq_true h
        rw [tsl] at h1
        refine ⟨_, rfl, _, rfl, _, rfl, a, _, rfl, SqL.of lp13.1, fun c nc => ?_⟩
        have sc := same_new (o := .lst (cutV (ts.map V.ref) none (some (-1)))) nc
        refine hQ _ _ ⟨c, ts.take (ps.length - 1), ps.take (ps.length - 1), rfl, sc, ⟨by rw [upd_same, cut_last, tsl, List.map_take], paired_mono (paired_take lp13.2 _) fun _ _ z => sc _ _ z⟩, by rw [List.length_take]; omega, by rw [List.length_take]; omega, fun x hx => ok.2.2 x (List.mem_of_mem_take hx)⟩
      · have h1 : ¬ (4 : Int) < ((ts.map V.ref).length : Int) := fun z => h (decide_eq_true z)
        rw [tsl] at h1
        refine ⟨_, rfl, by show 2 ≤ sizeLine; decide, fun t nt => ⟨by show 1 ≤ sizeLine; decide, fun l nl => ?_⟩⟩
        have st := same_new (o := .tup [V.int 0, V.int 0]) nt
        have sl := same_new (o := .lst [V.ref t]) nl
        have lpl := lp13.same (st.trans sl)
        refine ⟨a, l, _, _, rfl, rfl, lpl.1, upd_same, by rw [tsl]; show ps.length + 1 ≤ sizeLine; exact Nat.le_of_lt (small1000 (by omega)), fun c nc => ?_⟩
        have sc := same_new (o := .lst (ts.map V.ref ++ [V.ref t])) nc
        refine hQ _ _ ⟨c, ts ++ [t], ps ++ [(0, 0)], rfl, (st.trans sl).trans sc, ⟨by rw [upd_same, List.map_append]; rfl, paired_snoc (lpl.same sc).2 (sc _ _ (sl _ _ upd_same))⟩, by rw [List.length_append]; show 4 ≤ ps.length + 1; omega, by rw [List.length_append]; show ps.length + 1 ≤ 7; omega, ?_⟩
        exact InB.snoc ok.2.2 (by decide) (by decide) (by decide) (by decide)
    obtain ⟨c, tsA, qsA, rfl, s14, lpA, okA⟩ := hG
    refine ⟨_, rfl, .inl ⟨qsA, lpA.pls, okA, fun o5 H15 s15 n15 po5 => ?_⟩⟩
    have s1315 := s14.trans s15
    have hO15 := s1315 _ _ hO
    refine ⟨O, _, _, rfl, rfl, hO15, by show 4 < sizeLine; decide, ?_⟩
    have kO : Kp O H15 (upd H15 O (.lst ([V.ref o1, V.ref o2, V.ref o3, V.ref o4] ++ [V.ref o5]))) := Kp.set
    have s16 : Same H4 (upd H15 O (.lst ([V.ref o1, V.ref o2, V.ref o3, V.ref o4] ++ [V.ref o5]))) := sameUpd (s13.trans s1315) nO4
    have hO16 : upd H15 O (.lst ([V.ref o1, V.ref o2, V.ref o3, V.ref o4] ++ [V.ref o5])) O = some (.lst [V.ref o1, V.ref o2, V.ref o3, V.ref o4, V.ref o5]) := upd_same
    have po1 := (po1.same s1315).kpl hO15 kO
    have po2 := (po2.same s1315).kpl hO15 kO
    have po3 := (po3.same s1315).kpl hO15 kO
    have po4 := (po4.same s1315).kpl hO15 kO
    have po5 := po5.kpl hO15 kO
    generalize upd H15 O (.lst ([V.ref o1, V.ref o2, V.ref o3, V.ref o4] ++ [V.ref o5])) = H16 at hO16 po1 po2 po3 po4 po5 s16 ⊢
    have lp16 := lp4.same s16
    have pf16 := pf4.same s16
    have ho : ∀ y ∈ [V.ref o1, V.ref o2, V.ref o3, V.ref o4, V.ref o5], ∃ (o : Addr) (qs : List (Int × Int)), y = .ref o ∧ PicF H16 C o qs ∧ qs.length ≤ 7 := fun y hy => by
      simp only [List.mem_cons, List.not_mem_nil, or_false] at hy
      rcases hy with rfl | rfl | rfl | rfl | rfl
      · exact ⟨_, _, rfl, po1, by omega⟩
      · exact ⟨_, _, rfl, po2, by omega⟩
      · exact ⟨_, _, rfl, po3, by omega⟩
      · exact ⟨_, _, rfl, po4, by rw [List.length_reverse]; exact l7⟩
      · exact ⟨_, _, rfl, po5, okA.2.1⟩
    generalize [V.ref o1, V.ref o2, V.ref o3, V.ref o4, V.ref o5] = os at hO16 ho
    clear po1 po2 po3 po4 po5 kO hO15 s1315 n15 s15 s14 lp13 s13 hO lpN lpS ll7 s7 lpA
    refine ⟨_, rfl, O, rfl, ⟨_, SqL.of hO16⟩, ?_⟩
    refine for_list (K := K) (a := O) (xs := os) (fun j σ H' => Same H16 H' ∧ ∃ f8 f9, σ = [some (.ref p), some (.ref a), some (.ref pm), some (.int i), some (.int k), some (.ref D), some (.ref D2), some (.ref O), f8, f9, none, none]) ⟨Same.me, _, _, rfl⟩ (fun i _ _ _ p => SqL.of (p.1 _ _ hO16)) (fun j y σ H' hy p => ?_) (fun σ H' p => ?_)
    · obtain ⟨s17, f8, f9, rfl⟩ := p
      obtain ⟨o, qs, rfl, po, lq⟩ := ho y (List.mem_of_getElem? hy)
      have po17 := po.same s17
      obtain ⟨dx, t, u, ho17, ⟨tq, ht17, pq⟩, _⟩ := id po17
      refine ⟨_, rfl, o, C, dx, _, .ref t, rfl, ho17, cl, T.t.n1, rfl, t, rfl, ⟨_, SqT.of ht17⟩, fun E1 nE1 => ?_⟩
      refine lc_tup (K := K) (a := t) (xs := tq.map V.ref) (Cp H' E1 qs) (cp_nil nE1) (fun i H' _ p => SqT.of (p.1 _ _ ht17)) (fun i x H' hx p => ?_) (fun H18 p18 => ?_)
      · obtain ⟨g, q1, rfl, hg, k⟩ := cp_stepP nE1 pq lq p hx
        exact ⟨rfl, _, rfl, g, _, rfl, .inr (SqT.of hg), k⟩
      rw [List.length_map, Paired.length pq] at p18
      obtain ⟨s18, rs1, ll18, _⟩ := p18
      rw [List.take_length] at ll18
      have lp18 := lp16.same (s17.trans s18)
      refine ⟨_, rfl, a, rfl, ⟨_, SqL.of lp18.1⟩, fun E2 nE2 => ?_⟩
      refine lc_list (K := K) (a := a) (xs := ts.map V.ref) (Cp H18 E2 ps) (cp_nil nE2) (fun i H' _ p => SqL.of (p.1 _ _ lp18.1)) (fun i x H' hx p => ?_) (fun H19 p19 => ?_)
      · obtain ⟨g, q1, rfl, hg, k⟩ := cp_step nE2 lp18 l7 p hx
        exact ⟨rfl, _, rfl, g, _, rfl, .inr (SqT.of hg), k⟩
      rw [tsl] at p19
      obtain ⟨s19, rs2, ll19, _⟩ := p19
      rw [List.take_length] at ll19
      refine ⟨_, _, (ll18.same s19).dp, ll19.dp, eL_shaped _, eL_shaped _, ?_⟩
      have e : PyData.eqv (.list (qs.map eL)) (.list (ps.map eL)) = decide (ps = qs) := (eLs_eqv qs ps).trans (decide_eq_decide.mpr eq_comm)
      rw [e]
      have s1619 := s17.trans (s18.trans s19)
      refine ⟨_, rfl, _, rfl, pm, ps, _, rfl, pf16.same s1619, .inr ⟨o, qs, rfl, po.same s1619, rfl⟩, _, rfl, rfl, _, rfl, ?_⟩
      rw [decide_eq_true rfl]
      refine iteF ⟨_, rfl, _, rfl, pm, ps, _, rfl, pf16.same s1619, .inr ⟨o, qs, rfl, po.same s1619, rfl⟩, _, rfl, rfl, _, rfl, ?_⟩
      rw [decide_eq_false (show ¬ V.bl (!decide (ps = qs)) = V.bl (decide (ps = qs)) from fun z => by
        have z := V.bl.inj z
        cases h : decide (ps = qs) <;> rw [h] at z <;> cases z)]
      exact iteF ⟨s1619, _, _, rfl⟩
    · obtain ⟨s17, f8, f9, rfl⟩ := p
      have pf17 := pf16.same s17
      have lp17 := lp16.same s17
      obtain ⟨dx, t, u, hm, _, r0, r1, hu, _⟩ := id pf17
      refine ⟨_, rfl, _, rfl, a, _, rfl, .inl ⟨SqL.of lp17.1, fun w nw => ?_⟩⟩
      have sw := same_new (o := .tup (ts.map V.ref)) nw
      refine ⟨_, rfl, pm, C, dx, _, .ref u, rfl, sw _ _ hm, cl, T.t.n3, rfl, _, rfl, pm, ps, rfl, pf17.same sw, ok, fun z H18 s18 => ?_⟩
      refine ⟨by show 5 ≤ sizeLine; decide, fun tt nt => ?_⟩
      have stt := same_new (o := .tup [V.ref a, V.ref w, V.non, V.ref u, V.str z]) nt
      have s20 := sw.trans (s18.trans stt)
      have hnp : ∀ x ∈ [V.ref a, V.ref w, V.non, V.ref u, V.str z], ∃ t, Np (upd H18 tt (.tup [V.ref a, V.ref w, V.non, V.ref u, V.str z])) x t := fun x hx => by
        simp only [List.mem_cons, List.not_mem_nil, or_false] at hx
        rcases hx with rfl | rfl | rfl | rfl | rfl
        · exact ⟨_, .lst (lp17.same s20).1⟩
        · exact ⟨_, .tup ((s18.trans stt) _ _ upd_same)⟩
        · exact ⟨_, .non⟩
        · exact ⟨_, .tup (s20 _ _ hu)⟩
        · exact ⟨_, .str z⟩
      have htt : upd H18 tt (.tup [V.ref a, V.ref w, V.non, V.ref u, V.str z]) tt = some (.tup [V.ref a, V.ref w, V.non, V.ref u, V.str z]) := upd_same
      generalize upd H18 tt (.tup [V.ref a, V.ref w, V.non, V.ref u, V.str z]) = H20 at hnp htt s20 ⊢
      have pf20 := pf17.same s20
      refine ⟨tt, rfl, ⟨_, SqT.of htt⟩, fun E3 nE3 => ?_⟩
      refine lc_tup (K := K) (a := tt) (xs := [V.ref a, V.ref w, V.non, V.ref u, V.str z]) (fun i => At H20 E3 []) ⟨same_new nE3, upd_same⟩ (fun i H' _ p => SqT.of (p.1 _ _ htt)) (fun j x H' hx p => ?_) (fun H21 p => ?_)
      · obtain ⟨t, np⟩ := hnp x (List.mem_of_getElem? hx)
        refine ⟨rfl, _, rfl, _, rfl, pm, ps, false, rfl, pf20.same p.1, .inl ⟨t, np.same p.1, rfl⟩, _, rfl, iteF ⟨_, rfl, _, rfl, pm, ps, false, rfl, pf20.same p.1, .inl ⟨t, np.same p.1, rfl⟩, _, rfl, iteF ?_⟩⟩
        exact p
      · refine ⟨Nat.zero_le _, fun l nl => ?_⟩
        have sl := same_new (o := .lst []) nl
        refine ⟨.list [], .list [], .lst (SqL.of (sl _ _ p.2)) .nil, .lst (SqL.of upd_same) .nil, by decide, by decide, ?_⟩
        exact q _ (s16.trans (s17.trans (s20.trans (p.1.trans sl))))
end
end K11

namespace K11
open PySem PySem.Spec PyProof.Rows L2
/-! ### an exception that was caught and is kept by a name -/
/-- the exception object at a, of the class cls, its own dict d -/
def Held (cls : Value) (d : Option Addr) (a : Addr) : HO := .ext fun h => ∃ (ob : Obj) (fv : Array Value), h.get? a = some ob ∧ Zc cls d ob ∧ ob.data = .fields fv
section
variable {X : Cx} {pins : List (Addr × Obj)} {σ : L2.St} {H : Hp} {s : Shared} {a : Addr} {ob : Obj} {fv : Array Value} {cls : Value} {d : Option Addr}
/-- a pinned exception that is newer than the frame is tracked from here on -/
theorem track (I : Inv X ((a, ob) :: pins) σ H s) (hz : Zc cls d ob) (hd : ob.data = .fields fv) (n0 : X.s_0.heap.get? a = none) (np : ∀ p ∈ X.pn ++ pins, p.1 ≠ a) : Inv X pins σ (upd H a (Held cls d a)) s := by
  obtain ⟨ha, hn, hL, hF, _⟩ := I.pin (a, ob) (List.mem_append_right _ List.mem_cons_self)
  have ha : s.heap.get? a = some ob := ha
  have hn : H a = none := hn
  have hL : a ≠ X.env.locals := hL
  have new : ObjOk X.prog X.w (upd H a (Held cls d a)) s.heap a (Held cls d a) := ⟨⟨ob, fv, ha, hz, hd⟩, ⟨ob, ha⟩, fun _ _ ⟨o, v, e, r⟩ k => ⟨o, v, k o e, r⟩⟩
  have old : ∀ b o, X.s_0.heap.get? b = some o → b ≠ a := fun b o e z => by
    rw [z, n0] at e
    cases e
  have tr : ∀ b o, H b = some o → upd H a (Held cls d a) b = some o := fun b o e => by
    rw [upd_ne (ne_of_none e hn)]
    exact e
  have B := I.base
  refine ⟨I.ok, I.os, I.bare, ⟨B.keep, B.slot, fun b o e n x => ?_, B.there, fun b xs e => tr _ _ (B.tups b xs e), fun b o u e => tr _ _ (B.frzs b o u e), fun b ps e => ?_⟩, I.loc, I.cell, ?_, fun x c e => ?_, fun p hp => ?_, HOk.laidN I.hok (fun _ _ q => q) hn new, I.len⟩
  · rw [upd_ne (old b o e)]
    exact B.free b o e n x
  · obtain ⟨m, q⟩ := B.tbls b ps e
    exact ⟨m, tr _ _ q⟩
  · rw [upd_ne hL.symm]
    exact I.free
  · have nc : c ≠ a := fun z => by
      obtain ⟨v, o, q, q2⟩ := I.cell x c e
      rw [z, ha] at q
      cases q
      rw [hd] at q2
      cases q2
    rw [upd_ne nc]
    exact I.freeC x c e
  · have hp2 : p ∈ X.pn ++ ((a, ob) :: pins) := by
      rcases List.mem_append.mp hp with z | z
      · exact List.mem_append_left _ z
      · exact List.mem_append_right _ (List.mem_cons_of_mem _ z)
    obtain ⟨e1, e2, e3⟩ := I.pin p hp2
    exact ⟨e1, by rw [upd_ne (np p hp)]; exact e2, e3⟩
/-- isinstance(e, C) of a kept exception of just this class, and its field -/
theorem held_at (I : Inv X pins σ H s) (e : H a = some (Held cls d a)) : ∃ ob fv, s.heap.get? a = some ob ∧ Zc cls d ob ∧ ob.data = .fields fv := by
  have z : ObjOk X.prog X.w H s.heap a (.ext fun h => ∃ (ob : Obj) (fv : Array Value), h.get? a = some ob ∧ Zc cls d ob ∧ ob.data = .fields fv) := I.hok a _ e
  exact z.1
end
/-! ### try: .. except C as n: y = n -/
/-- what the clause wishes of what its body raises: it is C's, and behind it y (slot j) keeps it -/
def wKeep (K : PySem.W.Frag) (c : Value) (i j m : Nat) (D : Ends) : WX := fun cls d σ H =>
  PySem.W.exmOne K cls c = some true ∧ ∀ a, H a = none → σ.length = m → D.nx (((σ.set i (some (.ref a))).set j (some (.ref a))).set i none) (upd H a (Held cls d a))
section
variable {X : Cx} {x n y : Str} {c : Value} {i j : Nat} {body : List Stmt} {np px py ap hp tp : Pos} {tb : WX → TS}
theorem ps_try_keep (stk : X.stack = X.env :: X.outer) (fra : X.env.frame = some X.env.locals) (noex : X.ex = []) (nod : X.N.Nodup) (atI : X.N[i]? = some n) (atJ : X.N[j]? = some y) (kn : X.env.kindOf n = some .local) (ly : Loc X.env.scope y) (fy : X.fn y = true ∨ X.env.scope.names.lookup y = some .local) (nm : Names X x c)
    (hi : i < X.N.length) (d1 : (n == ("__debug__" : Str)) = false) (d2 : (n == ("__classdict__" : Str)) = false)
    (run : ∀ (W : WX) (pn : List (Addr × Obj)) (xe : Value → Shared → Prop), Takes (X.tr pn xe) W → PassesOwn (model X.prog X.w) X.A X.env xe → PSs (X.tr pn xe) body (tb W)) :
    PS X (.Try body [.ExceptHandler (some (.Name x np)) (some n) [.Assign [.Name y py] (.Name n px) ap] hp] [] [] tp) (fun D σ H => tb (wKeep X.K c i j X.N.length D) D σ H) := by
  refine ⟨fun pins s σ H D I wish => ?_⟩
  have good := I.ok
  have lone : Loc X.env.scope n := .inl kn
  have frames : X.A.frames = some (X.env :: X.outer) := by rw [good.frames, stk]
  refine wpAny_Try_except (wpAny_mono ((run (wKeep X.K c i j X.N.length D) (X.pn ++ pins) (fun e z => wpAny (model X.prog X.w) X.A (noteFrame e X.env) (fun _ z2 => wpAny (model X.prog X.w) X.A (setFlight e none)
      (fun _ z3 => wpAny (model X.prog X.w) X.A (handleBy e X.env [.ExceptHandler (some (.Name x np)) (some n) [.Assign [.Name y py] (.Name n px) ap] hp]) (SP X pins D) X.xe z3) X.xe z2) X.xe z) (fun u sT air => ?_) PassesOwn.looking).run [] s σ H D (I.toTry _) wish) (fun fl sE hE => ?_) (fun _ _ z => z))
  · obtain ⟨a, B, sG, pG, σG, HG, cls, d, rfl, JG, ground, slots, sky, free, hos, bare, ematch, keep⟩ := air
    have J : Inv X pins σG HG sG := JG.ofTry good
    rw [show (X.tr (X.pn ++ pins) _).stack = X.env :: X.outer from stk] at sky
    show wpAny (model X.prog X.w) X.A (noteFrame (.ref a) X.env) _ _ _
    refine Sky.land Zc.steady frames fra sky fun hA flA upA => ?_
    have JA : Inv X pins σG HG { sT with heap := hA } := J.landed ground flA.1 (slots.trans upA) hos bare
    obtain ⟨oA, vA, gA, zA, dA⟩ := flA.there
    have away : a ∉ frs (X.env :: X.outer) := fun hm => by
      obtain ⟨_, oz, ez, nf⟩ := flA.2.2.1.mem hm
      rw [gA] at ez
      cases ez
      exact nf _ dA
    have noL : a ≠ X.env.locals := fun z => away (List.mem_filterMap.mpr ⟨X.env, List.mem_cons_self, by rw [fra, z]⟩)
    have noF : a ∉ X.fs := fun hm => by
      obtain ⟨e, he, q⟩ := List.mem_filterMap.mp hm
      exact away (List.mem_filterMap.mpr ⟨e, List.mem_cons_of_mem _ he, q⟩)
    have SA := JA.suite gA dA free noL noF
    have Bnone : B.get? a = none := flA.2.1
    have offB : ∀ b o, sG.heap.get? b = some o → b ∉ frs X.stack → b ≠ a := fun b o e nf z => by
      have q := ground b o e nf
      rw [z, Bnone] at q
      cases q
    have off0 : X.s_0.heap.get? a = none := by
      cases e : X.s_0.heap.get? a with
      | none => rfl
      | some o =>
        obtain ⟨o2, q⟩ := J.base.there a o e (by rw [noex]; exact fun z => nomatch z)
        exact absurd rfl (offB a o2 q (by rw [stk]; exact away))
    have offP : ∀ p ∈ X.pn ++ pins, p.1 ≠ a := fun p hp => by
      obtain ⟨q, _, nl, nf, _⟩ := J.pin p hp
      refine offB p.1 _ q fun hm => ?_
      rw [stk] at hm
      obtain ⟨e, he, qe⟩ := List.mem_filterMap.mp hm
      rcases List.mem_cons.mp he with z | z
      · rw [z, fra] at qe
        exact nl (Option.some.inj qe).symm
      · exact nf (List.mem_filterMap.mpr ⟨e, z, qe⟩)
    -- the clause takes it
    refine wpAny_handleBy_cons (codeAny_handlers_test ?_) (by intro q; cases q)
    have look : PySem.W.Looks (model X.prog X.w) hA (typeOf (.ref a)) cls := fun _ _ _ _ k q => wpAny_typeOf_ref (k _ _ gA) (by rw [zA.1]; exact q)
    have answer := PySem.W.exm_one (M := model X.prog X.w) JA.kIn look ematch
    have named : ∀ {Q E : Value → Shared → Prop}, Q c { sT with heap := hA } → wpAny (model X.prog X.w) (X.A.mark (some (.ref a))) (eval (.Name x np) X.env) Q E { sT with heap := hA } := fun {Q E} q => by
      obtain ⟨g1, g2, g3 | ⟨g3, g4, g5⟩⟩ := nm
      · exact ld_glob (X := X.suite a ((a, oA) :: (X.pn ++ pins))) SA g1 g3 q g2
      · exact ld_blt (X := X.suite a ((a, oA) :: (X.pn ++ pins))) SA g1 g3 g4 q g5 g2
    refine named (answer.here ?_)
    refine codeAny_handlers_suite_as (HandSPX.lands_againZ flA fun hB flB upB => ?_)
    have JB : Inv X pins σG HG { sT with heap := hB } := J.landed ground flB.1 ((slots.trans upA).trans upB) hos bare
    obtain ⟨oB, vB, gB, zB, dB⟩ := flB.there
    have SB' := JB.suite gB dB free noL noF
    refine store_ok (X := X.suite a ((a, oB) :: (X.pn ++ pins))) (v := .ref a) SB' nod atI lone rfl (fun s5 S5 => ?_) (.inr kn)
    have vis : Vis X.env.scope n := .inl kn
    have suite : PSs (X.suite a ((a, oB) :: (X.pn ++ pins))) [.Assign [.Name y py] (.Name n px) ap] (tAsg (tVar i) (gName j)) := pss_one (ps_set nod atJ ly (pe_var atI vis d1 d2) rfl fy)
    have inI : (σG.set i (some (V.ref a)))[i]? = some (some (V.ref a)) := List.getElem?_set_self (by rw [J.len]; exact hi)
    refine wpAny_mono (suite.run [] s5 _ HG { nx := fun σ' H' => σ' = (σG.set i (some (V.ref a))).set j (some (V.ref a)) ∧ H' = HG, rt := fun _ _ => False } S5 ⟨_, inI, rfl, rfl⟩) (fun fl s6 h6 => ?_) (fun _ _ z => False.elim z)
    cases fl with
    | next =>
      obtain ⟨σ6, H6, S6, e1, e2⟩ := h6
      rw [e1, e2] at S6
      have K6 : Inv X ((a, oB) :: pins) ((σG.set i (some (V.ref a))).set j (some (V.ref a))) HG s6 := ⟨good, S6.os, S6.bare, S6.base, S6.loc, S6.cell, S6.free, S6.freeC, fun p hp => S6.pin p (by
        rw [List.append_nil]
        rcases List.mem_append.mp hp with z | z
        · exact List.mem_cons_of_mem _ (List.mem_append_left _ z)
        · rcases List.mem_cons.mp z with z | z
          · rw [z]
            exact List.mem_cons_self
          · exact List.mem_cons_of_mem _ (List.mem_append_right _ z)), S6.hok, S6.len⟩
      exact gone_ok K6 nod atI kn fun s7 K7 => ⟨_, _, track K7 zB dB off0 offP, keep a free J.len⟩
    | brk =>
      obtain ⟨_, _, _, z⟩ := h6
      exact z.elim
    | cont =>
      obtain ⟨_, _, _, z⟩ := h6
      exact z.elim
    | ret u =>
      obtain ⟨_, _, _, _, _, z⟩ := h6
      exact z.elim
  · cases fl with
    | next =>
      obtain ⟨_, _, J, q⟩ := hE
      exact wpAny_execs_nil ⟨_, _, J.ofTry good, q⟩
    | brk =>
      obtain ⟨_, _, J, q⟩ := hE
      exact ⟨_, _, J.ofTry good, q⟩
    | cont =>
      obtain ⟨_, _, J, q⟩ := hE
      exact ⟨_, _, J.ofTry good, q⟩
    | ret u =>
      obtain ⟨_, _, _, J, r, q⟩ := hE
      exact ⟨_, _, _, J.ofTry good, r, q⟩
end
theorem any_cls {K : PySem.W.Frag} {C : Addr} (h : PySem.W.hasDictIn K C = true) : (PySem.W.clsIn K C).isSome = true := by
  unfold PySem.W.hasDictIn at h
  cases e : PySem.W.clsIn K C with
  | some c => rfl
  | none =>
    rw [e] at h
    cases h
section
variable {X : Cx} {C : Addr}
/-- a kept exception of the class at C, with its fields -/
def Kept (C : Addr) (fs : List (Str × V)) (a : Addr) (H : Hp) : Prop := ∃ dd : Addr, H a = some (Held (.ref C) (some dd) a) ∧ H dd = some (.xd fs)
theorem kept_inst {pins : List (Addr × Obj)} {σ : L2.St} {H : Hp} {s : Shared} {a : Addr} {fs : List (Str × V)} (I : Inv X pins σ H s) (k : Kept C fs a H) :
    ∃ (ob : Obj) (mA : Str → Option Value) (od : Obj), PySem.W.InstAt s.heap a ob C (some od) ∧ (∀ f, RelO (fs.lookup f) (mA f)) ∧ ∀ n, PySem.W.lookIn n od = some (mA n) := by
  obtain ⟨dd, h1, h2⟩ := k
  obtain ⟨ob, fv, g, z, dt⟩ := held_at I h1
  have q : ObjOk X.prog X.w H s.heap dd (.xd fs) := I.hok dd _ h2
  obtain ⟨mA, ns, rel⟩ := q
  obtain ⟨od, go, lo⟩ := lookIn_ns ns
  exact ⟨ob, mA, od, ⟨g, z.1, by unfold PySem.W.notCls; rw [dt] <;> rfl, by rw [z.2]; exact go⟩, rel, lo⟩
def rIsH (C : Addr) : List V → Hp → VK → Prop := fun xs H Q => ∃ (a : Addr) (fs : List (Str × V)), xs = [.ref a, .ref C] ∧ Kept C fs a H ∧ Q (.bl true) H
theorem call_isH (E : ExcC X.K C) : CallR X (.builtin "isinstance") (rIsH C) := by
  intro pins s σ H xs us Q I r h
  obtain ⟨a, fs, rfl, k, q⟩ := h
  obtain ⟨u1, u2, rfl, r1, r2⟩ := vals2 r
  obtain rfl : u1 = Value.ref a := r1
  obtain rfl : u2 = Value.ref C := r2
  obtain ⟨ob, mA, od, J, _⟩ := kept_inst I k
  have one : PySem.W.kitOne X.K (.ref C) (.ref C) = some true := by
    unfold PySem.W.kitOne
    rw [if_pos (beq_self_eq_true _)]
  exact PySem.W.kia_one (PySem.W.kitx_exc (any_cls E.hd) E.hg E.hk E.hs E.ha E.hn E.ht E.hm) I.kIn J one (fun z => nomatch z) fun tk => ⟨.bl true, H, I.tok tk, rfl, q⟩
def tHf (C : Addr) (f : Str) (te : TE) : TE := fun σ H Q => te σ H fun x H1 => ∃ (a : Addr) (fs : List (Str × V)) (v : V), x = .ref a ∧ Kept C fs a H1 ∧ fs.lookup f = some v ∧ Q v H1
theorem pe_hf {e : Expr} {te : TE} {pos : Pos} {n : Str} (T : XfC X.K C) (no : PySem.W.findIn X.K (.ref C) n = some none) (he : PE X e te) (hb : attributeBase e n X.env (eval e X.env) = eval e X.env := by rfl) : PE X (.Attribute e n pos) (tHf C n te) := by
  refine ⟨fun pins s σ H Q I h => attr_of hb (thn (he.run pins s σ H _ I h) fun u s1 hh => ?_)⟩
  obtain ⟨x, H1, I1, rx, a, fs, v, rfl, k, l, q⟩ := hh
  obtain rfl : u = Value.ref a := rx
  obtain ⟨ob, mA, od, J, rel, lo⟩ := kept_inst I1 k
  obtain ⟨w, hw, rw'⟩ := RelO.some_of (v := v) (o := mA n) (by rw [← l]; exact rel n)
  exact HandSPX.exc_get I1.kIn J T.ga T.gg T.exC (PySem.W.findObj_own T.hdC no rfl (by rw [lo, hw])) (handed_of rw') ⟨v, H1, I1.tok _, rw', q⟩
end

/-! ### _law_is_let -/
/-- what the top has written of SeenError (at CS) beside BadPicture (at CB) -/
structure SeTxt (K : PySem.W.Frag) (mg : Str → Option Value) (CS CB : Addr) : Prop where
  mgS : mg "SeenError" = some (.ref CS)
  sub : PySem.W.exmOne K (.ref CB) (.ref CS) = some true
  ex : ExcC K CB
  xf : XfC K CB
theorem set_one {σ : L2.St} {x : Option V} {y : V} (h : σ.length = 3) : (((σ.set 2 x).set 1 (some y)).set 2 none)[1]? = some (some y) := by
  match σ, h with
  | [a, b, c], _ => rfl
section
variable {P : Program} {w : World} {K : PySem.W.Frag} {mg : Str → Option Value} {base : Heap} {C CB CS fB : Addr}
/-- a value of which a picture can be made, or that is refused -/
def LetV (K : PySem.W.Frag) (H : Hp) (v : V) (b : Bool) : Prop := if b = true then ∃ ps, Pls H v ps ∧ OkP ps else ∃ o, RowsV K H v o ∧ plB o = false
def spLet (K : PySem.W.Frag) : Sp := fun vs H Q _ => ∃ v b, vs = [v] ∧ LetV K H v b ∧ RB b H Q
abbrev sLet : Stmt := top 47
abbrev nLet : List Str := ["_law_value", "_law_caught", "error"]
theorem scLet : FnScope nLet ["_law_value"] (defScope sLet) := ⟨rfl, rfl, rfl, by decide +kernel, rfl, by decide +kernel, by decide +kernel⟩
theorem ok_let {f : Addr} {fd : FuncData} (F : Fun K "_law_is_let" "_law_is_let" sLet f fd) (B : Bn mg) (T : Pc P w K mg base C CB) (S : SeTxt K mg CS CB) (TB : BrTxt K mg CB fB) : FnOk P w K mg base CX0 8 f fd ["_law_value"] (spLet K) := by
  have nd := scLet.nd
  refine F.ok scLet (fun vs H Q E h => ?_) (fun cdv A outer s H vs Q E hr h => ?_)
  · obtain ⟨v, b, rfl, _⟩ := h
    rfl
  · obtain ⟨v, b, rfl, h, q⟩ := h
    refine ⟨_, (pss_cons ((ps_set (i := 1) nd rfl (Or.inl rfl) (pe_non))) (pss_cons (ps_try_keep (i := 2) (j := 1) (c := .ref CS) (tb := fun W => tDrop (tMkPS K C CB (fun σ => WE W σ) (tCons (tVar 0) tNil))) rfl rfl rfl nd rfl rfl rfl (Or.inl rfl) (Or.inr rfl) ⟨rfl, by decide, Or.inl S.mgS⟩ (by show 2 < 3; decide) (by decide) (by decide)
        (fun W pn xe tk _ => pss_one (ps_expr (pe_mkPS (E := fun σ => WE W σ) T (hr.mono (by decide)) (fun σ => passAt tk σ) rfl (pa_cons (pv 0) pa_nil))))) (pss_cons (ps_if (pt_cmpR op_isN (pv 1) pe_non (nomark _)) (pss_one (ps_ret pe_bl)) pss_nil) (pss_one (ps_ret (pe_ifExp (PW.pt (pw_and (pt_val (pe_callB (r := rIsH CB) (call_isH S.ex) (by rfl) B.isinstance boot_isinstance (pa_cons (pv 1) (pa_cons (pe_glob (v := .ref CB) rfl TB.mgC rfl) pa_nil)))) (pw_and1 ((pt_cmpR op_eq (pe_hf S.xf TB.noP (pv 1)) (pe_str) (nomark _)))))) pe_bl pe_non)))))), ?_⟩
    cases b with
    | true =>
      obtain ⟨ps, pls, ok⟩ := (show ∃ ps, Pls H v ps ∧ OkP ps from h)
      refine ⟨_, rfl, v, rfl, .inl ⟨ps, pls, ok, fun a H' s' n pf => ?_⟩⟩
      exact ⟨_, rfl, rfl, _, rfl, iteT (q _ s')⟩
    | false =>
      obtain ⟨o, ro, po⟩ := (show ∃ o, RowsV K H v o ∧ plB o = false from h)
      refine ⟨_, rfl, v, rfl, .inr ⟨o, ro, po, fun d H' s' n hd => ?_⟩⟩
      refine ⟨S.sub, fun a ha hl => ?_⟩
      have hl : _ = 3 := hl
      have nda : d ≠ a := ne_of_none hd ha
      have k : Kept CB [(("part" : Str), V.str "places")] a (upd H' a (Held (.ref CB) (some d) a)) := ⟨d, upd_same, by rw [upd_ne nda]; exact hd⟩
      refine ⟨_, rfl, rfl, _, rfl, iteF ?_⟩
      refine ⟨_, rfl, a, _, rfl, k, _, rfl, iteT ?_⟩
      refine ⟨_, rfl, a, _, _, rfl, k, rfl, rfl, _, rfl, iteT ?_⟩
      exact q _ (s'.trans (same_new ha))
end
end K11

namespace K11
open PySem PySem.Spec PyProof.Rows L2
/-! ### rows that are none -/
theorem let_no {K : PySem.W.Frag} {H : Hp} {v : V} {o : Option (List Bool)} (r : RowsV K H v o) (h : plB o = false) : LetV K H v false := by
  unfold LetV
  rw [if_neg Bool.false_ne_true]
  exact ⟨o, r, h⟩
theorem let_yes {K : PySem.W.Frag} {H : Hp} {v : V} {ps : List (Int × Int)} (r : Pls H v ps) (h : OkP ps) : LetV K H v true := by
  unfold LetV
  rw [if_pos rfl]
  exact ⟨ps, r, h⟩
theorem pl_no {bs : List Bool} (h : bs.all id = false) : plB (some bs) = false := by
  show (bs.all id && _ && _) = false
  rw [h]
  rfl
theorem pl_few {bs : List Bool} (h : bs.length < 4) : plB (some bs) = false := by
  show (bs.all id && decide (4 ≤ bs.length) && decide (bs.length ≤ 7)) = false
  rw [decide_eq_false (by omega : ¬ 4 ≤ bs.length), Bool.and_false]
  rfl
theorem pl_many {bs : List Bool} (h : 7 < bs.length) : plB (some bs) = false := by
  show (bs.all id && decide (4 ≤ bs.length) && decide (bs.length ≤ 7)) = false
  rw [decide_eq_false (by omega : ¬ bs.length ≤ 7), Bool.and_false]
theorem rowB_in {p : Int × Int} (h : -G9 ≤ p.1 ∧ p.1 ≤ G9 ∧ -G9 ≤ p.2 ∧ p.2 ≤ G9) : rowB [V.int p.1, V.int p.2] = true := by
  show (decide _ && (inB _ && (inB _ && true))) = true
  rw [inB_of h.1 h.2.1, inB_of h.2.2.1 h.2.2.2]
  rfl
theorem rowB_set {k : Nat} (hk : k < 2) {q : Int × Int} {x : V} (h : inB x = false) : rowB (List.set [V.int q.1, V.int q.2] k x) = false := by
  match k, hk with
  | 0, _ =>
    show (decide _ && (inB x && (inB _ && true))) = false
    rw [h, Bool.false_and, Bool.and_false]
  | 1, _ =>
    show (decide _ && (inB _ && (inB x && true))) = false
    rw [h, Bool.false_and, Bool.and_false, Bool.and_false]
/-- at r: a list or tuple judged as a row -/
def RowQ (K : PySem.W.Frag) (H : Hp) (r : Addr) (b : Bool) : Prop := ∃ xs, Sq H r xs ∧ (∀ x ∈ xs, ∃ t, Kd K H x t) ∧ xs.length ≤ 100 ∧ rowB xs = b
def RowL (K : PySem.W.Frag) (H : Hp) (r : Addr) (b : Bool) : Prop := ∃ xs, H r = some (.lst xs) ∧ (∀ x ∈ xs, ∃ t, Kd K H x t) ∧ xs.length ≤ 100 ∧ rowB xs = b
theorem RowL.q {K : PySem.W.Frag} {H : Hp} {r : Addr} {b : Bool} (h : RowL K H r b) : RowQ K H r b := let ⟨xs, e, k, l, z⟩ := h; ⟨xs, .inl e, k, l, z⟩
theorem RowL.same {K : PySem.W.Frag} {H H' : Hp} {r : Addr} {b : Bool} (h : RowL K H r b) (s : Same H H') : RowL K H' r b := let ⟨xs, e, k, l, z⟩ := h; ⟨xs, s _ _ e, fun x hx => let ⟨t, d⟩ := k x hx; ⟨t, d.same s⟩, l, z⟩
theorem RowQ.same {K : PySem.W.Frag} {H H' : Hp} {r : Addr} {b : Bool} (h : RowQ K H r b) (s : Same H H') : RowQ K H' r b := let ⟨xs, e, k, l, z⟩ := h; ⟨xs, e.same s, fun x hx => let ⟨t, d⟩ := k x hx; ⟨t, d.same s⟩, l, z⟩
theorem RowQ.v {K : PySem.W.Frag} {H : Hp} {r : Addr} {b : Bool} (h : RowQ K H r b) : RowV K H (.ref r) b := by
  obtain ⟨xs, e, k, l, z⟩ := h
  rw [← z]
  exact .seq e k l
theorem rowq_map {K : PySem.W.Frag} {H : Hp} {rs : List Addr} {bs : List Bool} (h : Paired (RowQ K H) rs bs) : Paired (RowV K H) (rs.map V.ref) bs := by
  induction h with
  | nil => exact .nil
  | cons a _ ih => exact .cons a.v ih
theorem rows_bent {K : PySem.W.Frag} {H : Hp} {r : Addr} {xs' : List V} (hk : ∀ x ∈ xs', ∃ t, Kd K (upd H r (.lst xs')) x t) (hl : xs'.length ≤ 100) (hb : rowB xs' = false) {rs : List Addr} {ps : List (Int × Int)} (h : Paired (PrL H) rs ps) (b : InB G9 ps) :
    ∃ bs, Paired (RowL K (upd H r (.lst xs'))) rs bs ∧ bs.length = ps.length ∧ (r ∈ rs → bs.all id = false) := by
  induction h with
  | nil => exact ⟨[], .nil, rfl, fun h => by cases h⟩
  | @cons t p rs ps a _ ih =>
    obtain ⟨bs, k, l, z⟩ := ih fun x hx => b x (List.mem_cons_of_mem _ hx)
    by_cases e : t = r
    · subst e
      exact ⟨false :: bs, .cons ⟨xs', upd_same, hk, hl, hb⟩ k, by simp [l], fun _ => rfl⟩
    · refine ⟨true :: bs, .cons ⟨[.int p.1, .int p.2], by rw [upd_ne e]; exact a, fun x hx => ?_, by show 2 ≤ 100; decide, rowB_in (b p List.mem_cons_self)⟩ k, by simp [l], fun hm => ?_⟩
      · rcases List.mem_cons.mp hx with z | z
        · rw [z]; exact ⟨_, .int _⟩
        · rw [List.mem_singleton.mp z]; exact ⟨_, .int _⟩
      · rcases List.mem_cons.mp hm with z' | z'
        · exact absurd z'.symm e
        · show (true && bs.all id) = false
          rw [z z']
          rfl
theorem LL.sb {H H' : Hp} {a p : Addr} {n : Nat} {rs : List Addr} {ps : List (Int × Int)} (h : LL H a rs ps) (v : Lens H p n) (na : a ≠ p) (s : SB p H H') : LL H' a rs ps :=
  ⟨s.1 _ _ na h.1, paired_mono h.2 fun t q z => s.1 _ _ (fun e => by
    subst e
    obtain ⟨c, x, y, e⟩ := v.at
    have z : H t = some (.lst [.int q.1, .int q.2]) := z
    rw [e] at z
    cases (List.cons.inj (HO.lst.inj (Option.some.inj z))).1) z⟩
theorem paired_app {α β : Type} {R : α → β → Prop} {xs xs2 : List α} {ys ys2 : List β} (h : Paired R xs ys) (h2 : Paired R xs2 ys2) : Paired R (xs ++ xs2) (ys ++ ys2) := by
  induction h with
  | nil => exact h2
  | cons a _ ih => exact .cons a ih
theorem paired_drop {α β : Type} {R : α → β → Prop} {xs : List α} {ys : List β} (h : Paired R xs ys) : ∀ n, Paired R (xs.drop n) (ys.drop n) := by
  induction h with
  | nil => intro n; cases n <;> exact .nil
  | cons a t ih =>
    intro n
    cases n with
    | zero => exact .cons a t
    | succ n => exact ih n
theorem cut_from {xs : List V} {i : Nat} (h : i ≤ xs.length) : cutV xs (some (i : Int)) none = xs.drop i := by
  unfold cutV
  have e : HT.sIx xs.length 0 (some (i : Int)) = min i xs.length := HT.sIx_nat _ _ i
  have e0 : HT.sIx xs.length xs.length none = xs.length := rfl
  rw [e, e0, Nat.min_eq_left h, List.take_of_length_le (by rw [List.length_drop]; exact Nat.le_refl _)]
theorem all_mid {as bs : List Bool} : (as ++ [false] ++ bs).all id = false := by
  rw [List.all_append, List.all_append]
  show (as.all id && false && _) = false
  rw [Bool.and_false, Bool.false_and]
/-- at u: a tuple judged as a row, its items judged before -/
def RowS (K : PySem.W.Frag) (H0 H : Hp) (u : Addr) (b : Bool) : Prop := ∃ xs, H u = some (.tup xs) ∧ (∀ x ∈ xs, ∃ t, Kd K H0 x t) ∧ xs.length ≤ 100 ∧ rowB xs = b
theorem RowS.at {K : PySem.W.Frag} {H0 H H' : Hp} {u : Addr} {b : Bool} (h : RowS K H0 H u b) (k : ∀ xs, H u = some (.tup xs) → H' u = some (.tup xs)) : RowS K H0 H' u b := let ⟨xs, e, r⟩ := h; ⟨xs, k _ e, r⟩
theorem RowS.q {K : PySem.W.Frag} {H0 H : Hp} {u : Addr} {b : Bool} (h : RowS K H0 H u b) (s : Same H0 H) : RowQ K H u b := let ⟨xs, e, k, l, z⟩ := h; ⟨xs, .inr e, fun x hx => let ⟨t, d⟩ := k x hx; ⟨t, d.same s⟩, l, z⟩
theorem paired_rep {α β : Type} {R : α → β → Prop} {v : α} {b : β} (r : R v b) : ∀ n, Paired R (List.replicate n [v]).flatten (List.replicate n b)
  | 0 => .nil
  | n + 1 => by
    rw [List.replicate_succ, List.replicate_succ, List.flatten_cons]
    exact .cons r (paired_rep r n)
theorem pls_rep {H : Hp} {c : Addr} {v : V} {n : Nat} {q : Int × Int} (h : H c = some (.lst (List.replicate n [v]).flatten)) (r : PlA H v q) : Pls H (.ref c) (List.replicate n q) := ⟨c, _, rfl, .inl h, paired_rep r n⟩
theorem ok_rep {n : Nat} {q : Int × Int} (h4 : 4 ≤ n) (h7 : n ≤ 7) (h : -G9 ≤ q.1 ∧ q.1 ≤ G9 ∧ -G9 ≤ q.2 ∧ q.2 ≤ G9) : OkP (List.replicate n q) := ⟨by rw [List.length_replicate]; exact h4, by rw [List.length_replicate]; exact h7, fun p hp => by rw [List.eq_of_mem_replicate hp]; exact h⟩
theorem two_int {K : PySem.W.Frag} {H : Hp} {a b : Int} : ∀ x ∈ [V.int a, V.int b], ∃ t, Kd K H x t := fun x hx => by
  rcases List.mem_cons.mp hx with z | z
  · rw [z]; exact ⟨_, .int _⟩
  · rw [List.mem_singleton.mp z]; exact ⟨_, .int _⟩
section
variable {P : Program} {w : World} {K : PySem.W.Frag} {mg : Str → Option Value} {base : Heap} {C CB CS fB : Addr}
/-! ### _law_refused_right -/
def spRR : Sp := fun vs H Q _ => ∃ (p a : Addr) (n : Nat) (ts : List Addr) (ps : List (Int × Int)), vs = [.ref p, .ref a] ∧ Lens H p n ∧ n + 10 < 60000 ∧ a ≠ p ∧ LP H a ts ps ∧ OkP ps ∧ ∀ H', SB p H H' → Lens H' p (n + 5) → Q (.bl true) H'
abbrev sRR : Stmt := top 48
abbrev nRR : List Str := ["_law_lens_here", "_law_places_here", "_law_at", "_law_side", "_law_bent", "_law_odd", "_law_some", "_law_ends", "_law_place", "_law_one"]
theorem scRR : FnScope nRR ["_law_lens_here", "_law_places_here"] (defScope sRR) := ⟨rfl, rfl, rfl, by decide +kernel, rfl, by decide +kernel, by decide +kernel⟩
theorem ok_rr {f : Addr} {fd : FuncData} (F : Fun K "_law_refused_right" "_law_refused_right" sRR f fd) (B : Bn mg) (T : Pc P w K mg base C CB) (C1 : Callee P w K mg base CX0 1 "_law_shot" ["_law_lens_here", "_law_many"] spShot) (C2 : Callee P w K mg base CX0 2 "_law_pick" ["_law_lens_here", "_law_some"] spPick) (C3 : Callee P w K mg base CX0 8 "_law_is_let" ["_law_value"] (spLet K)) :
    FnOk P w K mg base CX0 9 f fd ["_law_lens_here", "_law_places_here"] spRR := by
  obtain ⟨f1, fd1, m1, k1, b1, G1⟩ := C1
  obtain ⟨f2, fd2, m2, k2, b2, G2⟩ := C2
  obtain ⟨f3, fd3, m3, k3, b3, G3⟩ := C3
  have cl := T.t.pc.cls
  have nd := scRR.nd
  have eG : G9 = 1000000000 := rfl
  refine F.ok scRR (fun vs H Q E h => ?_) (fun cdv A outer s H vs Q E hr h => ?_)
  · obtain ⟨p, a, n, ts, ps, rfl, _⟩ := h
    rfl
  · obtain ⟨p, a, n, ts, ps, rfl, hv, hn, na, lp, ok, q⟩ := h
    refine ⟨_, (pss_cons (ps_par (i := 2) (j := 3) rfl nd rfl rfl (by decide) rfl rfl (pa_cons ((pe_call G1 (hr.mono (by decide)) rfl m1 k1 b1 .nil pass0 (pa_cons (pv 0) (pa_cons ((pe_callB call_len_seq (by rfl) B.len PySem.boot_len (pa_cons (pv 1) pa_nil))) pa_nil)))) (pa_cons ((pe_call G1 (hr.mono (by decide)) rfl m1 k1 b1 .nil pass0 (pa_cons (pv 0) (pa_cons (pe_int) pa_nil)))) pa_nil)) (by rfl)) (pss_cons (ps_setLc (i := 4) (own := [("_law_place", 8)]) (g := gName 8) (tt := tYes) rfl nd rfl rfl (sw_true rfl rfl rfl (by decide +kernel)) (pi_list (pv 1)) (blkOk_by (N := nRR) (sc := defScope sRR) (by decide +kernel)) (fun _ _ _ _ _ => (pg_name (i := 8) nd rfl (Or.inl rfl))) (fun _ _ _ _ _ => pts_nil) (fun _ _ _ _ _ => (pe_callTy (T := "list") (r := rLi K) call_liK (by rfl) B.list (by decide +kernel) (pa_cons (pv 8) pa_nil)))) (pss_cons (ps_asg (pe_call G2 (hr.mono (by decide)) rfl m2 k2 b2 .nil pass0 (pa_cons (pv 0) (pa_cons (pe_lst (pa_cons (pe_non) (pa_cons (pe_bl) (pa_cons (pe_bl) (pa_cons (pe_str) (pa_cons (pe_tup (pa_cons (pe_int) pa_nil)) (pa_cons (pe_lst pa_nil) (pa_cons (pe_op op_add (pe_op op_pow pe_int pe_int) pe_int) (pa_cons (pe_op op_sub (pe_un un_neg (pe_op op_pow pe_int pe_int)) pe_int) (pa_cons (pe_op op_pow pe_int pe_int) (pa_cons (pe_dnewK) pa_nil))))))))))) pa_nil))) (pg_sub (pe_ix ix_list (pv 4) (pv 2) (fun _ _ => rfl)) (pv 3) set_list)) (pss_cons (ps_if (PW.pt (pw_or (pt_cmpR op_notBl (pe_call G3 (hr.mono (by decide)) rfl m3 k3 b3 .nil pass0 (pa_cons (pv 4) pa_nil)) pe_bl (nomark _)) (pw_or1 (pt_cmpR op_notBl (pe_call G3 (hr.mono (by decide)) rfl m3 k3 b3 .nil pass0 (pa_cons ((pe_callTy (T := "tuple") (r := rTu K) call_tuK (by rfl) B.tuple (by decide +kernel) (pa_cons (pe_lc (own := [("_law_place", 8)]) (g := gName 8) (tt := tYes) rfl nd (pi_list (pv 4)) (blkOk_by (N := nRR) (sc := defScope sRR) (by decide +kernel)) (fun _ _ _ _ _ => (pg_name (i := 8) nd rfl (Or.inl rfl))) (fun _ _ _ _ _ => pts_nil) (fun _ _ _ _ _ => (pe_callTy (T := "tuple") (r := rTu K) call_tuK (by rfl) B.tuple (by decide +kernel) (pa_cons (pv 8) pa_nil)))) pa_nil))) pa_nil)) pe_bl (nomark _))))) (pss_one (ps_ret pe_bl)) pss_nil) (pss_cons ((ps_set (i := 5) nd rfl (Or.inl rfl) ((pe_call G2 (hr.mono (by decide)) rfl m2 k2 b2 .nil pass0 (pa_cons (pv 0) (pa_cons (pe_lst (pa_cons (pe_non) (pa_cons (pe_int) (pa_cons (pe_str) (pa_cons (pe_tup pa_nil) (pa_cons (pe_tup (pa_cons (pe_int) pa_nil)) (pa_cons (pe_tup (pa_cons (pe_int) (pa_cons (pe_int) (pa_cons (pe_int) pa_nil)))) (pa_cons (pe_lst (pa_cons (pe_lst (pa_cons (pe_int) (pa_cons (pe_int) pa_nil))) pa_nil)) (pa_cons (pe_disp (pps_cons pe_int pe_int (pps_cons pe_int pe_int pps_nil)) (by rfl) (by rfl) (fun z => by cases z) (by decide)) (pa_cons ((pe_mkP (E := E0) T (hr.mono (by decide)) passL rfl (pa_cons (pv 1) pa_nil))) (pa_cons (pe_tup (pa_cons (pe_int) (pa_cons (pe_non) pa_nil))) pa_nil))))))))))) pa_nil)))))) (pss_cons (ps_if (pt_cmpR op_notBl (pe_call G3 (hr.mono (by decide)) rfl m3 k3 b3 .nil pass0 (pa_cons (pe_op op_cat (pe_op op_cat (pe_slice (r := rSlL K) sl_listK (pv 1) (po_none) (po_some (pv 2))) (pe_lst (pa_cons (pv 5) pa_nil))) (pe_slice (r := rSlL K) sl_listK (pv 1) (po_some (pe_op op_add (pv 2) pe_int)) (po_none))) pa_nil)) pe_bl (nomark _)) (pss_one (ps_ret pe_bl)) pss_nil) (pss_cons ((ps_set (i := 6) nd rfl (Or.inl rfl) (pe_lst (pa_cons (pe_non) (pa_cons (pe_int) (pa_cons (pe_str) (pa_cons (pe_lst pa_nil) (pa_cons (pe_tup pa_nil) (pa_cons ((pe_slice (r := rSlL K) sl_listK (pv 1) (po_none) (po_some pe_int))) (pa_cons (pe_op op_cat (pe_op op_cat (pv 1) (pe_slice (r := rSlL K) sl_listK (pv 1) (po_none) (po_some pe_int))) (pe_slice (r := rSlL K) sl_listK (pv 1) (po_none) (po_some pe_int))) (pa_cons (pe_disp (pps_cons pe_int (pe_tup (pa_cons (pe_int) (pa_cons (pe_int) pa_nil))) pps_nil) (by rfl) (by rfl) (fun z => by cases z) (by decide)) (pa_cons ((pe_mkP (E := E0) T (hr.mono (by decide)) passL rfl (pa_cons (pv 1) pa_nil))) (pa_cons (pe_bl) (pa_cons (pe_lst (pa_cons (pv 1) pa_nil)) (pa_cons (pe_lst (pa_cons (pe_int) (pa_cons (pe_int) (pa_cons (pe_int) (pa_cons (pe_int) (pa_cons (pe_int) (pa_cons (pe_int) (pa_cons (pe_int) (pa_cons (pe_int) pa_nil))))))))) pa_nil))))))))))))))) (pss_cons (ps_if (PW.pt (pw_or (pt_cmpR op_notBl (pe_call G3 (hr.mono (by decide)) rfl m3 k3 b3 .nil pass0 (pa_cons ((pe_call G2 (hr.mono (by decide)) rfl m2 k2 b2 .nil pass0 (pa_cons (pv 0) (pa_cons (pv 6) pa_nil)))) pa_nil)) pe_bl (nomark _)) (pw_or (pt_cmpR op_notBl (pe_call G3 (hr.mono (by decide)) rfl m3 k3 b3 .nil pass0 (pa_cons (pe_op op_rep (pe_lst (pa_cons (pe_tup (pa_cons (pe_int) (pa_cons (pe_int) pa_nil))) pa_nil)) pe_int) pa_nil)) pe_bl (nomark _)) (pw_or1 (pt_cmpR op_notBl (pe_call G3 (hr.mono (by decide)) rfl m3 k3 b3 .nil pass0 (pa_cons (pe_op op_rep (pe_lst (pa_cons (pe_tup (pa_cons (pe_int) (pa_cons (pe_int) pa_nil))) pa_nil)) pe_int) pa_nil)) pe_bl (nomark _)))))) (pss_one (ps_ret pe_bl)) pss_nil) (pss_cons ((ps_set (i := 7) nd rfl (Or.inl rfl) (pe_lst (pa_cons (pe_op op_rep (pe_lst (pa_cons (pe_tup (pa_cons (pe_op op_pow pe_int pe_int) (pa_cons (pe_un un_neg (pe_op op_pow pe_int pe_int)) pa_nil))) pa_nil)) pe_int) (pa_cons (pe_op op_rep (pe_lst (pa_cons (pe_tup (pa_cons (pe_un un_neg (pe_op op_pow pe_int pe_int)) (pa_cons (pe_op op_pow pe_int pe_int) pa_nil))) pa_nil)) pe_int) (pa_cons (pe_op op_rep (pe_lst (pa_cons (pe_lst (pa_cons (pe_int) (pa_cons (pe_int) pa_nil))) pa_nil)) pe_int) pa_nil)))))) (pss_one (ps_ret (pe_cmpR (op_eqD hr.units) (pe_lc (own := [("_law_one", 9)]) (g := gName 9) rfl nd (pi_list (pv 7)) (blkOk_by (N := nRR) (sc := defScope sRR) (by decide +kernel)) (fun _ _ _ _ _ => (pg_name (i := 9) nd rfl (Or.inl rfl))) (fun _ _ _ _ _ => pts_one (pt_cmpR op_notBl (pe_call G3 (hr.mono (by decide)) rfl m3 k3 b3 .nil pass0 (pa_cons (pv 9) pa_nil)) pe_bl (nomark _))) (fun _ _ _ _ _ => pe_int)) (pe_lst pa_nil) (nomark _))))))))))))), ?_⟩
    have l4 := ok.1
    have l7 := ok.2.1
    have tsl : (ts.map V.ref).length = ps.length := by rw [List.length_map, lp.len]
    refine ⟨_, rfl, _, rfl, a, _, rfl, .inl (SqL.of lp.1), p, _, n, rfl, hv, by omega, by rw [tsl]; omega, by rw [Int.natAbs_natCast, tsl]; exact Nat.lt_of_le_of_lt l7 (by decide), fun HA ai s1 v1 a0 a1 => ?_⟩
    rw [tsl] at a1
    refine ⟨_, rfl, p, 2, _, rfl, v1, by omega, by decide, by decide, fun H2 di s2 v2 d0 d1 => ?_⟩
    refine ⟨_, _, rfl, ?_⟩
    obtain ⟨i, rfl⟩ := Int.eq_ofNat_of_zero_le a0
    obtain ⟨k, rfl⟩ := Int.eq_ofNat_of_zero_le d0
    have hi : i < ps.length := by omega
    have hk : k < 2 := by omega
    have s02 : SB p H H2 := s1.trans s2
    have lp2 := lp.sb hv na s02
    clear s1 s2 v1
    refine ⟨_, rfl, a, rfl, ⟨_, SqL.of lp2.1⟩, fun D hD => ?_⟩
    refine lc_list (K := K) (a := a) (xs := ts.map V.ref) (Cp H2 D ps) (cp_nil hD) (fun i H' _ p => SqL.of (p.1 _ _ lp2.1)) (fun i x H' hx p => ?_) (fun J0 p5 => ?_)
    · obtain ⟨g, q1, rfl, hg, k⟩ := cp_step hD lp2 l7 p hx
      exact ⟨rfl, _, rfl, g, _, rfl, .inr (SqT.of hg), k⟩
    rw [tsl] at p5
    obtain ⟨s5, rs, ll5, nrs⟩ := p5
    rw [List.take_length] at ll5
    have nDp := v2.not_none hD
    have v5 := v2.same s5
    obtain ⟨vc, vx, vy, hp0⟩ := v5.at
    refine ⟨_, rfl, ?_⟩
    refine ⟨by show 1 ≤ sizeLine; decide, fun t1 n1 => ?_⟩
    have s1 := same_new (o := .tup [V.int 1]) n1
    have g1 : upd J0 t1 (.tup [V.int 1]) t1 = some (.tup [V.int 1]) := upd_same
    have np1 : t1 ≠ p := (ne_of_none hp0 n1).symm
    have hp1 := s1 _ _ hp0
    generalize upd J0 t1 (.tup [V.int 1]) = J1 at s1 g1 hp1 ⊢
    refine ⟨Nat.zero_le _, fun t2 n2 => ?_⟩
    have s2 := same_new (o := .lst []) n2
    have g2 : upd J1 t2 (.lst []) t2 = some (.lst []) := upd_same
    have np2 : t2 ≠ p := (ne_of_none hp1 n2).symm
    have hp2 := s2 _ _ hp1
    generalize upd J1 t2 (.lst []) = J2 at s2 g2 hp2 ⊢
    refine ⟨_, _, rfl, rfl, ⟨by decide, by decide, by decide⟩, _, _, rfl, rfl, _, _, rfl, rfl, ⟨by decide, by decide, by decide⟩, _, rfl, _, _, rfl, rfl, _, _, rfl, rfl, ⟨by decide, by decide, by decide⟩, fun t3 n3 => ?_⟩
    have s3 := same_new (o := .dK []) n3
    have g3 : upd J2 t3 (.dK []) t3 = some (.dK []) := upd_same
    have np3 : t3 ≠ p := (ne_of_none hp2 n3).symm
    have hp3 := s3 _ _ hp2
    generalize upd J2 t3 (.dK []) = J3 at s3 g3 hp3 ⊢
    have sA : Same J0 J3 := ((s1).trans s2).trans s3
    have z1 := s3 _ _ (s2 _ _ (g1))
    have z2 := s3 _ _ (g2)
    have z3 := g3
    refine ⟨by show 10 ≤ sizeLine; decide, fun l nl => ?_⟩
    have sl := same_new (o := .lst [V.non, V.bl true, V.bl false, V.str "1", V.ref t1, V.ref t2, V.int ((10 : Int) ^ (Int.toNat 9) + 1), V.int (-((10 : Int) ^ (Int.toNat 9)) - 1), V.int ((10 : Int) ^ (Int.toNat 30)), V.ref t3]) nl
    have nlp := (ne_of_none hp3 nl).symm
    refine ⟨p, l, _, _, rfl, (v5.same sA).same sl, by omega, upd_same, nlp, by show 0 < 10; decide, by show 10 ≤ 1000; decide, fun H6 x s6 v6 hx => ?_⟩
    have s56 : SB p J0 H6 := (SB.of (sA.trans sl)).trans s6
    have s26 : SB p H2 H6 := (SB.of s5).trans s56
    have ll6 := ll5.sb v5 nDp s56
    obtain ⟨r, q0, er, eq, hr0⟩ := ll6.at hi
    have e0 : atI (rs.map V.ref) (i : Int) = some (.ref r) := atI_nat (by rw [List.getElem?_map, er]; rfl)
    have nr := nrs r (List.mem_of_getElem? er)
    refine ⟨_, rfl, _, rfl, D, _, _, .ref r, rfl, rfl, SqL.of ll6.1, e0, _, rfl, r, _, _, k, rfl, rfl, hr0, ixN_nat (by show k < 2; exact hk), ?_⟩
    have f1 := s6.1 _ _ np1 (sl _ _ z1)
    have f2 := s6.1 _ _ np2 (sl _ _ z2)
    have f3 := s6.1 _ _ np3 (sl _ _ z3)
    have kr : Kp r H6 (upd H6 r (.lst (List.set [V.int q0.1, V.int q0.2] k x))) := Kp.set
    have nbig : ∀ z : Int, G9 < z ∨ z < -G9 → inB (.int z) = false := fun z hz => by
      show (decide (-G9 ≤ z) && decide (z ≤ G9)) = false
      rcases hz with h | h
      · rw [decide_eq_false (by omega : ¬ z ≤ G9), Bool.and_false]
      · rw [decide_eq_false (by omega : ¬ -G9 ≤ z), Bool.false_and]
    have e9 : (10 : Int) ^ (Int.toNat 9) = 1000000000 := by decide
    have e30 : (10 : Int) ^ (Int.toNat 30) = 1000000000000000000000000000000 := by decide
    have kx : (∃ t, Kd K (upd H6 r (.lst (List.set [V.int q0.1, V.int q0.2] k x))) x t) ∧ inB x = false := by
      simp only [List.mem_cons, List.not_mem_nil, or_false] at hx
      generalize upd H6 r (.lst (List.set [V.int q0.1, V.int q0.2] k x)) = H7 at kr
      rcases hx with rfl | rfl | rfl | rfl | rfl | rfl | rfl | rfl | rfl | rfl
      · exact ⟨⟨_, .non⟩, rfl⟩
      · exact ⟨⟨_, .bl _⟩, rfl⟩
      · exact ⟨⟨_, .bl _⟩, rfl⟩
      · exact ⟨⟨_, .str _⟩, rfl⟩
      · exact ⟨⟨_, .tup (kr _ _ (L2.ne_of f1 hr0 (by intro z; cases z)) f1)⟩, rfl⟩
      · exact ⟨⟨_, .lst (kr _ _ (L2.ne_of f2 hr0 (by intro z; cases z)) f2)⟩, rfl⟩
      · exact ⟨⟨_, .int _⟩, nbig _ (.inl (by rw [e9, eG]; decide))⟩
      · exact ⟨⟨_, .int _⟩, nbig _ (.inr (by rw [e9, eG]; decide))⟩
      · exact ⟨⟨_, .int _⟩, nbig _ (.inl (by rw [e30, eG]; decide))⟩
      · exact ⟨⟨_, .dK (kr _ _ (L2.ne_of f3 hr0 (by intro z; cases z)) f3)⟩, rfl⟩
    obtain ⟨bs, pb, lb, nb⟩ := rows_bent (K := K) (r := r) (xs' := List.set [V.int q0.1, V.int q0.2] k x) (fun y hy => by
      rcases List.mem_or_eq_of_mem_set hy with e | e
      · rcases List.mem_cons.mp e with z | z
        · rw [z]; exact ⟨_, .int _⟩
        · rw [List.mem_singleton.mp z]; exact ⟨_, .int _⟩
      · rw [e]; exact kx.1) (by rw [List.length_set]; show 2 ≤ 100; decide) (rowB_set hk kx.2) ll6.2 ok.2.2
    have nb := nb (List.mem_of_getElem? er)
    have hD7 : upd H6 r (.lst (List.set [V.int q0.1, V.int q0.2] k x)) D = some (.lst (rs.map V.ref)) := kr _ _ (refs_ne ll6.1 hr0).symm ll6.1
    have s27 : SB p H2 (upd H6 r (.lst (List.set [V.int q0.1, V.int q0.2] k x))) := SB.upd v2 s26 nr
    have v7 : Lens (upd H6 r (.lst (List.set [V.int q0.1, V.int q0.2] k x))) p (n + 3) := v6.upd v2 s26 nr
    generalize upd H6 r (.lst (List.set [V.int q0.1, V.int q0.2] k x)) = H7 at pb hD7 s27 v7 ⊢
    have s07 : SB p H H7 := s02.trans s27
    have lp7 := lp.sb hv na s07
    clear kr kx nbig f1 f2 f3 hr0 e0 ll6 s26 s56 v6 s6 sl nl sA z1 z2 z3 hp3 hp2 hp1 hp0 v5 ll5 s5 s27 eq er
    have rsl : (rs.map V.ref).length = ps.length := by rw [List.length_map, Paired.length pb, lb]
    refine ⟨_, rfl, _, false, rfl, let_no (.seq (.inl hD7) (rowq_map (paired_mono pb fun _ _ z => z.q)) (by omega)) (pl_no nb), fun H8 s8 => ⟨_, _, rfl, rfl, _, rfl, iteF ?_⟩⟩
    have pb8 := paired_mono pb fun _ _ z => z.same s8
    have hD8 := s8 _ _ hD7
    refine ⟨_, rfl, D, rfl, ⟨_, SqL.of hD8⟩, fun E1 nE1 => ?_⟩
    refine lc_list (K := K) (a := D) (xs := rs.map V.ref) (fun j H' => Same H8 H' ∧ ∃ us : List Addr, us.length = j ∧ H' E1 = some (.lst (us.map V.ref)) ∧ Paired (RowS K H8 H') us (bs.take j)) ⟨same_new nE1, [], rfl, upd_same, .nil⟩ (fun i H' _ p => SqL.of (p.1 _ _ hD8)) (fun j y H' hy p => ?_) (fun H9 p => ?_)
    · obtain ⟨s9, us, lu, hE, pu⟩ := p
      have hj : j < rs.length := by
        have := (List.getElem?_eq_some_iff.mp hy).1
        rw [List.length_map] at this
        exact this
      rw [List.getElem?_map, List.getElem?_eq_getElem hj] at hy
      have ey : V.ref rs[j] = y := Option.some.inj hy
      subst ey
      obtain ⟨b, hb, xs, hr, kd, lx, hB⟩ := paired_get pb8 (List.getElem?_eq_getElem hj)
      have hr9 := s9 _ _ hr
      refine ⟨rfl, _, rfl, rs[j], _, rfl, .inl ⟨SqL.of hr9, fun t nt => ?_⟩⟩
      have st := same_new (o := .tup xs) nt
      have rq : RowS K H8 (upd H' t (.tup xs)) t b := ⟨xs, upd_same, kd, lx, hB⟩
      have hE2 := st _ _ hE
      have pu2 := paired_snoc (paired_mono pu fun _ _ z => z.at (fun _ e => st _ _ e)) rq
      rw [← take_more hb] at pu2
      refine ⟨_, hE2, by rw [List.length_map]; exact small1000 (by rw [List.length_map] at rsl; omega), sameUpd (s9.trans st) nE1, us ++ [t], by simp [lu], by rw [upd_same, List.map_append]; rfl, paired_mono pu2 fun u c z => z.at fun zs e => ?_⟩
      rw [upd_ne (L2.ne_of e hE2 (by intro z; cases z))]
      exact e
    obtain ⟨s9, us, lu, hE, pu⟩ := p
    rw [rsl, List.take_of_length_le (by omega)] at pu
    refine ⟨E1, _, rfl, .inl ⟨SqL.of hE, fun t nt => ?_⟩⟩
    have st := same_new (o := .tup (us.map V.ref)) nt
    refine ⟨_, false, rfl, let_no (.seq (.inr upd_same) (rowq_map (paired_mono pu fun u c z => (z.q s9).same st)) (by rw [List.length_map, lu, rsl]; omega)) (pl_no nb), fun H10 s10 => ⟨_, _, rfl, rfl, _, rfl, iteF ?_⟩⟩
    have s710 := s8.trans (s9.trans (st.trans s10))
    have s0K : SB p H H10 := s07.trans (SB.of s710)
    have lpK := lp.sb hv na s0K
    have vK := v7.same s710
    clear s710 s10 st nt pu hE s9 lu hD8 pb8 s8 lp7 v7 s07 hD7 nb pb lp2 nr nDp v2
    obtain ⟨vc, vx, vy, hq0⟩ := vK.at
    refine ⟨_, rfl, ?_⟩
    refine ⟨Nat.zero_le _, fun u1 n1 => ?_⟩
    have s1 := same_new (o := .tup []) n1
    have g1 : upd H10 u1 (.tup []) u1 = some (.tup []) := upd_same
    have np1 : u1 ≠ p := (ne_of_none hq0 n1).symm
    have hq1 := s1 _ _ hq0
    generalize upd H10 u1 (.tup []) = M1 at s1 g1 hq1 ⊢
    refine ⟨by show 1 ≤ sizeLine; decide, fun u2 n2 => ?_⟩
    have s2 := same_new (o := .tup [V.int 1]) n2
    have g2 : upd M1 u2 (.tup [V.int 1]) u2 = some (.tup [V.int 1]) := upd_same
    have np2 : u2 ≠ p := (ne_of_none hq1 n2).symm
    have hq2 := s2 _ _ hq1
    generalize upd M1 u2 (.tup [V.int 1]) = M2 at s2 g2 hq2 ⊢
    refine ⟨by show 3 ≤ sizeLine; decide, fun u3 n3 => ?_⟩
    have s3 := same_new (o := .tup [V.int 1, V.int 2, V.int 3]) n3
    have g3 : upd M2 u3 (.tup [V.int 1, V.int 2, V.int 3]) u3 = some (.tup [V.int 1, V.int 2, V.int 3]) := upd_same
    have np3 : u3 ≠ p := (ne_of_none hq2 n3).symm
    have hq3 := s3 _ _ hq2
    generalize upd M2 u3 (.tup [V.int 1, V.int 2, V.int 3]) = M3 at s3 g3 hq3 ⊢
    refine ⟨by show 2 ≤ sizeLine; decide, fun u4 n4 => ?_⟩
    have s4 := same_new (o := .lst [V.int 1, V.int 2]) n4
    have g4 : upd M3 u4 (.lst [V.int 1, V.int 2]) u4 = some (.lst [V.int 1, V.int 2]) := upd_same
    have np4 : u4 ≠ p := (ne_of_none hq3 n4).symm
    have hq4 := s4 _ _ hq3
    generalize upd M3 u4 (.lst [V.int 1, V.int 2]) = M4 at s4 g4 hq4 ⊢
    refine ⟨by show 1 ≤ sizeLine; decide, fun u5 n5 => ?_⟩
    have s5 := same_new (o := .lst [V.ref u4]) n5
    have g5 : upd M4 u5 (.lst [V.ref u4]) u5 = some (.lst [V.ref u4]) := upd_same
    have np5 : u5 ≠ p := (ne_of_none hq4 n5).symm
    have hq5 := s5 _ _ hq4
    generalize upd M4 u5 (.lst [V.ref u4]) = M5 at s5 g5 hq5 ⊢
    refine fun u6 n6 => ⟨upd_same, [(Sum.inl 0, V.int 1), (Sum.inl 1, V.int 2)], rfl, by show 2 ≤ 15; decide, ?_⟩
    have ue6 : upd (upd M5 u6 (.dK [])) u6 (.dK (mergeK [] [(Sum.inl 0, V.int 1), (Sum.inl 1, V.int 2)])) = upd M5 u6 (.dK [(Sum.inl 0, V.int 1), (Sum.inl 1, V.int 2)]) := by
      funext b
      unfold upd
      split <;> rfl
    rw [ue6]
    have s6 := same_new (o := .dK [(Sum.inl 0, V.int 1), (Sum.inl 1, V.int 2)]) n6
    have g6 : upd M5 u6 (.dK [(Sum.inl 0, V.int 1), (Sum.inl 1, V.int 2)]) u6 = some (.dK [(Sum.inl 0, V.int 1), (Sum.inl 1, V.int 2)]) := upd_same
    have np6 : u6 ≠ p := (ne_of_none hq5 n6).symm
    have hq6 := s6 _ _ hq5
    generalize upd M5 u6 (.dK [(Sum.inl 0, V.int 1), (Sum.inl 1, V.int 2)]) = M6 at s6 g6 hq6 ⊢
    have sA : Same H10 M6 := (((((s1).trans s2).trans s3).trans s4).trans s5).trans s6
    have z1 := s6 _ _ (s5 _ _ (s4 _ _ (s3 _ _ (s2 _ _ (g1)))))
    have z2 := s6 _ _ (s5 _ _ (s4 _ _ (s3 _ _ (g2))))
    have z3 := s6 _ _ (s5 _ _ (s4 _ _ (g3)))
    have z4 := s6 _ _ (s5 _ _ (g4))
    have z5 := s6 _ _ (g5)
    have z6 := g6
    have lpM := lpK.same sA
    refine ⟨_, rfl, _, rfl, .inl ⟨ps, lpM.pls, ok, fun pc M7 s7 n7 pf => ?_⟩⟩
    refine ⟨by show 2 ≤ sizeLine; decide, fun u8 n8 => ?_⟩
    have s8 := same_new (o := .tup [V.int 1, V.non]) n8
    have g8 : upd M7 u8 (.tup [V.int 1, V.non]) u8 = some (.tup [V.int 1, V.non]) := upd_same
    have hq8 := s8 _ _ (s7 _ _ hq6)
    have np8 : u8 ≠ p := (ne_of_none (s7 _ _ hq6) n8).symm
    have npc : pc ≠ p := (ne_of_none hq6 n7).symm
    have z7 := pf.same s8
    generalize upd M7 u8 (.tup [V.int 1, V.non]) = M8 at s8 g8 hq8 z7 ⊢
    have s68 := s7.trans s8
    refine ⟨by show 10 ≤ sizeLine; decide, fun l nl => ?_⟩
    have sl := same_new (o := .lst [V.non, V.int 0, V.str "00", V.ref u1, V.ref u2, V.ref u3, V.ref u5, V.ref u6, V.ref pc, V.ref u8]) nl
    have nlp := (ne_of_none hq8 nl).symm
    refine ⟨p, l, _, _, rfl, (vK.same (sA.trans s68)).same sl, by omega, upd_same, nlp, by show 0 < 10; decide, by show 10 ≤ 1000; decide, fun H12 x s12 v12 hx => ?_⟩
    have k12 : ∀ {b : Addr} {o : HO}, b ≠ p → M8 b = some o → H12 b = some o := fun nb e => s12.1 _ _ nb (sl _ _ e)
    have rx : RowV K H12 x false := by
      simp only [List.mem_cons, List.not_mem_nil, or_false] at hx
      have f1 := k12 np1 (s68 _ _ z1)
      have f2 := k12 np2 (s68 _ _ z2)
      have f3 := k12 np3 (s68 _ _ z3)
      have f4 := k12 np4 (s68 _ _ z4)
      have f5 := k12 np5 (s68 _ _ z5)
      have f6 := k12 np6 (s68 _ _ z6)
      have f8 := k12 np8 g8
      rcases hx with rfl | rfl | rfl | rfl | rfl | rfl | rfl | rfl | rfl | rfl
      · exact .no .non
      · exact .no (.int _)
      · exact .no (.str _)
      · exact .seq (xs := []) (.inr f1) (fun x hx => by cases hx) (by decide)
      · exact .seq (xs := [V.int 1]) (.inr f2) (fun x hx => by rw [List.mem_singleton.mp hx]; exact ⟨_, .int _⟩) (by show 1 ≤ 100; decide)
      · exact .seq (xs := [V.int 1, V.int 2, V.int 3]) (.inr f3) (fun x hx => by
          simp only [List.mem_cons, List.not_mem_nil, or_false] at hx
          rcases hx with rfl | rfl | rfl <;> exact ⟨_, .int _⟩) (by show 3 ≤ 100; decide)
      · exact .seq (xs := [V.ref u4]) (.inl f5) (fun x hx => by rw [List.mem_singleton.mp hx]; exact ⟨_, .lst f4⟩) (by show 1 ≤ 100; decide)
      · exact .no (.dK f6)
      · obtain ⟨dx, t, u, e, _⟩ := z7
        exact .no (.ins (k12 npc e) T.t.pc)
      · exact .seq (xs := [V.int 1, V.non]) (.inr f8) (fun x hx => by
          simp only [List.mem_cons, List.not_mem_nil, or_false] at hx
          rcases hx with rfl | rfl
          · exact ⟨_, .int _⟩
          · exact ⟨_, .non⟩) (by show 2 ≤ 100; decide)
    have s0L : SB p H H12 := s0K.trans ((SB.of ((sA.trans s68).trans sl)).trans s12)
    have lpL := lp.sb hv na s0L
    clear k12 hx
    have rows : ∀ {H' : Hp}, LP H' a ts ps → Paired (RowV K H') (ts.map V.ref) (ps.map fun _ => true) := fun h => pl_rows (pla_prs h.2) ok.2.2
    have trl : (ps.map fun _ => true).length = ps.length := List.length_map _
    refine ⟨_, rfl, _, rfl, _, rfl, a, _, rfl, SqL.of lpL.1, fun c1 nc1 => ?_⟩
    rw [cut_to (by omega)]
    have s1 := same_new (o := .lst ((ts.map V.ref).take i)) nc1
    refine ⟨_, rfl, by show 1 ≤ sizeLine; decide, fun c2 nc2 => ?_⟩
    have s2 := same_new (o := .lst [x]) nc2
    refine ⟨c1, c2, _, _, rfl, rfl, s2 _ _ upd_same, upd_same, by rw [List.length_take]; exact Nat.le_of_lt (small1000 (by show _ + 1 ≤ 1000; omega)), fun c3 nc3 => ?_⟩
    have s3 := same_new (o := .lst ((ts.map V.ref).take i ++ [x])) nc3
    have s13 := s1.trans (s2.trans s3)
    refine ⟨_, rfl, _, rfl, _, _, rfl, rfl, _, rfl, a, _, rfl, SqL.of (s13 _ _ lpL.1), fun c4 nc4 => ?_⟩
    rw [show cutV (ts.map V.ref) (some ((i : Int) + 1)) none = (ts.map V.ref).drop (i + 1) from cut_from (i := i + 1) (by omega)]
    have s4 := same_new (o := .lst ((ts.map V.ref).drop (i + 1))) nc4
    refine ⟨c3, c4, _, _, rfl, rfl, s4 _ _ upd_same, upd_same, by rw [List.length_append, List.length_take, List.length_drop]; exact Nat.le_of_lt (small1000 (by show _ + 1 + _ ≤ 1000; omega)), fun c5 nc5 => ?_⟩
    have s5 := same_new (o := .lst ((ts.map V.ref).take i ++ [x] ++ (ts.map V.ref).drop (i + 1))) nc5
    have s15 := s13.trans (s4.trans s5)
    have rw5 := rows (lpL.same s15)
    refine ⟨_, false, rfl, let_no (.seq (.inl upd_same) (paired_app (paired_app (paired_take rw5 i) (.cons (rx.same s15) .nil)) (paired_drop rw5 (i + 1))) (by rw [List.length_append, List.length_append, List.length_take, List.length_drop]; show _ + 1 + _ ≤ 100; omega)) (pl_no all_mid), fun N0 s6 => ⟨_, _, rfl, rfl, _, rfl, iteF ?_⟩⟩
    have sB : Same H12 N0 := s15.trans s6
    have lpN := lpL.same sB
    clear rw5 s15 s5 nc5 s4 nc4 s13 s3 nc3 s2 nc2 s1 nc1 s6 rx
    obtain ⟨vc, vx, vy, hr⟩ := (v12.same sB).at
    have la := lpN.1
    refine ⟨Nat.zero_le _, fun c1 n1 => ?_⟩
    have s1 := same_new (o := .lst []) n1
    have g1 : upd N0 c1 (.lst []) c1 = some (.lst []) := upd_same
    have np1 : c1 ≠ p := (ne_of_none hr n1).symm
    have la := s1 _ _ la
    have hr := s1 _ _ hr
    have sB := sB.trans s1
    generalize upd N0 c1 (.lst []) = N1 at s1 g1 sB hr la ⊢
    refine ⟨Nat.zero_le _, fun c2 n2 => ?_⟩
    have s2 := same_new (o := .tup []) n2
    have g2 : upd N1 c2 (.tup []) c2 = some (.tup []) := upd_same
    have np2 : c2 ≠ p := (ne_of_none hr n2).symm
    have la := s2 _ _ la
    have g1 := s2 _ _ g1
    have hr := s2 _ _ hr
    have sB := sB.trans s2
    generalize upd N1 c2 (.tup []) = N2 at s2 g2 sB hr la g1 ⊢
    refine ⟨_, rfl, _, rfl, a, _, rfl, SqL.of la, ?_⟩
    rw [show (3 : Int) = ((3 : Nat) : Int) from rfl, cut_to (by omega)]
    refine fun c3 n3 => ?_
    have s3 := same_new (o := .lst ((ts.map V.ref).take 3)) n3
    have g3 : upd N2 c3 (.lst ((ts.map V.ref).take 3)) c3 = some (.lst ((ts.map V.ref).take 3)) := upd_same
    have np3 : c3 ≠ p := (ne_of_none hr n3).symm
    have la := s3 _ _ la
    have g1 := s3 _ _ g1
    have g2 := s3 _ _ g2
    have hr := s3 _ _ hr
    have sB := sB.trans s3
    generalize upd N2 c3 (.lst ((ts.map V.ref).take 3)) = N3 at s3 g3 sB hr la g1 g2 ⊢
    refine ⟨_, rfl, _, rfl, _, rfl, a, _, rfl, SqL.of la, ?_⟩
    rw [show (4 : Int) = ((4 : Nat) : Int) from rfl, cut_to (by omega)]
    refine fun c4 n4 => ?_
    have s4 := same_new (o := .lst ((ts.map V.ref).take 4)) n4
    have g4 : upd N3 c4 (.lst ((ts.map V.ref).take 4)) c4 = some (.lst ((ts.map V.ref).take 4)) := upd_same
    have np4 : c4 ≠ p := (ne_of_none hr n4).symm
    have la := s4 _ _ la
    have g1 := s4 _ _ g1
    have g2 := s4 _ _ g2
    have g3 := s4 _ _ g3
    have hr := s4 _ _ hr
    have sB := sB.trans s4
    generalize upd N3 c4 (.lst ((ts.map V.ref).take 4)) = N4 at s4 g4 sB hr la g1 g2 g3 ⊢
    refine ⟨a, c4, _, _, rfl, rfl, la, g4, by rw [List.length_take]; exact Nat.le_of_lt (small1000 (by omega)), ?_⟩
    refine fun c5 n5 => ?_
    have s5 := same_new (o := .lst (ts.map V.ref ++ (ts.map V.ref).take 4)) n5
    have g5 : upd N4 c5 (.lst (ts.map V.ref ++ (ts.map V.ref).take 4)) c5 = some (.lst (ts.map V.ref ++ (ts.map V.ref).take 4)) := upd_same
    have np5 : c5 ≠ p := (ne_of_none hr n5).symm
    have la := s5 _ _ la
    have g1 := s5 _ _ g1
    have g2 := s5 _ _ g2
    have g3 := s5 _ _ g3
    have hr := s5 _ _ hr
    have sB := sB.trans s5
    generalize upd N4 c5 (.lst (ts.map V.ref ++ (ts.map V.ref).take 4)) = N5 at s5 g5 sB hr la g1 g2 g3 ⊢
    refine ⟨_, rfl, _, rfl, a, _, rfl, SqL.of la, ?_⟩
    rw [cut_to (by omega)]
    refine fun c6 n6 => ?_
    have s6 := same_new (o := .lst ((ts.map V.ref).take 4)) n6
    have g6 : upd N5 c6 (.lst ((ts.map V.ref).take 4)) c6 = some (.lst ((ts.map V.ref).take 4)) := upd_same
    have np6 : c6 ≠ p := (ne_of_none hr n6).symm
    have la := s6 _ _ la
    have g1 := s6 _ _ g1
    have g2 := s6 _ _ g2
    have g3 := s6 _ _ g3
    have g5 := s6 _ _ g5
    have hr := s6 _ _ hr
    have sB := sB.trans s6
    generalize upd N5 c6 (.lst ((ts.map V.ref).take 4)) = N6 at s6 g6 sB hr la g1 g2 g3 g5 ⊢
    refine ⟨c5, c6, _, _, rfl, rfl, g5, g6, by rw [List.length_append, List.length_take]; exact Nat.le_of_lt (small1000 (by omega)), ?_⟩
    refine fun c7 n7 => ?_
    have s7 := same_new (o := .lst (ts.map V.ref ++ (ts.map V.ref).take 4 ++ (ts.map V.ref).take 4)) n7
    have g7 : upd N6 c7 (.lst (ts.map V.ref ++ (ts.map V.ref).take 4 ++ (ts.map V.ref).take 4)) c7 = some (.lst (ts.map V.ref ++ (ts.map V.ref).take 4 ++ (ts.map V.ref).take 4)) := upd_same
    have np7 : c7 ≠ p := (ne_of_none hr n7).symm
    have la := s7 _ _ la
    have g1 := s7 _ _ g1
    have g2 := s7 _ _ g2
    have g3 := s7 _ _ g3
    have hr := s7 _ _ hr
    have sB := sB.trans s7
    generalize upd N6 c7 (.lst (ts.map V.ref ++ (ts.map V.ref).take 4 ++ (ts.map V.ref).take 4)) = N7 at s7 g7 sB hr la g1 g2 g3 ⊢
    refine fun c8 n8 => ?_
    have nc8 : H12 c8 = none := sB.free n8
    have s8 := same_new (o := .dK []) n8
    have g8 : upd N7 c8 (.dK []) c8 = some (.dK []) := upd_same
    have np8 : c8 ≠ p := (ne_of_none hr n8).symm
    have la := s8 _ _ la
    have g1 := s8 _ _ g1
    have g2 := s8 _ _ g2
    have g3 := s8 _ _ g3
    have g7 := s8 _ _ g7
    have hr := s8 _ _ hr
    have sB := sB.trans s8
    generalize upd N7 c8 (.dK []) = N8 at s8 g8 sB hr la g1 g2 g3 g7 ⊢
    refine ⟨by show 2 ≤ sizeLine; decide, fun c9 n9 => ?_⟩
    have s9 := same_new (o := .tup [V.int 0, V.int 0]) n9
    have g9 : upd N8 c9 (.tup [V.int 0, V.int 0]) c9 = some (.tup [V.int 0, V.int 0]) := upd_same
    have np9 : c9 ≠ p := (ne_of_none hr n9).symm
    have la := s9 _ _ la
    have g1 := s9 _ _ g1
    have g2 := s9 _ _ g2
    have g3 := s9 _ _ g3
    have g7 := s9 _ _ g7
    have g8 := s9 _ _ g8
    have hr := s9 _ _ hr
    have sB := sB.trans s9
    generalize upd N8 c9 (.tup [V.int 0, V.int 0]) = N9 at s9 g9 sB hr la g1 g2 g3 g7 g8 ⊢
    refine ⟨g8, [(Sum.inl 0, V.ref c9)], rfl, by show 1 ≤ 15; decide, ?_⟩
    have u8 : upd N9 c8 (.dK (mergeK [] [(Sum.inl 0, V.ref c9)])) = upd N9 c8 (.dK [(Sum.inl 0, V.ref c9)]) := rfl
    rw [u8]
    have kd : Kp c8 N9 (upd N9 c8 (.dK [(Sum.inl 0, V.ref c9)])) := Kp.set
    have la := kd _ _ (L2.ne_of la g8 (by intro z; cases z)) la
    have g1 := kd _ _ (L2.ne_of g1 g8 (by intro z; cases z)) g1
    have g2 := kd _ _ (L2.ne_of g2 g8 (by intro z; cases z)) g2
    have g3 := kd _ _ (L2.ne_of g3 g8 (by intro z; cases z)) g3
    have g7 := kd _ _ (L2.ne_of g7 g8 (by intro z; cases z)) g7
    have hr := kd _ _ (L2.ne_of hr g8 (by intro z; cases z)) hr
    have sB : Same H12 (upd N9 c8 (.dK [(Sum.inl 0, V.ref c9)])) := sameUpd sB nc8
    have g8 : upd N9 c8 (.dK [(Sum.inl 0, V.ref c9)]) c8 = some (.dK [(Sum.inl 0, V.ref c9)]) := upd_same
    generalize upd N9 c8 (.dK [(Sum.inl 0, V.ref c9)]) = N10 at la g1 g2 g3 g7 g8 hr sB ⊢
    refine ⟨_, rfl, _, rfl, .inl ⟨ps, (lpL.same sB).pls, ok, fun pc NP sP nP pf => ?_⟩⟩
    have npc : pc ≠ p := (ne_of_none hr nP).symm
    obtain ⟨dx, _, _, gp, _⟩ := pf
    have la := sP _ _ la
    have g1 := sP _ _ g1
    have g2 := sP _ _ g2
    have g3 := sP _ _ g3
    have g7 := sP _ _ g7
    have g8 := sP _ _ g8
    have hr := sP _ _ hr
    have sB := sB.trans sP
    refine ⟨_, rfl, by show 1 ≤ sizeLine; decide, fun c11 n11 => ?_⟩
    have s11 := same_new (o := .lst [V.ref a]) n11
    have g11 : upd NP c11 (.lst [V.ref a]) c11 = some (.lst [V.ref a]) := upd_same
    have np11 : c11 ≠ p := (ne_of_none hr n11).symm
    have la := s11 _ _ la
    have g1 := s11 _ _ g1
    have g2 := s11 _ _ g2
    have g3 := s11 _ _ g3
    have g7 := s11 _ _ g7
    have g8 := s11 _ _ g8
    have gp := s11 _ _ gp
    have hr := s11 _ _ hr
    have sB := sB.trans s11
    generalize upd NP c11 (.lst [V.ref a]) = N11 at s11 g11 sB hr la g1 g2 g3 g7 g8 gp ⊢
    refine ⟨by show 8 ≤ sizeLine; decide, fun c12 n12 => ?_⟩
    have s12 := same_new (o := .lst [V.int 0, V.int 0, V.int 1, V.int 0, V.int 0, V.int 1, V.int 1, V.int 1]) n12
    have g12 : upd N11 c12 (.lst [V.int 0, V.int 0, V.int 1, V.int 0, V.int 0, V.int 1, V.int 1, V.int 1]) c12 = some (.lst [V.int 0, V.int 0, V.int 1, V.int 0, V.int 0, V.int 1, V.int 1, V.int 1]) := upd_same
    have np12 : c12 ≠ p := (ne_of_none hr n12).symm
    have la := s12 _ _ la
    have g1 := s12 _ _ g1
    have g2 := s12 _ _ g2
    have g3 := s12 _ _ g3
    have g7 := s12 _ _ g7
    have g8 := s12 _ _ g8
    have gp := s12 _ _ gp
    have g11 := s12 _ _ g11
    have hr := s12 _ _ hr
    have sB := sB.trans s12
    generalize upd N11 c12 (.lst [V.int 0, V.int 0, V.int 1, V.int 0, V.int 0, V.int 1, V.int 1, V.int 1]) = N12 at s12 g12 sB hr la g1 g2 g3 g7 g8 gp g11 ⊢
    refine ⟨by show 12 ≤ sizeLine; decide, fun c13 n13 => ?_⟩
    have s13 := same_new (o := .lst [V.non, V.int 5, V.str "0 0 / 1 0 / 0 1 / 1 1", V.ref c1, V.ref c2, V.ref c3, V.ref c7, V.ref c8, V.ref pc, V.bl true, V.ref c11, V.ref c12]) n13
    have g13 : upd N12 c13 (.lst [V.non, V.int 5, V.str "0 0 / 1 0 / 0 1 / 1 1", V.ref c1, V.ref c2, V.ref c3, V.ref c7, V.ref c8, V.ref pc, V.bl true, V.ref c11, V.ref c12]) c13 = some (.lst [V.non, V.int 5, V.str "0 0 / 1 0 / 0 1 / 1 1", V.ref c1, V.ref c2, V.ref c3, V.ref c7, V.ref c8, V.ref pc, V.bl true, V.ref c11, V.ref c12]) := upd_same
    have np13 : c13 ≠ p := (ne_of_none hr n13).symm
    have la := s13 _ _ la
    have g1 := s13 _ _ g1
    have g2 := s13 _ _ g2
    have g3 := s13 _ _ g3
    have g7 := s13 _ _ g7
    have g8 := s13 _ _ g8
    have gp := s13 _ _ gp
    have g11 := s13 _ _ g11
    have g12 := s13 _ _ g12
    have hr := s13 _ _ hr
    have sB := sB.trans s13
    generalize upd N12 c13 (.lst [V.non, V.int 5, V.str "0 0 / 1 0 / 0 1 / 1 1", V.ref c1, V.ref c2, V.ref c3, V.ref c7, V.ref c8, V.ref pc, V.bl true, V.ref c11, V.ref c12]) = N13 at s13 g13 sB hr la g1 g2 g3 g7 g8 gp g11 g12 ⊢
    refine ⟨_, rfl, _, rfl, p, c13, _, _, rfl, v12.same sB, by omega, g13, np13, by show 0 < 12; decide, by show 12 ≤ 1000; decide, fun R0 x sE vE hx => ?_⟩
    have s0R : SB p H R0 := s0L.trans ((SB.of sB).trans sE)
    have lpR := lp.sb hv na s0R
    have rR := rows lpR
    have lx : LetV K R0 x false := by
      simp only [List.mem_cons, List.not_mem_nil, or_false] at hx
      rcases hx with rfl | rfl | rfl | rfl | rfl | rfl | rfl | rfl | rfl | rfl | rfl | rfl
      · exact let_no (.no .non) rfl
      · exact let_no (.no (.int _)) rfl
      · exact let_no (.no (.str _)) rfl
      · exact let_no (.seq (.inl (sE.1 _ _ np1 g1)) .nil (by decide)) rfl
      · exact let_no (.seq (.inr (sE.1 _ _ np2 g2)) .nil (by decide)) rfl
      · exact let_no (.seq (.inl (sE.1 _ _ np3 g3)) (paired_take rR 3) (by rw [List.length_take]; omega)) (pl_few (by rw [List.length_take]; omega))
      · exact let_no (.seq (.inl (sE.1 _ _ np7 g7)) (paired_app (paired_app rR (paired_take rR 4)) (paired_take rR 4)) (by rw [List.length_append, List.length_append, List.length_take]; omega)) (pl_many (by rw [List.length_append, List.length_append, List.length_take]; omega))
      · exact let_no (.no (.dK (sE.1 _ _ np8 g8))) rfl
      · exact let_no (.no (.ins (sE.1 _ _ npc gp) T.t.pc)) rfl
      · exact let_no (.no (.bl _)) rfl
      · have hb : rowB (ts.map V.ref) = false := by
          show (decide ((ts.map V.ref).length = 2) && _) = false
          rw [decide_eq_false (by omega : ¬ (ts.map V.ref).length = 2), Bool.false_and]
        have ra : RowV K R0 (.ref a) false := by
          rw [← hb]
          refine .seq (.inl lpR.1) (fun y hy => ?_) (by omega)
          obtain ⟨g, q, rfl, _, hg⟩ := lpR.mem hy
          exact ⟨_, .tup hg⟩
        exact let_no (.seq (.inl (sE.1 _ _ np11 g11)) (.cons ra .nil) (by show 1 ≤ 100; decide)) rfl
      · exact let_no (.seq (.inl (sE.1 _ _ np12 g12)) (.cons (.no (.int _)) (.cons (.no (.int _)) (.cons (.no (.int _)) (.cons (.no (.int _)) (.cons (.no (.int _)) (.cons (.no (.int _)) (.cons (.no (.int _)) (.cons (.no (.int _)) .nil)))))))) (by decide)) rfl
    refine ⟨_, false, rfl, lx, fun R1 sR => ⟨_, _, rfl, rfl, _, rfl, iteF ?_⟩⟩
    have s0R : SB p H R1 := s0R.trans (SB.of sR)
    have vR : Lens R1 p (n + 5) := vE.same sR
    have q : ∀ H', Same R1 H' → Q (.bl true) H' := fun H' s => q H' (s0R.trans (SB.of s)) (vR.same s)
    clear rR lpR lx hx sE vE sB la g1 g2 g3 g7 g8 gp g11 g12 g13 hr sR s0L lpL v12 lpN
    have rowt : ∀ {H' : Hp} {t : Addr}, H' t = some (.tup [V.int 0, V.int 0]) → RowV K H' (.ref t) true := fun {H' t} e => by
      have z : rowB [V.int 0, V.int 0] = true := rowB_in (p := (0, 0)) ⟨by decide, by decide, by decide, by decide⟩
      rw [← z]
      exact .seq (.inr e) two_int (by show 2 ≤ 100; decide)
    refine ⟨by show 2 ≤ sizeLine; decide, fun t nt => ⟨by show 1 ≤ sizeLine; decide, fun l nl => ⟨l, 3, _, rfl, rfl, upd_same, by decide, by decide, by show 3 ≤ sizeLine; decide, fun c nc => ?_⟩⟩⟩
    have st := same_new (o := .tup [V.int 0, V.int 0]) nt
    have sl := same_new (o := .lst [V.ref t]) nl
    have sc := same_new (o := .lst (List.replicate (Int.toNat 3) [V.ref t]).flatten) nc
    have sR2 := st.trans (sl.trans sc)
    refine ⟨_, false, rfl, let_no (.seq (.inl upd_same) (paired_rep (rowt (sc _ _ (sl _ _ upd_same))) 3) (by show 3 ≤ 100; decide)) (pl_few (by show 3 < 4; decide)), fun R2 sR => ⟨_, _, rfl, rfl, _, rfl, iteF ?_⟩⟩
    have sR2 : Same R1 R2 := sR2.trans sR
    clear st sl sc nt nl nc sR
    refine ⟨by show 2 ≤ sizeLine; decide, fun t nt => ⟨by show 1 ≤ sizeLine; decide, fun l nl => ⟨l, 8, _, rfl, rfl, upd_same, by decide, by decide, by show 8 ≤ sizeLine; decide, fun c nc => ?_⟩⟩⟩
    have st := same_new (o := .tup [V.int 0, V.int 0]) nt
    have sl := same_new (o := .lst [V.ref t]) nl
    have sc := same_new (o := .lst (List.replicate (Int.toNat 8) [V.ref t]).flatten) nc
    have sR3 := st.trans (sl.trans sc)
    refine ⟨_, false, rfl, let_no (.seq (.inl upd_same) (paired_rep (rowt (sc _ _ (sl _ _ upd_same))) 8) (by show 8 ≤ 100; decide)) (pl_many (by show 7 < 8; decide)), fun R3 sR => ⟨_, _, rfl, rfl, _, rfl, iteF ?_⟩⟩
    have sR3 : Same R1 R3 := sR2.trans (sR3.trans sR)
    clear st sl sc nt nl nc sR
    refine ⟨_, _, rfl, rfl, ⟨by decide, by decide, by decide⟩, _, _, rfl, rfl, ⟨by decide, by decide, by decide⟩, _, rfl, by show 2 ≤ sizeLine; decide, fun t1 nt => ⟨by show 1 ≤ sizeLine; decide, fun l1 nl => ⟨l1, 4, _, rfl, rfl, upd_same, by decide, by decide, by show 4 ≤ sizeLine; decide, fun e1 nc => ?_⟩⟩⟩
    have st := same_new (o := .tup [V.int ((10 : Int) ^ (Int.toNat 9)), V.int (-(10 : Int) ^ (Int.toNat 9))]) nt
    have sl := same_new (o := .lst [V.ref t1]) nl
    have sc := same_new (o := .lst (List.replicate (Int.toNat 4) [V.ref t1]).flatten) nc
    have ft1 := sc _ _ (sl _ _ (show upd R3 t1 (.tup [V.int ((10 : Int) ^ (Int.toNat 9)), V.int (-(10 : Int) ^ (Int.toNat 9))]) t1 = some (.tup [V.int ((10 : Int) ^ (Int.toNat 9)), V.int (-(10 : Int) ^ (Int.toNat 9))]) from upd_same))
    have fe1 : upd (upd (upd R3 t1 (.tup [V.int ((10 : Int) ^ (Int.toNat 9)), V.int (-(10 : Int) ^ (Int.toNat 9))])) l1 (.lst [V.ref t1])) e1 (.lst (List.replicate (Int.toNat 4) [V.ref t1]).flatten) e1 = some (.lst (List.replicate (Int.toNat 4) [V.ref t1]).flatten) := upd_same
    have sS1 := st.trans (sl.trans sc)
    generalize upd (upd (upd R3 t1 (.tup [V.int ((10 : Int) ^ (Int.toNat 9)), V.int (-(10 : Int) ^ (Int.toNat 9))])) l1 (.lst [V.ref t1])) e1 (.lst (List.replicate (Int.toNat 4) [V.ref t1]).flatten) = S1 at ft1 fe1 sS1 ⊢
    clear st sl sc nt nl nc
    refine ⟨_, _, rfl, rfl, ⟨by decide, by decide, by decide⟩, _, rfl, _, _, rfl, rfl, ⟨by decide, by decide, by decide⟩, by show 2 ≤ sizeLine; decide, fun t2 nt => ⟨by show 1 ≤ sizeLine; decide, fun l2 nl => ⟨l2, 7, _, rfl, rfl, upd_same, by decide, by decide, by show 7 ≤ sizeLine; decide, fun e2 nc => ?_⟩⟩⟩
    have st := same_new (o := .tup [V.int (-(10 : Int) ^ (Int.toNat 9)), V.int ((10 : Int) ^ (Int.toNat 9))]) nt
    have sl := same_new (o := .lst [V.ref t2]) nl
    have sc := same_new (o := .lst (List.replicate (Int.toNat 7) [V.ref t2]).flatten) nc
    have ft2 := sc _ _ (sl _ _ (show upd S1 t2 (.tup [V.int (-(10 : Int) ^ (Int.toNat 9)), V.int ((10 : Int) ^ (Int.toNat 9))]) t2 = some (.tup [V.int (-(10 : Int) ^ (Int.toNat 9)), V.int ((10 : Int) ^ (Int.toNat 9))]) from upd_same))
    have fe2 : upd (upd (upd S1 t2 (.tup [V.int (-(10 : Int) ^ (Int.toNat 9)), V.int ((10 : Int) ^ (Int.toNat 9))])) l2 (.lst [V.ref t2])) e2 (.lst (List.replicate (Int.toNat 7) [V.ref t2]).flatten) e2 = some (.lst (List.replicate (Int.toNat 7) [V.ref t2]).flatten) := upd_same
    have sS2 := st.trans (sl.trans sc)
    generalize upd (upd (upd S1 t2 (.tup [V.int (-(10 : Int) ^ (Int.toNat 9)), V.int ((10 : Int) ^ (Int.toNat 9))])) l2 (.lst [V.ref t2])) e2 (.lst (List.replicate (Int.toNat 7) [V.ref t2]).flatten) = S2 at ft2 fe2 sS2 ⊢
    clear st sl sc nt nl nc
    refine ⟨by show 2 ≤ sizeLine; decide, fun t3 nt => ⟨by show 1 ≤ sizeLine; decide, fun l3 nl => ⟨l3, 5, _, rfl, rfl, upd_same, by decide, by decide, by show 5 ≤ sizeLine; decide, fun e3 nc => ?_⟩⟩⟩
    have st := same_new (o := .lst [V.int 0, V.int 0]) nt
    have sl := same_new (o := .lst [V.ref t3]) nl
    have sc := same_new (o := .lst (List.replicate (Int.toNat 5) [V.ref t3]).flatten) nc
    have ft3 := sc _ _ (sl _ _ (show upd S2 t3 (.lst [V.int 0, V.int 0]) t3 = some (.lst [V.int 0, V.int 0]) from upd_same))
    have fe3 : upd (upd (upd S2 t3 (.lst [V.int 0, V.int 0])) l3 (.lst [V.ref t3])) e3 (.lst (List.replicate (Int.toNat 5) [V.ref t3]).flatten) e3 = some (.lst (List.replicate (Int.toNat 5) [V.ref t3]).flatten) := upd_same
    have sS3 := st.trans (sl.trans sc)
    generalize upd (upd (upd S2 t3 (.lst [V.int 0, V.int 0])) l3 (.lst [V.ref t3])) e3 (.lst (List.replicate (Int.toNat 5) [V.ref t3]).flatten) = S3 at ft3 fe3 sS3 ⊢
    clear st sl sc nt nl nc
    refine ⟨by show 3 ≤ sizeLine; decide, fun ee nee => ?_⟩
    have s4 := same_new (o := .lst [V.ref e1, V.ref e2, V.ref e3]) nee
    have ge : upd S3 ee (.lst [V.ref e1, V.ref e2, V.ref e3]) ee = some (.lst [V.ref e1, V.ref e2, V.ref e3]) := upd_same
    have sS : Same R1 (upd S3 ee (.lst [V.ref e1, V.ref e2, V.ref e3])) := sR3.trans (sS1.trans (sS2.trans (sS3.trans s4)))
    have s34 := sS3.trans s4
    have s24 := sS2.trans s34
    rw [e9] at ft1 ft2
    have hx : ∀ x ∈ [V.ref e1, V.ref e2, V.ref e3], ∃ qs, Pls (upd S3 ee (.lst [V.ref e1, V.ref e2, V.ref e3])) x qs ∧ OkP qs := fun x hx => by
      simp only [List.mem_cons, List.not_mem_nil, or_false] at hx
      rcases hx with rfl | rfl | rfl
      · exact ⟨_, pls_rep (n := 4) (q := (1000000000, -1000000000)) (s24 _ _ fe1) ⟨_, rfl, .inr (s24 _ _ ft1)⟩, ok_rep (by decide) (by decide) ⟨by decide, by decide, by decide, by decide⟩⟩
      · exact ⟨_, pls_rep (n := 7) (q := (-1000000000, 1000000000)) (s34 _ _ fe2) ⟨_, rfl, .inr (s34 _ _ ft2)⟩, ok_rep (by decide) (by decide) ⟨by decide, by decide, by decide, by decide⟩⟩
      · exact ⟨_, pls_rep (n := 5) (q := (0, 0)) (s4 _ _ fe3) ⟨_, rfl, .inl (s4 _ _ ft3)⟩, ok_rep (by decide) (by decide) ⟨by decide, by decide, by decide, by decide⟩⟩
    generalize upd S3 ee (.lst [V.ref e1, V.ref e2, V.ref e3]) = S4 at ge sS hx ⊢
    refine ⟨_, rfl, ee, rfl, ⟨_, SqL.of ge⟩, fun E2 nE2 => ?_⟩
    refine lc_list (K := K) (a := ee) (xs := [V.ref e1, V.ref e2, V.ref e3]) (fun i => At S4 E2 []) ⟨same_new nE2, upd_same⟩ (fun i H' _ p => SqL.of (p.1 _ _ ge)) (fun j y H' hy p => ?_) (fun S5 p => ?_)
    · obtain ⟨qs, pls, okq⟩ := hx y (List.mem_of_getElem? hy)
      exact ⟨rfl, _, rfl, _, true, rfl, let_yes (pls.same p.1) okq, fun H2 s2 => ⟨_, _, rfl, rfl, _, rfl, iteF ⟨p.1.trans s2, s2 _ _ p.2⟩⟩⟩
    · refine ⟨Nat.zero_le _, fun l nl => ?_⟩
      have sl := same_new (o := .lst []) nl
      refine ⟨.list [], .list [], .lst (SqL.of (sl _ _ p.2)) .nil, .lst (SqL.of upd_same) .nil, by decide, by decide, ?_⟩
      exact q _ (sS.trans (p.1.trans sl))
end
end K11

namespace K11
open PySem PySem.Spec PyProof.Rows L2
def lineA : List (Int × Int) := [(0, 0), (1000000000, 1), (-1000000000, -1), (0, 0)]
def bentA : List (Int × Int) := [(0, 0), (1000000000, 1), (999999999, 1), (0, 0)]
theorem thin_of {xs ys : List Int} (h : ∀ j, j < xs.length → ∀ i, i < j → crs xs ys i j = 0) : thin xs ys := fun i j h1 h2 => h j h2 i h1
theorem line_thin : thin (sk 0 lineA) (sk 1 lineA) := thin_of (by decide)
theorem bent_not : ¬ thin (sk 0 bentA) (sk 1 bentA) := fun h => absurd (h 0 1 (by decide) (by decide)) (by decide)
theorem ok_line : OkP lineA := ⟨by decide, by decide, by decide⟩
theorem ok_bentA : OkP bentA := ⟨by decide, by decide, by decide⟩
section
variable {P : Program} {w : World} {K : PySem.W.Frag} {mg : Str → Option Value} {base : Heap} {C CB CS fB : Addr}
/-! ### law -/
def spLaw (K : PySem.W.Frag) : Sp := fun vs H Q _ => ∃ (a : Addr) (ns : List Int), vs = [.ref a] ∧ SqL K H a (ns.map V.int) ∧ ns.length ≤ 63 ∧ ∀ H', Q (.bl true) H'
abbrev sLaw : Stmt := top 49
abbrev nLaw : List Str := ["_law_script", "_law_lens_here", "_law_turn", "_law_places_here", "_law_line", "_law_bent"]
theorem scLaw : FnScope nLaw ["_law_script"] (defScope sLaw) := ⟨rfl, rfl, rfl, by decide +kernel, rfl, by decide +kernel, by decide +kernel⟩
theorem ok_law {f : Addr} {fd : FuncData} (F : Fun K "law" "law" sLaw f fd) (B : Bn mg) (T : Pc P w K mg base C CB) (C1 : Callee P w K mg base CX0 1 "_law_lens" ["_law_script"] (spLens K)) (C2 : Callee P w K mg base CX0 2 "_law_pick" ["_law_lens_here", "_law_some"] spPick) (C3 : Callee P w K mg base CX0 4 "_law_places" ["_law_lens_here", "_law_pins"] spPlc)
    (C4 : Callee P w K mg base CX0 8 "_law_made_right" ["_law_lens_here", "_law_places_here"] spMR) (C5 : Callee P w K mg base CX0 8 "_law_unlike_right" ["_law_lens_here", "_law_places_here"] spUR) (C6 : Callee P w K mg base CX0 9 "_law_refused_right" ["_law_lens_here", "_law_places_here"] spRR) : FnOk P w K mg base CX0 10 f fd ["_law_script"] (spLaw K) := by
  obtain ⟨f1, fd1, m1, k1, b1, G1⟩ := C1
  obtain ⟨f2, fd2, m2, k2, b2, G2⟩ := C2
  obtain ⟨f3, fd3, m3, k3, b3, G3⟩ := C3
  obtain ⟨f4, fd4, m4, k4, b4, G4⟩ := C4
  obtain ⟨f5, fd5, m5, k5, b5, G5⟩ := C5
  obtain ⟨f6, fd6, m6, k6, b6, G6⟩ := C6
  obtain ⟨fh, fdh, Mh, GH, bh⟩ := T.ph
  have cl := T.t.pc.cls
  have nd := scLaw.nd
  refine F.ok scLaw (fun vs H Q E h => ?_) (fun cdv A outer s H vs Q E hr h => ?_)
  · obtain ⟨a, ns, rfl, _⟩ := h
    rfl
  · obtain ⟨a, ns, rfl, hs, l63, q⟩ := h
    refine ⟨_, (pss_cons ((ps_set (i := 1) nd rfl (Or.inl rfl) ((pe_call G1 (hr.mono (by decide)) rfl m1 k1 b1 .nil pass0 (pa_cons (pv 0) pa_nil))))) (pss_cons (ps_for PassesOwn.never rfl (pi_range1 rfl B.range (pa_cons (pe_int) pa_nil)) (pg_name (i := 2) nd rfl (Or.inl rfl)) (pss_cons ((ps_set (i := 3) nd rfl (Or.inl rfl) ((pe_call G3 (hr.mono (by decide)) rfl m3 k3 b3 .nil pass0 (pa_cons (pv 1) (pa_cons ((pe_call G2 (hr.mono (by decide)) rfl m2 k2 b2 .nil pass0 (pa_cons (pv 1) (pa_cons (pe_lst (pa_cons (pe_int) (pa_cons (pe_int) (pa_cons (pe_int) (pa_cons (pe_int) pa_nil))))) pa_nil)))) pa_nil)))))) (pss_one (ps_if (PW.pt (pw_or (pt_not (pt_val (pe_call G4 (hr.mono (by decide)) rfl m4 k4 b4 .nil pass0 (pa_cons (pv 1) (pa_cons (pv 3) pa_nil))))) (pw_or (pt_not (pt_val (pe_call G5 (hr.mono (by decide)) rfl m5 k5 b5 .nil pass0 (pa_cons (pv 1) (pa_cons (pv 3) pa_nil))))) (pw_or1 (pt_not (pt_val (pe_call G6 (hr.mono (by decide)) rfl m6 k6 b6 .nil pass0 (pa_cons (pv 1) (pa_cons (pv 3) pa_nil))))))))) (pss_one (ps_ret pe_bl)) pss_nil)))) (pss_cons ((ps_set (i := 4) nd rfl (Or.inl rfl) ((pe_mkP (E := E0) T (hr.mono (by decide)) passL rfl (pa_cons (pe_lst (pa_cons (pe_tup (pa_cons (pe_int) (pa_cons (pe_int) pa_nil))) (pa_cons (pe_tup (pa_cons (pe_op op_pow pe_int pe_int) (pa_cons (pe_int) pa_nil))) (pa_cons (pe_tup (pa_cons (pe_un un_neg (pe_op op_pow pe_int pe_int)) (pa_cons (pe_un un_neg pe_int) pa_nil))) (pa_cons (pe_tup (pa_cons (pe_int) (pa_cons (pe_int) pa_nil))) pa_nil))))) pa_nil))))) (pss_cons ((ps_set (i := 5) nd rfl (Or.inl rfl) ((pe_mkP (E := E0) T (hr.mono (by decide)) passL rfl (pa_cons (pe_lst (pa_cons (pe_tup (pa_cons (pe_int) (pa_cons (pe_int) pa_nil))) (pa_cons (pe_tup (pa_cons (pe_op op_pow pe_int pe_int) (pa_cons (pe_int) pa_nil))) (pa_cons (pe_tup (pa_cons (pe_op op_sub (pe_op op_pow pe_int pe_int) pe_int) (pa_cons (pe_int) pa_nil))) (pa_cons (pe_tup (pa_cons (pe_int) (pa_cons (pe_int) pa_nil))) pa_nil))))) pa_nil))))) (pss_one (ps_ret (pe_and (pe_cmpR op_isBl (pe_meth0 (pv 4) cl Mh GH (hr.mono (by decide)) bh .nil pass0) pe_bl (nomark _)) (pe_and (pe_cmpR op_isBl (pe_meth0 (pv 5) cl Mh GH (hr.mono (by decide)) bh .nil pass0) pe_bl (nomark _)) (pe_one ((pe_cmpR (op_eqD hr.units) (pe_fld (pv 5) rfl) (pe_tup (pa_cons (pe_tup (pa_cons (pe_op op_pow pe_int pe_int) (pa_cons (pe_op op_sub (pe_op op_pow pe_int pe_int) pe_int) (pa_cons (pe_int) pa_nil)))) (pa_cons (pe_tup (pa_cons (pe_int) (pa_cons (pe_int) (pa_cons (pe_int) pa_nil)))) pa_nil))) (nomark _)))))))))))), ?_⟩
    refine ⟨_, rfl, a, ns, rfl, hs, l63, fun H1 p s1 n1 v1 => ?_⟩
    refine ⟨3, rfl, by decide, by decide, ?_⟩
    refine for_range (lo := 0) (n := 3) (fun i σ H' => Lens H' p (100 * i) ∧ ∃ c2 c3, σ = [some (.ref a), some (.ref p), c2, c3, none, none]) ⟨v1, _, _, rfl⟩ (fun i σ H' hi pv => ?_) (fun σ H' pv => ?_)
    · obtain ⟨v, c2, c3, rfl⟩ := pv
      refine ⟨_, rfl, _, rfl, by show 4 ≤ sizeLine; decide, fun l nl => ?_⟩
      have sl := same_new (o := .lst [V.int 4, V.int 5, V.int 7, V.int 6]) nl
      have nlp := v.not_none nl
      refine ⟨p, l, _, _, rfl, v.same sl, by omega, upd_same, nlp, by show 0 < 4; decide, by show 4 ≤ 1000; decide, fun H2 x s2 v2 hx => ?_⟩
      obtain ⟨k, rfl, k4, k7⟩ : ∃ k : Nat, x = .int k ∧ 4 ≤ k ∧ k ≤ 7 := by
        simp only [List.mem_cons, List.not_mem_nil, or_false] at hx
        rcases hx with rfl | rfl | rfl | rfl
        · exact ⟨4, rfl, by decide, by decide⟩
        · exact ⟨5, rfl, by decide, by decide⟩
        · exact ⟨7, rfl, by decide, by decide⟩
        · exact ⟨6, rfl, by decide, by decide⟩
      refine ⟨p, k, _, rfl, v2, by omega, k4, k7, fun H3 b ts ps s3 v3 nb lp ok => ?_⟩
      refine ⟨_, rfl, _, rfl, .ref p, b, ts, ps, rfl, lp, ok, fun H4 s4 => ⟨_, rfl, iteF ?_⟩⟩
      have v4 := v3.same s4
      have lp4 := lp.same s4
      refine ⟨_, rfl, _, rfl, p, b, _, ts, ps, rfl, v4, by omega, nb, lp4, ok, fun H5 s5 v5 => ⟨_, rfl, iteF ?_⟩⟩
      refine ⟨_, rfl, _, rfl, p, b, _, ts, ps, rfl, v5, by omega, nb, lp4.sb v4 nb s5, ok, fun H6 s6 v6 => ⟨_, rfl, iteF ⟨v6.le (by omega), _, _, rfl⟩⟩⟩
    · obtain ⟨v, c2, c3, rfl⟩ := pv
      have e9 : (10 : Int) ^ (Int.toNat 9) = 1000000000 := by decide
      have e8 : (10 : Int) ^ (Int.toNat 9) - 1 = 999999999 := by decide
      obtain ⟨vc, vx, vy, hq0⟩ := v.at
      refine ⟨by show 2 ≤ sizeLine; decide, fun u1 n1 => ?_⟩
      have s1 := same_new (o := .tup [V.int 0, V.int 0]) n1
      have g1 : upd H' u1 (.tup [V.int 0, V.int 0]) u1 = some (.tup [V.int 0, V.int 0]) := upd_same
      have np1 : u1 ≠ p := (ne_of_none hq0 n1).symm
      have hq1 := s1 _ _ hq0
      generalize upd H' u1 (.tup [V.int 0, V.int 0]) = M1 at s1 g1 hq1 ⊢
      refine ⟨_, _, rfl, rfl, ⟨by decide, by decide, by decide⟩, by show 2 ≤ sizeLine; decide, fun u2 n2 => ?_⟩
      have s2 := same_new (o := .tup [V.int ((10 : Int) ^ (Int.toNat 9)), V.int 1]) n2
      have g2 : upd M1 u2 (.tup [V.int ((10 : Int) ^ (Int.toNat 9)), V.int 1]) u2 = some (.tup [V.int ((10 : Int) ^ (Int.toNat 9)), V.int 1]) := upd_same
      have np2 : u2 ≠ p := (ne_of_none hq1 n2).symm
      have hq2 := s2 _ _ hq1
      generalize upd M1 u2 (.tup [V.int ((10 : Int) ^ (Int.toNat 9)), V.int 1]) = M2 at s2 g2 hq2 ⊢
      refine ⟨_, _, rfl, rfl, ⟨by decide, by decide, by decide⟩, _, rfl, _, rfl, by show 2 ≤ sizeLine; decide, fun u3 n3 => ?_⟩
      have s3 := same_new (o := .tup [V.int (-((10 : Int) ^ (Int.toNat 9))), V.int (-1)]) n3
      have g3 : upd M2 u3 (.tup [V.int (-((10 : Int) ^ (Int.toNat 9))), V.int (-1)]) u3 = some (.tup [V.int (-((10 : Int) ^ (Int.toNat 9))), V.int (-1)]) := upd_same
      have np3 : u3 ≠ p := (ne_of_none hq2 n3).symm
      have hq3 := s3 _ _ hq2
      generalize upd M2 u3 (.tup [V.int (-((10 : Int) ^ (Int.toNat 9))), V.int (-1)]) = M3 at s3 g3 hq3 ⊢
      refine ⟨by show 2 ≤ sizeLine; decide, fun u4 n4 => ?_⟩
      have s4 := same_new (o := .tup [V.int 0, V.int 0]) n4
      have g4 : upd M3 u4 (.tup [V.int 0, V.int 0]) u4 = some (.tup [V.int 0, V.int 0]) := upd_same
      have np4 : u4 ≠ p := (ne_of_none hq3 n4).symm
      have hq4 := s4 _ _ hq3
      generalize upd M3 u4 (.tup [V.int 0, V.int 0]) = M4 at s4 g4 hq4 ⊢
      refine ⟨by show 4 ≤ sizeLine; decide, fun u5 n5 => ?_⟩
      have s5 := same_new (o := .lst [V.ref u1, V.ref u2, V.ref u3, V.ref u4]) n5
      have g5 : upd M4 u5 (.lst [V.ref u1, V.ref u2, V.ref u3, V.ref u4]) u5 = some (.lst [V.ref u1, V.ref u2, V.ref u3, V.ref u4]) := upd_same
      have np5 : u5 ≠ p := (ne_of_none hq4 n5).symm
      have hq5 := s5 _ _ hq4
      generalize upd M4 u5 (.lst [V.ref u1, V.ref u2, V.ref u3, V.ref u4]) = M5 at s5 g5 hq5 ⊢
      have sA : Same H' M5 := ((((s1).trans s2).trans s3).trans s4).trans s5
      have z1 := s5 _ _ (s4 _ _ (s3 _ _ (s2 _ _ (g1))))
      have z2 := s5 _ _ (s4 _ _ (s3 _ _ (g2)))
      have z3 := s5 _ _ (s4 _ _ (g3))
      have z4 := s5 _ _ (g4)
      have z5 := g5
      rw [e9] at z2 z3
      have lpA : LP M5 u5 [u1, u2, u3, u4] lineA := ⟨z5, .cons z1 (.cons z2 (.cons z3 (.cons z4 .nil)))⟩
      refine ⟨_, rfl, .inl ⟨lineA, lpA.pls, ok_line, fun pl M6 sL nL pfL => ?_⟩⟩
      have hq6 := sL _ _ hq5
      refine ⟨by show 2 ≤ sizeLine; decide, fun u7 n7 => ?_⟩
      have s7 := same_new (o := .tup [V.int 0, V.int 0]) n7
      have g7 : upd M6 u7 (.tup [V.int 0, V.int 0]) u7 = some (.tup [V.int 0, V.int 0]) := upd_same
      have np7 : u7 ≠ p := (ne_of_none hq6 n7).symm
      have hq7 := s7 _ _ hq6
      generalize upd M6 u7 (.tup [V.int 0, V.int 0]) = M7 at s7 g7 hq7 ⊢
      refine ⟨_, _, rfl, rfl, ⟨by decide, by decide, by decide⟩, by show 2 ≤ sizeLine; decide, fun u8 n8 => ?_⟩
      have s8 := same_new (o := .tup [V.int ((10 : Int) ^ (Int.toNat 9)), V.int 1]) n8
      have g8 : upd M7 u8 (.tup [V.int ((10 : Int) ^ (Int.toNat 9)), V.int 1]) u8 = some (.tup [V.int ((10 : Int) ^ (Int.toNat 9)), V.int 1]) := upd_same
      have np8 : u8 ≠ p := (ne_of_none hq7 n8).symm
      have hq8 := s8 _ _ hq7
      generalize upd M7 u8 (.tup [V.int ((10 : Int) ^ (Int.toNat 9)), V.int 1]) = M8 at s8 g8 hq8 ⊢
      refine ⟨_, _, rfl, rfl, ⟨by decide, by decide, by decide⟩, _, _, rfl, rfl, by show 2 ≤ sizeLine; decide, fun u9 n9 => ?_⟩
      have s9 := same_new (o := .tup [V.int ((10 : Int) ^ (Int.toNat 9) - 1), V.int 1]) n9
      have g9 : upd M8 u9 (.tup [V.int ((10 : Int) ^ (Int.toNat 9) - 1), V.int 1]) u9 = some (.tup [V.int ((10 : Int) ^ (Int.toNat 9) - 1), V.int 1]) := upd_same
      have np9 : u9 ≠ p := (ne_of_none hq8 n9).symm
      have hq9 := s9 _ _ hq8
      generalize upd M8 u9 (.tup [V.int ((10 : Int) ^ (Int.toNat 9) - 1), V.int 1]) = M9 at s9 g9 hq9 ⊢
      refine ⟨by show 2 ≤ sizeLine; decide, fun u10 n10 => ?_⟩
      have s10 := same_new (o := .tup [V.int 0, V.int 0]) n10
      have g10 : upd M9 u10 (.tup [V.int 0, V.int 0]) u10 = some (.tup [V.int 0, V.int 0]) := upd_same
      have np10 : u10 ≠ p := (ne_of_none hq9 n10).symm
      have hq10 := s10 _ _ hq9
      generalize upd M9 u10 (.tup [V.int 0, V.int 0]) = M10 at s10 g10 hq10 ⊢
      refine ⟨by show 4 ≤ sizeLine; decide, fun u11 n11 => ?_⟩
      have s11 := same_new (o := .lst [V.ref u7, V.ref u8, V.ref u9, V.ref u10]) n11
      have g11 : upd M10 u11 (.lst [V.ref u7, V.ref u8, V.ref u9, V.ref u10]) u11 = some (.lst [V.ref u7, V.ref u8, V.ref u9, V.ref u10]) := upd_same
      have np11 : u11 ≠ p := (ne_of_none hq10 n11).symm
      have hq11 := s11 _ _ hq10
      generalize upd M10 u11 (.lst [V.ref u7, V.ref u8, V.ref u9, V.ref u10]) = M11 at s11 g11 hq11 ⊢
      have sA : Same M6 M11 := ((((s7).trans s8).trans s9).trans s10).trans s11
      have z7 := s11 _ _ (s10 _ _ (s9 _ _ (s8 _ _ (g7))))
      have z8 := s11 _ _ (s10 _ _ (s9 _ _ (g8)))
      have z9 := s11 _ _ (s10 _ _ (g9))
      have z10 := s11 _ _ (g10)
      have z11 := g11
      rw [e9] at z8
      rw [e8] at z9
      have lpB : LP M11 u11 [u7, u8, u9, u10] bentA := ⟨z11, .cons z7 (.cons z8 (.cons z9 (.cons z10 .nil)))⟩
      refine ⟨_, rfl, .inl ⟨bentA, lpB.pls, ok_bentA, fun pb M12 sB nB pfB => ?_⟩⟩
      have pfL := pfL.same (sA.trans sB)
      obtain ⟨dl, _, _, hl, _⟩ := id pfL
      refine ⟨_, rfl, pl, dl, _, rfl, hl, rfl, pl, lineA, rfl, pfL, ok_line, fun _ M13 s13 => ⟨_, _, rfl, rfl, _, rfl, iteT ?_⟩, fun nt => absurd line_thin nt⟩
      have pfB := pfB.same s13
      obtain ⟨db, _, _, hb, _⟩ := id pfB
      refine ⟨_, rfl, pb, db, _, rfl, hb, rfl, pb, bentA, rfl, pfB, ok_bentA, fun th => absurd th bent_not, fun _ M14 s14 => ⟨_, _, rfl, rfl, _, rfl, iteT ?_⟩⟩
      obtain ⟨dx, t, u, hp, _, r0, r1, hu, h0, h1⟩ := pfB.same s14
      have k0 : sk 0 bentA = [1000000000, 999999999, 0] := by decide
      have k1 : sk 1 bentA = [1, 1, 0] := by decide
      rw [k0] at h0
      rw [k1] at h1
      refine ⟨_, rfl, pb, C, dx, _, .ref u, rfl, hp, cl, T.t.n3, rfl, ?_⟩
      refine ⟨_, _, rfl, rfl, ⟨by decide, by decide, by decide⟩, _, _, rfl, rfl, ⟨by decide, by decide, by decide⟩, _, _, rfl, rfl, by show 3 ≤ sizeLine; decide, fun w0 nw0 => ?_⟩
      have sw0 := same_new (o := .tup [V.int ((10 : Int) ^ (Int.toNat 9)), V.int ((10 : Int) ^ (Int.toNat 9) - 1), V.int 0]) nw0
      have gw0 : upd M14 w0 (.tup [V.int ((10 : Int) ^ (Int.toNat 9)), V.int ((10 : Int) ^ (Int.toNat 9) - 1), V.int 0]) w0 = some (.tup [V.int ((10 : Int) ^ (Int.toNat 9)), V.int ((10 : Int) ^ (Int.toNat 9) - 1), V.int 0]) := upd_same
      rw [e8, e9] at gw0
      refine ⟨by show 3 ≤ sizeLine; decide, fun w1 nw1 => ?_⟩
      have sw1 := same_new (o := .tup [V.int 1, V.int 1, V.int 0]) nw1
      refine ⟨by show 2 ≤ sizeLine; decide, fun w2 nw2 => ?_⟩
      have sw2 := same_new (o := .tup [V.ref w0, V.ref w1]) nw2
      have sw := sw0.trans (sw1.trans sw2)
      refine ⟨.tuple [.tuple ([1000000000, 999999999, 0].map PyData.int), .tuple ([1, 1, 0].map PyData.int)], .tuple [.tuple ([1000000000, 999999999, 0].map PyData.int), .tuple ([1, 1, 0].map PyData.int)],
        .tup (SqT.of (sw _ _ hu)) (.cons (.tup (SqT.of (sw _ _ h0)) (dp_ints _)) (.cons (.tup (SqT.of (sw _ _ h1)) (dp_ints _)) .nil)),
        .tup (SqT.of upd_same) (.cons (.tup (xs := [1000000000, 999999999, 0].map V.int) (SqT.of (sw2 _ _ (sw1 _ _ gw0))) (dp_ints _)) (.cons (.tup (xs := [1, 1, 0].map V.int) (SqT.of (sw2 _ _ upd_same)) (dp_ints _)) .nil)), by decide, by decide, ?_⟩
      exact q _
end
end K11

namespace K11
open PySem PySem.Spec PyProof.Rows L2
/-! ### what the written part says, looked up at once -/
def oexB (K : PySem.W.Frag) (C : Addr) : Bool := match K.lookup C with
  | some ⟨.type "type", _, .cls cd, sl⟩ => (match cd.mro, sl.toList with
    | .ref C' :: bm, [_, _, _, _, some (.builtin n), _] => C' == C && n == "ValueError.__new__" && !cd.hasDel && cd.hasDict && PySem.HandSPX.refsVE bm
    | _, _ => false)
  | _ => false
theorem oexB_ok {K : PySem.W.Frag} {C : Addr} (q : oexB K C = true) : ∃ nm qn N bs bm sn sub ab col dd k0 k1 k2 k3 k5, K.lookup C = some (excClassObj nm qn C N bs bm true sn sub ab col dd k0 k1 k2 k3 k5 "ValueError.__new__") ∧ PySem.HandSPX.refsVE bm = true := by
  unfold oexB at q
  split at q
  · rename_i dd cd sl ho
    split at q
    · rename_i C' bm k0 k1 k2 k3 n k5 hm hs
      simp only [Bool.and_eq_true, beq_iff_eq, Bool.not_eq_true'] at q
      obtain ⟨⟨⟨⟨rfl, rfl⟩, hdel⟩, hd⟩, ht⟩ := q
      obtain ⟨nm, bs, mro, ns, qn, hdc, sn, sub, ab, col, del⟩ := cd
      dsimp only at hm hdel hd
      subst hm hdel hd
      have hsl : sl = #[k0, k1, k2, k3, some (.builtin "ValueError.__new__"), k5] := by
        obtain ⟨l⟩ := sl
        simp only at hs
        rw [hs]
      subst hsl
      exact ⟨nm, qn, ns, bs, bm, sn, sub, ab, col, dd, k0, k1, k2, k3, k5, ho, ht⟩
    · cases q
  · cases q
def badB (K : PySem.W.Frag) (C CS : Addr) : Bool := oexB K C && (decide (PySem.W.findIn K (.ref C) "__setattr__" = some (some (.builtin "object.__setattr__"))) && (decide (PySem.W.subIn K (.ref C) (.type "BaseException") = some true) && (decide (PySem.W.typeIn K (.ref C) = some (.type "type")) && (PySem.W.keepIn K (.ref C) &&
  (decide (PySem.W.findIn K (.ref C) "__getattribute__" = some (some (.builtin "BaseException.__getattribute__"))) && (decide (PySem.W.findIn K (.ref C) "__getattr__" = some none) && (PySem.W.hasDictIn K C && (decide (PySem.W.findIn K (.ref C) "__class__" = some (some (.builtin "object.__class__"))) &&
  (decide (PySem.W.specialIn K (.builtin "object.__class__") "__get__" = some (some (.builtin "getset_descriptor.__get__"))) && (decide (PySem.W.takesIn K (.builtin "object.__class__") = some true) && (decide (PySem.W.mroIn K C (.type "object") = some true) &&
  (decide (PySem.W.findIn K (.ref C) "part" = some none) && decide (PySem.W.exmOne K (.ref C) (.ref CS) = some true)))))))))))))
theorem badB_ok {K : PySem.W.Frag} {C CS : Addr} (h : badB K C CS = true) : OexC K C ∧ ExcC K C ∧ XfC K C ∧ PySem.W.findIn K (.ref C) "part" = some none ∧ PySem.W.exmOne K (.ref C) (.ref CS) = some true := by
  unfold badB at h
  simp only [Bool.and_eq_true, decide_eq_true_eq] at h
  obtain ⟨h0, h1, h2, h3, h4, h5, h6, h7, h8, h9, h10, h11, h12, h13⟩ := h
  exact ⟨⟨oexB_ok h0, h1, h2, h3, h4⟩, ⟨h5, h6, h2, h7, h8, h9, h10, h11⟩, ⟨h5, h6, h2, h7⟩, h12, h13⟩
def picB (K : PySem.W.Frag) (C : Addr) : Bool := PySem.W.plainGet K C Str.empty && (PySem.W.hasDictIn K C && (PySem.W.plainOver K C && (decide (PySem.W.findIn K (.ref C) "__setattr__" = some (some (.builtin "object.__setattr__"))) && (decide (PySem.W.findIn K (.ref C) "__class__" = some (some (.builtin "object.__class__"))) &&
  (decide (PySem.W.specialIn K (.builtin "object.__class__") "__get__" = some (some (.builtin "getset_descriptor.__get__"))) && (decide (PySem.W.takesIn K (.builtin "object.__class__") = some true) && (decide (PySem.W.mroIn K C (.type "object") = some true) &&
  (decide (PySem.W.kitOne K (.ref C) (.type "int") = some false) && (decide (PySem.W.kitOne K (.ref C) (.type "bool") = some false) && (decide (PySem.W.kitOne K (.ref C) (.type "tuple") = some false) && (decide (PySem.W.kitAny K (.ref C) [.type "list", .type "tuple"] = some false) &&
  (decide (PySem.W.findIn K (.ref C) "places" = some none) && (decide (PySem.W.findIn K (.ref C) "pins" = some none) && (decide (PySem.W.findIn K (.ref C) "rows" = some none) && (decide (PySem.W.findIn K (.ref C) "__ne__" = some (some (.builtin "object.__ne__"))) &&
  (PySem.W.makesIn K C && (PySem.W.keepIn K (.ref C) && (["NoneType", "str", "list", "tuple"].all fun t => decide (PySem.W.kitOne K (.type t) (.ref C) = some false) && PySem.W.notFirst K C (.type t)))))))))))))))))))
theorem picB_ok {K : PySem.W.Frag} {C : Addr} (h : picB K C = true) : PicT K C ∧ PicN K C ∧ PySem.W.makesIn K C = true ∧ PySem.W.keepIn K (.ref C) = true := by
  unfold picB at h
  rw [Bool.and_eq_true, Bool.and_eq_true, Bool.and_eq_true, Bool.and_eq_true, Bool.and_eq_true, Bool.and_eq_true, Bool.and_eq_true, Bool.and_eq_true, Bool.and_eq_true, Bool.and_eq_true, Bool.and_eq_true, Bool.and_eq_true, Bool.and_eq_true, Bool.and_eq_true, Bool.and_eq_true, Bool.and_eq_true, Bool.and_eq_true, Bool.and_eq_true] at h
  obtain ⟨h0, h1, h2, h3, h4, h5, h6, h7, h8, h9, h10, h11, h12, h13, h14, h15, h16, h17, h18⟩ := h
  refine ⟨⟨⟨⟨h0, h1, h2, of_decide_eq_true h3⟩, of_decide_eq_true h4, of_decide_eq_true h5, of_decide_eq_true h6, of_decide_eq_true h7, of_decide_eq_true h8, of_decide_eq_true h9, of_decide_eq_true h10, of_decide_eq_true h11⟩, (show PySem.W.findIn K (.ref C) "places" = some none from of_decide_eq_true h12), (show PySem.W.findIn K (.ref C) "pins" = some none from of_decide_eq_true h13), (show PySem.W.findIn K (.ref C) "rows" = some none from of_decide_eq_true h14)⟩, ⟨fun t ht => ?_, of_decide_eq_true h15⟩, h16, h17⟩
  have z := List.all_eq_true.mp h18 t ht
  rw [Bool.and_eq_true] at z
  exact ⟨of_decide_eq_true z.1, z.2⟩
theorem kbn11 {K : PySem.W.Frag} {fd : FuncData} {ps ks : List Str} {n : Nat} (h : ∀ us ws : List Value, us.length = n → ws.length = ks.length → bindArgs fd ⟨us, ks.zip ws⟩ = pure (ps.zip (us ++ ws))) : KBn K fd ps n ks (fun us ws => us ++ ws) (fun vs zs => vs ++ zs) where
  to := fun s us ws _ l1 l2 => .of_eq (h us ws l1 l2)
  rel := fun r z => r.append z
theorem all_mk {l : PySem.W.OpenLaw} {w : World} {K : PySem.W.Frag} {h : Heap} {mg : Str → Option Value} {fa : Addr} {C CB CS f9 f10 f11 f16 f17 f18 f19 f21 f23 f37 f38 f39 f40 f41 f42 f43 f44 f45 f46 f47 f48 fB fI fE fS fP fH : Addr} {od9 an9 od10 an10 od11 an11 od16 an16 od17 an17 od18 an18 od19 an19 od21 an21 od23 an23 od37 an37 od38 an38 od39 an39 od40 an40 od41 an41 od42 an42 od43 an43 od44 an44 od45 an45 od46 an46 od47 an47 od48 an48 odB anB odI anI odE anE odS anS odP anP odH anH : Option Addr} {sl9 sl10 sl11 sl16 sl17 sl18 sl19 sl21 sl23 sl37 sl38 sl39 sl40 sl41 sl42 sl43 sl44 sl45 sl46 sl47 sl48 slB slI slE slS slP slH : Array (Option Value)} {oc9 kV9 dc9 pm9 cv9 ct9 oc10 kV10 dc10 pm10 cv10 ct10 oc11 kV11 dc11 pm11 cv11 ct11 oc16 kV16 dc16 pm16 cv16 ct16 oc17 kV17 dc17 pm17 cv17 ct17 oc18 kV18 dc18 pm18 cv18 ct18 oc19 kV19 dc19 pm19 cv19 ct19 oc21 kV21 dc21 pm21 cv21 ct21 oc23 kV23 dc23 pm23 cv23 ct23 oc37 kV37 dc37 pm37 cv37 ct37 oc38 kV38 dc38 pm38 cv38 ct38 oc39 kV39 dc39 pm39 cv39 ct39 oc40 kV40 dc40 pm40 cv40 ct40 oc41 kV41 dc41 pm41 cv41 ct41 oc42 kV42 dc42 pm42 cv42 ct42 oc43 kV43 dc43 pm43 cv43 ct43 oc44 kV44 dc44 pm44 cv44 ct44 oc45 kV45 dc45 pm45 cv45 ct45 oc46 kV46 dc46 pm46 cv46 ct46 oc47 kV47 dc47 pm47 cv47 ct47 oc48 kV48 dc48 pm48 cv48 ct48 ocB kVB dcB pmB cvB ctB ocI kVI dcI pmI cvI ctI ocE kVE dcE pmE cvE ctE ocS kVS dcS pmS cvS ctS ocP kVP dcP pmP cvP ctP ocH kVH dcH pmH cvH ctH : Value} {tL : Tok}
    (X : K.In h) (G : h.Ns mainGlobals mg) (hfa : mg "law" = some (.ref fa))
    (aC : PySem.W.nsIn K mainGlobals "Picture" = some (some (.ref C)))
    (aB : PySem.W.nsIn K mainGlobals "BadPicture" = some (some (.ref CB)))
    (aS : PySem.W.nsIn K mainGlobals "SeenError" = some (some (.ref CS)))
    (aL : PySem.W.nsIn K mainGlobals "LIMIT" = some (some (.int 1000000000 tL)))
    (iB : PySem.W.findIn K (.ref CB) "__init__" = some (some (.ref fB)))
    (tB : PySem.W.typeIn K (.ref fB) = some (.type "function"))
    (iI : PySem.W.findIn K (.ref C) "__init__" = some (some (.ref fI)))
    (nI : PySem.W.isFn K (.ref fI) = true)
    (iE : PySem.W.findIn K (.ref C) "__eq__" = some (some (.ref fE)))
    (nE : PySem.W.isFn K (.ref fE) = true)
    (iS : PySem.W.findIn K (.ref C) "__str__" = some (some (.ref fS)))
    (nS : PySem.W.isFn K (.ref fS) = true)
    (iP : PySem.W.findIn K (.ref C) "products" = some (some (.ref fP)))
    (nP : PySem.W.isFn K (.ref fP) = true)
    (iH : PySem.W.findIn K (.ref C) "is_thin" = some (some (.ref fH)))
    (nH : PySem.W.isFn K (.ref fH) = true)
    (lB : K.lookup fB = some ⟨ocB, odB, .func (PySem.W.fnOf "__init__" "BadPicture.__init__" (defArgs sBI) (defBody sBI) (defScope sBI) .none kVB dcB pmB anB cvB ctB), slB⟩)
    (cB : PySem.W.codeIn K cvB "BadPicture.__init__" = true)
    (kB : PySem.W.keepIn K (.ref fB) = true)
    (lI : K.lookup fI = some ⟨ocI, odI, .func (PySem.W.fnOf "__init__" "Picture.__init__" (defArgs sPI) (defBody sPI) (defScope sPI) .none kVI dcI pmI anI cvI ctI), slI⟩)
    (cI : PySem.W.codeIn K cvI "Picture.__init__" = true)
    (kI : PySem.W.keepIn K (.ref fI) = true)
    (lE : K.lookup fE = some ⟨ocE, odE, .func (PySem.W.fnOf "__eq__" "Picture.__eq__" (defArgs sEqP) (defBody sEqP) (defScope sEqP) .none kVE dcE pmE anE cvE ctE), slE⟩)
    (cE : PySem.W.codeIn K cvE "Picture.__eq__" = true)
    (kE : PySem.W.keepIn K (.ref fE) = true)
    (lS : K.lookup fS = some ⟨ocS, odS, .func (PySem.W.fnOf "__str__" "Picture.__str__" (defArgs sStrP) (defBody sStrP) (defScope sStrP) .none kVS dcS pmS anS cvS ctS), slS⟩)
    (cS : PySem.W.codeIn K cvS "Picture.__str__" = true)
    (kS : PySem.W.keepIn K (.ref fS) = true)
    (lP : K.lookup fP = some ⟨ocP, odP, .func (PySem.W.fnOf "products" "Picture.products" (defArgs sPP) (defBody sPP) (defScope sPP) .none kVP dcP pmP anP cvP ctP), slP⟩)
    (cP : PySem.W.codeIn K cvP "Picture.products" = true)
    (kP : PySem.W.keepIn K (.ref fP) = true)
    (lH : K.lookup fH = some ⟨ocH, odH, .func (PySem.W.fnOf "is_thin" "Picture.is_thin" (defArgs sPh) (defBody sPh) (defScope sPh) .none kVH dcH pmH anH cvH ctH), slH⟩)
    (cH : PySem.W.codeIn K cvH "Picture.is_thin" = true)
    (kH : PySem.W.keepIn K (.ref fH) = true)
    (hE : badB K CB CS = true)
    (hP : picB K C = true)
    (a9 : PySem.W.nsIn K mainGlobals "is_integer" = some (some (.ref f9)))
    (l9 : K.lookup f9 = some ⟨oc9, od9, .func (PySem.W.fnOf "is_integer" "is_integer" (defArgs sInt) (defBody sInt) (defScope sInt) .none kV9 dc9 pm9 an9 cv9 ct9), sl9⟩)
    (c9 : PySem.W.codeIn K cv9 "is_integer" = true)
    (k9 : PySem.W.keepIn K (.ref f9) = true)
    (a10 : PySem.W.nsIn K mainGlobals "is_within" = some (some (.ref f10)))
    (l10 : K.lookup f10 = some ⟨oc10, od10, .func (PySem.W.fnOf "is_within" "is_within" (defArgs sWithin) (defBody sWithin) (defScope sWithin) .none kV10 dc10 pm10 an10 cv10 ct10), sl10⟩)
    (c10 : PySem.W.codeIn K cv10 "is_within" = true)
    (k10 : PySem.W.keepIn K (.ref f10) = true)
    (a11 : PySem.W.nsIn K mainGlobals "is_list" = some (some (.ref f11)))
    (l11 : K.lookup f11 = some ⟨oc11, od11, .func (PySem.W.fnOf "is_list" "is_list" (defArgs sIsList) (defBody sIsList) (defScope sIsList) .none kV11 dc11 pm11 an11 cv11 ct11), sl11⟩)
    (c11 : PySem.W.codeIn K cv11 "is_list" = true)
    (k11 : PySem.W.keepIn K (.ref f11) = true)
    (a16 : PySem.W.nsIn K mainGlobals "is_row" = some (some (.ref f16)))
    (l16 : K.lookup f16 = some ⟨oc16, od16, .func (PySem.W.fnOf "is_row" "is_row" (defArgs sRow) (defBody sRow) (defScope sRow) .none kV16 dc16 pm16 an16 cv16 ct16), sl16⟩)
    (c16 : PySem.W.codeIn K cv16 "is_row" = true)
    (k16 : PySem.W.keepIn K (.ref f16) = true)
    (a17 : PySem.W.nsIn K mainGlobals "are_rows" = some (some (.ref f17)))
    (l17 : K.lookup f17 = some ⟨oc17, od17, .func (PySem.W.fnOf "are_rows" "are_rows" (defArgs sRows) (defBody sRows) (defScope sRows) .none kV17 dc17 pm17 an17 cv17 ct17), sl17⟩)
    (c17 : PySem.W.codeIn K cv17 "are_rows" = true)
    (k17 : PySem.W.keepIn K (.ref f17) = true)
    (a18 : PySem.W.nsIn K mainGlobals "are_places" = some (some (.ref f18)))
    (l18 : K.lookup f18 = some ⟨oc18, od18, .func (PySem.W.fnOf "are_places" "are_places" (defArgs sPlaces) (defBody sPlaces) (defScope sPlaces) .none kV18 dc18 pm18 an18 cv18 ct18), sl18⟩)
    (c18 : PySem.W.codeIn K cv18 "are_places" = true)
    (k18 : PySem.W.keepIn K (.ref f18) = true)
    (a19 : PySem.W.nsIn K mainGlobals "steps_along" = some (some (.ref f19)))
    (l19 : K.lookup f19 = some ⟨oc19, od19, .func (PySem.W.fnOf "steps_along" "steps_along" (defArgs sSteps) (defBody sSteps) (defScope sSteps) .none kV19 dc19 pm19 an19 cv19 ct19), sl19⟩)
    (c19 : PySem.W.codeIn K cv19 "steps_along" = true)
    (k19 : PySem.W.keepIn K (.ref f19) = true)
    (a21 : PySem.W.nsIn K mainGlobals "first_minor" = some (some (.ref f21)))
    (l21 : K.lookup f21 = some ⟨oc21, od21, .func (PySem.W.fnOf "first_minor" "first_minor" (defArgs sMinor) (defBody sMinor) (defScope sMinor) .none kV21 dc21 pm21 an21 cv21 ct21), sl21⟩)
    (c21 : PySem.W.codeIn K cv21 "first_minor" = true)
    (k21 : PySem.W.keepIn K (.ref f21) = true)
    (a23 : PySem.W.nsIn K mainGlobals "products_of" = some (some (.ref f23)))
    (l23 : K.lookup f23 = some ⟨oc23, od23, .func (PySem.W.fnOf "products_of" "products_of" (defArgs sProd) (defBody sProd) (defScope sProd) .none kV23 dc23 pm23 an23 cv23 ct23), sl23⟩)
    (c23 : PySem.W.codeIn K cv23 "products_of" = true)
    (k23 : PySem.W.keepIn K (.ref f23) = true)
    (a37 : PySem.W.nsIn K mainGlobals "_law_lens" = some (some (.ref f37)))
    (l37 : K.lookup f37 = some ⟨oc37, od37, .func (PySem.W.fnOf "_law_lens" "_law_lens" (defArgs sLens) (defBody sLens) (defScope sLens) .none kV37 dc37 pm37 an37 cv37 ct37), sl37⟩)
    (c37 : PySem.W.codeIn K cv37 "_law_lens" = true)
    (k37 : PySem.W.keepIn K (.ref f37) = true)
    (a38 : PySem.W.nsIn K mainGlobals "_law_shot" = some (some (.ref f38)))
    (l38 : K.lookup f38 = some ⟨oc38, od38, .func (PySem.W.fnOf "_law_shot" "_law_shot" (defArgs sShot) (defBody sShot) (defScope sShot) .none kV38 dc38 pm38 an38 cv38 ct38), sl38⟩)
    (c38 : PySem.W.codeIn K cv38 "_law_shot" = true)
    (k38 : PySem.W.keepIn K (.ref f38) = true)
    (a39 : PySem.W.nsIn K mainGlobals "_law_pick" = some (some (.ref f39)))
    (l39 : K.lookup f39 = some ⟨oc39, od39, .func (PySem.W.fnOf "_law_pick" "_law_pick" (defArgs sPick) (defBody sPick) (defScope sPick) .none kV39 dc39 pm39 an39 cv39 ct39), sl39⟩)
    (c39 : PySem.W.codeIn K cv39 "_law_pick" = true)
    (k39 : PySem.W.keepIn K (.ref f39) = true)
    (a40 : PySem.W.nsIn K mainGlobals "_law_number" = some (some (.ref f40)))
    (l40 : K.lookup f40 = some ⟨oc40, od40, .func (PySem.W.fnOf "_law_number" "_law_number" (defArgs sNum) (defBody sNum) (defScope sNum) .none kV40 dc40 pm40 an40 cv40 ct40), sl40⟩)
    (c40 : PySem.W.codeIn K cv40 "_law_number" = true)
    (k40 : PySem.W.keepIn K (.ref f40) = true)
    (a41 : PySem.W.nsIn K mainGlobals "_law_places" = some (some (.ref f41)))
    (l41 : K.lookup f41 = some ⟨oc41, od41, .func (PySem.W.fnOf "_law_places" "_law_places" (defArgs sPlc) (defBody sPlc) (defScope sPlc) .none kV41 dc41 pm41 an41 cv41 ct41), sl41⟩)
    (c41 : PySem.W.codeIn K cv41 "_law_places" = true)
    (k41 : PySem.W.keepIn K (.ref f41) = true)
    (a42 : PySem.W.nsIn K mainGlobals "_law_is_plain" = some (some (.ref f42)))
    (l42 : K.lookup f42 = some ⟨oc42, od42, .func (PySem.W.fnOf "_law_is_plain" "_law_is_plain" (defArgs sPla) (defBody sPla) (defScope sPla) .none kV42 dc42 pm42 an42 cv42 ct42), sl42⟩)
    (c42 : PySem.W.codeIn K cv42 "_law_is_plain" = true)
    (k42 : PySem.W.keepIn K (.ref f42) = true)
    (a43 : PySem.W.nsIn K mainGlobals "_law_steps" = some (some (.ref f43)))
    (l43 : K.lookup f43 = some ⟨oc43, od43, .func (PySem.W.fnOf "_law_steps" "_law_steps" (defArgs sStp) (defBody sStp) (defScope sStp) .none kV43 dc43 pm43 an43 cv43 ct43), sl43⟩)
    (c43 : PySem.W.codeIn K cv43 "_law_steps" = true)
    (k43 : PySem.W.keepIn K (.ref f43) = true)
    (a44 : PySem.W.nsIn K mainGlobals "_law_made_right" = some (some (.ref f44)))
    (l44 : K.lookup f44 = some ⟨oc44, od44, .func (PySem.W.fnOf "_law_made_right" "_law_made_right" (defArgs sMR) (defBody sMR) (defScope sMR) .none kV44 dc44 pm44 an44 cv44 ct44), sl44⟩)
    (c44 : PySem.W.codeIn K cv44 "_law_made_right" = true)
    (k44 : PySem.W.keepIn K (.ref f44) = true)
    (a45 : PySem.W.nsIn K mainGlobals "_law_unlike_right" = some (some (.ref f45)))
    (l45 : K.lookup f45 = some ⟨oc45, od45, .func (PySem.W.fnOf "_law_unlike_right" "_law_unlike_right" (defArgs sUR) (defBody sUR) (defScope sUR) .none kV45 dc45 pm45 an45 cv45 ct45), sl45⟩)
    (c45 : PySem.W.codeIn K cv45 "_law_unlike_right" = true)
    (k45 : PySem.W.keepIn K (.ref f45) = true)
    (a46 : PySem.W.nsIn K mainGlobals "_law_is_let" = some (some (.ref f46)))
    (l46 : K.lookup f46 = some ⟨oc46, od46, .func (PySem.W.fnOf "_law_is_let" "_law_is_let" (defArgs sLet) (defBody sLet) (defScope sLet) .none kV46 dc46 pm46 an46 cv46 ct46), sl46⟩)
    (c46 : PySem.W.codeIn K cv46 "_law_is_let" = true)
    (k46 : PySem.W.keepIn K (.ref f46) = true)
    (a47 : PySem.W.nsIn K mainGlobals "_law_refused_right" = some (some (.ref f47)))
    (l47 : K.lookup f47 = some ⟨oc47, od47, .func (PySem.W.fnOf "_law_refused_right" "_law_refused_right" (defArgs sRR) (defBody sRR) (defScope sRR) .none kV47 dc47 pm47 an47 cv47 ct47), sl47⟩)
    (c47 : PySem.W.codeIn K cv47 "_law_refused_right" = true)
    (k47 : PySem.W.keepIn K (.ref f47) = true)
    (a48 : PySem.W.nsIn K mainGlobals "law" = some (some (.ref f48)))
    (l48 : K.lookup f48 = some ⟨oc48, od48, .func (PySem.W.fnOf "law" "law" (defArgs sLaw) (defBody sLaw) (defScope sLaw) .none kV48 dc48 pm48 an48 cv48 ct48), sl48⟩)
    (c48 : PySem.W.codeIn K cv48 "law" = true)
    (k48 : PySem.W.keepIn K (.ref f48) = true)
    (z_isinstance : PySem.W.nsIn K mainGlobals "isinstance" = some none)
    (z_int : PySem.W.nsIn K mainGlobals "int" = some none)
    (z_bool : PySem.W.nsIn K mainGlobals "bool" = some none)
    (z_list : PySem.W.nsIn K mainGlobals "list" = some none)
    (z_tuple : PySem.W.nsIn K mainGlobals "tuple" = some none)
    (z_all : PySem.W.nsIn K mainGlobals "all" = some none)
    (z_len : PySem.W.nsIn K mainGlobals "len" = some none)
    (z_range : PySem.W.nsIn K mainGlobals "range" = some none)
    (z_abs : PySem.W.nsIn K mainGlobals "abs" = some none)
    (z_str : PySem.W.nsIn K mainGlobals "str" = some none)
    (z_sum : PySem.W.nsIn K mainGlobals "sum" = some none)
    (z_min : PySem.W.nsIn K mainGlobals "min" = some none)
    (z_enumerate : PySem.W.nsIn K mainGlobals "enumerate" = some none) :
    ∃ fd : FuncData, (∀ (s : Shared) (v : Value), BindsTo s fd ⟨[v], []⟩ [("_law_script", v)]) ∧ ∀ base : Heap, K.In base → base.Ns mainGlobals mg → FnOk l.prog w K mg base CX0 10 fa fd ["_law_script"] (spLaw K) := by
  have e := hfa.symm.trans (PySem.W.mg_of X G a48)
  cases e
  have F9 := fun_mk (st := sInt) l9 c9 k9
  have F10 := fun_mk (st := sWithin) l10 c10 k10
  have F11 := fun_mk (st := sIsList) l11 c11 k11
  have F16 := fun_mk (st := sRow) l16 c16 k16
  have F17 := fun_mk (st := sRows) l17 c17 k17
  have F18 := fun_mk (st := sPlaces) l18 c18 k18
  have F19 := fun_mk (st := sSteps) l19 c19 k19
  have F21 := fun_mk (st := sMinor) l21 c21 k21
  have F23 := fun_mk (st := sProd) l23 c23 k23
  have F37 := fun_mk (st := sLens) l37 c37 k37
  have F38 := fun_mk (st := sShot) l38 c38 k38
  have F39 := fun_mk (st := sPick) l39 c39 k39
  have F40 := fun_mk (st := sNum) l40 c40 k40
  have F41 := fun_mk (st := sPlc) l41 c41 k41
  have F42 := fun_mk (st := sPla) l42 c42 k42
  have F43 := fun_mk (st := sStp) l43 c43 k43
  have F44 := fun_mk (st := sMR) l44 c44 k44
  have F45 := fun_mk (st := sUR) l45 c45 k45
  have F46 := fun_mk (st := sLet) l46 c46 k46
  have F47 := fun_mk (st := sRR) l47 c47 k47
  have F48 := fun_mk (st := sLaw) l48 c48 k48
  have FB := fun_mk (st := sBI) lB cB kB
  have FI := fun_mk (st := sPI) lI cI kI
  have FE := fun_mk (st := sEqP) lE cE kE
  have FS := fun_mk (st := sStrP) lS cS kS
  have FP := fun_mk (st := sPP) lP cP kP
  have FH := fun_mk (st := sPh) lH cH kH
  have B : Bn mg := ⟨PySem.W.mg_none_of X G z_isinstance, PySem.W.mg_none_of X G z_int, PySem.W.mg_none_of X G z_bool, PySem.W.mg_none_of X G z_list, PySem.W.mg_none_of X G z_tuple, PySem.W.mg_none_of X G z_all, PySem.W.mg_none_of X G z_len, PySem.W.mg_none_of X G z_range, PySem.W.mg_none_of X G z_abs, PySem.W.mg_none_of X G z_str, PySem.W.mg_none_of X G z_sum, PySem.W.mg_none_of X G z_min, PySem.W.mg_none_of X G z_enumerate⟩
  obtain ⟨ox, ex, xf, noP, sub⟩ := badB_ok hE
  obtain ⟨pt, pn, mk, kc⟩ := picB_ok hP
  have TB : BrTxt K mg CB fB := ⟨ox, PySem.W.mg_of X G aB, noP, iB, tB⟩
  have S : SeTxt K mg CS CB := ⟨PySem.W.mg_of X G aS, sub, ex, xf⟩
  have L : ∃ t, mg "LIMIT" = some (.int 1000000000 t) := ⟨tL, PySem.W.mg_of X G aL⟩
  refine ⟨PySem.W.fnOf "law" "law" (defArgs sLaw) (defBody sLaw) (defScope sLaw) .none kV48 dc48 pm48 an48 cv48 ct48, fun s u => .of_eq rfl, fun base _ _ => ?_⟩
  have C9d : Callee l.prog w K mg base CX0 1 "is_integer" ["value"] (spInt K) := ⟨f9, _, PySem.W.mg_of X G a9, F9.kp, F9.binds (ps := ["value"]) fun _ _ _ _ _ _ us hl => match us, hl with | [_], _ => rfl, ok_int F9 B⟩
  have C10d : Callee l.prog w K mg base CX0 2 "is_within" ["value", "least", "most"] (spWithin K) := ⟨f10, _, PySem.W.mg_of X G a10, F10.kp, F10.binds (ps := ["value", "least", "most"]) fun _ _ _ _ _ _ us hl => match us, hl with | [_, _, _], _ => rfl, ok_within F10 C9d⟩
  have C11d : Callee l.prog w K mg base CX0 1 "is_list" ["value"] (spIsList K) := ⟨f11, _, PySem.W.mg_of X G a11, F11.kp, F11.binds (ps := ["value"]) fun _ _ _ _ _ _ us hl => match us, hl with | [_], _ => rfl, ok_isList F11 B⟩
  have C16d : Callee l.prog w K mg base CX0 3 "is_row" ["value", "fewest", "most"] (spRow K) := ⟨f16, _, PySem.W.mg_of X G a16, F16.kp, F16.binds (ps := ["value", "fewest", "most"]) fun _ _ _ _ _ _ us hl => match us, hl with | [_, _, _], _ => rfl, ok_row F16 B L C11d C10d⟩
  have C17d : Callee l.prog w K mg base CX0 4 "are_rows" ["value", "size"] (spRows K) := ⟨f17, _, PySem.W.mg_of X G a17, F17.kp, F17.binds (ps := ["value", "size"]) fun _ _ _ _ _ _ us hl => match us, hl with | [_, _], _ => rfl, ok_rows F17 B C11d C16d⟩
  have C18d : Callee l.prog w K mg base CX0 5 "are_places" ["value", "size"] (spPlaces K) := ⟨f18, _, PySem.W.mg_of X G a18, F18.kp, F18.binds (ps := ["value", "size"]) fun _ _ _ _ _ _ us hl => match us, hl with | [_, _], _ => rfl, ok_places F18 B C17d⟩
  have C19d : Callee l.prog w K mg base CX0 1 "steps_along" ["places"] spSteps := ⟨f19, _, PySem.W.mg_of X G a19, F19.kp, F19.binds (ps := ["places"]) fun _ _ _ _ _ _ us hl => match us, hl with | [_], _ => rfl, ok_steps F19 B⟩
  have C21d : Callee l.prog w K mg base CX0 1 "first_minor" ["one", "other"] spMinor := ⟨f21, _, PySem.W.mg_of X G a21, F21.kp, F21.binds (ps := ["one", "other"]) fun _ _ _ _ _ _ us hl => match us, hl with | [_, _], _ => rfl, ok_minor F21 B⟩
  have C23d : Callee l.prog w K mg base CX0 1 "products_of" ["rows"] spProd := ⟨f23, _, PySem.W.mg_of X G a23, F23.kp, F23.binds (ps := ["rows"]) fun _ _ _ _ _ _ us hl => match us, hl with | [_], _ => rfl, ok_prod F23 B⟩
  have mC := PySem.W.mg_of X G aC
  have TP : Pc l.prog w K mg base C CB := ⟨mC, pt, pn, ⟨fI, _, ⟨mk, iI, nI, kc⟩, ok_pi FI B pt TB FB C18d C19d, FI.binds (ps := ["self", "places"]) fun _ _ _ _ _ _ us hl => match us, hl with | [_, _], _ => rfl, kbn11 fun us ws h1 h2 => match us, ws, h1, h2 with | [_], [_], _, _ => rfl⟩, ⟨fE, _, ok_eqP FE B pt pn mC, iE, nE, FE.binds (ps := ["self", "other"]) fun _ _ _ _ _ _ us hl => match us, hl with | [_, _], _ => rfl⟩, ⟨fS, _, ok_strP FS pt, iS, nS, FS.binds (ps := ["self"]) fun _ _ _ _ _ _ us hl => match us, hl with | [_], _ => rfl⟩, ⟨fP, _, ⟨iP, nP, FP.kp⟩, ok_pp FP pt C23d, FP.binds (ps := ["self"]) fun _ _ _ _ _ _ us hl => match us, hl with | [_], _ => rfl⟩, ⟨fH, _, ⟨iH, nH, FH.kp⟩, ok_ph FH pt C21d, FH.binds (ps := ["self"]) fun _ _ _ _ _ _ us hl => match us, hl with | [_], _ => rfl⟩⟩
  have C37d : Callee l.prog w K mg base CX0 1 "_law_lens" ["_law_script"] (spLens K) := ⟨f37, _, PySem.W.mg_of X G a37, F37.kp, F37.binds (ps := ["_law_script"]) fun _ _ _ _ _ _ us hl => match us, hl with | [_], _ => rfl, ok_lens F37 B⟩
  have C38d : Callee l.prog w K mg base CX0 1 "_law_shot" ["_law_lens_here", "_law_many"] spShot := ⟨f38, _, PySem.W.mg_of X G a38, F38.kp, F38.binds (ps := ["_law_lens_here", "_law_many"]) fun _ _ _ _ _ _ us hl => match us, hl with | [_, _], _ => rfl, ok_shot F38 B⟩
  have C39d : Callee l.prog w K mg base CX0 2 "_law_pick" ["_law_lens_here", "_law_some"] spPick := ⟨f39, _, PySem.W.mg_of X G a39, F39.kp, F39.binds (ps := ["_law_lens_here", "_law_some"]) fun _ _ _ _ _ _ us hl => match us, hl with | [_, _], _ => rfl, ok_pick F39 B C38d⟩
  have C40d : Callee l.prog w K mg base CX0 3 "_law_number" ["_law_lens_here"] spNum := ⟨f40, _, PySem.W.mg_of X G a40, F40.kp, F40.binds (ps := ["_law_lens_here"]) fun _ _ _ _ _ _ us hl => match us, hl with | [_], _ => rfl, ok_num F40 B C38d C39d⟩
  have C41d : Callee l.prog w K mg base CX0 4 "_law_places" ["_law_lens_here", "_law_pins"] spPlc := ⟨f41, _, PySem.W.mg_of X G a41, F41.kp, F41.binds (ps := ["_law_lens_here", "_law_pins"]) fun _ _ _ _ _ _ us hl => match us, hl with | [_, _], _ => rfl, ok_plc F41 B C38d C39d C40d⟩
  have b42 : L2.Binds K _ ["_law_told", "_law_due"] [] := F42.binds (ps := ["_law_told", "_law_due"]) fun _ _ _ _ _ _ us hl => match us, hl with | [_, _], _ => rfl
  have C42d : Plain l.prog w K mg base := ⟨f42, _, PySem.W.mg_of X G a42, F42.kp, b42, ok_pla F42 B (PySem.W.mg_of X G a42) F42.kp b42⟩
  have C43d : Callee l.prog w K mg base CX0 1 "_law_steps" ["_law_places_here"] spStp := ⟨f43, _, PySem.W.mg_of X G a43, F43.kp, F43.binds (ps := ["_law_places_here"]) fun _ _ _ _ _ _ us hl => match us, hl with | [_], _ => rfl, ok_stp F43 B⟩
  have C44d : Callee l.prog w K mg base CX0 8 "_law_made_right" ["_law_lens_here", "_law_places_here"] spMR := ⟨f44, _, PySem.W.mg_of X G a44, F44.kp, F44.binds (ps := ["_law_lens_here", "_law_places_here"]) fun _ _ _ _ _ _ us hl => match us, hl with | [_, _], _ => rfl, ok_mr F44 B TP C42d C43d⟩
  have C45d : Callee l.prog w K mg base CX0 8 "_law_unlike_right" ["_law_lens_here", "_law_places_here"] spUR := ⟨f45, _, PySem.W.mg_of X G a45, F45.kp, F45.binds (ps := ["_law_lens_here", "_law_places_here"]) fun _ _ _ _ _ _ us hl => match us, hl with | [_, _], _ => rfl, ok_ur F45 B TP C38d⟩
  have C46d : Callee l.prog w K mg base CX0 8 "_law_is_let" ["_law_value"] (spLet K) := ⟨f46, _, PySem.W.mg_of X G a46, F46.kp, F46.binds (ps := ["_law_value"]) fun _ _ _ _ _ _ us hl => match us, hl with | [_], _ => rfl, ok_let F46 B TP S TB⟩
  have C47d : Callee l.prog w K mg base CX0 9 "_law_refused_right" ["_law_lens_here", "_law_places_here"] spRR := ⟨f47, _, PySem.W.mg_of X G a47, F47.kp, F47.binds (ps := ["_law_lens_here", "_law_places_here"]) fun _ _ _ _ _ _ us hl => match us, hl with | [_, _], _ => rfl, ok_rr F47 B TP C38d C39d C46d⟩
  exact ok_law F48 B TP C37d C39d C41d C44d C45d C47d
end K11

open PySem PySem.W PyProof.Rows in
set_option maxRecDepth 100000 in
set_option maxHeartbeats 0 in
theorem PySem.Challenge.cw_farseen_k11_pictures_made_and_refused_holds : PySem.Challenge.rw_farseen_k11_pictures_made_and_refused.Holds := by
  w_on; o_law; k_head; (case hw => w_witness2)
  k_fill
  refine L2.walk_of (l := PySem.Challenge.rw_farseen_k11_pictures_made_and_refused) (n := 63) (k := 10) (x := "_law_script") (CX := fun _ => L2.CX0) (sp := fun w => K11.spLaw _) rfl (by decide) rfl ⟨rfl, by decide, by decide⟩ (fun w h Y => PySem.W.kIn_of Y) ?F (fun _ _ a ns hl _ hS => ⟨a, ns, rfl, hS, hl, fun _ => rfl⟩) (fun _ _ _ _ _ h => h)
  case F =>
    intro w mg fa h KX G hmg
    refine' K11.all_mk KX G hmg ?aC ?aB ?aS ?aL ?iB ?tB ?iI ?nI ?iE ?nE ?iS ?nS ?iP ?nP ?iH ?nH ?lB ?cB ?kB ?lI ?cI ?kI ?lE ?cE ?kE ?lS ?cS ?kS ?lP ?cP ?kP ?lH ?cH ?kH ?hE ?hP ?a9 ?l9 ?c9 ?k9 ?a10 ?l10 ?c10 ?k10 ?a11 ?l11 ?c11 ?k11 ?a16 ?l16 ?c16 ?k16 ?a17 ?l17 ?c17 ?k17 ?a18 ?l18 ?c18 ?k18 ?a19 ?l19 ?c19 ?k19 ?a21 ?l21 ?c21 ?k21 ?a23 ?l23 ?c23 ?k23 ?a37 ?l37 ?c37 ?k37 ?a38 ?l38 ?c38 ?k38 ?a39 ?l39 ?c39 ?k39 ?a40 ?l40 ?c40 ?k40 ?a41 ?l41 ?c41 ?k41 ?a42 ?l42 ?c42 ?k42 ?a43 ?l43 ?c43 ?k43 ?a44 ?l44 ?c44 ?k44 ?a45 ?l45 ?c45 ?k45 ?a46 ?l46 ?c46 ?k46 ?a47 ?l47 ?c47 ?k47 ?a48 ?l48 ?c48 ?k48 ?z_isinstance ?z_int ?z_bool ?z_list ?z_tuple ?z_all ?z_len ?z_range ?z_abs ?z_str ?z_sum ?z_min ?z_enumerate
    (case aC => k_is)
    (case aB => k_is)
    (case aS => k_is)
    (case aL => k_is)
    (case iB => k_is)
    (case tB => k_is)
    (case iI => k_is)
    (case nI => k_is)
    (case iE => k_is)
    (case nE => k_is)
    (case iS => k_is)
    (case nS => k_is)
    (case iP => k_is)
    (case nP => k_is)
    (case iH => k_is)
    (case nH => k_is)
    (case lB => k_is)
    (case cB => k_is)
    (case kB => k_is)
    (case lI => k_is)
    (case cI => k_is)
    (case kI => k_is)
    (case lE => k_is)
    (case cE => k_is)
    (case kE => k_is)
    (case lS => k_is)
    (case cS => k_is)
    (case kS => k_is)
    (case lP => k_is)
    (case cP => k_is)
    (case kP => k_is)
    (case lH => k_is)
    (case cH => k_is)
    (case kH => k_is)
    (case hE => first | kernel_rfl | k_is | rfl)
    (case hP => first | kernel_rfl | k_is | rfl)
    (case a9 => k_is)
    (case l9 => k_is)
    (case c9 => k_is)
    (case k9 => k_is)
    (case a10 => k_is)
    (case l10 => k_is)
    (case c10 => k_is)
    (case k10 => k_is)
    (case a11 => k_is)
    (case l11 => k_is)
    (case c11 => k_is)
    (case k11 => k_is)
    (case a16 => k_is)
    (case l16 => k_is)
    (case c16 => k_is)
    (case k16 => k_is)
    (case a17 => k_is)
    (case l17 => k_is)
    (case c17 => k_is)
    (case k17 => k_is)
    (case a18 => k_is)
    (case l18 => k_is)
    (case c18 => k_is)
    (case k18 => k_is)
    (case a19 => k_is)
    (case l19 => k_is)
    (case c19 => k_is)
    (case k19 => k_is)
    (case a21 => k_is)
    (case l21 => k_is)
    (case c21 => k_is)
    (case k21 => k_is)
    (case a23 => k_is)
    (case l23 => k_is)
    (case c23 => k_is)
    (case k23 => k_is)
    (case a37 => k_is)
    (case l37 => k_is)
    (case c37 => k_is)
    (case k37 => k_is)
    (case a38 => k_is)
    (case l38 => k_is)
    (case c38 => k_is)
    (case k38 => k_is)
    (case a39 => k_is)
    (case l39 => k_is)
    (case c39 => k_is)
    (case k39 => k_is)
    (case a40 => k_is)
    (case l40 => k_is)
    (case c40 => k_is)
    (case k40 => k_is)
    (case a41 => k_is)
    (case l41 => k_is)
    (case c41 => k_is)
    (case k41 => k_is)
    (case a42 => k_is)
    (case l42 => k_is)
    (case c42 => k_is)
    (case k42 => k_is)
    (case a43 => k_is)
    (case l43 => k_is)
    (case c43 => k_is)
    (case k43 => k_is)
    (case a44 => k_is)
    (case l44 => k_is)
    (case c44 => k_is)
    (case k44 => k_is)
    (case a45 => k_is)
    (case l45 => k_is)
    (case c45 => k_is)
    (case k45 => k_is)
    (case a46 => k_is)
    (case l46 => k_is)
    (case c46 => k_is)
    (case k46 => k_is)
    (case a47 => k_is)
    (case l47 => k_is)
    (case c47 => k_is)
    (case k47 => k_is)
    (case a48 => k_is)
    (case l48 => k_is)
    (case c48 => k_is)
    (case k48 => k_is)
    (case z_isinstance => k_is)
    (case z_int => k_is)
    (case z_bool => k_is)
    (case z_list => k_is)
    (case z_tuple => k_is)
    (case z_all => k_is)
    (case z_len => k_is)
    (case z_range => k_is)
    (case z_abs => k_is)
    (case z_str => k_is)
    (case z_sum => k_is)
    (case z_min => k_is)
    (case z_enumerate => k_is)
