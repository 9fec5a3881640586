import PyProof.Rows.All
import Wide.All
import OpenK.AllK
import Wide.FinOn
import HandS.ForMost
import HandS.IsInst
import HandS.Wide
import HandS.ExcInit
import HandS.WordsExc
import HandS.SetKeys
import HandS.Zip
import HandS.Style
import HandS.Text
import HandS.Conv
import HandS.ExcIs
import HandS.FStr
import KE.KCallOwn
import HandS.OwnEq
import PyProof.InstEq
import HandS.Defaults
import HandS.MakeKwOnly
import HandS.ExcField
import KE.KExcIs
import HandS.ExcValue
import HandS.MakeKw
import HandS.Walk
import HandS.TupAny
import HandS.Lambda
import HandS.EndTab
import HandS.HeadWalk
import PyProof.ReprRoads
import KE.GoesRaise
import HandS.TryOnly
import KE.GoesMore
import KE.GoesEnum
import HandS.NestedK
import KE.KNestM
import PySem.Challenge.RW_farseen_k14_albums_made_changed_and_refu
set_option Elab.async false
set_option linter.all false
set_option maxRecDepth 100000
set_option maxHeartbeats 8000000
namespace K14
open PySem PySem.Spec PyProof.Rows L2
def top (i : Nat) : Stmt := PySem.Challenge.pw_farseen_k14_albums_made_changed_and_refu.main.body.getD i (.Pass ⟨0, 0, 0, 0⟩)
def inClass (s : Stmt) (i : Nat) : Stmt := match s with
  | .ClassDef _ _ _ b _ _ _ _ _ _ _ => b.getD i (.Pass ⟨0, 0, 0, 0⟩)
  | _ => .Pass ⟨0, 0, 0, 0⟩
/-! ### values: kinds -/
def isI : V → Bool
  | .int _ => true
  | _ => false
/-- what is told of the class of pictures, so that isinstance asks its instances -/
structure PicC (K : PySem.W.Frag) (C : Addr) : Prop where
  cls : Cls K C
  ha : PySem.W.findIn K (.ref C) "__class__" = some (some (.builtin "object.__class__"))
  hn : PySem.W.specialIn K (.builtin "object.__class__") "__get__" = some (some (.builtin "getset_descriptor.__get__"))
  ht : PySem.W.takesIn K (.builtin "object.__class__") = some true
  hm : PySem.W.mroIn K C (.type "object") = some true
  ki : PySem.W.kitOne K (.ref C) (.type "int") = some false
  kb : PySem.W.kitOne K (.ref C) (.type "bool") = some false
  kt : PySem.W.kitOne K (.ref C) (.type "tuple") = some false
  ks : PySem.W.kitAny K (.ref C) [.type "list", .type "tuple"] = some false
/-- a value of a kind that is looked at; whether it is a list or a tuple -/
inductive Kd (K : PySem.W.Frag) (H : Hp) : V → Bool → Prop
  | non : Kd K H .non false
  | bl (b : Bool) : Kd K H (.bl b) false
  | int (i : Int) : Kd K H (.int i) false
  | str (x : Str) : Kd K H (.str x) false
  | lst {a : Addr} {xs : List V} (e : H a = some (.lst xs)) : Kd K H (.ref a) true
  | tup {a : Addr} {xs : List V} (e : H a = some (.tup xs)) : Kd K H (.ref a) true
  | dK {a : Addr} {kvs : List (Key × V)} (e : H a = some (.dK kvs)) : Kd K H (.ref a) false
  | ins {a C dx : Addr} {fs : List (Str × V)} (e : H a = some (.ins C dx fs)) (P : PicC K C) : Kd K H (.ref a) false
theorem Kd.same {K : PySem.W.Frag} {H H' : Hp} {v : V} {t : Bool} (k : Kd K H v t) (s : Same H H') : Kd K H' v t := by
  cases k with
  | non => exact .non
  | bl b => exact .bl b
  | int i => exact .int i
  | str x => exact .str x
  | lst e => exact .lst (s _ _ e)
  | tup e => exact .tup (s _ _ e)
  | dK e => exact .dK (s _ _ e)
  | ins e P => exact .ins (s _ _ e) P
theorem no_two {K : PySem.W.Frag} {x : String} (h1 : kitB x "list" = some false) (h2 : kitB x "tuple" = some false) : PySem.W.kitAny K (.type x) [.type "list", .type "tuple"] = some false :=
  kitAny_cons (kit_ty h1) (fun _ => kitAny_cons (kit_ty h2) (fun _ => kitAny_nil) (fun z => nomatch z)) (fun z => nomatch z)
/-- what isinstance is told of it -/
theorem Kd.told {K : PySem.W.Frag} {H : Hp} {v : V} {t : Bool} (k : Kd K H v t) : ∃ (u : Value) (b c : Bool), TyX K H v u ∧ PySem.W.kitOne K u (.type "int") = some b ∧ PySem.W.kitOne K u (.type "bool") = some c ∧ (b && !c) = isI v ∧ PySem.W.kitAny K u [.type "list", .type "tuple"] = some t := by
  cases k with
  | non => exact ⟨_, _, _, .base .non, kit_ty (by decide +kernel : kitB _ _ = some false), kit_ty (by decide +kernel : kitB _ _ = some false), rfl, no_two (by decide +kernel) (by decide +kernel)⟩
  | bl b => exact ⟨_, _, _, .base (.bl b), kit_ty (by decide +kernel : kitB _ _ = some true), kit_ty (by decide +kernel : kitB _ _ = some true), rfl, no_two (by decide +kernel) (by decide +kernel)⟩
  | int i => exact ⟨_, _, _, .base (.int i), kit_ty (by decide +kernel : kitB _ _ = some true), kit_ty (by decide +kernel : kitB _ _ = some false), rfl, no_two (by decide +kernel) (by decide +kernel)⟩
  | str x => exact ⟨_, _, _, .base (.str x), kit_ty (by decide +kernel : kitB _ _ = some false), kit_ty (by decide +kernel : kitB _ _ = some false), rfl, no_two (by decide +kernel) (by decide +kernel)⟩
  | lst e => exact ⟨_, _, _, .base (.lst e), kit_ty (by decide +kernel : kitB _ _ = some false), kit_ty (by decide +kernel : kitB _ _ = some false), rfl, kitAny_cons (kit_ty (by decide +kernel : kitB _ _ = some true)) (fun z => nomatch z) (fun _ => rfl)⟩
  | tup e => exact ⟨_, _, _, .base (.tup e), kit_ty (by decide +kernel : kitB _ _ = some false), kit_ty (by decide +kernel : kitB _ _ = some false), rfl, kitAny_cons (kit_ty (by decide +kernel : kitB _ _ = some false)) (fun _ => kitAny_cons (kit_ty (by decide +kernel : kitB _ _ = some true)) (fun z => nomatch z) (fun _ => rfl)) (fun z => nomatch z)⟩
  | dK e => exact ⟨_, _, _, .base (.dK e), kit_ty (by decide +kernel : kitB _ _ = some false), kit_ty (by decide +kernel : kitB _ _ = some false), rfl, no_two (by decide +kernel) (by decide +kernel)⟩
  | ins e P => exact ⟨_, _, _, .base (.ins e P.cls P.ha P.hn P.ht P.hm), P.ki, P.kb, rfl, P.ks⟩
/-- a list or a tuple of these -/
def Sq (H : Hp) (a : Addr) (xs : List V) : Prop := H a = some (.lst xs) ∨ H a = some (.tup xs)
theorem Sq.same {H H' : Hp} {a : Addr} {xs : List V} (k : Sq H a xs) (s : Same H H') : Sq H' a xs := k.elim (fun e => .inl (s _ _ e)) (fun e => .inr (s _ _ e))
theorem Sq.kd {K : PySem.W.Frag} {H : Hp} {a : Addr} {xs : List V} (k : Sq H a xs) : Kd K H (.ref a) true := k.elim (fun e => .lst e) (fun e => .tup e)
theorem same_new {H : Hp} {p : Addr} {o : HO} (h : H p = none) : Same H (upd H p o) := fun b u e => by
  rw [upd_ne (ne_of_none e h)]
  exact e
theorem Same.me {H : Hp} : Same H H := fun _ _ e => e
theorem take_more {α : Type} : ∀ {l : List α} {i : Nat} {x : α}, l[i]? = some x → l.take (i + 1) = l.take i ++ [x]
  | [], i, x, h => by simp at h
  | a :: l, 0, x, h => by
    have e : a = x := Option.some.inj h
    subst e
    rfl
  | a :: l, i + 1, x, h => by
    have ih := take_more (l := l) (i := i) (x := x) h
    show a :: l.take (i + 1) = a :: l.take i ++ [x]
    rw [ih]
    rfl
/-! ### the built-in names -/
structure Bn (mg : Str → Option Value) : Prop where
  isinstance : mg "isinstance" = none
  int : mg "int" = none
  bool : mg "bool" = none
  list : mg "list" = none
  tuple : mg "tuple" = none
  all : mg "all" = none
  len : mg "len" = none
  range : mg "range" = none
  abs : mg "abs" = none
  str : mg "str" = none
  sum : mg "sum" = none
  min : mg "min" = none
  enumerate : mg "enumerate" = none
/-- a def that may be called by its name -/
def Callee (P : Program) (w : World) (K : PySem.W.Frag) (mg : Str → Option Value) (base : Heap) (CX : CXT) (k : Nat) (x : Str) (ps : List Str) (sp : Sp) : Prop :=
  ∃ (f : Addr) (fd : FuncData), mg x = some (.ref f) ∧ PySem.W.keepIn K (.ref f) = true ∧ Binds K fd ps [] ∧ FnOk P w K mg base CX k f fd ps sp
def RB (b : Bool) (H : Hp) (Q : VK) : Prop := ∀ H', Same H H' → Q (.bl b) H'
section
variable {P : Program} {w : World} {K : PySem.W.Frag} {mg : Str → Option Value} {base : Heap}
/-! ### is_integer -/
def spInt (K : PySem.W.Frag) : Sp := fun vs H Q _ => ∃ v t, vs = [v] ∧ Kd K H v t ∧ Q (.bl (isI v)) H
abbrev sInt : Stmt := top 14
theorem scInt : FnScope ["value"] ["value"] (defScope sInt) := ⟨rfl, rfl, rfl, by decide +kernel, rfl, by decide +kernel, by decide +kernel⟩
theorem ok_int {f : Addr} {fd : FuncData} (F : Fun K "is_integer" "is_integer" sInt f fd) (B : Bn mg) : FnOk P w K mg base CX0 1 f fd ["value"] (spInt K) := by
  refine F.ok scInt (fun vs H Q E h => ?_) (fun cdv A outer s H vs Q E hr h => ?_)
  · obtain ⟨v, t, rfl, _⟩ := h
    rfl
  · obtain ⟨v, t, rfl, k, q⟩ := h
    refine ⟨_, pss_one (ps_ret (pe_and ((pe_callB (r := rIsi K) call_isi (by rfl) B.isinstance boot_isinstance (pa_cons (pv 0) (pa_cons (pe_bltn (v := .ty "int") (by rfl) B.int (by decide +kernel) rfl) pa_nil)))) (pe_one (pe_not (pe_callB (r := rIsi K) call_isi (by rfl) B.isinstance boot_isinstance (pa_cons (pv 0) (pa_cons (pe_bltn (v := .ty "bool") (by rfl) B.bool (by decide +kernel) rfl) pa_nil))))))), ?_⟩
    obtain ⟨u, b, c, ty, hb, hc, e, _⟩ := k.told
    refine ⟨_, rfl, _, _, _, _, b, rfl, .ty _, ty, hb, b, rfl, ?_⟩
    cases b with
    | true =>
      refine iteT ⟨_, rfl, _, _, _, _, c, rfl, .ty _, ty, hc, c, rfl, ?_⟩
      rw [← e] at q
      simpa using q
    | false =>
      refine iteF ?_
      rw [← e] at q
      simpa using q
/-! ### is_list -/
def spIsList (K : PySem.W.Frag) : Sp := fun vs H Q _ => ∃ v t, vs = [v] ∧ Kd K H v t ∧ RB t H Q
abbrev sIsList : Stmt := top 16
theorem scIsList : FnScope ["value"] ["value"] (defScope sIsList) := ⟨rfl, rfl, rfl, by decide +kernel, rfl, by decide +kernel, by decide +kernel⟩
theorem ok_isList {f : Addr} {fd : FuncData} (F : Fun K "is_list" "is_list" sIsList f fd) (B : Bn mg) : FnOk P w K mg base CX0 1 f fd ["value"] (spIsList K) := by
  refine F.ok scIsList (fun vs H Q E h => ?_) (fun cdv A outer s H vs Q E hr h => ?_)
  · obtain ⟨v, t, rfl, _⟩ := h
    rfl
  · obtain ⟨v, t, rfl, k, q⟩ := h
    refine ⟨_, pss_one (ps_ret (pe_callB call_isiT (by rfl) B.isinstance boot_isinstance (pa_cons (pv 0) (pa_cons (pe_tup (pa_cons (pe_bltn (v := .ty "list") (by rfl) B.list (by decide +kernel) rfl) (pa_cons (pe_bltn (v := .ty "tuple") (by rfl) B.tuple (by decide +kernel) rfl) pa_nil))) pa_nil)))), ?_⟩
    refine ⟨_, rfl, by show 2 ≤ sizeLine; decide, fun p hp => ?_⟩
    obtain ⟨u, _, _, ty, _, _, _, hs⟩ := (k.same (same_new (o := .tup [.ty "list", .ty "tuple"]) hp)).told
    exact ⟨_, p, _, _, _, t, rfl, upd_same, .cons (.ty _) (.cons (.ty _) .nil), ty, hs, q _ (same_new hp)⟩
/-! ### is_within -/
def within (v : V) (l m : Int) : Bool := match v with
  | .int n => decide (l ≤ n) && decide (n ≤ m)
  | _ => false
def spWithin (K : PySem.W.Frag) : Sp := fun vs H Q _ => ∃ v t l m, vs = [v, .int l, .int m] ∧ Kd K H v t ∧ Q (.bl (within v l m)) H
abbrev sWithin : Stmt := top 15
theorem scWithin : FnScope ["value", "least", "most"] ["value", "least", "most"] (defScope sWithin) := ⟨rfl, rfl, rfl, by decide +kernel, rfl, by decide +kernel, by decide +kernel⟩
theorem ok_within {f : Addr} {fd : FuncData} (F : Fun K "is_within" "is_within" sWithin f fd) (C1 : Callee P w K mg base CX0 1 "is_integer" ["value"] (spInt K)) : FnOk P w K mg base CX0 2 f fd ["value", "least", "most"] (spWithin K) := by
  obtain ⟨f1, fd1, m1, k1, b1, G1⟩ := C1
  refine F.ok scWithin (fun vs H Q E h => ?_) (fun cdv A outer s H vs Q E hr h => ?_)
  · obtain ⟨v, t, l, m, rfl, _⟩ := h
    rfl
  · obtain ⟨v, t, l, m, rfl, k, q⟩ := h
    refine ⟨_, (pss_cons (ps_if (pt_not (pt_val (pe_call G1 (hr.mono (by decide)) rfl m1 k1 b1 .nil pass0 (pa_cons (pv 0) pa_nil)))) (pss_one (ps_ret pe_bl)) pss_nil) (pss_one (ps_ret (pe_and ((pe_or (pe_cmpR op_isN (pv 1) pe_non (nomark _)) (pe_one (pe_cmpR op_le (pv 1) (pv 0) (nomark _))))) (pe_one ((pe_or (pe_cmpR op_isN (pv 2) pe_non (nomark _)) (pe_one (pe_cmpR op_le (pv 0) (pv 2) (nomark _)))))))))), ?_⟩
    refine ⟨_, rfl, v, t, rfl, k, _, rfl, ?_⟩
    cases e : isI v with
    | false =>
      refine iteT ?_
      have : within v l m = false := by
        cases v <;> first | rfl | cases e
      rw [this] at q
      exact q
    | true =>
      obtain ⟨n, rfl⟩ : ∃ n, v = .int n := by
        cases v <;> first | exact ⟨_, rfl⟩ | cases e
      have q : Q (.bl (decide (l ≤ n) && decide (n ≤ m))) H := q
      refine iteF ⟨_, rfl, rfl, _, rfl, iteF ⟨_, rfl, _, rfl, _, _, rfl, rfl, _, rfl, ?_⟩⟩
      by_cases hl : l ≤ n
      · rw [decide_eq_true hl] at q ⊢
        exact iteT ⟨_, rfl, rfl, _, rfl, iteF ⟨_, rfl, _, rfl, _, _, rfl, rfl, q⟩⟩
      · rw [decide_eq_false hl] at q ⊢
        exact iteF q
end
end K14

namespace K14
open PySem PySem.Spec PyProof.Rows L2
def G9 : Int := 1000000000
def inB (x : V) : Bool := within x (-G9) G9
def rowB (xs : List V) : Bool := decide (xs.length = 2) && xs.all inB
/-- a value judged as a row of two -/
inductive RowV (K : PySem.W.Frag) (H : Hp) : V → Bool → Prop
  | no {v : V} (k : Kd K H v false) : RowV K H v false
  | seq {a : Addr} {xs : List V} (hs : Sq H a xs) (hk : ∀ x ∈ xs, ∃ t, Kd K H x t) (hl : xs.length ≤ 100) : RowV K H (.ref a) (rowB xs)
theorem RowV.same {K : PySem.W.Frag} {H H' : Hp} {v : V} {b : Bool} (k : RowV K H v b) (s : Same H H') : RowV K H' v b := by
  cases k with
  | no k => exact .no (k.same s)
  | seq hs hk hl => exact .seq (hs.same s) (fun x hx => let ⟨t, k⟩ := hk x hx; ⟨t, k.same s⟩) hl
/-- a value judged as rows of two -/
inductive RowsV (K : PySem.W.Frag) (H : Hp) : V → Option (List Bool) → Prop
  | no {v : V} (k : Kd K H v false) : RowsV K H v none
  | seq {a : Addr} {xs : List V} {bs : List Bool} (hs : Sq H a xs) (hk : Paired (RowV K H) xs bs) (hl : xs.length ≤ 100) : RowsV K H (.ref a) (some bs)
theorem paired_same {K : PySem.W.Frag} {H H' : Hp} {xs : List V} {bs : List Bool} (h : Paired (RowV K H) xs bs) (s : Same H H') : Paired (RowV K H') xs bs := by
  induction h with
  | nil => exact .nil
  | cons a _ ih => exact .cons (a.same s) ih
theorem RowsV.same {K : PySem.W.Frag} {H H' : Hp} {v : V} {b : Option (List Bool)} (k : RowsV K H v b) (s : Same H H') : RowsV K H' v b := by
  cases k with
  | no k => exact .no (k.same s)
  | seq hs hk hl => exact .seq (hs.same s) (paired_same hk s) hl
def rowsB : Option (List Bool) → Bool
  | none => false
  | some bs => bs.all id
def plB : Option (List Bool) → Bool
  | none => false
  | some bs => bs.all id && decide (4 ≤ bs.length) && decide (bs.length ≤ 7)
theorem paired_get {α β : Type} {R : α → β → Prop} {xs : List α} {ys : List β} (h : Paired R xs ys) : ∀ {i : Nat} {x : α}, xs[i]? = some x → ∃ y, ys[i]? = some y ∧ R x y := by
  induction h with
  | nil =>
    intro i x e
    simp at e
  | cons a _ ih =>
    intro i x e
    cases i with
    | zero =>
      have z := Option.some.inj e
      subst z
      exact ⟨_, rfl, a⟩
    | succ i => exact ih (by simpa using e)
theorem len100 {α β : Type} {xs : List α} (h : xs.length ≤ 100) (i : Nat) (f : α → β) : ((xs.take i).map f).length < sizeLine := by
  rw [List.length_map, List.length_take]
  exact small1000 (Nat.le_trans (Nat.min_le_right _ _) (by omega))
theorem all_id {xs : List V} {f : V → Bool} : (xs.map f).all id = xs.all f := by
  rw [List.all_map]
  rfl
/-- the list that a comprehension has made so far -/
def At (H0 : Hp) (D : Addr) (ys : List V) (H : Hp) : Prop := Same H0 H ∧ H D = some (.lst ys)
theorem At.step {H0 H H1 : Hp} {D : Addr} {ys zs : List V} {y : V} (hD : H0 D = none) (p : At H0 D ys H) (s : Same H H1) (e : zs = ys ++ [y]) : At H0 D zs (upd H1 D (.lst (ys ++ [y]))) := by
  refine ⟨fun b o h => ?_, by rw [upd_same, e]⟩
  rw [upd_ne (ne_of_none h hD)]
  exact s _ _ (p.1 b o h)
section
variable {P : Program} {w : World} {K : PySem.W.Frag} {mg : Str → Option Value} {base : Heap}
/-! ### is_row -/
def spRow (K : PySem.W.Frag) : Sp := fun vs H Q _ => ∃ v b, vs = [v, .int 2, .int 2] ∧ RowV K H v b ∧ RB b H Q
abbrev sRow : Stmt := top 28
abbrev nRow : List Str := ["value", "fewest", "most", "item"]
theorem scRow : FnScope nRow ["value", "fewest", "most"] (defScope sRow) := ⟨rfl, rfl, rfl, by decide +kernel, rfl, by decide +kernel, by decide +kernel⟩
theorem ok_row {f : Addr} {fd : FuncData} (F : Fun K "is_row" "is_row" sRow f fd) (B : Bn mg) (L : ∃ t, mg "LIMIT" = some (.int 1000000000 t)) (C1 : Callee P w K mg base CX0 1 "is_list" ["value"] (spIsList K)) (C2 : Callee P w K mg base CX0 2 "is_within" ["value", "least", "most"] (spWithin K)) : FnOk P w K mg base CX0 3 f fd ["value", "fewest", "most"] (spRow K) := by
  obtain ⟨f1, fd1, m1, k1, b1, G1⟩ := C1
  obtain ⟨f2, fd2, m2, k2, b2, G2⟩ := C2
  obtain ⟨tL, mL⟩ := L
  have nd := scRow.nd
  refine F.ok scRow (fun vs H Q E h => ?_) (fun cdv A outer s H vs Q E hr h => ?_)
  · obtain ⟨v, b, rfl, _⟩ := h
    rfl
  · obtain ⟨v, b, rfl, j, q⟩ := h
    cases j with
    | no k =>
      refine ⟨_, (pss_cons (ps_if (PW.pt (pw_or (pt_not (pt_val (pe_call G1 (hr.mono (by decide)) rfl m1 k1 b1 .nil pass0 (pa_cons (pv 0) pa_nil)))) (pw_or1 (pt_not (pt_chain op_le op_le (pv 1) (pe_callB call_len_seq (by rfl) B.len PySem.boot_len (pa_cons (pv 0) pa_nil)) (pv 2)))))) (pss_one (ps_ret pe_bl)) pss_nil) (pss_one (ps_ret (pe_callB (cr_all rfl) (by rfl) B.all boot_all (pa_cons (pe_lc (own := [("item", 3)]) (g := gName 3) (tt := tYes) rfl nd (pi_list (pv 0)) (blkOk_by (N := nRow) (sc := defScope sRow) (by decide +kernel)) (fun _ _ _ _ _ => pg_name (i := 3) nd rfl (Or.inl rfl)) (fun _ _ _ _ _ => pts_nil) (fun _ _ _ _ _ => (pe_call G2 (hr.mono (by decide)) rfl m2 k2 b2 .nil pass0 (pa_cons (pv 3) (pa_cons (pe_un un_neg (pe_glob (v := .int 1000000000) rfl mL ⟨_, rfl⟩)) (pa_cons (pe_glob (v := .int 1000000000) rfl mL ⟨_, rfl⟩) pa_nil)))))) pa_nil))))), ?_⟩
      exact ⟨_, rfl, v, false, rfl, k, fun H1 s1 => ⟨_, rfl, iteT (q _ s1)⟩⟩
    | @seq a xs hs hk hl =>
      have key : ∀ H1, Same H H1 → ∀ D H2, At H1 D (xs.map fun x => V.bl (inB x)) H2 → xs.length = 2 → rAll K [.ref D] H2 Q := fun H1 s1 D H2 p h2 => by
        refine ⟨D, xs.map inB, rfl, SqL.of (by rw [p.2, List.map_map]; rfl), ?_⟩
        have e : rowB xs = (xs.map inB).all id := by
          unfold rowB
          rw [decide_eq_true h2, Bool.true_and, all_id]
        rw [← e]
        exact q _ (s1.trans p.1)
      have nok : xs.length ≠ 2 → rowB xs = false := fun h => by
        unfold rowB
        rw [decide_eq_false h]
        rfl
      have sq := hs
      rcases hs with hs | hs
      · refine ⟨_, (pss_cons (ps_if (PW.pt (pw_or (pt_not (pt_val (pe_call G1 (hr.mono (by decide)) rfl m1 k1 b1 .nil pass0 (pa_cons (pv 0) pa_nil)))) (pw_or1 (pt_not (pt_chain op_le op_le (pv 1) (pe_callB call_len_seq (by rfl) B.len PySem.boot_len (pa_cons (pv 0) pa_nil)) (pv 2)))))) (pss_one (ps_ret pe_bl)) pss_nil) (pss_one (ps_ret (pe_callB (cr_all rfl) (by rfl) B.all boot_all (pa_cons (pe_lc (own := [("item", 3)]) (g := gName 3) (tt := tYes) rfl nd (pi_list (pv 0)) (blkOk_by (N := nRow) (sc := defScope sRow) (by decide +kernel)) (fun _ _ _ _ _ => pg_name (i := 3) nd rfl (Or.inl rfl)) (fun _ _ _ _ _ => pts_nil) (fun _ _ _ _ _ => (pe_call G2 (hr.mono (by decide)) rfl m2 k2 b2 .nil pass0 (pa_cons (pv 3) (pa_cons (pe_un un_neg (pe_glob (v := .int 1000000000) rfl mL ⟨_, rfl⟩)) (pa_cons (pe_glob (v := .int 1000000000) rfl mL ⟨_, rfl⟩) pa_nil)))))) pa_nil))))), ?_⟩
        refine ⟨_, rfl, _, true, rfl, sq.kd, fun H1 s1 => ⟨_, rfl, iteF ?_⟩⟩
        refine ⟨_, rfl, _, rfl, a, xs, rfl, .inl (SqL.of (s1 _ _ hs)), _, _, rfl, rfl, _, rfl, ?_⟩
        by_cases h2 : xs.length = 2
        · rw [decide_eq_true (show (2 : Int) ≤ (xs.length : Int) by omega)]
          refine iteT ⟨_, rfl, _, _, rfl, rfl, _, rfl, ?_⟩
          rw [decide_eq_true (show (xs.length : Int) ≤ 2 by omega)]
          refine iteF ⟨_, rfl, a, rfl, ⟨_, SqL.of (s1 _ _ hs)⟩, fun D hD => ?_⟩
          refine lc_list (K := K) (a := a) (xs := xs) (fun i => At H1 D ((xs.take i).map fun x => V.bl (inB x))) ⟨same_new hD, upd_same⟩ (fun i H' _ p => SqL.of (p.1 _ _ (s1 _ _ hs))) (fun i x H' hx p => ?_) (fun H' p => ?_)
          · obtain ⟨tx, kx⟩ := hk x (List.mem_of_getElem? hx)
            refine ⟨rfl, ?_⟩
            show tCall (spWithin K) [] E0 (tCons (tVar 3) (tCons _ (tCons _ tNil))) _ H' _
            refine ⟨_, rfl, _, rfl, x, tx, _, _, rfl, (kx.same s1).same p.1, _, p.2, len100 hl _ _, p.step hD Same.me ?_⟩
            rw [take_more hx, List.map_append]
            rfl
          · rw [List.take_length] at p
            exact key H1 s1 D H' p h2
        · have q2 := q _ s1
          rw [nok h2] at q2
          by_cases h3 : (2 : Int) ≤ (xs.length : Int)
          · rw [decide_eq_true h3]
            refine iteT ⟨_, rfl, _, _, rfl, rfl, _, rfl, ?_⟩
            rw [decide_eq_false (show ¬ (xs.length : Int) ≤ 2 by omega)]
            exact iteT q2
          · rw [decide_eq_false h3]
            exact iteF ⟨_, rfl, iteT q2⟩
      · refine ⟨_, (pss_cons (ps_if (PW.pt (pw_or (pt_not (pt_val (pe_call G1 (hr.mono (by decide)) rfl m1 k1 b1 .nil pass0 (pa_cons (pv 0) pa_nil)))) (pw_or1 (pt_not (pt_chain op_le op_le (pv 1) (pe_callB call_len_seq (by rfl) B.len PySem.boot_len (pa_cons (pv 0) pa_nil)) (pv 2)))))) (pss_one (ps_ret pe_bl)) pss_nil) (pss_one (ps_ret (pe_callB (cr_all rfl) (by rfl) B.all boot_all (pa_cons (pe_lc (own := [("item", 3)]) (g := gName 3) (tt := tYes) rfl nd (pi_tup (pv 0)) (blkOk_by (N := nRow) (sc := defScope sRow) (by decide +kernel)) (fun _ _ _ _ _ => pg_name (i := 3) nd rfl (Or.inl rfl)) (fun _ _ _ _ _ => pts_nil) (fun _ _ _ _ _ => (pe_call G2 (hr.mono (by decide)) rfl m2 k2 b2 .nil pass0 (pa_cons (pv 3) (pa_cons (pe_un un_neg (pe_glob (v := .int 1000000000) rfl mL ⟨_, rfl⟩)) (pa_cons (pe_glob (v := .int 1000000000) rfl mL ⟨_, rfl⟩) pa_nil)))))) pa_nil))))), ?_⟩
        refine ⟨_, rfl, _, true, rfl, sq.kd, fun H1 s1 => ⟨_, rfl, iteF ?_⟩⟩
        refine ⟨_, rfl, _, rfl, a, xs, rfl, .inr (SqT.of (s1 _ _ hs)), _, _, rfl, rfl, _, rfl, ?_⟩
        by_cases h2 : xs.length = 2
        · rw [decide_eq_true (show (2 : Int) ≤ (xs.length : Int) by omega)]
          refine iteT ⟨_, rfl, _, _, rfl, rfl, _, rfl, ?_⟩
          rw [decide_eq_true (show (xs.length : Int) ≤ 2 by omega)]
          refine iteF ⟨_, rfl, a, rfl, ⟨_, SqT.of (s1 _ _ hs)⟩, fun D hD => ?_⟩
          refine lc_tup (K := K) (a := a) (xs := xs) (fun i => At H1 D ((xs.take i).map fun x => V.bl (inB x))) ⟨same_new hD, upd_same⟩ (fun i H' _ p => SqT.of (p.1 _ _ (s1 _ _ hs))) (fun i x H' hx p => ?_) (fun H' p => ?_)
          · obtain ⟨tx, kx⟩ := hk x (List.mem_of_getElem? hx)
            refine ⟨rfl, ?_⟩
            show tCall (spWithin K) [] E0 (tCons (tVar 3) (tCons _ (tCons _ tNil))) _ H' _
            refine ⟨_, rfl, _, rfl, x, tx, _, _, rfl, (kx.same s1).same p.1, _, p.2, len100 hl _ _, p.step hD Same.me ?_⟩
            rw [take_more hx, List.map_append]
            rfl
          · rw [List.take_length] at p
            exact key H1 s1 D H' p h2
        · have q2 := q _ s1
          rw [nok h2] at q2
          by_cases h3 : (2 : Int) ≤ (xs.length : Int)
          · rw [decide_eq_true h3]
            refine iteT ⟨_, rfl, _, _, rfl, rfl, _, rfl, ?_⟩
            rw [decide_eq_false (show ¬ (xs.length : Int) ≤ 2 by omega)]
            exact iteT q2
          · rw [decide_eq_false h3]
            exact iteF ⟨_, rfl, iteT q2⟩
/-! ### are_rows, are_places -/
def spRows (K : PySem.W.Frag) : Sp := fun vs H Q _ => ∃ v o, vs = [v, .int 2] ∧ RowsV K H v o ∧ RB (rowsB o) H Q
abbrev sRows : Stmt := top 29
abbrev nRows : List Str := ["value", "size", "row"]
theorem scRows : FnScope nRows ["value", "size"] (defScope sRows) := ⟨rfl, rfl, rfl, by decide +kernel, rfl, by decide +kernel, by decide +kernel⟩
theorem ok_rows {f : Addr} {fd : FuncData} (F : Fun K "are_rows" "are_rows" sRows f fd) (B : Bn mg) (C1 : Callee P w K mg base CX0 1 "is_list" ["value"] (spIsList K)) (C2 : Callee P w K mg base CX0 3 "is_row" ["value", "fewest", "most"] (spRow K)) : FnOk P w K mg base CX0 4 f fd ["value", "size"] (spRows K) := by
  obtain ⟨f1, fd1, m1, k1, b1, G1⟩ := C1
  obtain ⟨f2, fd2, m2, k2, b2, G2⟩ := C2
  have nd := scRows.nd
  refine F.ok scRows (fun vs H Q E h => ?_) (fun cdv A outer s H vs Q E hr h => ?_)
  · obtain ⟨v, o, rfl, _⟩ := h
    rfl
  · obtain ⟨v, o, rfl, j, q⟩ := h
    cases j with
    | no k =>
      refine ⟨_, pss_one (ps_ret (pe_and ((pe_call G1 (hr.mono (by decide)) rfl m1 k1 b1 .nil pass0 (pa_cons (pv 0) pa_nil))) (pe_one (pe_callB (cr_all rfl) (by rfl) B.all boot_all (pa_cons (pe_lc (own := [("row", 2)]) (g := gName 2) (tt := tYes) rfl nd (pi_list (pv 0)) (blkOk_by (N := nRows) (sc := defScope sRows) (by decide +kernel)) (fun _ _ _ _ _ => pg_name (i := 2) nd rfl (Or.inl rfl)) (fun _ _ _ _ _ => pts_nil) (fun _ _ _ _ _ => (pe_call G2 (hr.mono (by decide)) rfl m2 k2 b2 .nil pass0 (pa_cons (pv 2) (pa_cons (pv 1) (pa_cons (pv 1) pa_nil)))))) pa_nil))))), ?_⟩
      exact ⟨_, rfl, v, false, rfl, k, fun H1 s1 => ⟨_, rfl, iteF (q _ s1)⟩⟩
    | @seq a xs bs hs hk hl =>
      have sq := hs
      rcases hs with hs | hs
      · refine ⟨_, pss_one (ps_ret (pe_and ((pe_call G1 (hr.mono (by decide)) rfl m1 k1 b1 .nil pass0 (pa_cons (pv 0) pa_nil))) (pe_one (pe_callB (cr_all rfl) (by rfl) B.all boot_all (pa_cons (pe_lc (own := [("row", 2)]) (g := gName 2) (tt := tYes) rfl nd (pi_list (pv 0)) (blkOk_by (N := nRows) (sc := defScope sRows) (by decide +kernel)) (fun _ _ _ _ _ => pg_name (i := 2) nd rfl (Or.inl rfl)) (fun _ _ _ _ _ => pts_nil) (fun _ _ _ _ _ => (pe_call G2 (hr.mono (by decide)) rfl m2 k2 b2 .nil pass0 (pa_cons (pv 2) (pa_cons (pv 1) (pa_cons (pv 1) pa_nil)))))) pa_nil))))), ?_⟩
        refine ⟨_, rfl, _, true, rfl, sq.kd, fun H1 s1 => ⟨_, rfl, iteT ?_⟩⟩
        refine ⟨_, rfl, a, rfl, ⟨_, SqL.of (s1 _ _ hs)⟩, fun D hD => ?_⟩
        refine lc_list (K := K) (a := a) (xs := xs) (fun i => At H1 D ((bs.take i).map V.bl)) ⟨same_new hD, upd_same⟩ (fun i H' _ p => SqL.of (p.1 _ _ (s1 _ _ hs))) (fun i x H' hx p => ?_) (fun H' p => ?_)
        · obtain ⟨b, hb, rx⟩ := paired_get hk hx
          refine ⟨rfl, ?_⟩
          show tCall (spRow K) [] E0 (tCons (tVar 2) (tCons (tVar 1) (tCons (tVar 1) tNil))) _ H' _
          refine ⟨_, rfl, _, rfl, _, rfl, x, b, rfl, (rx.same s1).same p.1, fun H2 s2 => ⟨_, s2 _ _ p.2, len100 (by rw [← Paired.length hk]; exact hl) _ _, p.step hD s2 ?_⟩⟩
          rw [take_more hb, List.map_append]
          rfl
        · rw [Paired.length hk, List.take_length] at p
          exact ⟨D, bs, rfl, SqL.of p.2, q _ (s1.trans p.1)⟩
      · refine ⟨_, pss_one (ps_ret (pe_and ((pe_call G1 (hr.mono (by decide)) rfl m1 k1 b1 .nil pass0 (pa_cons (pv 0) pa_nil))) (pe_one (pe_callB (cr_all rfl) (by rfl) B.all boot_all (pa_cons (pe_lc (own := [("row", 2)]) (g := gName 2) (tt := tYes) rfl nd (pi_tup (pv 0)) (blkOk_by (N := nRows) (sc := defScope sRows) (by decide +kernel)) (fun _ _ _ _ _ => pg_name (i := 2) nd rfl (Or.inl rfl)) (fun _ _ _ _ _ => pts_nil) (fun _ _ _ _ _ => (pe_call G2 (hr.mono (by decide)) rfl m2 k2 b2 .nil pass0 (pa_cons (pv 2) (pa_cons (pv 1) (pa_cons (pv 1) pa_nil)))))) pa_nil))))), ?_⟩
        refine ⟨_, rfl, _, true, rfl, sq.kd, fun H1 s1 => ⟨_, rfl, iteT ?_⟩⟩
        refine ⟨_, rfl, a, rfl, ⟨_, SqT.of (s1 _ _ hs)⟩, fun D hD => ?_⟩
        refine lc_tup (K := K) (a := a) (xs := xs) (fun i => At H1 D ((bs.take i).map V.bl)) ⟨same_new hD, upd_same⟩ (fun i H' _ p => SqT.of (p.1 _ _ (s1 _ _ hs))) (fun i x H' hx p => ?_) (fun H' p => ?_)
        · obtain ⟨b, hb, rx⟩ := paired_get hk hx
          refine ⟨rfl, ?_⟩
          show tCall (spRow K) [] E0 (tCons (tVar 2) (tCons (tVar 1) (tCons (tVar 1) tNil))) _ H' _
          refine ⟨_, rfl, _, rfl, _, rfl, x, b, rfl, (rx.same s1).same p.1, fun H2 s2 => ⟨_, s2 _ _ p.2, len100 (by rw [← Paired.length hk]; exact hl) _ _, p.step hD s2 ?_⟩⟩
          rw [take_more hb, List.map_append]
          rfl
        · rw [Paired.length hk, List.take_length] at p
          exact ⟨D, bs, rfl, SqL.of p.2, q _ (s1.trans p.1)⟩
def spPlaces (K : PySem.W.Frag) : Sp := fun vs H Q _ => ∃ v o, vs = [v, .int 2] ∧ RowsV K H v o ∧ RB (plB o) H Q
abbrev sPlaces : Stmt := top 30
theorem scPlaces : FnScope ["value", "size"] ["value", "size"] (defScope sPlaces) := ⟨rfl, rfl, rfl, by decide +kernel, rfl, by decide +kernel, by decide +kernel⟩
theorem ok_places {f : Addr} {fd : FuncData} (F : Fun K "are_places" "are_places" sPlaces f fd) (B : Bn mg) (C1 : Callee P w K mg base CX0 4 "are_rows" ["value", "size"] (spRows K)) : FnOk P w K mg base CX0 5 f fd ["value", "size"] (spPlaces K) := by
  obtain ⟨f1, fd1, m1, k1, b1, G1⟩ := C1
  refine F.ok scPlaces (fun vs H Q E h => ?_) (fun cdv A outer s H vs Q E hr h => ?_)
  · obtain ⟨v, o, rfl, _⟩ := h
    rfl
  · obtain ⟨v, o, rfl, j, q⟩ := h
    refine ⟨_, pss_one (ps_ret (pe_and ((pe_call G1 (hr.mono (by decide)) rfl m1 k1 b1 .nil pass0 (pa_cons (pv 0) (pa_cons (pv 1) pa_nil)))) (pe_one (pe_chain op_le op_le pe_int (pe_callB call_len_seq (by rfl) B.len PySem.boot_len (pa_cons (pv 0) pa_nil)) pe_int)))), ?_⟩
    refine ⟨_, rfl, _, rfl, v, o, rfl, j, fun H1 s1 => ⟨_, rfl, ?_⟩⟩
    have q2 := q _ s1
    cases hb : rowsB o with
    | false =>
      have e : plB o = false := by
        cases o with
        | none => rfl
        | some bs =>
          have hb : bs.all id = false := hb
          show (bs.all id && _ && _) = false
          rw [hb]
          rfl
      rw [e] at q2
      exact iteF q2
    | true =>
      cases j with
      | no k => cases hb
      | @seq a xs bs hs hk hl =>
        have hb : bs.all id = true := hb
        have el : xs.length = bs.length := Paired.length hk
        have e : plB (some bs) = (decide (4 ≤ bs.length) && decide (bs.length ≤ 7)) := by
          show (bs.all id && _ && _) = _
          rw [hb, Bool.true_and]
        rw [e] at q2
        refine iteT ⟨_, rfl, a, xs, rfl, hs.elim (fun z => .inl (SqL.of (s1 _ _ z))) (fun z => .inr (SqT.of (s1 _ _ z))), _, _, rfl, rfl, _, rfl, ?_⟩
        by_cases h4 : 4 ≤ bs.length
        · rw [decide_eq_true h4, Bool.true_and] at q2
          rw [decide_eq_true (show (4 : Int) ≤ (xs.length : Int) by omega)]
          refine iteT ⟨_, _, rfl, rfl, ?_⟩
          have e7 : decide ((xs.length : Int) ≤ 7) = decide (bs.length ≤ 7) := by
            rw [Bool.eq_iff_iff, decide_eq_true_iff, decide_eq_true_iff]
            omega
          rw [← e7] at q2
          exact q2
        · rw [decide_eq_false h4, Bool.false_and] at q2
          rw [decide_eq_false (show ¬ (4 : Int) ≤ (xs.length : Int) by omega)]
          exact iteF q2
end
end K14

namespace K14
open PySem PySem.Spec PyProof.Rows L2
/-- a tuple of pairs -/
def Pr (H : Hp) (a : Addr) (p : Int × Int) : Prop := H a = some (.tup [.int p.1, .int p.2])
def PT (H : Hp) (t : Addr) (ps : List (Int × Int)) : Prop := ∃ ts : List Addr, H t = some (.tup (ts.map V.ref)) ∧ Paired (Pr H) ts ps
def it (k : Nat) (p : Int × Int) : Int := if k = 0 then p.1 else p.2
/-- the steps from pin 0, across (0) and up (1) -/
def sk (k : Nat) (ps : List (Int × Int)) : List Int := (ps.drop 1).map fun p => it k p - it k (ps.headD (0, 0))
def rTu (K : PySem.W.Frag) : List V → Hp → VK → Prop := fun xs H Q => ∃ p ys, xs = [.ref p] ∧ ((SqL K H p ys ∧ ∀ l, H l = none → Q (.ref l) (upd H l (.tup ys))) ∨ (SqT K H p ys ∧ Q (.ref p) H))
theorem call_tu {X : Cx} : CallR X (.type "tuple") (rTu X.K) := call_tuple_of
def rLi (K : PySem.W.Frag) : List V → Hp → VK → Prop := fun xs H Q => ∃ p ys, xs = [.ref p] ∧ (SqL K H p ys ∨ SqT K H p ys) ∧ ∀ l, H l = none → Q (.ref l) (upd H l (.lst ys))
theorem call_li {X : Cx} : CallR X (.type "list") (rLi X.K) := call_list_of
section
variable {X : Cx} {K : PySem.W.Frag}
theorem call_tuK (h : X.K = K := by rfl) : CallR X (.type "tuple") (rTu K) := by subst h; exact call_tu
theorem call_liK (h : X.K = K := by rfl) : CallR X (.type "list") (rLi K) := by subst h; exact call_li
theorem sl_tupK (h : X.K = K := by rfl) : SlR X (rSlT K) := by subst h; exact sl_tup
theorem sl_listK (h : X.K = K := by rfl) : SlR X (rSlL K) := by subst h; exact sl_list
theorem ix_tupK (h : X.K = K := by rfl) : IxR X (rIxT K) := by subst h; exact ix_tup
theorem ix_listK (h : X.K = K := by rfl) : IxR X (rIxL K) := by subst h; exact ix_list
theorem pi_tupK {tg l : Expr} {tl : TE} (K : PySem.W.Frag) (hl : PE X l tl) (h : X.K = K := by rfl) : PI X tg l (iTup K tl) := by subst h; exact pi_tup hl
theorem pi_listK {tg l : Expr} {tl : TE} (K : PySem.W.Frag) (hl : PE X l tl) (h : X.K = K := by rfl) : PI X tg l (iList K tl) := by subst h; exact pi_list hl
theorem ix_seqK (h : X.K = K := by rfl) : IxR X (rIx K) := by subst h; exact ix_seq
end
theorem sIx1 (n : Nat) : HT.sIx n 0 (some 1) = min 1 n := HT.sIx_nat n 0 1
theorem cut1 {xs : List V} (h : 1 ≤ xs.length) : cutV xs (some 1) none = xs.drop 1 := by
  unfold cutV
  have e : HT.sIx xs.length 0 (some 1) = 1 := by
    rw [sIx1]
    omega
  rw [e]
  show (xs.drop 1).take (xs.length - 1) = _
  rw [List.take_of_length_le (by rw [List.length_drop]; exact Nat.le_refl _)]
theorem it_at {k : Nat} (hk : k < 2) (p : Int × Int) : atI [V.int p.1, V.int p.2] (0 + (k : Int)) = some (.int (it k p)) := by
  match k, hk with
  | 0, _ => rfl
  | 1, _ => rfl
theorem PT.len {H : Hp} {ts : List Addr} {ps : List (Int × Int)} (h : Paired (Pr H) ts ps) : ts.length = ps.length := Paired.length h
theorem paired_of {α β : Type} {R : α → β → Prop} {xs : List α} {ys : List β} (h : Paired R xs ys) {i : Nat} {y : β} (e : ys[i]? = some y) : ∃ x, xs[i]? = some x ∧ R x y := by
  induction h generalizing i with
  | nil => simp at e
  | cons a _ ih =>
    cases i with
    | zero =>
      have z := Option.some.inj e
      subst z
      exact ⟨_, rfl, a⟩
    | succ i => exact ih (by simpa using e)
section
variable {P : Program} {w : World} {K : PySem.W.Frag} {mg : Str → Option Value} {base : Heap}
/-! ### steps_along -/
def spSteps : Sp := fun vs H Q _ => ∃ (t : Addr) (ps : List (Int × Int)), vs = [.ref t] ∧ PT H t ps ∧ 4 ≤ ps.length ∧ ps.length ≤ 7 ∧
  ∀ H' u r0 r1, Same H H' → H' u = some (.tup [.ref r0, .ref r1]) → H' r0 = some (.tup ((sk 0 ps).map V.int)) → H' r1 = some (.tup ((sk 1 ps).map V.int)) → Q (.ref u) H'
abbrev sSteps : Stmt := top 32
abbrev nSteps : List Str := ["places", "start", "k", "place"]
theorem scSteps : FnScope nSteps ["places"] (defScope sSteps) := ⟨rfl, rfl, rfl, by decide +kernel, rfl, by decide +kernel, by decide +kernel⟩
abbrev scS1 : Scope := { kind := .function, names := [(".0", .local), ("k", .cell), ("tuple", .globalImplicit), ("places", .cell), ("start", .cell)], isGenerator := false, isCoroutine := false }
theorem ok_steps {f : Addr} {fd : FuncData} (F : Fun K "steps_along" "steps_along" sSteps f fd) (B : Bn mg) : FnOk P w K mg base CX0 1 f fd ["places"] spSteps := by
  have nd := scSteps.nd
  refine F.ok scSteps (fun vs H Q E h => ?_) (fun cdv A outer s H vs Q E hr h => ?_)
  · obtain ⟨t, ps, rfl, _⟩ := h
    rfl
  · obtain ⟨t, ps, rfl, pt, l4, l7, q⟩ := h
    refine ⟨_, (pss_cons (ps_set (i := 1) nd rfl (Or.inr rfl) (pe_ix ix_tup (pv 0) (pe_int) (fun _ _ => rfl))) (pss_one (ps_ret (pe_callTy (T := "tuple") (r := rTu K) call_tuK (by rfl) B.tuple (by decide +kernel) (pa_cons (pe_lc (own := [("k", 2)]) (g := gName 2) (tt := tYes) rfl nd (pi_range1 rfl B.range (pa_cons ((pe_callB call_len_seq (by rfl) B.len PySem.boot_len (pa_cons (pv 1) pa_nil))) pa_nil)) (blkOk_by (N := nSteps) (sc := defScope sSteps) (by decide +kernel)) (fun _ _ _ _ _ => pg_name (i := 2) nd rfl (Or.inr rfl)) (fun _ _ _ _ _ => pts_nil)
        (fun _ _ _ _ _ => (pe_callTy (T := "tuple") (r := rTu K) call_tuK (by rfl) B.tuple (by decide +kernel) (pa_cons (pe_lc (own := [("place", 3)]) (g := gName 3) (tt := tYes) rfl nd (pi_tupK K (pe_slice (r := rSlT K) sl_tupK (pv 0) (po_some pe_int) (po_none))) (blkOk_by (N := nSteps) (sc := scS1) (by decide +kernel)) (fun _ _ _ _ _ => pg_name (i := 3) nd rfl (Or.inl rfl)) (fun _ _ _ _ _ => pts_nil)
          (fun _ _ _ _ _ => pe_op op_sub (pe_ix (r := rIxT K) ix_tupK (pv 3) (pv 2) (fun _ _ => rfl)) (pe_ix (r := rIxT K) ix_tupK (pv 1) (pv 2) (fun _ _ => rfl)))) pa_nil)))) pa_nil))))), ?_⟩
    obtain ⟨ts, ht, hp⟩ := pt
    have lt : ts.length = ps.length := Paired.length hp
    obtain ⟨p0, pz, rfl⟩ : ∃ p0 pz, ps = p0 :: pz := by
      cases ps with
      | nil => exact absurd l4 (by decide)
      | cons a b => exact ⟨a, b, rfl⟩
    obtain ⟨t0, e0, h0⟩ := paired_of hp (i := 0) (y := p0) rfl
    have h0 : H t0 = some (.tup [.int p0.1, .int p0.2]) := h0
    refine ⟨_, rfl, t, _, 0, .ref t0, rfl, rfl, SqT.of ht, atI_nat (j := 0) (by rw [List.getElem?_map, e0]; rfl), ?_⟩
    refine ⟨_, rfl, t0, _, rfl, .inr (SqT.of h0), 2, rfl, by decide, by decide, fun D hD => ?_⟩
    have sD := same_new (o := .lst []) hD
    refine lc_range (lo := 0) (n := 2) (fun i H' => Same H H' ∧ ∃ rs : List Addr, rs.length = i ∧ H' D = some (.lst (rs.map V.ref)) ∧ ∀ j r, rs[j]? = some r → H' r = some (.tup ((sk j (p0 :: pz)).map V.int))) ⟨sD, [], rfl, upd_same, fun j r e => by simp at e⟩ (fun k H1 hk pk => ?_) (fun H1 pk => ?_)
    · obtain ⟨s1, rs, lr, hd, hr⟩ := pk
      refine ⟨rfl, ?_⟩
      refine ⟨_, rfl, _, rfl, t, _, rfl, SqT.of (s1 _ _ ht), ?_, fun c hc => ?_⟩
      · rw [List.length_map]
        intro z
        have z1 := z.1
        have : HT.sIx ts.length 0 (some 1) = 1 := by
          rw [sIx1]
          simp only [List.length_cons] at lt
          omega
        omega
      have l1 : 1 ≤ (ts.map V.ref).length := by
        rw [List.length_map, lt]
        simp
      rw [cut1 l1]
      have sc := same_new (o := .tup ((ts.map V.ref).drop 1)) hc
      have wc : upd H1 c (.tup ((ts.map V.ref).drop 1)) c = some (.tup ((ts.map V.ref).drop 1)) := upd_same
      generalize upd H1 c (.tup ((ts.map V.ref).drop 1)) = H2 at sc wc ⊢
      have s2 := s1.trans sc
      refine ⟨c, rfl, ⟨_, SqT.of wc⟩, fun D2 hD2 => ?_⟩
      refine lc_tup (K := K) (a := c) (xs := (ts.map V.ref).drop 1) (fun i => At H2 D2 (((sk k (p0 :: pz)).take i).map V.int)) ⟨same_new hD2, upd_same⟩ (fun i H' _ p => SqT.of (p.1 _ _ wc)) (fun i x H' hx p => ?_) (fun H' p => ?_)
      · obtain ⟨z, hz⟩ : ∃ z, pz[i]? = some z := by
          rw [List.getElem?_drop, List.getElem?_map] at hx
          have : 1 + i < ts.length := by
            rcases Nat.lt_or_ge (1 + i) ts.length with h | h
            · exact h
            · rw [List.getElem?_eq_none h] at hx
              cases hx
          simp only [List.length_cons] at lt
          exact ⟨pz[i], List.getElem?_eq_getElem (by omega)⟩
        obtain ⟨tz, ez, hzz⟩ := paired_of hp (i := 1 + i) (y := z) (by rw [Nat.add_comm]; exact hz)
        have hzz : H tz = some (.tup [.int z.1, .int z.2]) := hzz
        have ex : x = .ref tz := by
          rw [List.getElem?_drop, List.getElem?_map, ez] at hx
          exact (Option.some.inj hx).symm
        subst ex
        refine ⟨rfl, ?_⟩
        refine ⟨_, rfl, _, rfl, tz, _, _, _, rfl, rfl, SqT.of ((s2.trans p.1) _ _ hzz), it_at hk z, _, rfl, _, rfl, t0, _, _, _, rfl, rfl, SqT.of ((s2.trans p.1) _ _ h0), it_at hk p0, _, _, rfl, rfl, _, p.2, ?_, p.step hD2 Same.me ?_⟩
        · rw [List.length_map, List.length_take]
          refine small1000 (Nat.le_trans (Nat.min_le_right _ _) ?_)
          simp only [sk, List.length_map, List.length_drop, List.length_cons] at l7 ⊢
          omega
        · have es : (sk k (p0 :: pz))[i]? = some (it k z - it k p0) := by
            show (List.map _ pz)[i]? = _
            rw [List.getElem?_map, hz]
            rfl
          rw [take_more es, List.map_append]
          rfl
      · have el : ((ts.map V.ref).drop 1).length = (sk k (p0 :: pz)).length := by
          simp only [sk, List.length_map, List.length_drop, List.length_cons] at lt ⊢
          omega
        rw [el, List.take_length] at p
        obtain ⟨s3, hD3⟩ := p
        refine ⟨D2, _, rfl, .inl ⟨SqL.of hD3, fun r nr => ?_⟩⟩
        have s4 := s3.trans (same_new (o := .tup ((sk k (p0 :: pz)).map V.int)) nr)
        have s5 := sc.trans s4
        have hd5 := s5 _ _ hd
        refine ⟨_, hd5, by rw [List.length_map]; exact small1000 (by omega), fun b o e => ?_, rs ++ [r], by simp [lr], ?_, fun j u e => ?_⟩
        · rw [upd_ne (ne_of_none e hD)]
          exact s5 _ _ (s1 _ _ e)
        · rw [upd_same, List.map_append]
          rfl
        · have nuD : ∀ {u : Addr} {ys : List V}, (upd H' r (.tup ((sk k (p0 :: pz)).map V.int))) u = some (.tup ys) → u ≠ D := fun h => L2.ne_of h hd5 (by intro z; cases z)
          by_cases hj : j < rs.length
          · rw [List.getElem?_append_left hj] at e
            have e2 := s5 _ _ (hr j u e)
            rw [upd_ne (nuD e2)]
            exact e2
          · have hj2 : j = rs.length := by
              rcases Nat.lt_or_ge j (rs ++ [r]).length with h | h
              · simp at h
                omega
              · rw [List.getElem?_eq_none h] at e
                cases e
            subst hj2
            rw [List.getElem?_append_right (Nat.le_refl _), Nat.sub_self] at e
            have eu : r = u := Option.some.inj e
            subst eu
            rw [upd_ne (nuD upd_same), lr]
            exact upd_same
    · obtain ⟨s1, rs, lr, hd, hr⟩ := pk
      obtain ⟨r0, r1, rfl⟩ : ∃ r0 r1, rs = [r0, r1] := by
        match rs, lr with
        | [a, b], _ => exact ⟨a, b, rfl⟩
      refine ⟨D, _, rfl, .inl ⟨SqL.of hd, fun u nu => ?_⟩⟩
      have s2 := same_new (o := .tup ([r0, r1].map V.ref)) nu
      exact q _ u r0 r1 (s1.trans s2) upd_same (s2 _ _ (hr 0 r0 rfl)) (s2 _ _ (hr 1 r1 rfl))
end
end K14

namespace K14
open PySem PySem.Spec PyProof.Rows L2
def crs (xs ys : List Int) (i j : Nat) : Int := xs.getD i 0 * ys.getD j 0 - ys.getD i 0 * xs.getD j 0
/-- all pins on one line -/
def thin (xs ys : List Int) : Prop := ∀ i j, i < j → j < xs.length → crs xs ys i j = 0
theorem cross_zero {x y a b c d : Int} (hxy : x ≠ 0 ∨ y ≠ 0) (h1 : x * b - y * a = 0) (h2 : x * d - y * c = 0) : a * d - b * c = 0 := by
  have e1 : x * b = y * a := by omega
  have e2 : x * d = y * c := by omega
  rcases hxy with h | h
  · have : x * (a * d - b * c) = 0 := by
      have : x * (a * d - b * c) = a * (x * d) - (x * b) * c := by grind
      rw [this, e1, e2]
      grind
    rcases Int.mul_eq_zero.mp this with z | z
    · exact absurd z h
    · exact z
  · have : y * (a * d - b * c) = 0 := by
      have : y * (a * d - b * c) = (y * a) * d - b * (y * c) := by grind
      rw [this, ← e1, ← e2]
      grind
    rcases Int.mul_eq_zero.mp this with z | z
    · exact absurd z h
    · exact z
theorem thin_all {xs ys : List Int} (h : ∀ i, i < xs.length → xs.getD i 0 = 0 ∧ ys.getD i 0 = 0) : thin xs ys := fun i j hij hj => by
  unfold crs
  rw [(h i (by omega)).1, (h i (by omega)).2]
  omega
theorem thin_one {xs ys : List Int} {a : Nat} (ha : a < xs.length) (hz : ∀ i, i < a → xs.getD i 0 = 0 ∧ ys.getD i 0 = 0) (hn : xs.getD a 0 ≠ 0 ∨ ys.getD a 0 ≠ 0) (hm : ∀ j, a < j → j < xs.length → crs xs ys a j = 0) : thin xs ys := fun i j hij hj => by
  rcases Nat.lt_trichotomy i a with h | h | h
  · unfold crs
    rw [(hz i h).1, (hz i h).2]
    omega
  · rw [h]
    exact hm j (by omega) hj
  · have h1 := hm i h (by omega)
    have h2 := hm j (by omega) hj
    unfold crs at h1 h2 ⊢
    have z := cross_zero (x := xs.getD a 0) (y := ys.getD a 0) (a := xs.getD i 0) (b := ys.getD i 0) (c := xs.getD j 0) (d := ys.getD j 0) hn h1 h2
    exact z
theorem ints_at {ns : List Int} {i : Nat} (h : i < ns.length) : atI (ns.map V.int) (i : Int) = some (.int (ns.getD i 0)) := atI_nat (by rw [List.getElem?_map, List.getElem?_eq_getElem h, List.getD_eq_getElem?_getD, List.getElem?_eq_getElem h]; rfl)
def Bd (ns : List Int) : Prop := ∀ n ∈ ns, -(2 ^ 40) < n ∧ n < 2 ^ 40
theorem Bd.get {ns : List Int} (h : Bd ns) (i : Nat) : -(2 ^ 40) < ns.getD i 0 ∧ ns.getD i 0 < 2 ^ 40 := by
  rw [List.getD_eq_getElem?_getD]
  cases e : ns[i]? with
  | none => exact ⟨by decide, by decide⟩
  | some n => exact h n (List.mem_of_getElem? e)
end K14

namespace K14
open PySem PySem.Spec PyProof.Rows L2
/-- what the products have in row i and column j -/
def pg (xs ys : List Int) (i j : Nat) : Int := xs.getD i 0 * xs.getD j 0 + ys.getD i 0 * ys.getD j 0
theorem pg_sym (xs ys : List Int) (i j : Nat) : pg xs ys i j = pg xs ys j i := by
  unfold pg
  rw [Int.mul_comm (xs.getD i 0), Int.mul_comm (ys.getD i 0)]
def mrow (m : Nat → Nat → Int) (n i : Nat) : List Int := (List.range n).map (m i)
def MatL (fs : List Addr) (m : Nat → Nat → Int) (n : Nat) (H : Hp) : Prop := ∀ (j : Nat) (f : Addr), fs[j]? = some f → H f = some (.lst ((mrow m n j).map V.int))
def MatT (H : Hp) (t : Addr) (m : Nat → Nat → Int) (n : Nat) : Prop := ∃ rs : List Addr, rs.length = n ∧ H t = some (.tup (rs.map V.ref)) ∧ ∀ (j : Nat) (r : Addr), rs[j]? = some r → H r = some (.tup ((mrow m n j).map V.int))
def put (m : Nat → Nat → Int) (a b : Nat) (v : Int) : Nat → Nat → Int := fun i j => if i = a ∧ j = b then v else m i j
theorem mrow_len (m : Nat → Nat → Int) (n i : Nat) : (mrow m n i).length = n := by
  unfold mrow
  rw [List.length_map, List.length_range]
theorem mrow_set {m : Nat → Nat → Int} {n a b : Nat} {v : Int} (hb : b < n) : ((mrow m n a).map V.int).set b (.int v) = (mrow (put m a b v) n a).map V.int := by
  apply List.ext_getElem?
  intro j
  unfold mrow
  rw [List.getElem?_set]
  by_cases hj : b = j
  · subst hj
    rw [if_pos rfl, if_pos (by simp [hb])]
    rw [List.getElem?_map, List.getElem?_map, List.getElem?_range hb]
    simp [put]
  · rw [if_neg hj]
    rw [List.getElem?_map, List.getElem?_map, List.getElem?_map, List.getElem?_map]
    cases e : (List.range n)[j]? with
    | none => rfl
    | some k =>
      have : k = j := by
        have h : j < n := by
          rcases Nat.lt_or_ge j n with h | h
          · exact h
          · rw [List.getElem?_eq_none (by rw [List.length_range]; exact h)] at e
            cases e
        rw [List.getElem?_range h] at e
        exact (Option.some.inj e).symm
      subst this
      simp [put, show ¬ k = b from fun z => hj z.symm]
theorem mrow_put {m : Nat → Nat → Int} {n a b i : Nat} {v : Int} (h : i ≠ a) : mrow (put m a b v) n i = mrow m n i := by
  unfold mrow
  refine List.map_congr_left fun j _ => ?_
  unfold put
  rw [if_neg (fun z => h z.1)]
theorem nodup_at {fs : List Addr} (nd : fs.Nodup) {i j : Nat} {f : Addr} (h1 : fs[i]? = some f) (h2 : fs[j]? = some f) : i = j := by
  have a : i < fs.length := by
    rcases Nat.lt_or_ge i fs.length with h | h
    · exact h
    · rw [List.getElem?_eq_none h] at h1
      cases h1
  exact (List.getElem?_inj a nd).mp (h1.trans h2.symm)
theorem MatL.put {fs : List Addr} {m : Nat → Nat → Int} {n a b : Nat} {H : Hp} {f : Addr} {v : Int} (M : MatL fs m n H) (nd : fs.Nodup) (hf : fs[a]? = some f) (hb : b < n) :
    MatL fs (K14.put m a b v) n (upd H f (.lst (((mrow m n a).map V.int).set b (.int v)))) := fun j g hg => by
  by_cases e : g = f
  · subst e
    have : j = a := nodup_at nd hg hf
    subst this
    rw [upd_same, mrow_set hb]
  · have ne : j ≠ a := fun z => e (by rw [z, hf] at hg; exact (Option.some.inj hg).symm)
    rw [upd_ne e, mrow_put ne]
    exact M j g hg
theorem mrow_congr {m m' : Nat → Nat → Int} {n i : Nat} (h : ∀ j, j < n → m i j = m' i j) : mrow m n i = mrow m' n i := by
  unfold mrow
  exact List.map_congr_left fun j hj => h j (List.mem_range.mp hj)
theorem zeros (n : Nat) : (List.replicate n [V.int 0]).flatten = ((mrow (fun _ _ => 0) n 0).map V.int) := by
  unfold mrow
  induction n with
  | zero => rfl
  | succ n ih =>
    rw [List.replicate_succ', List.flatten_append, ih, List.range_succ, List.map_append, List.map_append]
    rfl
theorem ixN_nat {n j : Nat} (h : j < n) : ixN n (j : Int) = some j := by
  unfold ixN
  first
    | (rw [if_neg (by omega), if_pos (by omega)]; simp)
    | (simp; omega)
    | (split <;> simp_all <;> omega)
end K14

namespace K14
open PySem PySem.Spec PyProof.Rows L2
section
variable {P : Program} {w : World} {K : PySem.W.Frag} {mg : Str → Option Value} {base : Heap}
/-- two rows of as many numbers, in a tuple -/
def Two (H : Hp) (u : Addr) (xs ys : List Int) : Prop := ∃ r0 r1, H u = some (.tup [.ref r0, .ref r1]) ∧ H r0 = some (.tup (xs.map V.int)) ∧ H r1 = some (.tup (ys.map V.int))
theorem Two.same {H H' : Hp} {u : Addr} {xs ys : List Int} (h : Two H u xs ys) (s : Same H H') : Two H' u xs ys := let ⟨r0, r1, a, b, c⟩ := h; ⟨r0, r1, s _ _ a, s _ _ b, s _ _ c⟩
end
end K14

namespace K14
open PySem PySem.Spec PyProof.Rows L2
/-! ### BadPicture -/
structure BrTxt (K : PySem.W.Frag) (mg : Str → Option Value) (C fI : Addr) : Prop where
  oex : OexC K C
  mgC : mg "BadPicture" = some (.ref C)
  noP : PySem.W.findIn K (.ref C) "part" = some none
  iC : PySem.W.findIn K (.ref C) "__init__" = some (some (.ref fI))
  tI : PySem.W.typeIn K (.ref fI) = some (.type "function")
/-- a BadPicture is raised: its own dict d tells the part -/
def Rz (C : Addr) (z : Str) (H : Hp) (E : XK) : Prop := ∀ d H', Same H H' → H d = none → H' d = some (.xd [(("part" : Str), .str z)]) → E (.ref C) (some d) H'
theorem raised {H H1 : Hp} {C a dx : Addr} {z : Str} {E : XK} (h : Rz C z H E) (s1 : Same H H1) (ha : H1 a = none) (hd : upd H1 a (exo a C none) dx = none) (ne : dx ≠ a) :
    E (.ref C) (some dx) (upd (L2.del (upd (upd (upd H1 a (exo a C none)) dx (exd dx [(("part" : Str), V.str z)])) a (exo a C (some dx))) a) dx (.xd [(("part" : Str), V.str z)])) := by
  have hd1 : H1 dx = none := by
    rw [upd_ne ne] at hd
    exact hd
  refine h dx _ (fun b o e => ?_) (s1.free hd1) upd_same
  have e1 := s1 b o e
  have nb : b ≠ dx := ne_of_none e1 hd1
  have na : b ≠ a := ne_of_none e1 ha
  rw [upd_ne nb, del_ne na, upd_ne na, upd_ne nb, upd_ne na]
  exact e1
theorem RB.same {z : Bool} {H H1 : Hp} {Q : VK} (h : RB z H Q) (s : Same H H1) : RB z H1 Q := fun H' s' => h H' (s.trans s')
/-- all but what stands at a -/
def Kp (a : Addr) (H H' : Hp) : Prop := ∀ b o, b ≠ a → H b = some o → H' b = some o
theorem Kp.of {a : Addr} {H H' : Hp} (s : Same H H') : Kp a H H' := fun b o _ e => s b o e
theorem Kp.trans {a : Addr} {H H1 H2 : Hp} (x : Kp a H H1) (y : Kp a H1 H2) : Kp a H H2 := fun b o n e => y b o n (x b o n e)
theorem Kp.set {a : Addr} {H : Hp} {o : HO} : Kp a H (upd H a o) := fun b u n e => by rw [upd_ne n]; exact e
/-! ### places that are right -/
def OkP (ps : List (Int × Int)) : Prop := 4 ≤ ps.length ∧ ps.length ≤ 7 ∧ ∀ p ∈ ps, -G9 ≤ p.1 ∧ p.1 ≤ G9 ∧ -G9 ≤ p.2 ∧ p.2 ≤ G9
def PlA (H : Hp) (x : V) (p : Int × Int) : Prop := ∃ r, x = .ref r ∧ Sq H r [.int p.1, .int p.2]
/-- a list or a tuple of pairs, lists or tuples -/
def Pls (H : Hp) (v : V) (ps : List (Int × Int)) : Prop := ∃ b xs, v = .ref b ∧ Sq H b xs ∧ Paired (PlA H) xs ps
theorem PlA.same {H H' : Hp} {x : V} {p : Int × Int} (h : PlA H x p) (s : Same H H') : PlA H' x p := let ⟨r, e, q⟩ := h; ⟨r, e, q.same s⟩
theorem paired_mono {α β : Type} {R S : α → β → Prop} {xs : List α} {ys : List β} (h : Paired R xs ys) (i : ∀ x y, R x y → S x y) : Paired S xs ys := by
  induction h with
  | nil => exact .nil
  | cons a _ ih => exact .cons (i _ _ a) ih
theorem Pls.same {H H' : Hp} {v : V} {ps : List (Int × Int)} (h : Pls H v ps) (s : Same H H') : Pls H' v ps := let ⟨b, xs, e, q, k⟩ := h; ⟨b, xs, e, q.same s, paired_mono k fun _ _ z => z.same s⟩
theorem inB_of {n : Int} (h : -G9 ≤ n) (h2 : n ≤ G9) : inB (.int n) = true := by
  show (decide (-G9 ≤ n) && decide (n ≤ G9)) = true
  rw [decide_eq_true h, decide_eq_true h2]
  rfl
theorem pl_rows {K : PySem.W.Frag} {H : Hp} {xs : List V} {ps : List (Int × Int)} (h : Paired (PlA H) xs ps) (b : ∀ p ∈ ps, -G9 ≤ p.1 ∧ p.1 ≤ G9 ∧ -G9 ≤ p.2 ∧ p.2 ≤ G9) : Paired (RowV K H) xs (ps.map fun _ => true) := by
  induction h with
  | nil => exact .nil
  | @cons x p xs ps a _ ih =>
    refine .cons ?_ (ih fun q hq => b q (List.mem_cons_of_mem _ hq))
    obtain ⟨r, rfl, q⟩ := a
    obtain ⟨b1, b2, b3, b4⟩ := b p List.mem_cons_self
    have z : RowV K H (.ref r) (rowB [.int p.1, .int p.2]) := .seq q (fun x hx => by
      rcases List.mem_cons.mp hx with e | e
      · rw [e]
        exact ⟨_, .int _⟩
      · rw [List.mem_singleton.mp e]
        exact ⟨_, .int _⟩) (by show 2 ≤ 100; decide)
    have e : rowB [V.int p.1, V.int p.2] = true := by
      show (decide _ && (inB _ && (inB _ && true))) = true
      rw [inB_of b1 b2, inB_of b3 b4]
      rfl
    rw [e] at z
    exact z
theorem Pls.rows {K : PySem.W.Frag} {H : Hp} {v : V} {ps : List (Int × Int)} (h : Pls H v ps) (ok : OkP ps) : RowsV K H v (some (ps.map fun _ => true)) ∧ plB (some (ps.map fun _ => true)) = true := by
  obtain ⟨b, xs, rfl, q, k⟩ := h
  refine ⟨.seq q (pl_rows k ok.2.2) ?_, ?_⟩
  · rw [Paired.length k]
    exact Nat.le_trans ok.2.1 (by decide)
  · have h1 := ok.1
    have h2 := ok.2.1
    have e : (ps.map fun _ => true).all id = true := by
      rw [List.all_map]
      exact List.all_eq_true.mpr fun _ _ => rfl
    show (_ && decide _ && decide _) = true
    rw [e, List.length_map, decide_eq_true h1, decide_eq_true h2]
    rfl
/-! ### pictures -/
structure PicT (K : PySem.W.Frag) (C : Addr) : Prop where
  pc : PicC K C
  n1 : NoAttr K C "places"
  n2 : NoAttr K C "pins"
  n3 : NoAttr K C "rows"
/-- at a: the picture with these places -/
def PicF (H : Hp) (C a : Addr) (ps : List (Int × Int)) : Prop := ∃ dx t u, H a = some (.ins C dx [("places", .ref t), ("pins", .int ps.length), ("rows", .ref u)]) ∧ PT H t ps ∧ Two H u (sk 0 ps) (sk 1 ps)
theorem PT.same {H H' : Hp} {t : Addr} {ps : List (Int × Int)} (h : PT H t ps) (s : Same H H') : PT H' t ps := let ⟨ts, a, b⟩ := h; ⟨ts, s _ _ a, paired_mono b fun _ _ z => s _ _ z⟩
theorem PicF.same {H H' : Hp} {C a : Addr} {ps : List (Int × Int)} (h : PicF H C a ps) (s : Same H H') : PicF H' C a ps := let ⟨dx, t, u, e, p, q⟩ := h; ⟨dx, t, u, s _ _ e, p.same s, q.same s⟩
theorem PT.kp {H H' : Hp} {t a C dx : Addr} {fs : List (Str × V)} {ps : List (Int × Int)} (h : PT H t ps) (ha : H a = some (.ins C dx fs)) (k : Kp a H H') : PT H' t ps := by
  obtain ⟨ts, e, b⟩ := h
  have ne : ∀ {x : Addr} {xs : List V}, H x = some (.tup xs) → x ≠ a := fun h => L2.ne_of h ha (by intro z; cases z)
  exact ⟨ts, k _ _ (ne e) e, paired_mono b fun _ _ z => k _ _ (ne z) z⟩
theorem Two.kp {H H' : Hp} {u a C dx : Addr} {fs : List (Str × V)} {xs ys : List Int} (h : Two H u xs ys) (ha : H a = some (.ins C dx fs)) (k : Kp a H H') : Two H' u xs ys := by
  obtain ⟨r0, r1, e, e0, e1⟩ := h
  have ne : ∀ {x : Addr} {xs : List V}, H x = some (.tup xs) → x ≠ a := fun h => L2.ne_of h ha (by intro z; cases z)
  exact ⟨r0, r1, k _ _ (ne e) e, k _ _ (ne e0) e0, k _ _ (ne e1) e1⟩
section
variable {P : Program} {w : World} {K : PySem.W.Frag} {mg : Str → Option Value} {base : Heap} {C CB fB : Addr}
def spBI (K : PySem.W.Frag) (C : Addr) : Sp := fun vs H Q _ => ∃ (a : Addr) (y : V), vs = [.ref a, y] ∧ OexC K C ∧ PySem.W.findIn K (.ref C) "part" = some none ∧ H a = some (exo a C none) ∧
  ∀ dx, H dx = none → dx ≠ a → Q .non (upd (upd H dx (exd dx [(("part" : Str), y)])) a (exo a C (some dx)))
abbrev sBI : Stmt := inClass (top 4) 0
theorem scBI : FnScope ["self", "part"] ["self", "part"] (defScope sBI) := ⟨rfl, rfl, rfl, by decide +kernel, rfl, by decide +kernel, by decide +kernel⟩
theorem ok_bi {f C : Addr} {fd : FuncData} (F : Fun K "__init__" "BadPicture.__init__" sBI f fd) : FnOk P w K mg base CX0 1 f fd ["self", "part"] (spBI K C) := by
  refine F.ok scBI (fun vs H Q E h => ?_) (fun cdv A outer s H vs Q E hr h => ?_)
  · obtain ⟨a, y, rfl, _⟩ := h
    rfl
  · obtain ⟨a, y, rfl, T, no, ha, q⟩ := h
    refine ⟨_, pss_one (ps_ost (pv 0) (pv 1)), ?_⟩
    exact ⟨_, rfl, _, rfl, a, C, rfl, T, no, .inl ⟨ha, q⟩⟩
/-! ### Picture.__init__ -/
def spPI (K : PySem.W.Frag) (C CB : Addr) : Sp := fun vs H Q E => ∃ (a dx : Addr) (v : V), vs = [.ref a, v] ∧ H a = some (.ins C dx []) ∧
  ((∃ ps, Pls H v ps ∧ OkP ps ∧ ∀ H', Kp a H H' → PicF H' C a ps → Q .non H') ∨ (∃ o, RowsV K H v o ∧ plB o = false ∧ Rz CB "places" H E))
abbrev sPI : Stmt := inClass (top 44) 0
abbrev nPI : List Str := ["self", "places", "place"]
theorem scPI : FnScope nPI ["self", "places"] (defScope sPI) := ⟨rfl, rfl, rfl, by decide +kernel, rfl, by decide +kernel, by decide +kernel⟩
theorem ok_pi {f : Addr} {fd fdB : FuncData} (F : Fun K "__init__" "Picture.__init__" sPI f fd) (B : Bn mg) (T : PicT K C) (TB : BrTxt K mg CB fB) (FB : Fun K "__init__" "BadPicture.__init__" sBI fB fdB) (C1 : Callee P w K mg base CX0 5 "are_places" ["value", "size"] (spPlaces K)) (C2 : Callee P w K mg base CX0 1 "steps_along" ["places"] spSteps) :
    FnOk P w K mg base (L2.CX P w) 6 f fd ["self", "places"] (spPI K C CB) := by
  obtain ⟨f1, fd1, m1, k1, b1, G1⟩ := C1
  obtain ⟨f2, fd2, m2, k2, b2, G2⟩ := C2
  have GB : FnOk P w K mg base CX0 1 fB fdB ["self", "part"] (spBI K CB) := ok_bi FB
  have bB : Binds K fdB ["self", "part"] [] := FB.binds (ps := ["self", "part"]) fun _ _ _ _ _ _ us hl => match us, hl with | [_, _], _ => rfl
  have nd := scPI.nd
  refine F.okX scPI (fun vs H Q E h => ?_) (fun cdv A outer s H vs Q E hr h => ?_)
  · obtain ⟨a, dx, v, rfl, _⟩ := h
    rfl
  · obtain ⟨a, dx, v, rfl, ha, h⟩ := h
    rcases h with ⟨ps, pls, ok, q⟩ | ⟨o, ro, po, r⟩
    · obtain ⟨ro, po⟩ := pls.rows (K := K) ok
      obtain ⟨b, xs, rfl, hs, hk⟩ := pls
      have lx : xs.length = ps.length := Paired.length hk
      have step : ∀ {H1 H' : Hp} {D : Addr} {i : Nat} {x : V} {ts : List Addr}, Same H H1 → H1 D = none → Same H1 H' → xs[i]? = some x → ts.length = i → H' D = some (.lst (ts.map V.ref)) → (∀ (j : Nat) t p, ts[j]? = some t → ps[j]? = some p → Pr H' t p) →
          ∃ g, x = .ref g ∧ ((∃ zs, H' g = some (.lst zs) ∧ (∃ p, ps[i]? = some p ∧ zs = [.int p.1, .int p.2])) ∨ (∃ p, ps[i]? = some p ∧ H' g = some (.tup [.int p.1, .int p.2]))) := fun s1 _ s2 hx _ _ _ => by
        obtain ⟨p, hp, g, rfl, e⟩ := paired_get hk hx
        refine ⟨g, rfl, ?_⟩
        rcases e with e | e
        · exact .inl ⟨_, s2 _ _ (s1 _ _ e), p, hp, rfl⟩
        · exact .inr ⟨p, hp, s2 _ _ (s1 _ _ e)⟩
      have grow : ∀ {H1 H' H2 : Hp} {D g : Addr} {i : Nat} {ts : List Addr} {p : Int × Int}, H1 D = none → Same H1 H' → Same H' H2 → ts.length = i → H' D = some (.lst (ts.map V.ref)) → (∀ (j : Nat) t p, ts[j]? = some t → ps[j]? = some p → Pr H' t p) → ps[i]? = some p → Pr H2 g p →
          ∃ acc, H2 D = some (.lst acc) ∧ acc.length < sizeLine ∧ (Same H1 (upd H2 D (.lst (acc ++ [V.ref g]))) ∧ ∃ ts' : List Addr, ts'.length = i + 1 ∧ (upd H2 D (.lst (acc ++ [V.ref g]))) D = some (.lst (ts'.map V.ref)) ∧ ∀ (j : Nat) t p, ts'[j]? = some t → ps[j]? = some p → Pr (upd H2 D (.lst (acc ++ [V.ref g]))) t p) := fun {H1 H' H2 D g i ts p} hD s2 s3 lt hd ht hp hg => by
        have hd2 := s3 _ _ hd
        have hi : i < ps.length := by
          rcases Nat.lt_or_ge i ps.length with h | h
          · exact h
          · rw [List.getElem?_eq_none h] at hp
            cases hp
        have ok7 := ok.2.1
        refine ⟨_, hd2, by rw [List.length_map]; exact small1000 (by omega), fun c o e => ?_, ts ++ [g], by simp [lt], ?_, fun j t p' et ep => ?_⟩
        · rw [upd_ne (ne_of_none e hD)]
          exact s3 _ _ (s2 _ _ e)
        · rw [upd_same, List.map_append]
          rfl
        · have nD : ∀ {t : Addr} {zs : List V}, H2 t = some (.tup zs) → t ≠ D := fun h => L2.ne_of h hd2 (by intro z; cases z)
          unfold Pr
          by_cases hj : j < ts.length
          · rw [List.getElem?_append_left hj] at et
            have e2 : H2 t = some (.tup [.int p'.1, .int p'.2]) := s3 _ _ (ht j t p' et ep)
            rw [upd_ne (nD e2)]
            exact e2
          · have hj2 : j = ts.length := by
              rcases Nat.lt_or_ge j (ts ++ [g]).length with h | h
              · simp at h
                omega
              · rw [List.getElem?_eq_none h] at et
                cases et
            subst hj2
            rw [List.getElem?_append_right (Nat.le_refl _), Nat.sub_self] at et
            have eu : g = t := Option.some.inj et
            subst eu
            rw [lt] at ep
            rw [hp] at ep
            have e3 : p = p' := Option.some.inj ep
            subst e3
            have hg : H2 g = some (.tup [.int p.1, .int p.2]) := hg
            rw [upd_ne (nD hg)]
            exact hg
      have fin : ∀ {H1 H' : Hp} {D : Addr} {ts : List Addr}, Same H H1 → Same H1 H' → ts.length = ps.length → H' D = some (.lst (ts.map V.ref)) → (∀ (j : Nat) t p, ts[j]? = some t → ps[j]? = some p → Pr H' t p) → ∀ t H2, H' t = none → H2 = upd H' t (.tup (ts.map V.ref)) → (PT H2 t ps ∧ Same H H2) := fun {H1 H' D ts} s1 s2 lt hd ht t H2 nt e2 => by
        subst e2
        have s3 := same_new (o := .tup (ts.map V.ref)) nt
        refine ⟨⟨ts, upd_same, ?_⟩, (s1.trans s2).trans s3⟩
        have : ∀ (as : List Addr) (qs : List (Int × Int)), as.length = qs.length → (∀ (j : Nat) t p, as[j]? = some t → qs[j]? = some p → Pr H' t p) → Paired (Pr (upd H' t (.tup (ts.map V.ref)))) as qs := by
          intro as
          induction as with
          | nil =>
            intro qs l _
            cases qs with
            | nil => exact .nil
            | cons _ _ => cases l
          | cons c as ih =>
            intro qs l h
            cases qs with
            | nil => cases l
            | cons p qs => exact .cons (s3 _ _ (h 0 c p rfl rfl)) (ih qs (by simpa using l) fun j t p e1 e2 => h (j + 1) t p (by simpa using e1) (by simpa using e2))
        exact this ts ps lt ht
      rcases hs with hs | hs
      · refine ⟨_, (pss_cons (ps_if (pt_not (pt_val (pe_call G1 (hr.mono (by decide)) rfl m1 k1 b1 .nil pass0 (pa_cons (pv 1) (pa_cons (pe_int) pa_nil))))) (pss_one (ps_raise rfl (takes_of rfl rfl rfl rfl) (pmk_oex TB.oex TB.iC TB.tI GB (hr.mono (by decide)) bB .nil pass0 rfl TB.mgC (pa_cons pe_str pa_nil)))) pss_nil) (pss_cons (ps_fld (pv 0) (pe_callTy (T := "tuple") (r := rTu K) call_tuK (by rfl) B.tuple (by decide +kernel) (pa_cons (pe_lc (own := [("place", 2)]) (g := gName 2) (tt := tYes) rfl nd (pi_list (pv 1)) (blkOk_by (N := nPI) (sc := defScope sPI) (by decide +kernel)) (fun _ _ _ _ _ => pg_name (i := 2) nd rfl (Or.inl rfl)) (fun _ _ _ _ _ => pts_nil) (fun _ _ _ _ _ => (pe_callTy (T := "tuple") (r := rTu K) call_tuK (by rfl) B.tuple (by decide +kernel) (pa_cons (pv 2) pa_nil)))) pa_nil)) rfl) (pss_cons (ps_fld (pv 0) (pe_callB call_len_seq (by rfl) B.len PySem.boot_len (pa_cons (pe_fld (pv 0) rfl) pa_nil)) rfl) (pss_one (ps_fld (pv 0) (pe_call G2 (hr.mono (by decide)) rfl m2 k2 b2 .nil pass0 (pa_cons (pe_fld (pv 0) rfl) pa_nil)) rfl))))), ?_⟩
        refine ⟨_, rfl, _, _, rfl, ro, fun H1 s1 => ⟨_, rfl, ?_⟩⟩
        rw [po]
        refine iteF ?_
        refine ⟨_, rfl, b, rfl, ⟨_, SqL.of (s1 _ _ hs)⟩, fun D hD => ?_⟩
        refine lc_list (K := K) (a := b) (xs := xs) (fun i H' => Same H1 H' ∧ ∃ ts : List Addr, ts.length = i ∧ H' D = some (.lst (ts.map V.ref)) ∧ ∀ (j : Nat) t p, ts[j]? = some t → ps[j]? = some p → Pr H' t p) ⟨same_new hD, [], rfl, upd_same, fun j t p e => by simp at e⟩ (fun i H' _ p => SqL.of (p.1 _ _ (s1 _ _ hs))) (fun i x H' hx p => ?_) (fun H' p => ?_)
        · obtain ⟨s2, ts, lt, hd, ht⟩ := p
          refine ⟨rfl, ?_⟩
          obtain ⟨g, rfl, ⟨zs, hg, p, hp, rfl⟩ | ⟨p, hp, hg⟩⟩ := step s1 hD s2 hx lt hd ht
          · exact ⟨_, rfl, g, _, rfl, .inl ⟨SqL.of hg, fun r nr => grow hD s2 (same_new nr) lt hd ht hp upd_same⟩⟩
          · exact ⟨_, rfl, g, _, rfl, .inr ⟨SqT.of hg, grow hD s2 Same.me lt hd ht hp hg⟩⟩
        · obtain ⟨s2, ts, lt, hd, ht⟩ := p
          rw [lx] at lt
          refine ⟨D, _, rfl, .inl ⟨SqL.of hd, fun t nt => ?_⟩⟩
          obtain ⟨ptn, s3⟩ := fin s1 s2 lt hd ht t _ nt rfl
          generalize upd H' t (.tup (ts.map V.ref)) = H3 at ptn s3 ⊢
          have ha3 := s3 _ _ ha
          refine ⟨_, rfl, a, C, dx, [], rfl, ha3, T.pc.cls, T.n1, by show 0 < 1000; decide, ?_⟩
          have pt4 := ptn.kp ha3 (Kp.set (o := .ins C dx (putF "places" (.ref t) [])))
          have ha4 : upd H3 a (.ins C dx (putF "places" (.ref t) [])) a = some (.ins C dx [("places", .ref t)]) := upd_same
          have k4 : Kp a H (upd H3 a (.ins C dx (putF "places" (.ref t) []))) := (Kp.of s3).trans Kp.set
          generalize upd H3 a (.ins C dx (putF "places" (.ref t) [])) = H4 at pt4 ha4 k4 ⊢
          obtain ⟨ts2, e2, pr2⟩ := pt4
          have l2 : (ts2.map V.ref).length = ps.length := by
            rw [List.length_map]
            exact Paired.length pr2
          refine ⟨_, rfl, a, C, dx, _, .ref t, rfl, ha4, T.pc.cls, T.n1, rfl, t, _, rfl, .inr (SqT.of e2), ?_⟩
          rw [l2]
          refine ⟨_, rfl, a, C, dx, _, rfl, ha4, T.pc.cls, T.n2, by show 1 < 1000; decide, ?_⟩
          have pt5 := PT.kp ⟨ts2, e2, pr2⟩ ha4 (Kp.set (o := .ins C dx (putF "pins" (.int ps.length) [("places", .ref t)])))
          have ha5 : upd H4 a (.ins C dx (putF "pins" (.int ps.length) [("places", .ref t)])) a = some (.ins C dx [("places", .ref t), ("pins", .int ps.length)]) := upd_same
          have k5 : Kp a H (upd H4 a (.ins C dx (putF "pins" (.int ps.length) [("places", .ref t)]))) := k4.trans Kp.set
          generalize upd H4 a (.ins C dx (putF "pins" (.int ps.length) [("places", .ref t)])) = H5 at pt5 ha5 k5 ⊢
          refine ⟨_, rfl, a, C, dx, _, .ref t, rfl, ha5, T.pc.cls, T.n1, rfl, t, ps, rfl, pt5, ok.1, ok.2.1, fun H6 u r0 r1 s6 hu h0 h1 => ?_⟩
          have ha6 := s6 _ _ ha5
          refine ⟨_, rfl, a, C, dx, _, rfl, ha6, T.pc.cls, T.n3, by show 2 < 1000; decide, ?_⟩
          refine q _ ((k5.trans (Kp.of s6)).trans Kp.set) ⟨dx, t, u, upd_same, (pt5.same s6).kp ha6 Kp.set, Two.kp ⟨r0, r1, hu, h0, h1⟩ ha6 Kp.set⟩
      · refine ⟨_, (pss_cons (ps_if (pt_not (pt_val (pe_call G1 (hr.mono (by decide)) rfl m1 k1 b1 .nil pass0 (pa_cons (pv 1) (pa_cons (pe_int) pa_nil))))) (pss_one (ps_raise rfl (takes_of rfl rfl rfl rfl) (pmk_oex TB.oex TB.iC TB.tI GB (hr.mono (by decide)) bB .nil pass0 rfl TB.mgC (pa_cons pe_str pa_nil)))) pss_nil) (pss_cons (ps_fld (pv 0) (pe_callTy (T := "tuple") (r := rTu K) call_tuK (by rfl) B.tuple (by decide +kernel) (pa_cons (pe_lc (own := [("place", 2)]) (g := gName 2) (tt := tYes) rfl nd (pi_tup (pv 1)) (blkOk_by (N := nPI) (sc := defScope sPI) (by decide +kernel)) (fun _ _ _ _ _ => pg_name (i := 2) nd rfl (Or.inl rfl)) (fun _ _ _ _ _ => pts_nil) (fun _ _ _ _ _ => (pe_callTy (T := "tuple") (r := rTu K) call_tuK (by rfl) B.tuple (by decide +kernel) (pa_cons (pv 2) pa_nil)))) pa_nil)) rfl) (pss_cons (ps_fld (pv 0) (pe_callB call_len_seq (by rfl) B.len PySem.boot_len (pa_cons (pe_fld (pv 0) rfl) pa_nil)) rfl) (pss_one (ps_fld (pv 0) (pe_call G2 (hr.mono (by decide)) rfl m2 k2 b2 .nil pass0 (pa_cons (pe_fld (pv 0) rfl) pa_nil)) rfl))))), ?_⟩
        refine ⟨_, rfl, _, _, rfl, ro, fun H1 s1 => ⟨_, rfl, ?_⟩⟩
        rw [po]
        refine iteF ?_
        refine ⟨_, rfl, b, rfl, ⟨_, SqT.of (s1 _ _ hs)⟩, fun D hD => ?_⟩
        refine lc_tup (K := K) (a := b) (xs := xs) (fun i H' => Same H1 H' ∧ ∃ ts : List Addr, ts.length = i ∧ H' D = some (.lst (ts.map V.ref)) ∧ ∀ (j : Nat) t p, ts[j]? = some t → ps[j]? = some p → Pr H' t p) ⟨same_new hD, [], rfl, upd_same, fun j t p e => by simp at e⟩ (fun i H' _ p => SqT.of (p.1 _ _ (s1 _ _ hs))) (fun i x H' hx p => ?_) (fun H' p => ?_)
        · obtain ⟨s2, ts, lt, hd, ht⟩ := p
          refine ⟨rfl, ?_⟩
          obtain ⟨g, rfl, ⟨zs, hg, p, hp, rfl⟩ | ⟨p, hp, hg⟩⟩ := step s1 hD s2 hx lt hd ht
          · exact ⟨_, rfl, g, _, rfl, .inl ⟨SqL.of hg, fun r nr => grow hD s2 (same_new nr) lt hd ht hp upd_same⟩⟩
          · exact ⟨_, rfl, g, _, rfl, .inr ⟨SqT.of hg, grow hD s2 Same.me lt hd ht hp hg⟩⟩
        · obtain ⟨s2, ts, lt, hd, ht⟩ := p
          rw [lx] at lt
          refine ⟨D, _, rfl, .inl ⟨SqL.of hd, fun t nt => ?_⟩⟩
          obtain ⟨ptn, s3⟩ := fin s1 s2 lt hd ht t _ nt rfl
          generalize upd H' t (.tup (ts.map V.ref)) = H3 at ptn s3 ⊢
          have ha3 := s3 _ _ ha
          refine ⟨_, rfl, a, C, dx, [], rfl, ha3, T.pc.cls, T.n1, by show 0 < 1000; decide, ?_⟩
          have pt4 := ptn.kp ha3 (Kp.set (o := .ins C dx (putF "places" (.ref t) [])))
          have ha4 : upd H3 a (.ins C dx (putF "places" (.ref t) [])) a = some (.ins C dx [("places", .ref t)]) := upd_same
          have k4 : Kp a H (upd H3 a (.ins C dx (putF "places" (.ref t) []))) := (Kp.of s3).trans Kp.set
          generalize upd H3 a (.ins C dx (putF "places" (.ref t) [])) = H4 at pt4 ha4 k4 ⊢
          obtain ⟨ts2, e2, pr2⟩ := pt4
          have l2 : (ts2.map V.ref).length = ps.length := by
            rw [List.length_map]
            exact Paired.length pr2
          refine ⟨_, rfl, a, C, dx, _, .ref t, rfl, ha4, T.pc.cls, T.n1, rfl, t, _, rfl, .inr (SqT.of e2), ?_⟩
          rw [l2]
          refine ⟨_, rfl, a, C, dx, _, rfl, ha4, T.pc.cls, T.n2, by show 1 < 1000; decide, ?_⟩
          have pt5 := PT.kp ⟨ts2, e2, pr2⟩ ha4 (Kp.set (o := .ins C dx (putF "pins" (.int ps.length) [("places", .ref t)])))
          have ha5 : upd H4 a (.ins C dx (putF "pins" (.int ps.length) [("places", .ref t)])) a = some (.ins C dx [("places", .ref t), ("pins", .int ps.length)]) := upd_same
          have k5 : Kp a H (upd H4 a (.ins C dx (putF "pins" (.int ps.length) [("places", .ref t)]))) := k4.trans Kp.set
          generalize upd H4 a (.ins C dx (putF "pins" (.int ps.length) [("places", .ref t)])) = H5 at pt5 ha5 k5 ⊢
          refine ⟨_, rfl, a, C, dx, _, .ref t, rfl, ha5, T.pc.cls, T.n1, rfl, t, ps, rfl, pt5, ok.1, ok.2.1, fun H6 u r0 r1 s6 hu h0 h1 => ?_⟩
          have ha6 := s6 _ _ ha5
          refine ⟨_, rfl, a, C, dx, _, rfl, ha6, T.pc.cls, T.n3, by show 2 < 1000; decide, ?_⟩
          refine q _ ((k5.trans (Kp.of s6)).trans Kp.set) ⟨dx, t, u, upd_same, (pt5.same s6).kp ha6 Kp.set, Two.kp ⟨r0, r1, hu, h0, h1⟩ ha6 Kp.set⟩
    · refine ⟨_, (pss_cons (ps_if (pt_not (pt_val (pe_call G1 (hr.mono (by decide)) rfl m1 k1 b1 .nil pass0 (pa_cons (pv 1) (pa_cons (pe_int) pa_nil))))) (pss_one (ps_raise rfl (takes_of rfl rfl rfl rfl) (pmk_oex TB.oex TB.iC TB.tI GB (hr.mono (by decide)) bB .nil pass0 rfl TB.mgC (pa_cons pe_str pa_nil)))) pss_nil) (pss_cons (ps_fld (pv 0) (pe_callTy (T := "tuple") (r := rTu K) call_tuK (by rfl) B.tuple (by decide +kernel) (pa_cons (pe_lc (own := [("place", 2)]) (g := gName 2) (tt := tYes) rfl nd (pi_list (pv 1)) (blkOk_by (N := nPI) (sc := defScope sPI) (by decide +kernel)) (fun _ _ _ _ _ => pg_name (i := 2) nd rfl (Or.inl rfl)) (fun _ _ _ _ _ => pts_nil) (fun _ _ _ _ _ => (pe_callTy (T := "tuple") (r := rTu K) call_tuK (by rfl) B.tuple (by decide +kernel) (pa_cons (pv 2) pa_nil)))) pa_nil)) rfl) (pss_cons (ps_fld (pv 0) (pe_callB call_len_seq (by rfl) B.len PySem.boot_len (pa_cons (pe_fld (pv 0) rfl) pa_nil)) rfl) (pss_one (ps_fld (pv 0) (pe_call G2 (hr.mono (by decide)) rfl m2 k2 b2 .nil pass0 (pa_cons (pe_fld (pv 0) rfl) pa_nil)) rfl))))), ?_⟩
      refine ⟨_, rfl, _, _, rfl, ro, fun H1 s1 => ⟨_, rfl, ?_⟩⟩
      rw [po]
      refine iteT ⟨by show 1 ≤ 1000; decide, fun e he => ?_⟩
      exact ⟨e, _, rfl, TB.oex, TB.noP, upd_same, fun dx hdx ne => ⟨rfl, dx, _, upd_same, by rw [upd_ne ne]; exact upd_same, by rw [upd_ne ne] at hdx; exact hdx, raised r s1 he hdx ne⟩⟩
end
end K14

namespace K14
open PySem PySem.Spec PyProof.Rows L2
/-! ### places as data -/
def en (p : Int × Int) : PyData := .tuple [.int p.1, .int p.2]
def enc (ps : List (Int × Int)) : PyData := .tuple (ps.map en)
theorem enc_lay : ∀ ps : List (Int × Int), PyData.canLayAll0 (ps.map en) = true
  | [] => rfl
  | p :: ps => by
    show (PyData.canLay0 (en p) && PyData.canLayAll0 (ps.map en)) = true
    rw [enc_lay ps]
    rfl
theorem enc_depth : ∀ ps : List (Int × Int), PyData.depthAll (ps.map en) ≤ 1
  | [] => by decide
  | p :: ps => by
    show max (PyData.depth (en p)) (PyData.depthAll (ps.map en)) ≤ 1
    have h := enc_depth ps
    have e : PyData.depth (en p) = 1 := rfl
    omega
theorem enc_shaped (ps : List (Int × Int)) : SeqAt.shaped (enc ps) = true := by
  show (PyData.canLayAll0 (ps.map en) && decide (PyData.depthAll (ps.map en) + 1 ≤ 64)) = true
  rw [enc_lay, Bool.true_and, decide_eq_true_iff]
  have := enc_depth ps
  omega
theorem en_eqv (p q : Int × Int) : PyData.eqv (en p) (en q) = decide (p = q) := by
  show (p.1 == q.1 && (p.2 == q.2 && true)) = _
  obtain ⟨a, b⟩ := p
  obtain ⟨c, d⟩ := q
  rw [Bool.and_true, Bool.eq_iff_iff, decide_eq_true_iff, Bool.and_eq_true, beq_iff_eq, beq_iff_eq, Prod.mk.injEq]
theorem enc_eqv : ∀ ps qs : List (Int × Int), PyData.eqvAll (ps.map en) (qs.map en) = decide (ps = qs)
  | [], [] => rfl
  | [], _ :: _ => rfl
  | _ :: _, [] => rfl
  | p :: ps, q :: qs => by
    show (PyData.eqv (en p) (en q) && PyData.eqvAll (ps.map en) (qs.map en)) = _
    rw [en_eqv, enc_eqv ps qs, Bool.eq_iff_iff, Bool.and_eq_true, decide_eq_true_iff, decide_eq_true_iff, decide_eq_true_iff, List.cons.injEq]
theorem dp_pairs {K : PySem.W.Frag} {H : Hp} {ts : List Addr} {ps : List (Int × Int)} (h : Paired (Pr H) ts ps) : DpAll K H (ts.map V.ref) (ps.map en) := by
  induction h with
  | nil => exact .nil
  | cons a _ ih => exact .cons (.tup (SqT.of a) (.cons (.int _) (.cons (.int _) .nil))) ih
theorem PT.dp {K : PySem.W.Frag} {H : Hp} {t : Addr} {ps : List (Int × Int)} (h : PT H t ps) : Dp K H (.ref t) (enc ps) := let ⟨_, e, p⟩ := h; .tup (SqT.of e) (dp_pairs p)
theorem sk_bd {ps : List (Int × Int)} (ok : OkP ps) (k : Nat) : Bd (sk k ps) := fun n hn => by
  unfold sk at hn
  obtain ⟨p, hp, rfl⟩ := List.mem_map.mp hn
  have b1 := ok.2.2 p (List.mem_of_mem_drop hp)
  have b2 : -G9 ≤ (ps.headD (0, 0)).1 ∧ (ps.headD (0, 0)).1 ≤ G9 ∧ -G9 ≤ (ps.headD (0, 0)).2 ∧ (ps.headD (0, 0)).2 ≤ G9 := by
    cases ps with
    | nil => exact absurd ok.1 (by decide)
    | cons q qs => exact ok.2.2 q List.mem_cons_self
  unfold it
  have e : G9 = 1000000000 := rfl
  split <;> constructor <;> omega
theorem sk_len (k : Nat) (ps : List (Int × Int)) : (sk k ps).length = ps.length - 1 := by
  unfold sk
  rw [List.length_map, List.length_drop]
/-! ### values that are no pictures -/
inductive Np (H : Hp) : V → String → Prop
  | non : Np H .non "NoneType"
  | str (z : Str) : Np H (.str z) "str"
  | lst {a : Addr} {xs : List V} (e : H a = some (.lst xs)) : Np H (.ref a) "list"
  | tup {a : Addr} {xs : List V} (e : H a = some (.tup xs)) : Np H (.ref a) "tuple"
theorem Np.ty {K : PySem.W.Frag} {H : Hp} {v : V} {t : String} (k : Np H v t) : TyX K H v (.type t) := by
  cases k with
  | non => exact .base .non
  | str z => exact .base (.str z)
  | lst e => exact .base (.lst e)
  | tup e => exact .base (.tup e)
theorem Np.same {H H' : Hp} {v : V} {t : String} (k : Np H v t) (s : Same H H') : Np H' v t := by
  cases k with
  | non => exact .non
  | str z => exact .str z
  | lst e => exact .lst (s _ _ e)
  | tup e => exact .tup (s _ _ e)
/-- what the class tells of other kinds -/
structure PicN (K : PySem.W.Frag) (C : Addr) : Prop where
  k : ∀ t ∈ ["NoneType", "str", "list", "tuple"], PySem.W.kitOne K (.type t) (.ref C) = some false ∧ PySem.W.notFirst K C (.type t) = true
  ne : PySem.W.findIn K (.ref C) "__ne__" = some (some (.builtin "object.__ne__"))
theorem PicN.of {K : PySem.W.Frag} {C : Addr} {H : Hp} {v : V} {t : String} (N : PicN K C) (k : Np H v t) : PySem.W.kitOne K (.type t) (.ref C) = some false ∧ PySem.W.notFirst K C (.type t) = true := by
  cases k with
  | non => exact N.k _ (by decide)
  | str z => exact N.k _ (by decide)
  | lst e => exact N.k _ (by decide)
  | tup e => exact N.k _ (by decide)
/-- whether a picture equals it -/
def Eqs (H : Hp) (C : Addr) (ps : List (Int × Int)) (y : V) (b : Bool) : Prop := (∃ t, Np H y t ∧ b = false) ∨ (∃ q qs, y = .ref q ∧ PicF H C q qs ∧ b = decide (ps = qs))
theorem kit_self {K : PySem.W.Frag} {C : Addr} : PySem.W.kitOne K (.ref C) (.ref C) = some true := by
  unfold PySem.W.kitOne
  rw [if_pos (beq_self_eq_true _)]
theorem PicF.ty {K : PySem.W.Frag} {H : Hp} {C a : Addr} {ps : List (Int × Int)} (h : PicF H C a ps) (T : PicT K C) : TyX K H (.ref a) (.ref C) := let ⟨_, _, _, e, _⟩ := h; .base (.ins e T.pc.cls T.pc.ha T.pc.hn T.pc.ht T.pc.hm)
section
variable {P : Program} {w : World} {K : PySem.W.Frag} {mg : Str → Option Value} {base : Heap} {C : Addr}
/-! ### Picture.__eq__ -/
def spEqP (C : Addr) : Sp := fun vs H Q _ => ∃ (a : Addr) (y : V) (ps : List (Int × Int)) (b : Bool), vs = [.ref a, y] ∧ PicF H C a ps ∧ Eqs H C ps y b ∧ Q (.bl b) H
abbrev sEqP : Stmt := inClass (top 44) 1
theorem scEqP : FnScope ["self", "other"] ["self", "other"] (defScope sEqP) := ⟨rfl, rfl, rfl, by decide +kernel, rfl, by decide +kernel, by decide +kernel⟩
theorem ok_eqP {f : Addr} {fd : FuncData} (F : Fun K "__eq__" "Picture.__eq__" sEqP f fd) (B : Bn mg) (T : PicT K C) (N : PicN K C) (mC : mg "Picture" = some (.ref C)) : FnOk P w K mg base CX0 1 f fd ["self", "other"] (spEqP C) := by
  refine F.ok scEqP (fun vs H Q E h => ?_) (fun cdv A outer s H vs Q E hr h => ?_)
  · obtain ⟨a, y, ps, b, rfl, _⟩ := h
    rfl
  · obtain ⟨a, y, ps, b, rfl, hp, he, q⟩ := h
    refine ⟨_, pss_one (ps_ret (pe_and (pe_callB (r := rIsi K) call_isi (by rfl) B.isinstance boot_isinstance (pa_cons (pv 1) (pa_cons (pe_glob (v := .ref C) rfl mC rfl) pa_nil))) (pe_one (pe_cmpR (op_eqD hr.units) (pe_fld (pv 0) rfl) (pe_fld (pv 1) rfl) (nomark _))))), ?_⟩
    rcases he with ⟨t, np, rfl⟩ | ⟨c, qs, rfl, hq, rfl⟩
    · exact ⟨_, rfl, _, _, _, _, false, rfl, .own _, np.ty, (N.of np).1, _, rfl, iteF q⟩
    · refine ⟨_, rfl, _, _, _, _, true, rfl, .own _, hq.ty T, kit_self, _, rfl, iteT ?_⟩
      obtain ⟨dx, t, u, ha, ht, _⟩ := hp
      obtain ⟨dx2, t2, u2, hc, ht2, _⟩ := hq
      refine ⟨_, rfl, a, C, dx, _, .ref t, rfl, ha, T.pc.cls, T.n1, rfl, _, rfl, c, C, dx2, _, .ref t2, rfl, hc, T.pc.cls, T.n1, rfl, _, _, ht.dp, ht2.dp, enc_shaped _, enc_shaped _, ?_⟩
      have e : PyData.eqv (enc ps) (enc qs) = decide (ps = qs) := enc_eqv ps qs
      rw [e]
      exact q
end
end K14

namespace K14
open PySem PySem.Spec PyProof.Rows L2
theorem str_len (a b : Str) : (a ++ b).length = a.length + b.length := by
  show (a.cps ++ b.cps).size = a.cps.size + b.cps.size
  exact Array.size_append
def tJoined (ts : List TE) : TE := fun σ H Q => tJs ts Str.empty σ H fun out H1 => Q (.str out) H1
theorem pe_joinedN {X : Cx} {v1 v2 : Expr} {rest : List Expr} {ts : List TE} {pos : Pos} (h : PJ X (v1 :: v2 :: rest) ts) : PE X (.JoinedStr (v1 :: v2 :: rest) pos) (tJoined ts) := pe_joined h
def rJn (K : PySem.W.Frag) : V → List V → Hp → VK → Prop := fun x xs H Q => ∃ a p, ∃ ys : List Str, x = .str a ∧ xs = [.ref p] ∧ (SqL K H p (ys.map V.str) ∨ SqT K H p (ys.map V.str)) ∧ (ys.map (·.length)).sum + ys.length * a.length ≤ 16777216 ∧ Q (.str (Txt.join a ys)) H
theorem pe_joinN {X : Cx} {o e : Expr} {to te : TE} {apos pos : Pos} (ho : PE X o to) (he : PE X e te) (hs : starEach [e] X.env = [(false, eval e X.env)] := by rfl) (hbase : attributeBase o "join" X.env (eval o X.env) = eval o X.env := by rfl) (hline : (apos.endLine == pos.line) = true := by rfl) :
    PE X (.Call (.Attribute o "join" apos) [e] [] pos) (tM1 (rJn X.K) to te) := pe_join ho he hs hbase hline
theorem sum_le (B : Nat) : ∀ ys : List Str, (∀ y ∈ ys, y.length ≤ B) → (ys.map (·.length)).sum ≤ B * ys.length
  | [], _ => Nat.zero_le _
  | y :: ys, h => by
    have h1 := h y List.mem_cons_self
    have h2 := sum_le B ys fun z hz => h z (List.mem_cons_of_mem _ hz)
    rw [List.map_cons, List.sum_cons, List.length_cons, Nat.mul_add]
    omega
theorem str_join_le (sep : Str) : ∀ ys : List Str, (Str.join sep ys).length ≤ (ys.map (·.length)).sum + ys.length * sep.length
  | [] => Nat.zero_le _
  | [y] => by
    show y.length ≤ (y.length + 0) + 1 * sep.length
    omega
  | y :: z :: ys => by
    have ih := str_join_le sep (z :: ys)
    have e : Str.join sep (y :: z :: ys) = y ++ sep ++ Str.join sep (z :: ys) := rfl
    rw [e, str_len, str_len, List.map_cons, List.sum_cons, List.length_cons, Nat.add_mul]
    omega
theorem txt_join_le (sep : Str) (ys : List Str) : (Txt.join sep ys).length ≤ (ys.map (·.length)).sum + ys.length * sep.length := by
  show (Builtin.Str.glued sep ys).length ≤ _
  rw [StrLaws.glued_eq_join]
  exact str_join_le sep ys
section
variable {P : Program} {w : World} {K : PySem.W.Frag} {mg : Str → Option Value} {base : Heap} {C : Addr}
/-! ### Picture.__str__ -/
def spStrP (C : Addr) : Sp := fun vs H Q _ => ∃ (a : Addr) (ps : List (Int × Int)), vs = [.ref a] ∧ PicF H C a ps ∧ OkP ps ∧ ∀ z H', Same H H' → z.length ≤ 40000 → Q (.str z) H'
abbrev sStrP : Stmt := inClass (top 44) 2
abbrev nStrP : List Str := ["self", "x", "y"]
theorem scStrP : FnScope nStrP ["self"] (defScope sStrP) := ⟨rfl, rfl, rfl, by decide +kernel, rfl, by decide +kernel, by decide +kernel⟩
theorem log_small {n : Int} (h : -G9 ≤ n) (h2 : n ≤ G9) : n.natAbs.log2 < 1920 := Nat.lt_trans (PySem.Flt.log2_lt_of (k := 31) (by decide) (by have : G9 = 1000000000 := rfl; omega)) (by decide)
theorem ok_strP {f : Addr} {fd : FuncData} (F : Fun K "__str__" "Picture.__str__" sStrP f fd) (T : PicT K C) : FnOk P w K mg base CX0 1 f fd ["self"] (spStrP C) := by
  have nd := scStrP.nd
  refine F.ok scStrP (fun vs H Q E h => ?_) (fun cdv A outer s H vs Q E hr h => ?_)
  · obtain ⟨a, ps, rfl, _⟩ := h
    rfl
  · obtain ⟨a, ps, rfl, hp, ok, q⟩ := h
    refine ⟨_, pss_one (ps_ret (pe_joinN pe_str (pe_lc (own := [("x", 1), ("y", 2)]) (g := gTup K 2 (gCons (gName 1) (gCons (gName 2) gNil))) (tt := tYes) rfl nd (pi_tup (pe_fld (pv 0) rfl)) (blkOk_by (N := nStrP) (sc := defScope sStrP) (by decide +kernel)) (fun _ _ _ _ _ => pg_tup rfl (pgs_cons (pg_name (i := 1) nd rfl (Or.inl rfl)) (pgs_cons (pg_name (i := 2) nd rfl (Or.inl rfl)) pgs_nil))) (fun _ _ _ _ _ => pts_nil)
      (fun _ _ _ _ _ => pe_joinedN (.cons (pe_fmt (pv 1)) (.cons pe_str (.cons (pe_fmt (pv 2)) .nil))))))), ?_⟩
    obtain ⟨dx, t, u, ha, ⟨ts, ht, hk⟩, hu⟩ := hp
    have lt : ts.length = ps.length := Paired.length hk
    have l7 := ok.2.1
    refine ⟨⟨_, rfl⟩, ?_⟩
    refine ⟨_, rfl, a, C, dx, _, .ref t, rfl, ha, T.pc.cls, T.n1, rfl, t, rfl, ⟨_, SqT.of ht⟩, fun D hD => ?_⟩
    refine lc_tup (K := K) (a := t) (xs := ts.map V.ref) (fun i H' => Same H H' ∧ ∃ ys : List Str, ys.length = i ∧ H' D = some (.lst (ys.map V.str)) ∧ ∀ y ∈ ys, y.length ≤ 4000) ⟨same_new hD, [], rfl, upd_same, fun y h => absurd h List.not_mem_nil⟩ (fun i H' _ p => SqT.of (p.1 _ _ ht)) (fun i x H' hx p => ?_) (fun H' p => ?_)
    · obtain ⟨s1, ys, ly, hd, hb⟩ := p
      have hi : i < ts.length := by
        rcases Nat.lt_or_ge i ts.length with h | h
        · exact h
        · rw [List.getElem?_eq_none (by rw [List.length_map]; exact h)] at hx
          cases hx
      obtain ⟨pp, hpp, hpr⟩ := paired_get hk (i := i) (x := ts[i]) (List.getElem?_eq_getElem hi)
      have hpr : H ts[i] = some (.tup [.int pp.1, .int pp.2]) := hpr
      have ex : x = .ref ts[i] := by
        rw [List.getElem?_map, List.getElem?_eq_getElem hi] at hx
        exact (Option.some.inj hx).symm
      subst ex
      obtain ⟨g1, g2, g3, g4⟩ := ok.2.2 pp (List.mem_of_getElem? hpp)
      have lx := log_small g1 g2
      have ly2 := log_small g3 g4
      have tx := int_text_len_1921 lx
      have ty := int_text_len_1921 ly2
      refine ⟨ts[i], _, rfl, SqT.of (s1 _ _ hpr), rfl, _, _, rfl, _, _, rfl, rfl, ?_⟩
      refine ⟨rfl, ?_⟩
      have e0 : (Str.empty).length = 0 := rfl
      have e1 : (Str.ofString " ").length = 1 := by decide +kernel
      have big : ∀ n, n ≤ 4000 → n ≤ sizeLine := fun n h => Nat.le_of_lt (Nat.lt_of_le_of_lt h (by decide))
      refine ⟨_, rfl, .inr ⟨_, rfl, lx, _, rfl, ?_, _, rfl, ?_, _, rfl, .inr ⟨_, rfl, ly2, _, rfl, ?_, _, hd, by rw [List.length_map]; exact small1000 (by omega), fun b o e => ?_, ys ++ [_], by simp [ly], by rw [upd_same, List.map_append]; rfl, fun y hy => ?_⟩⟩⟩
      · rw [str_len]
        exact big _ (by omega)
      · rw [str_len, str_len]
        exact big _ (by omega)
      · rw [str_len, str_len, str_len]
        exact big _ (by omega)
      · rw [upd_ne (ne_of_none e hD)]
        exact s1 _ _ e
      · rcases List.mem_append.mp hy with h | h
        · exact hb y h
        · rw [List.mem_singleton.mp h, str_len, str_len, str_len]
          omega
    · obtain ⟨s1, ys, ly, hd, hb⟩ := p
      rw [List.length_map, lt] at ly
      have e3 : (Str.ofString " / ").length = 3 := by decide +kernel
      have h1 := sum_le 4000 ys hb
      refine ⟨_, D, ys, rfl, rfl, .inl (SqL.of hd), ?_, q _ _ s1 ?_⟩
      · rw [e3]
        omega
      · have := txt_join_le (Str.ofString " / ") ys
        rw [e3] at this
        omega
end
end K14

namespace K14
open PySem PySem.Spec PyProof.Rows L2
/-! ### a call of a def in places where no expression stands -/
section
variable {X : Cx} {k : Nat} {f : Addr} {fd : FuncData} {ps : List Str} {sp : Sp}
theorem Env0.around {P : Program} {w : World} {K : PySem.W.Frag} {mg : Str → Option Value} {base : Heap} {A A' : Around} {st : List Env} {s : Shared} {H : Hp} (e : Env0 P w K mg base A st s H) (h : A'.frames = A.frames) : Env0 P w K mg base A' st s H := ⟨by rw [h]; exact e.frames, e.mod, e.bs, e.bsz, e.funs, e.frf, e.hok, e.bare⟩
theorem run_at {A : Around} {pins : List (Addr × Obj)} {σ : L2.St} {H : Hp} {s : Shared} {Q : VK} {us : List Value} {vs : List V} (F : FnOk X.prog X.w X.K X.mg X.base CX0 k f fd ps sp) (hr : Room k A) (hf : A.frames = X.A.frames) (hb : Binds X.K fd ps [])
    (I : Inv X pins σ H s) (r : Vals vs us) (h : sp vs H Q (fun _ _ _ => False)) : wpAny (model X.prog X.w) A (call (.ref f) us) (EP X pins σ Q) X.xe s := by
  have hl := F.len _ _ _ _ h
  refine wpAny_call (codeAny_mono (F.run A X.stack s H ⟨us, []⟩ us vs Q _ hr (Env0.around I.env0 hf) (by
    have := hb s us I.kIn (by rw [List.append_nil, ← r.length]; exact hl)
    rw [List.append_nil] at this
    exact this) r h) fun r s' hq => ?_)
  cases r with
  | error e => exact False.elim hq
  | ok fl =>
    cases fl with
    | ret u => exact I.after hq
    | next => exact False.elim hq
    | brk => exact False.elim hq
    | cont => exact False.elim hq
end
section
variable {prog : Program} {w : World} {A : Around} {E : Value → Shared → Prop} {h : Heap} {g : Array GenState} {d : Drawn} {t : Nat} {os : OsState} {K : PySem.W.Frag} {x C : Addr} {ob : Obj} {od : Option Obj}
theorem special_in {name : Str} {id : String} {args : List Value} {Q : Option Value → Shared → Prop} (Y : K.In h) (J : PySem.W.InstAt h x ob C od) (ha : PySem.W.findIn K (.ref C) name = some (some (.builtin id))) (S : Slot "object" name id)
    (go : wpAny (model prog w) A (call (.builtin id) (.ref x :: args)) (fun v => Q (some v)) E ⟨h, g, d, t, os⟩) : wpAny (model prog w) A (callSpecialIfBound? (.ref x) name args) Q E ⟨h, g, d, t, os⟩ := by
  simp only [callSpecialIfBound?, bindSpecialIfBound?]
  refine wpAny_holding (wpAny_bind (wpAny_bind ?_))
  unfold specialOf
  refine wpAny_bind (J.type.at ((PySem.W.looks_findIn Y ha).at ?_))
  simp only [S.bind]
  refine wpAny_bind (wpAny_askSetting (wpAny_ite ?_))
  have fin : wpAny (model prog w) A (call (.builtin id) ([.ref x] ++ args) >>= fun v => pure (some v)) Q E ⟨h, g, d, t, os⟩ :=
    wpAny_bind (wpAny_mono go (fun v z hz => wpAny_pure hz) fun _ _ hz => hz)
  split
  · exact wpAny_bind (wpAny_pure (wpAny_pure fin))
  · exact wpAny_tryCatch (wpAny_bind (wpAny_pure (wpAny_pure fin)))
end
/-! ### == and != of pictures -/
def rEqP (K : PySem.W.Frag) (C : Addr) : R2 := fun x y H Q => ∃ (a : Addr) (ps : List (Int × Int)) (b : Bool), x = .ref a ∧ PicF H C a ps ∧ Eqs H C ps y b ∧ Q (.bl b) H
def rNeP (K : PySem.W.Frag) (C : Addr) : R2 := fun x y H Q => ∃ (a : Addr) (ps : List (Int × Int)) (b : Bool), x = .ref a ∧ PicF H C a ps ∧ Eqs H C ps y b ∧ Q (.bl (!b)) H
section
variable {X : Cx} {C fE : Addr} {fd : FuncData}
theorem pic_inst {pins : List (Addr × Obj)} {σ : L2.St} {H : Hp} {s : Shared} {a : Addr} {ps : List (Int × Int)} (I : Inv X pins σ H s) (h : PicF H C a ps) : ∃ (ob : Obj) (od : Obj), PySem.W.InstAt s.heap a ob C (some od) := by
  obtain ⟨dx, t, u, e, _⟩ := h
  obtain ⟨mA, J, _⟩ := ins_get I.hok e
  obtain ⟨od, J, _⟩ := J.look
  exact ⟨_, od, J⟩
theorem eqs_type {pins : List (Addr × Obj)} {σ : L2.St} {H : Hp} {s : Shared} {y : V} {u : Value} {b : Bool} {ps : List (Int × Int)} (I : Inv X pins σ H s) (N : PicN X.K C) (ry : RelV y u) (h : Eqs H C ps y b) :
    ∃ tb, PySem.W.Looks (model X.prog X.w) s.heap (typeOf u) tb ∧ PySem.W.notFirst X.K C tb = true := by
  rcases h with ⟨t, np, _⟩ | ⟨q, qs, rfl, hq, _⟩
  · obtain ⟨P, Z, p, _⟩ := kit_of I ry np.ty
    exact ⟨_, Z.ty _ _ I.kIn p, (N.of np).2⟩
  · obtain rfl : u = Value.ref q := ry
    obtain ⟨ob, od, J⟩ := pic_inst I hq
    exact ⟨_, J.type, by simp [PySem.W.notFirst]⟩
theorem op_eqP (G : FnOk X.prog X.w X.K X.mg X.base CX0 1 fE fd ["self", "other"] (spEqP C)) (hs : PySem.W.findIn X.K (.ref C) "__eq__" = some (some (.ref fE))) (hf : PySem.W.isFn X.K (.ref fE) = true) (hb : Binds X.K fd ["self", "other"] []) (N : PicN X.K C) (hr : Room 2 X.A) :
    OpR X (compareOp .Eq) (rEqP X.K C) := by
  intro pins s σ H x y v u Q I rx ry h
  obtain ⟨a, ps, b, rfl, hp, he, q⟩ := h
  obtain rfl : v = Value.ref a := rx
  obtain ⟨ob, od, J⟩ := pic_inst I hp
  obtain ⟨tb, L, nf⟩ := eqs_type I N ry he
  obtain ⟨m, hF⟩ := I.fr
  refine PySem.W.cmp_K (op := .Eq) (tb := tb) hr.units0 hF I.ok.mod.kin J L nf hs hf ?_
  refine wpAny_mono (run_at (vs := [.ref a, y]) (us := [.ref a, u]) (Q := fun r H' => r = .bl b ∧ Q (.bl b) H') G (hr.mono (by decide)) rfl hb I (.cons rfl (.cons ry .nil)) ⟨a, y, ps, b, rfl, hp, he, rfl, q⟩) (fun r s' hq => ?_) fun _ _ z => z
  obtain ⟨v, H', I', rv, ev, q'⟩ := hq
  subst ev
  obtain rfl : r = Value.bool b := rv
  exact ⟨.bl b, H', I', rfl, q'⟩
theorem op_neP (G : FnOk X.prog X.w X.K X.mg X.base CX0 1 fE fd ["self", "other"] (spEqP C)) (hs : PySem.W.findIn X.K (.ref C) "__eq__" = some (some (.ref fE))) (hf : PySem.W.isFn X.K (.ref fE) = true) (hb : Binds X.K fd ["self", "other"] []) (N : PicN X.K C) (T : PicT X.K C) (hr : Room 3 X.A) :
    OpR X (compareOp .NotEq) (rNeP X.K C) := by
  intro pins s σ H x y v u Q I rx ry h
  obtain ⟨a, ps, b, rfl, hp, he, q⟩ := h
  obtain rfl : v = Value.ref a := rx
  obtain ⟨ob, od, J⟩ := pic_inst I hp
  obtain ⟨tb, L, nf⟩ := eqs_type I N ry he
  have hu : X.A.units + 1 < cLine := hu_of hr
  have isO : PySem.W.Looks (model X.prog X.w) s.heap (isInstance (.ref a) (.type "object")) true := J.type.andThen (PySem.W.looks_mroIn I.kIn T.pc.hm)
  have neDone : ∀ {Q' : Fin → Shared → Prop}, (∀ s', (∃ H', Inv X pins σ H' s' ∧ Q (.bl (!b)) H') → Q' (.done (.ret (.bool (!b)))) s') → wpAny (model X.prog X.w) X.A.in1 (Builtin.«object.__ne__» ⟨[.ref a, u], []⟩) Q' X.xe s := fun {Q'} k => by
    unfold Builtin.«object.__ne__»
    have go : wpAny (model X.prog X.w) X.A.in1 (callSpecialIfBound? (.ref a) (Str.ofString "__eq__") [u]) (fun r s' => r = some (.bool b) ∧ ∃ H', Inv X pins σ H' s' ∧ Q (.bl (!b)) H') X.xe s :=
      PySem.W.ifBound_K I.kIn J hs hf (wpAny_mono (run_at (A := X.A.in1) (vs := [.ref a, y]) (us := [.ref a, u]) (Q := fun r H' => r = .bl b ∧ Q (.bl (!b)) H') G (hr.mono (by decide : 2 ≤ 3)).in1 rfl hb I (.cons rfl (.cons ry .nil)) ⟨a, y, ps, b, rfl, hp, he, rfl, q⟩) (fun r s' hq => by
        obtain ⟨v, H', I', rv, ev, q'⟩ := hq
        subst ev
        obtain rfl : r = Value.bool b := rv
        exact ⟨rfl, H', I', q'⟩) fun _ _ z => z)
    repeat (first
      | with_reducible refine wpAny_cRoomFor (show X.A.in1.units < cLine from hu) ?_
      | (refine wpAny_bind (m := callSpecialIfBound? (.ref a) (Str.ofString "__eq__") [u]) (wpAny_mono go (fun r s' hr => by
          obtain ⟨rfl, hq⟩ := hr
          have z := k s' hq
          repeat (first | exact z | exact wpAny_pure z | exact wpAny_truthy_bool z | (refine wpAny_bind (m := truthy (.bool _)) (wpAny_truthy_bool ?_)) | wp_step)) fun _ _ e => e))
      | wp_step)
  have tryDone : wpAny (model X.prog X.w) X.A (tryCompare (.ref a) "__ne__" u) (fun r s' => r = some (.bool (!b)) ∧ ∃ H', Inv X pins σ H' s' ∧ Q (.bl (!b)) H') X.xe s := by
    simp only [tryCompare]
    obtain ⟨hp', g, d, t, os⟩ := s
    refine wpAny_bind (special_in I.kIn J N.ne F.cmp_object.ne (wpAny_call (codeAny_call_builtin F.cmp_object.ne.plain F.cmpEntry_ne (PySem.W.check_slot F.cmpKind_ne F.cmpSplit_ne isO (F.cmpArgs_ne _ _) (neDone (fun s' hq => ?_))))))
    exact wpAny_pure ⟨rfl, hq⟩
  show wpAny _ _ (richCompare .NotEq (.ref a) u) _ _ s
  unfold richCompare
  simp only [oneThing_ref, cmpInfo_NotEq]
  refine wpAny_holding (wpAny_bind (wpAny_cRoomFor (Nat.lt_of_succ_lt hu) ?_))
  refine wpAny_bind (J.type.here (wpAny_bind (L.here ?_)))
  split
  · rename_i q'
    have e : PySem.W.subIn X.K tb (.ref C) = some false := by
      unfold PySem.W.notFirst at nf
      rcases Bool.or_eq_true_iff.mp nf with e | e
      · rw [beq_iff_eq.mp e] at q'; simp at q'
      · exact beq_iff_eq.mp e
    refine wpAny_bind ((PySem.W.looks_subIn I.kIn e).here ?_)
    simp only [Bool.false_eq_true, if_false]
    refine wpAny_bind (wpAny_mono tryDone (fun r s' z => ?_) fun _ _ e => e)
    obtain ⟨rfl, H', I', hq⟩ := z
    exact wpAny_pure ⟨.bl (!b), H', I', rfl, hq⟩
  · refine wpAny_bind (wpAny_pure ?_)
    simp only [Bool.false_eq_true, if_false]
    refine wpAny_bind (wpAny_mono tryDone (fun r s' z => ?_) fun _ _ e => e)
    obtain ⟨rfl, H', I', hq⟩ := z
    exact wpAny_pure ⟨.bl (!b), H', I', rfl, hq⟩
end
end K14

namespace K14
open PySem PySem.Spec PyProof.Rows L2
/-! ### str(picture) -/
def rStrP (C : Addr) : List V → Hp → VK → Prop := fun xs H Q => ∃ (a : Addr) (ps : List (Int × Int)), xs = [.ref a] ∧ PicF H C a ps ∧ OkP ps ∧ ∀ z H', Same H H' → z.length ≤ 40000 → Q (.str z) H'
section
variable {X : Cx} {C fS : Addr} {fd : FuncData}
theorem call_strP (G : FnOk X.prog X.w X.K X.mg X.base CX0 1 fS fd ["self"] (spStrP C)) (hs : PySem.W.findIn X.K (.ref C) "__str__" = some (some (.ref fS))) (hf : PySem.W.isFn X.K (.ref fS) = true) (hb : Binds X.K fd ["self"] []) (hr : Room 3 X.A) : CallR X (.type "str") (rStrP C) := by
  intro pins s σ H xs us Q I r h
  obtain ⟨a, ps, rfl, hp, ok, q⟩ := h
  obtain ⟨u, rfl, ru⟩ := vals1 r
  obtain rfl : u = Value.ref a := ru
  obtain ⟨ob, od, J⟩ := pic_inst I hp
  have hu : X.A.in1.in1.units < cLine := by
    have := hr.un
    show X.A.units + 1 + 1 < cLine
    omega
  refine PySem.W.kso_call hu I.kIn J hs hf (wpAny_mono (run_at (A := X.A.in1.in1) (vs := [.ref a]) (us := [.ref a]) (Q := fun r H' => ∃ z, r = .str z ∧ Q (.str z) H') G (hr.in1.in1) rfl hb I (.cons rfl .nil) ⟨a, ps, rfl, hp, ok, fun z H' s' hz => ⟨z, rfl, q z H' s' hz⟩⟩) (fun r s' hq => ?_) fun _ _ z => z)
  obtain ⟨v, H', I', rv, z, ev, q'⟩ := hq
  subst ev
  obtain ⟨t, rfl⟩ := rv
  exact ⟨.str z, H', I', ⟨t, rfl⟩, q'⟩
end
/-! ### a picture is made -/
/-- a new picture with these places -/
def NewP (C : Addr) (ps : List (Int × Int)) (H : Hp) (Q : VK) : Prop := ∀ a H', Same H H' → H a = none → PicF H' C a ps → Q (.ref a) H'
/-- how a picture is made of a value: of places, or refused -/
def MkP (K : PySem.W.Frag) (C CB : Addr) (v : V) (H : Hp) (Q : VK) (E : XK) : Prop := (∃ ps, Pls H v ps ∧ OkP ps ∧ NewP C ps H Q) ∨ (∃ o, RowsV K H v o ∧ plB o = false ∧ Rz CB "places" H E)
theorem rz_same {C : Addr} {z : Str} {H H1 : Hp} {E : XK} (h : Rz C z H E) (s : Same H H1) : Rz C z H1 E := fun d H' s' n e => h d H' (s.trans s') (s.free n) e
theorem mk_in {K : PySem.W.Frag} {C CB : Addr} {v : V} {H : Hp} {Q : VK} {E : XK} (m : MkP K C CB v H Q E) : ∀ x dx, H x = none → H dx = none → dx ≠ x → spPI K C CB [.ref x, v] (upd (upd H dx (.own x)) x (.ins C dx [])) (fun r H2 => r = .non ∧ Q (.ref x) H2) E := fun x dx hx hdx ne => by
  have s0 : Same H (upd (upd H dx (.own x)) x (.ins C dx [])) := fun b o e => by
    rw [upd_ne (ne_of_none e hx), upd_ne (ne_of_none e hdx)]
    exact e
  refine ⟨x, dx, v, rfl, upd_same, ?_⟩
  rcases m with ⟨ps, pls, ok, n⟩ | ⟨o, ro, po, r⟩
  · exact .inl ⟨ps, pls.same s0, ok, fun H' k p => ⟨rfl, n x H' (fun b o e => k b o (ne_of_none e hx) (s0 _ _ e)) hx p⟩⟩
  · exact .inr ⟨o, ro.same s0, po, rz_same r s0⟩
/-- the class of pictures, as its callers see it -/
structure Pc (P : Program) (w : World) (K : PySem.W.Frag) (mg : Str → Option Value) (base : Heap) (C CB : Addr) : Prop where
  mgC : mg "Picture" = some (.ref C)
  t : PicT K C
  n : PicN K C
  ini : ∃ (fI : Addr) (fd : FuncData), Mk K C fI ∧ FnOk P w K mg base (L2.CX P w) 6 fI fd ["self", "places"] (spPI K C CB) ∧ Binds K fd ["self", "places"] [] ∧ KBn K fd ["self", "places"] 1 ["places"] (fun us ws => us ++ ws) (fun vs zs => vs ++ zs)
  eq : ∃ (fE : Addr) (fd : FuncData), FnOk P w K mg base CX0 1 fE fd ["self", "other"] (spEqP C) ∧ PySem.W.findIn K (.ref C) "__eq__" = some (some (.ref fE)) ∧ PySem.W.isFn K (.ref fE) = true ∧ Binds K fd ["self", "other"] []
  st : ∃ (fS : Addr) (fd : FuncData), FnOk P w K mg base CX0 1 fS fd ["self"] (spStrP C) ∧ PySem.W.findIn K (.ref C) "__str__" = some (some (.ref fS)) ∧ PySem.W.isFn K (.ref fS) = true ∧ Binds K fd ["self"] []
section
variable {X : Cx} {C CB : Addr} {x : Str} {e : Expr} {es : List Expr} {kws : List Keyword} {t tk : TA} {p pos : Pos}
/-- Picture(e), which is not refused -/
def tMkP (K : PySem.W.Frag) (C CB : Addr) (E : XK) (t : TA) : TE := fun σ H Q => t σ H fun vs H1 => ∃ v, vs = [v] ∧ MkP K C CB v H1 Q E
theorem pe_mkP {E : XK} (T : Pc X.prog X.w X.K X.mg X.base C CB) (hr : Room 7 X.A) (hx : Passes (L2.CX X.prog X.w) X E) (hg : Gl X "Picture") (ha : PA X (e :: es) t) (he : starEach (e :: es) X.env = (false, eval e X.env) :: starEach es X.env := by rfl) (hpl : (backTo pos (starEach es X.env)).any (·.1) = false := by rfl) :
    PE X (.Call (.Name "Picture" p) (e :: es) [] pos) (tMkP X.K C CB E t) := by
  obtain ⟨fI, fd, M, G, b, _⟩ := T.ini
  refine ⟨fun pins s σ H Q I h => ?_⟩
  refine wpAny_Call_Name_kw (ld_glob I hg T.mgC ?_ (by decide))
  refine PySem.W.callWith_K (h₀ := X.base) I.ok.mod.kin M.kp (thn (ha.run pos pins s σ H _ I h) fun us s1 ⟨vs, H1, I1, r, v, ev, m⟩ => ⟨I1.kIn, ?_⟩) he hpl
  subst ev
  exact run_make (dvs := []) (ds := []) M G hr b .nil hx I1 r (mk_in m)
/-- Picture(places=e) -/
theorem pe_mkPK {E : XK} (T : Pc X.prog X.w X.K X.mg X.base C CB) (hr : Room 7 X.A) (hx : Passes (L2.CX X.prog X.w) X E) (hg : Gl X "Picture") (hkw : PK X kws tk)
    (hall : (backToKw pos (keywordEach kws X.env)).all (·.1.isSome) = true := by rfl) (hks : (backToKw pos (keywordEach kws X.env)).filterMap (·.1) = (["places"] : List Str) := by rfl)
    (hpl : ((backTo pos (starEach [] X.env)).any (·.1) || (backToKw pos (keywordEach kws X.env)).any (·.1.isNone)) = false := by rfl) :
    PE X (.Call (.Name "Picture" p) [] kws pos) (tMkP X.K C CB E tk) := by
  obtain ⟨fI, fd, M, G, _, b⟩ := T.ini
  refine ⟨fun pins s σ H Q I h => ?_⟩
  refine wpAny_Call_Name_kw (ld_glob I hg T.mgC ?_ (by decide))
  refine PySem.W.callWith_KW0 (h₀ := X.base) I.ok.mod.kin M.kp hall ?_ hpl
  refine thn (hkw.run pos pins s σ H _ I h) fun ws s2 ⟨zs, H2, I2, rz, v, ev, m⟩ => ⟨I2.kIn, ?_⟩
  subst ev
  rw [hks]
  exact run_makeN (n := 0) (us := []) (vs := []) M G hr b hx I2 .nil rz rfl rfl (mk_in m)
/-- as run_make, what is raised being wished for at the caller's slots -/
def tMkPS (K : PySem.W.Frag) (C CB : Addr) (E : L2.St → XK) (t : TA) : TE := fun σ H Q => t σ H fun vs H1 => ∃ v, vs = [v] ∧ MkP K C CB v H1 Q (E σ)
theorem pe_mkPS {E : L2.St → XK} (T : Pc X.prog X.w X.K X.mg X.base C CB) (hr : Room 7 X.A) (hx : ∀ σ, PassesAt (L2.CX X.prog X.w) X σ (E σ)) (hg : Gl X "Picture") (ha : PA X (e :: es) t) (he : starEach (e :: es) X.env = (false, eval e X.env) :: starEach es X.env := by rfl) (hpl : (backTo pos (starEach es X.env)).any (·.1) = false := by rfl) :
    PE X (.Call (.Name "Picture" p) (e :: es) [] pos) (tMkPS X.K C CB E t) := by
  obtain ⟨fI, fd, M, G, b, _⟩ := T.ini
  refine ⟨fun pins s σ H Q I h => ?_⟩
  refine wpAny_Call_Name_kw (ld_glob I hg T.mgC ?_ (by decide))
  refine PySem.W.callWith_K (h₀ := X.base) I.ok.mod.kin M.kp (thn (ha.run pos pins s σ H _ I h) fun us s1 ⟨vs, H1, I1, r, v, ev, m⟩ => ⟨I1.kIn, ?_⟩) he hpl
  subst ev
  have hq := mk_in m (s1.heap.objs.size + 1) s1.heap.objs.size (I1.hok.fresh (Nat.le_succ _)) (I1.hok.fresh (Nat.le_refl _)) (Nat.ne_of_lt (Nat.lt_succ_self _))
  have I2 := Inv.made (C := C) I1
  have r2 : Vals [V.ref (s1.heap.objs.size + 1), v] (Value.ref (s1.heap.objs.size + 1) :: us) := .cons rfl r
  have hl : (Value.ref (s1.heap.objs.size + 1) :: us ++ []).length = (["self", "places"] : List Str).length := by
    rw [List.append_nil, ← r2.length]
    rfl
  have bb := b _ (Value.ref (s1.heap.objs.size + 1) :: us) I2.kIn hl
  rw [List.append_nil] at bb
  refine wpAny_call (make_map (f := fI) I1.kIn M.makes M.init (beq_iff_eq.mp M.fn) (codeAny_mono (G.run _ X.stack _ _ ⟨Value.ref (s1.heap.objs.size + 1) :: us, []⟩ (Value.ref (s1.heap.objs.size + 1) :: us) _ _ (E σ) (hr.make C us [])
    (I2.env0.make C us []) bb r2 hq) fun r s' hq' => ?_))
  cases r with
  | error e => exact hx σ pins _ _ e s' I2 hq'
  | ok fl =>
    cases fl with
    | ret u =>
      obtain ⟨v, H', I3, rv, ev, q3⟩ := I2.after hq'
      subst ev
      exact ⟨rv, ⟨V.ref (s1.heap.objs.size + 1), H', I3, rfl, q3⟩⟩
    | next => exact False.elim hq'
    | brk => exact False.elim hq'
    | cont => exact False.elim hq'
end
end K14

namespace K14
open PySem PySem.Spec PyProof.Rows L2
/-! ### floor division by any divisor but 0 -/
def CDivWN (_ j : Int) : Prop := j ≠ 0 ∧ j.natAbs.log2 < 9000
theorem op_fdivWN {X : Cx} : OpR X (binaryOp .FloorDiv) (rI CDivWN fun i j => .int (i.fdiv j)) := opI fun _ _ _ _ _ _ _ hc q => floordiv_int hc.1 q (.inl (PyProof.noPylong_of_log2 hc.2))
theorem cdiv_of {i j : Int} {b : Nat} (h : j ≠ 0) (hb : j.natAbs < 2 ^ b) (h0 : 0 < b) (h9 : b ≤ 9000) : CDivWN i j := ⟨h, Nat.lt_of_lt_of_le (PySem.Flt.log2_lt_of h0 hb) h9⟩
/-! ### the lens -/
/-- but at p all stands as it stood, and what draws keeps its cells -/
def SB (p : Addr) (H H' : Hp) : Prop := (∀ b o, b ≠ p → H b = some o → H' b = some o) ∧ ∀ c x y, H p = some (.lst [.ref c, x, y]) → ∃ x' y', H' p = some (.lst [.ref c, x', y'])
theorem SB.refl (p : Addr) (H : Hp) : SB p H H := ⟨fun _ _ _ h => h, fun _ _ _ h => ⟨_, _, h⟩⟩
theorem SB.trans {p : Addr} {H H1 H2 : Hp} (a : SB p H H1) (b : SB p H1 H2) : SB p H H2 := ⟨fun c o n h => b.1 c o n (a.1 c o n h), fun c x y h => let ⟨_, _, h1⟩ := a.2 c x y h; b.2 _ _ _ h1⟩
theorem SB.of {p : Addr} {H H' : Hp} (s : Same H H') : SB p H H' := ⟨fun b o _ h => s b o h, fun _ _ _ h => ⟨_, _, s _ _ h⟩⟩
theorem SB.set {p c : Addr} {x y x' y' : V} {H : Hp} (e : H p = some (.lst [.ref c, x, y])) : SB p H (upd H p (.lst [.ref c, x', y'])) := ⟨fun b o n h => by
  rw [upd_ne n]
  exact h, fun d _ _ h => by
  rw [e] at h
  have z := V.ref.inj (List.cons.inj (HO.lst.inj (Option.some.inj h))).1
  exact ⟨x', y', by rw [upd_same, z]⟩⟩
/-- the lens at p, of n turns at most -/
def Lens (H : Hp) (p : Addr) (n : Nat) : Prop := ∃ (c : Addr) (ns : List Int) (spot store : Int), H p = some (.lst [.ref c, .int spot, .int store]) ∧ H c = some (.lst (ns.map V.int)) ∧ c ≠ p ∧ 0 ≤ spot ∧ spot ≤ n
theorem Lens.same {H H' : Hp} {p : Addr} {n : Nat} (v : Lens H p n) (s : Same H H') : Lens H' p n := by
  obtain ⟨c, ns, a, b, h1, h2, h⟩ := v
  exact ⟨c, ns, a, b, s _ _ h1, s _ _ h2, h⟩
theorem Lens.le {H : Hp} {p : Addr} {n m : Nat} (v : Lens H p n) (h : n ≤ m) : Lens H p m := by
  obtain ⟨c, ns, a, b, h1, h2, h3, h4, h5⟩ := v
  exact ⟨c, ns, a, b, h1, h2, h3, h4, by omega⟩
theorem Lens.at {H : Hp} {p : Addr} {n : Nat} (v : Lens H p n) : ∃ (c : Addr) (a b : Int), H p = some (.lst [.ref c, .int a, .int b]) := by
  obtain ⟨c, ns, a, b, h1, _⟩ := v
  exact ⟨c, a, b, h1⟩
/-- a thing made later is no part of what draws -/
theorem Lens.upd {H4 H : Hp} {p D : Addr} {n n4 : Nat} {o : HO} (v : Lens H p n) (v4 : Lens H4 p n4) (s : SB p H4 H) (hD : H4 D = none) : Lens (upd H D o) p n := by
  obtain ⟨c, ns, x, y, h1, h2, h3, h4, h5⟩ := v
  obtain ⟨c4, ms, x4, y4, g1, g2, g3, _⟩ := v4
  obtain ⟨x', y', e⟩ := s.2 _ _ _ g1
  rw [h1] at e
  have z : c = c4 := V.ref.inj (List.cons.inj (HO.lst.inj (Option.some.inj e))).1
  subst z
  exact ⟨c, ns, x, y, by rw [upd_ne (ne_of_none g1 hD)]; exact h1, by rw [upd_ne (ne_of_none g2 hD)]; exact h2, h3, h4, h5⟩
/-- a comprehension without a test keeps every item -/
theorem yes_of {T N : Hp → Prop} {σ : L2.St} {H : Hp} (h : T H) : tYes σ H fun b H3 => if b = true then T H3 else N H3 := by
  show if true = true then T H else N H
  rw [if_pos rfl]
  exact h
theorem cut_ints (ns : List Int) (lo hi : Option Int) : ∃ ms : List Int, cutV (ns.map V.int) lo hi = ms.map V.int ∧ ms.length ≤ ns.length := by
  refine ⟨(ns.drop (HT.sIx (ns.map V.int).length 0 lo)).take (HT.sIx (ns.map V.int).length (ns.map V.int).length hi - HT.sIx (ns.map V.int).length 0 lo), ?_, ?_⟩
  · unfold cutV
    rw [List.map_take, List.map_drop]
  · rw [List.length_take, List.length_drop]
    omega
theorem get_ints {ns : List Int} {i : Nat} {x : V} (h : (ns.map V.int)[i]? = some x) : ∃ z, ns[i]? = some z ∧ x = .int z := by
  rw [List.getElem?_map] at h
  cases e : ns[i]? with
  | none =>
    rw [e] at h
    cases h
  | some z =>
    rw [e] at h
    exact ⟨z, rfl, (Option.some.inj h).symm⟩
theorem dp_ints {K : PySem.W.Frag} {H : Hp} : ∀ ns : List Int, DpAll K H (ns.map V.int) (ns.map PyData.int)
  | [] => .nil
  | n :: ns => .cons (.int n) (dp_ints ns)
theorem ix_cells {ns : List Int} {spot : Int} (h0 : 0 ≤ spot) (hn : ns ≠ []) : ∃ z, atI (ns.map V.int) (spot % (ns.map V.int).length) = some (.int z) := by
  have hl : 0 < ns.length := List.length_pos_iff.mpr hn
  have e1 := Int.emod_nonneg spot (show ((ns.map V.int).length : Int) ≠ 0 by rw [List.length_map]; omega)
  have e2 := Int.emod_lt_of_pos spot (show (0 : Int) < ((ns.map V.int).length : Int) by rw [List.length_map]; omega)
  obtain ⟨j, hj⟩ := Int.eq_ofNat_of_zero_le e1
  have hj2 : j < ns.length := by
    rw [List.length_map] at hj e2
    omega
  refine ⟨ns[j], ?_⟩
  rw [hj]
  refine atI_nat ?_
  rw [List.getElem?_map, List.getElem?_eq_getElem hj2]
  rfl
section
variable {P : Program} {w : World} {K : PySem.W.Frag} {mg : Str → Option Value} {base : Heap}
def spLens (K : PySem.W.Frag) : Sp := fun vs H Q _ => ∃ (a : Addr) (ns : List Int), vs = [.ref a] ∧ SqL K H a (ns.map V.int) ∧ ns.length ≤ 63 ∧ ∀ H' p, Same H H' → H p = none → Lens H' p 0 → Q (.ref p) H'
abbrev sLens : Stmt := top 53
theorem scLens : FnScope ["_law_script", "_law_cell"] ["_law_script"] (defScope sLens) := ⟨rfl, rfl, rfl, by decide +kernel, rfl, by decide +kernel, by decide +kernel⟩
theorem ok_lens {f : Addr} {fd : FuncData} (F : Fun K "_law_lens" "_law_lens" sLens f fd) (B : Bn mg) : FnOk P w K mg base CX0 1 f fd ["_law_script"] (spLens K) := by
  refine F.ok scLens (fun vs H Q E h => ?_) (fun cdv A outer s H vs Q E hr h => ?_)
  · obtain ⟨a, ns, rfl, _⟩ := h
    rfl
  · obtain ⟨a, ns, rfl, hS, hl, q⟩ := h
    refine ⟨_, pss_one (ps_ret (pe_lst (pa_cons (pe_lc (own := [("_law_cell", 1)]) (g := gName 1) (tt := tYes) rfl scLens.nd (pi_list (pe_slice sl_list (pv 0) po_none (po_some pe_int))) (blkOk_by (N := ["_law_script", "_law_cell"]) (sc := defScope sLens) (by decide +kernel)) (fun _ _ _ _ _ => pg_name (i := 1) scLens.nd rfl (Or.inl rfl)) (fun _ _ _ _ _ => pts_nil)
      (fun _ _ _ _ _ => pe_callTy call_int1 (by rfl) B.int boot_int (pa_cons (pv 1) pa_nil))) (pa_cons pe_int (pa_cons pe_int pa_nil))))), ?_⟩
    obtain ⟨ms, em, hm⟩ := cut_ints ns none (some 61)
    refine ⟨_, rfl, 61, rfl, a, _, rfl, hS, fun p hp => ?_⟩
    rw [em]
    refine ⟨p, rfl, ⟨_, SqL.of upd_same⟩, fun D hD => ?_⟩
    refine lc_list (K := K) (a := p) (xs := ms.map V.int) (fun i H' => Same (upd H p (.lst (ms.map V.int))) H' ∧ H' D = some (.lst ((ms.map V.int).take i))) ⟨same_new hD, upd_same⟩ (fun i H' _ p' => SqL.of (p'.1 _ _ upd_same)) (fun i x H' hx p' => ?_) (fun H' p' => ?_)
    · obtain ⟨z, _, rfl⟩ := get_ints hx
      refine ⟨rfl, yes_of ?_⟩
      refine ⟨_, rfl, .inl ⟨z, rfl, _, p'.2, ?_, ?_, ?_⟩⟩
      · rw [List.length_take, List.length_map]
        exact small1000 (by omega)
      · intro b o e
        rw [upd_ne (ne_of_none e hD)]
        exact p'.1 b o e
      · rw [upd_same, take_more hx]
    · have e := p'.2
      rw [List.take_length] at e
      refine ⟨by show 3 ≤ sizeLine; decide, fun t ht => ?_⟩
      have s0 : Same H (upd H p (.lst (ms.map V.int))) := same_new hp
      refine q _ t ((s0.trans p'.1).trans (same_new ht)) (s0.free (p'.1.free ht)) ⟨D, ms, 0, 0, upd_same, ?_, ne_of_none e ht, by decide, by decide⟩
      rw [upd_ne (ne_of_none e ht)]
      exact e
theorem mix_lt (x : Int) : 0 ≤ x % 2147483549 ∧ x % 2147483549 < 2147483549 := ⟨Int.emod_nonneg _ (by decide), Int.emod_lt_of_pos _ (by decide)⟩
theorem mixmul (x j : Int) : CMul (x % 2147483549) j := .inl ⟨by have := mix_lt x; omega, by have := mix_lt x; omega⟩
theorem pw5 (x : Int) {spot : Int} (h0 : 0 ≤ spot) (h1 : spot < 60000) : CPow (x % 2147483587 + 81019 * spot + 3163) 5 := by
  have a := Int.emod_nonneg x (show (2147483587 : Int) ≠ 0 by decide)
  have b := Int.emod_lt_of_pos x (show (0 : Int) < 2147483587 by decide)
  exact ⟨by decide, by decide, by omega⟩
theorem pw3 (y spot : Int) (a : 0 ≤ y) (b : y < 2147483549) (h0 : 0 ≤ spot) (h1 : spot < 60000) : CPow (y * (2 * spot + 1933) + 40169 * spot * spot + 81019) 3 := by
  have c1 : y * (2 * spot + 1933) ≤ 2147483549 * 121933 := Int.mul_le_mul (by omega) (by omega) (by omega) (by omega)
  have c0 : 0 ≤ y * (2 * spot + 1933) := Int.mul_nonneg a (by omega)
  have d1 : 40169 * spot * spot ≤ 40169 * 60000 * 60000 := Int.mul_le_mul (by omega) (by omega) (by omega) (by omega)
  have d0 : 0 ≤ 40169 * spot * spot := Int.mul_nonneg (by omega) h0
  exact ⟨by decide, by decide, by omega⟩
def spShot : Sp := fun vs H Q _ => ∃ (p : Addr) (m : Int) (n : Nat), vs = [.ref p, .int m] ∧ Lens H p n ∧ n < 60000 ∧ 0 < m ∧ m.natAbs < 2 ^ 64 ∧ ∀ H' d, SB p H H' → Lens H' p (n + 1) → 0 ≤ d → d < m → Q (.int d) H'
abbrev sShot : Stmt := top 54
abbrev nShot : List Str := ["_law_lens_here", "_law_many", "_law_rest", "_law_turn", "_law_cell", "_law_mixed"]
theorem scShot : FnScope nShot ["_law_lens_here", "_law_many"] (defScope sShot) := ⟨rfl, rfl, rfl, by decide +kernel, rfl, by decide +kernel, by decide +kernel⟩
theorem ok_shot {f : Addr} {fd : FuncData} (F : Fun K "_law_shot" "_law_shot" sShot f fd) (B : Bn mg) : FnOk P w K mg base CX0 1 f fd ["_law_lens_here", "_law_many"] spShot := by
  refine F.ok scShot (fun vs H Q E h => ?_) (fun cdv A outer s H vs Q E hr h => ?_)
  · obtain ⟨p, m, n, rfl, _⟩ := h
    rfl
  · obtain ⟨p, m, n, rfl, ⟨c, ns, spot, store, hp, hc, npc, h0, h1⟩, hn, hm0, hm, q⟩ := h
    have nd := scShot.nd
    refine ⟨_, (pss_cons (ps_if (pt_cmpR op_gt (pe_ix ix_list (pv 0) (pe_int) (fun _ _ => rfl)) pe_int (nomark _))
        (pss_cons ((ps_set (i := 2) nd rfl (Or.inl rfl) ((pe_ix ix_list (pv 0) (pe_int) (fun _ _ => rfl))))) (pss_cons (ps_asg (pe_op op_fdivWN (pe_callTy call_int1 (by rfl) B.int boot_int (pa_cons (pv 2) pa_nil)) (pv 1)) (pg_sub (pv 0) pe_int set_list)) (pss_one (ps_ret (pe_op op_mod (pe_callTy call_int1 (by rfl) B.int boot_int (pa_cons (pv 2) pa_nil)) (pv 1)))))) pss_nil) (pss_cons ((ps_set (i := 3) nd rfl (Or.inl rfl) ((pe_ix ix_list (pv 0) (pe_int) (fun _ _ => rfl))))) (pss_cons (ps_asg (pe_op op_add (pv 3) pe_int) (pg_sub (pv 0) pe_int set_list)) (pss_cons ((ps_set (i := 4) nd rfl (Or.inl rfl) (pe_op op_add (pe_op op_mul pe_int (pv 3)) pe_int))) (pss_cons (ps_if (pt_cmpR (op_neD hr.units) (pe_ix ix_list (pv 0) (pe_int) (fun _ _ => rfl)) (pe_lst pa_nil) (nomark _))
        (pss_one ((ps_set (i := 4) nd rfl (Or.inl rfl) ((pe_ix ix_list ((pe_ix ix_list (pv 0) (pe_int) (fun _ _ => rfl))) (pe_op op_mod (pe_callTy call_int1 (by rfl) B.int boot_int (pa_cons (pv 3) pa_nil)) (pe_callB call_len_seq (by rfl) B.len PySem.boot_len (pa_cons ((pe_ix ix_list (pv 0) (pe_int) (fun _ _ => rfl))) pa_nil))) (fun _ _ => rfl)))))) pss_nil) (pss_cons (ps_if (PW.pt (pw_and (pt_cmpR op_lt (pv 3) (pe_callB call_len_seq (by rfl) B.len PySem.boot_len (pa_cons ((pe_ix ix_list (pv 0) (pe_int) (fun _ _ => rfl))) pa_nil)) (nomark _)) (pw_and1 (pt_cmpR op_ge (pe_callB call_abs (by rfl) B.abs (by decide +kernel) (pa_cons (pv 4) pa_nil)) (pe_op op_pow pe_int pe_int) (nomark _)))))
        (pss_cons ((ps_set (i := 2) nd rfl (Or.inl rfl) (pe_op op_add (pe_op op_mul pe_int (pe_op op_sub (pe_callB call_abs (by rfl) B.abs (by decide +kernel) (pa_cons (pv 4) pa_nil)) (pe_op op_pow pe_int pe_int))) (pe_callTy call_int1 (by rfl) B.int boot_int (pa_cons (pe_cmpR op_lt (pv 4) pe_int (nomark _)) pa_nil))))) (pss_cons (ps_asg (pe_op op_fdivWN (pe_callTy call_int1 (by rfl) B.int boot_int (pa_cons (pv 2) pa_nil)) (pv 1)) (pg_sub (pv 0) pe_int set_list)) (pss_one (ps_ret (pe_op op_mod (pe_callTy call_int1 (by rfl) B.int boot_int (pa_cons (pv 2) pa_nil)) (pv 1)))))) pss_nil) (pss_cons ((ps_set (i := 5) nd rfl (Or.inl rfl) (pe_op op_mod (pe_callTy call_int1 (by rfl) B.int boot_int (pa_cons (pe_op op_pow (pe_op op_add (pe_op op_add (pe_op op_mod (pe_callTy call_int1 (by rfl) B.int boot_int (pa_cons (pv 4) pa_nil)) pe_int) (pe_op op_mul pe_int (pv 3))) pe_int) pe_int) pa_nil)) pe_int))) (pss_cons ((ps_set (i := 5) nd rfl (Or.inl rfl) (pe_op op_mod (pe_callTy call_int1 (by rfl) B.int boot_int (pa_cons (pe_op op_pow (pe_op op_add (pe_op op_add (pe_op op_mul (pv 5) (pe_op op_add (pe_op op_mul pe_int (pv 3)) pe_int)) (pe_op op_mul (pe_op op_mul pe_int (pv 3)) (pv 3))) pe_int) pe_int) pa_nil)) pe_int))) (pss_one (ps_ret (pe_op op_mod (pe_callTy call_int1 (by rfl) B.int boot_int (pa_cons (pe_op op_fdiv (pv 5) pe_int) pa_nil)) (pv 1)))))))))))), ?_⟩
    have hdm : ∀ x : Int, CDivWN x m := fun x => cdiv_of (by omega) hm (by decide) (by decide)
    refine ⟨_, rfl, p, _, 2, _, rfl, rfl, SqL.of hp, rfl, _, _, rfl, rfl, _, rfl, ?_⟩
    have fin : ∀ (x st sp : Int) (H1 : Hp), H1 p = some (.lst [.ref c, .int sp, .int st]) → SB p H H1 → 0 ≤ sp → sp ≤ (n + 1 : Nat) → Q (.int (x % m)) H1 := fun x st sp H1 e s1 h0 h1 =>
      q _ _ s1 ⟨c, ns, sp, st, e, s1.1 _ _ npc hc, npc, h0, h1⟩ (Int.emod_nonneg _ (by omega)) (Int.emod_lt_of_pos _ hm0)
    by_cases hpos : 0 < store
    · rw [decide_eq_true hpos]
      refine iteT ⟨_, rfl, p, _, 2, _, rfl, rfl, SqL.of hp, rfl, ?_⟩
      refine ⟨_, rfl, .inl ⟨_, rfl, _, rfl, _, _, rfl, rfl, hdm _, ?_⟩⟩
      refine ⟨_, rfl, p, _, 2, 2, rfl, rfl, hp, rfl, ?_⟩
      refine ⟨_, rfl, .inl ⟨_, rfl, _, rfl, _, _, rfl, rfl, hm0, ?_⟩⟩
      exact fin store _ spot _ upd_same (SB.set hp) h0 (by omega)
    · rw [decide_eq_false hpos]
      refine iteF ⟨_, rfl, p, _, 1, _, rfl, rfl, SqL.of hp, rfl, ?_⟩
      refine ⟨_, rfl, _, _, rfl, rfl, _, rfl, p, _, 1, 1, rfl, rfl, hp, rfl, ?_⟩
      have hp1 : (upd H p (.lst [.ref c, .int (spot + 1), .int store])) p = some (.lst [.ref c, .int (spot + 1), .int store]) := upd_same
      have s1 : SB p H (upd H p (.lst [.ref c, .int (spot + 1), .int store])) := SB.set hp
      have e1 : upd H p (.lst (List.set [V.ref c, V.int spot, V.int store] 1 (V.int (spot + 1)))) = upd H p (.lst [.ref c, .int (spot + 1), .int store]) := rfl
      generalize hH1 : upd H p (.lst [.ref c, .int (spot + 1), .int store]) = H1 at hp1 s1 e1
      rw [e1]
      refine ⟨_, rfl, _, _, rfl, rfl, .inl ⟨by decide, by decide⟩, _, _, rfl, rfl, ?_⟩
      have hc1 := s1.1 _ _ npc hc
      refine ⟨_, rfl, p, _, 0, _, rfl, rfl, SqL.of hp1, rfl, Nat.zero_le _, fun l hl' => ?_⟩
      have hp2 : upd H1 l (.lst []) p = some (.lst [.ref c, .int (spot + 1), .int store]) := same_new hl' _ _ hp1
      have hc2 : upd H1 l (.lst []) c = some (.lst (ns.map V.int)) := same_new hl' _ _ hc1
      have s2 : SB p H (upd H1 l (.lst [])) := s1.trans (SB.of (same_new hl'))
      have hl2 : upd H1 l (.lst []) l = some (.lst []) := upd_same
      have hsn : spot < 60000 := by omega
      clear hl'
      generalize upd H1 l (.lst []) = H2 at hp2 hc2 s2 hl2
      refine ⟨.list (ns.map PyData.int), .list [], .lst (SqL.of hc2) (dp_ints ns), .lst (SqL.of hl2) .nil, PySem.W.ke_shaped_ints ns, by decide, _, rfl, ?_⟩
      by_cases hnn : ns = []
      · have e : (!PyData.eqv (.list (ns.map PyData.int)) (.list [])) = false := by subst hnn; rfl
        rw [e]
        refine iteF ?_
        generalize 40169 * spot + 3163 = x
        refine ⟨_, rfl, _, rfl, p, _, 0, _, rfl, rfl, SqL.of hp2, rfl, c, _, rfl, .inl (SqL.of hc2), _, _, rfl, rfl, _, rfl, ?_⟩
        refine ite2 (fun ha => ?_) (fun ha => ?_)
        · refine ⟨_, rfl, _, rfl, _, _, rfl, rfl, ⟨by decide, by decide, by decide⟩, _, _, rfl, rfl, _, rfl, ?_⟩
          refine ite2 (fun hb => ?_) (fun hb => ?_)
          · refine ⟨_, rfl, _, rfl, _, _, rfl, rfl, ⟨by decide, by decide, by decide⟩, _, _, rfl, rfl, _, _, rfl, rfl, .inl ⟨by decide, by decide⟩, _, rfl, _, _, rfl, rfl, .inr ⟨_, rfl, _, _, rfl, rfl, ?_⟩⟩
            refine ⟨_, rfl, .inl ⟨_, rfl, _, rfl, _, _, rfl, rfl, hdm _, ?_⟩⟩
            refine ⟨_, rfl, p, _, 2, 2, rfl, rfl, hp2, rfl, ?_⟩
            refine ⟨_, rfl, .inl ⟨_, rfl, _, rfl, _, _, rfl, rfl, hm0, ?_⟩⟩
            exact fin _ _ (spot + 1) _ upd_same (s2.trans (SB.set hp2)) (by omega) (by omega)
          · refine ⟨_, rfl, .inl ⟨_, rfl, _, _, rfl, rfl, (by show (0 : Int) < 2147483587; decide), _, rfl, _, _, rfl, rfl, .inl ⟨by decide, by decide⟩, _, _, rfl, rfl, _, _, rfl, rfl, _, _, rfl, rfl, pw5 _ h0 hsn, .inl ⟨_, rfl, _, _, rfl, rfl, (by show (0 : Int) < 2147483549; decide), ?_⟩⟩⟩
            refine ⟨_, rfl, _, rfl, _, _, rfl, rfl, .inl ⟨by decide, by decide⟩, _, _, rfl, rfl, _, _, rfl, rfl, mixmul _ _, _, rfl, _, _, rfl, rfl, .inl ⟨by decide, by decide⟩, _, rfl, _, _, rfl, rfl, .inr ⟨by omega, by omega⟩, _, _, rfl, rfl, _, _, rfl, rfl, _, _, rfl, rfl, pw3 _ spot (mix_lt _).1 (mix_lt _).2 h0 hsn, .inl ⟨_, rfl, _, _, rfl, rfl, (by show (0 : Int) < 2147483579; decide), ?_⟩⟩
            refine ⟨_, rfl, _, _, rfl, rfl, ⟨by decide, by decide⟩, .inl ⟨_, rfl, _, rfl, _, _, rfl, rfl, hm0, ?_⟩⟩
            exact fin _ _ _ _ hp2 s2 (by omega) (by omega)
        · refine iteF ?_
          refine ⟨_, rfl, .inl ⟨_, rfl, _, _, rfl, rfl, (by show (0 : Int) < 2147483587; decide), _, rfl, _, _, rfl, rfl, .inl ⟨by decide, by decide⟩, _, _, rfl, rfl, _, _, rfl, rfl, _, _, rfl, rfl, pw5 _ h0 hsn, .inl ⟨_, rfl, _, _, rfl, rfl, (by show (0 : Int) < 2147483549; decide), ?_⟩⟩⟩
          refine ⟨_, rfl, _, rfl, _, _, rfl, rfl, .inl ⟨by decide, by decide⟩, _, _, rfl, rfl, _, _, rfl, rfl, mixmul _ _, _, rfl, _, _, rfl, rfl, .inl ⟨by decide, by decide⟩, _, rfl, _, _, rfl, rfl, .inr ⟨by omega, by omega⟩, _, _, rfl, rfl, _, _, rfl, rfl, _, _, rfl, rfl, pw3 _ spot (mix_lt _).1 (mix_lt _).2 h0 hsn, .inl ⟨_, rfl, _, _, rfl, rfl, (by show (0 : Int) < 2147483579; decide), ?_⟩⟩
          refine ⟨_, rfl, _, _, rfl, rfl, ⟨by decide, by decide⟩, .inl ⟨_, rfl, _, rfl, _, _, rfl, rfl, hm0, ?_⟩⟩
          exact fin _ _ _ _ hp2 s2 (by omega) (by omega)
      · have e : (!PyData.eqv (.list (ns.map PyData.int)) (.list [])) = true := by
          cases ns with
          | nil => exact absurd rfl hnn
          | cons => rfl
        rw [e]
        obtain ⟨z, hz⟩ := ix_cells (ns := ns) h0 hnn
        refine iteT ⟨_, rfl, p, _, 0, _, rfl, rfl, SqL.of hp2, rfl, _, rfl, .inl ⟨_, rfl, _, rfl, p, _, 0, _, rfl, rfl, SqL.of hp2, rfl, c, _, rfl, .inl (SqL.of hc2), _, _, rfl, rfl, ?_, c, _, _, _, rfl, rfl, SqL.of hc2, hz, ?_⟩⟩
        · rw [List.length_map]
          have := List.length_pos_iff.mpr hnn
          omega
        generalize z = x
        refine ⟨_, rfl, _, rfl, p, _, 0, _, rfl, rfl, SqL.of hp2, rfl, c, _, rfl, .inl (SqL.of hc2), _, _, rfl, rfl, _, rfl, ?_⟩
        refine ite2 (fun ha => ?_) (fun ha => ?_)
        · refine ⟨_, rfl, _, rfl, _, _, rfl, rfl, ⟨by decide, by decide, by decide⟩, _, _, rfl, rfl, _, rfl, ?_⟩
          refine ite2 (fun hb => ?_) (fun hb => ?_)
          · refine ⟨_, rfl, _, rfl, _, _, rfl, rfl, ⟨by decide, by decide, by decide⟩, _, _, rfl, rfl, _, _, rfl, rfl, .inl ⟨by decide, by decide⟩, _, rfl, _, _, rfl, rfl, .inr ⟨_, rfl, _, _, rfl, rfl, ?_⟩⟩
            refine ⟨_, rfl, .inl ⟨_, rfl, _, rfl, _, _, rfl, rfl, hdm _, ?_⟩⟩
            refine ⟨_, rfl, p, _, 2, 2, rfl, rfl, hp2, rfl, ?_⟩
            refine ⟨_, rfl, .inl ⟨_, rfl, _, rfl, _, _, rfl, rfl, hm0, ?_⟩⟩
            exact fin _ _ (spot + 1) _ upd_same (s2.trans (SB.set hp2)) (by omega) (by omega)
          · refine ⟨_, rfl, .inl ⟨_, rfl, _, _, rfl, rfl, (by show (0 : Int) < 2147483587; decide), _, rfl, _, _, rfl, rfl, .inl ⟨by decide, by decide⟩, _, _, rfl, rfl, _, _, rfl, rfl, _, _, rfl, rfl, pw5 _ h0 hsn, .inl ⟨_, rfl, _, _, rfl, rfl, (by show (0 : Int) < 2147483549; decide), ?_⟩⟩⟩
            refine ⟨_, rfl, _, rfl, _, _, rfl, rfl, .inl ⟨by decide, by decide⟩, _, _, rfl, rfl, _, _, rfl, rfl, mixmul _ _, _, rfl, _, _, rfl, rfl, .inl ⟨by decide, by decide⟩, _, rfl, _, _, rfl, rfl, .inr ⟨by omega, by omega⟩, _, _, rfl, rfl, _, _, rfl, rfl, _, _, rfl, rfl, pw3 _ spot (mix_lt _).1 (mix_lt _).2 h0 hsn, .inl ⟨_, rfl, _, _, rfl, rfl, (by show (0 : Int) < 2147483579; decide), ?_⟩⟩
            refine ⟨_, rfl, _, _, rfl, rfl, ⟨by decide, by decide⟩, .inl ⟨_, rfl, _, rfl, _, _, rfl, rfl, hm0, ?_⟩⟩
            exact fin _ _ _ _ hp2 s2 (by omega) (by omega)
        · refine iteF ?_
          refine ⟨_, rfl, .inl ⟨_, rfl, _, _, rfl, rfl, (by show (0 : Int) < 2147483587; decide), _, rfl, _, _, rfl, rfl, .inl ⟨by decide, by decide⟩, _, _, rfl, rfl, _, _, rfl, rfl, _, _, rfl, rfl, pw5 _ h0 hsn, .inl ⟨_, rfl, _, _, rfl, rfl, (by show (0 : Int) < 2147483549; decide), ?_⟩⟩⟩
          refine ⟨_, rfl, _, rfl, _, _, rfl, rfl, .inl ⟨by decide, by decide⟩, _, _, rfl, rfl, _, _, rfl, rfl, mixmul _ _, _, rfl, _, _, rfl, rfl, .inl ⟨by decide, by decide⟩, _, rfl, _, _, rfl, rfl, .inr ⟨by omega, by omega⟩, _, _, rfl, rfl, _, _, rfl, rfl, _, _, rfl, rfl, pw3 _ spot (mix_lt _).1 (mix_lt _).2 h0 hsn, .inl ⟨_, rfl, _, _, rfl, rfl, (by show (0 : Int) < 2147483579; decide), ?_⟩⟩
          refine ⟨_, rfl, _, _, rfl, rfl, ⟨by decide, by decide⟩, .inl ⟨_, rfl, _, rfl, _, _, rfl, rfl, hm0, ?_⟩⟩
          exact fin _ _ _ _ hp2 s2 (by omega) (by omega)
/-! ### _law_pick -/
def spPick : Sp := fun vs H Q _ => ∃ (p a : Addr) (n : Nat) (xs : List V), vs = [.ref p, .ref a] ∧ Lens H p n ∧ n < 60000 ∧ H a = some (.lst xs) ∧ a ≠ p ∧ 0 < xs.length ∧ xs.length ≤ 1000 ∧ ∀ H' x, SB p H H' → Lens H' p (n + 1) → x ∈ xs → Q x H'
abbrev sPick : Stmt := top 55
theorem scPick : FnScope ["_law_lens_here", "_law_some_here"] ["_law_lens_here", "_law_some_here"] (defScope sPick) := ⟨rfl, rfl, rfl, by decide +kernel, rfl, by decide +kernel, by decide +kernel⟩
theorem ok_pick {f : Addr} {fd : FuncData} (F : Fun K "_law_pick" "_law_pick" sPick f fd) (B : Bn mg) (C1 : Callee P w K mg base CX0 1 "_law_shot" ["_law_lens_here", "_law_many"] spShot) : FnOk P w K mg base CX0 2 f fd ["_law_lens_here", "_law_some_here"] spPick := by
  obtain ⟨f1, fd1, m1, k1, b1, G1⟩ := C1
  refine F.ok scPick (fun vs H Q E h => ?_) (fun cdv A outer s H vs Q E hr h => ?_)
  · obtain ⟨p, a, n, xs, rfl, _⟩ := h
    rfl
  · obtain ⟨p, a, n, xs, rfl, hv, hn, ha, nap, h0, h1, q⟩ := h
    refine ⟨_, pss_one (ps_ret (pe_ix ix_list (pv 1) ((pe_call G1 (hr.mono (by decide)) rfl m1 k1 b1 .nil pass0 (pa_cons (pv 0) (pa_cons ((pe_callB call_len_seq (by rfl) B.len PySem.boot_len (pa_cons (pv 1) pa_nil))) pa_nil)))) (fun _ _ => rfl))), ?_⟩
    refine ⟨_, rfl, _, rfl, _, rfl, a, xs, rfl, .inl (SqL.of ha), p, _, n, rfl, hv, hn, by omega, by rw [Int.natAbs_natCast]; exact Nat.lt_of_le_of_lt h1 (by decide), fun H' d s1 v1 d0 d1 => ?_⟩
    obtain ⟨j, rfl⟩ := Int.eq_ofNat_of_zero_le d0
    have hj : j < xs.length := by omega
    exact ⟨a, xs, _, xs[j], rfl, rfl, SqL.of (s1.1 _ _ nap ha), atI_nat (List.getElem?_eq_getElem hj), q _ _ s1 v1 (List.getElem_mem hj)⟩
end
end K14

namespace K14
open PySem PySem.Spec PyProof.Rows L2
/-! ### a list of pairs -/
def LP (H : Hp) (a : Addr) (ts : List Addr) (ps : List (Int × Int)) : Prop := H a = some (.lst (ts.map V.ref)) ∧ Paired (Pr H) ts ps
theorem Lens.not_tup {H : Hp} {p a : Addr} {n : Nat} {xs : List V} (v : Lens H p n) (h : H a = some (.tup xs)) : a ≠ p := by
  obtain ⟨c, x, y, e⟩ := v.at
  exact L2.ne_of h e (by intro z; cases z)
theorem Lens.not_none {H : Hp} {p a : Addr} {n : Nat} (v : Lens H p n) (h : H a = none) : a ≠ p := by
  obtain ⟨c, x, y, e⟩ := v.at
  exact (ne_of_none e h).symm
theorem Pr.sb {H H' : Hp} {p a : Addr} {n : Nat} {q : Int × Int} (h : Pr H a q) (v : Lens H p n) (s : SB p H H') : Pr H' a q := s.1 _ _ (v.not_tup h) h
theorem prs_sb {H H' : Hp} {p : Addr} {n : Nat} {ts : List Addr} {ps : List (Int × Int)} (h : Paired (Pr H) ts ps) (v : Lens H p n) (s : SB p H H') : Paired (Pr H') ts ps := paired_mono h fun _ _ z => z.sb v s
theorem LP.sb {H H' : Hp} {p a : Addr} {n : Nat} {ts : List Addr} {ps : List (Int × Int)} (h : LP H a ts ps) (v : Lens H p n) (na : a ≠ p) (s : SB p H H') : LP H' a ts ps := ⟨s.1 _ _ na h.1, prs_sb h.2 v s⟩
theorem LP.same {H H' : Hp} {a : Addr} {ts : List Addr} {ps : List (Int × Int)} (h : LP H a ts ps) (s : Same H H') : LP H' a ts ps := ⟨s _ _ h.1, paired_mono h.2 fun _ _ z => s _ _ z⟩
theorem paired_snoc {α β : Type} {R : α → β → Prop} {xs : List α} {ys : List β} {x : α} {y : β} (h : Paired R xs ys) (r : R x y) : Paired R (xs ++ [x]) (ys ++ [y]) := by
  induction h with
  | nil => exact .cons r .nil
  | cons a _ ih => exact .cons a ih
theorem prs_upd {H : Hp} {D : Addr} {xs zs : List V} {ts : List Addr} {ps : List (Int × Int)} (hd : H D = some (.lst xs)) (h : Paired (Pr H) ts ps) : Paired (Pr (upd H D (.lst zs))) ts ps := paired_mono h fun t q z => by
  have z : H t = some (.tup [.int q.1, .int q.2]) := z
  show upd H D (.lst zs) t = _
  rw [upd_ne (L2.ne_of z hd (by intro z; cases z))]
  exact z
theorem LP.snoc {H : Hp} {D g : Addr} {ts : List Addr} {ps : List (Int × Int)} {q : Int × Int} (h : LP H D ts ps) (r : Pr H g q) : LP (upd H D (.lst (ts.map V.ref ++ [V.ref g]))) D (ts ++ [g]) (ps ++ [q]) :=
  ⟨by rw [upd_same, List.map_append]; rfl, prs_upd h.1 (paired_snoc h.2 r)⟩
theorem LP.len {H : Hp} {D : Addr} {ts : List Addr} {ps : List (Int × Int)} (h : LP H D ts ps) : ts.length = ps.length := Paired.length h.2
theorem SB.upd {H4 H : Hp} {p D : Addr} {o : HO} {n : Nat} (v4 : Lens H4 p n) (s : SB p H4 H) (hD : H4 D = none) : SB p H4 (upd H D o) := ⟨fun b o n h => by
  rw [upd_ne (ne_of_none h hD)]
  exact s.1 _ _ n h, fun c x y h => by
  obtain ⟨x', y', e⟩ := s.2 c x y h
  exact ⟨x', y', by rw [upd_ne (ne_of_none h hD)]; exact e⟩⟩
/-- all in reach -/
def InB (B : Int) (ps : List (Int × Int)) : Prop := ∀ p ∈ ps, -B ≤ p.1 ∧ p.1 ≤ B ∧ -B ≤ p.2 ∧ p.2 ≤ B
theorem InB.snoc {B : Int} {ps : List (Int × Int)} {a b : Int} (h : InB B ps) (h1 : -B ≤ a) (h2 : a ≤ B) (h3 : -B ≤ b) (h4 : b ≤ B) : InB B (ps ++ [(a, b)]) := fun p hp => by
  rcases List.mem_append.mp hp with e | e
  · exact h p e
  · rw [List.mem_singleton.mp e]
    exact ⟨h1, h2, h3, h4⟩
theorem InB.nil {B : Int} : InB B [] := fun p h => by cases h
theorem InB.le {B C : Int} {ps : List (Int × Int)} (h : InB B ps) (l : B ≤ C) : InB C ps := fun p hp => by
  have := h p hp
  exact ⟨by omega, by omega, by omega, by omega⟩
theorem InB.set {B : Int} {ps : List (Int × Int)} {j : Nat} {a b : Int} (h : InB B ps) (h1 : -B ≤ a) (h2 : a ≤ B) (h3 : -B ≤ b) (h4 : b ≤ B) : InB B (ps.set j (a, b)) := fun p hp => by
  rcases List.mem_or_eq_of_mem_set hp with e | e
  · exact h p e
  · rw [e]
    exact ⟨h1, h2, h3, h4⟩
theorem paired_set {α β : Type} {R : α → β → Prop} {xs : List α} {ys : List β} {x : α} {y : β} (h : Paired R xs ys) (r : R x y) : ∀ j, Paired R (xs.set j x) (ys.set j y) := by
  induction h with
  | nil => exact fun _ => .nil
  | cons a t ih => exact fun j => match j with
    | 0 => .cons r t
    | j + 1 => .cons a (ih j)
theorem LP.set {H : Hp} {D g : Addr} {ts : List Addr} {ps : List (Int × Int)} {q : Int × Int} (h : LP H D ts ps) (r : Pr H g q) (j : Nat) : LP (upd H D (.lst ((ts.map V.ref).set j (V.ref g)))) D (ts.set j g) (ps.set j q) :=
  ⟨by rw [upd_same, List.map_set], prs_upd h.1 (paired_set h.2 r j)⟩
theorem LP.mem {H : Hp} {D : Addr} {ts : List Addr} {ps : List (Int × Int)} {x : V} (h : LP H D ts ps) (hx : x ∈ ts.map V.ref) : ∃ g q, x = .ref g ∧ q ∈ ps ∧ Pr H g q := by
  obtain ⟨g, hg, rfl⟩ := List.mem_map.mp hx
  obtain ⟨i, hi⟩ := List.mem_iff_getElem?.mp hg
  obtain ⟨q, hq, r⟩ := paired_get h.2 hi
  exact ⟨g, q, rfl, List.mem_of_getElem? hq, r⟩
theorem LP.at {H : Hp} {D : Addr} {ts : List Addr} {ps : List (Int × Int)} {i : Nat} (h : LP H D ts ps) (hi : i < ps.length) : ∃ g q, (ts.map V.ref)[i]? = some (.ref g) ∧ ps[i]? = some q ∧ Pr H g q := by
  obtain ⟨g, hg, r⟩ := paired_of h.2 (List.getElem?_eq_getElem hi)
  exact ⟨g, _, by rw [List.getElem?_map, hg]; rfl, List.getElem?_eq_getElem hi, r⟩
theorem mul_small {a b : Int} (h1 : -4 ≤ a) (h2 : a ≤ 4) (h3 : -3 ≤ b) (h4 : b ≤ 3) : -12 ≤ a * b ∧ a * b ≤ 12 := by
  have : a = -4 ∨ a = -3 ∨ a = -2 ∨ a = -1 ∨ a = 0 ∨ a = 1 ∨ a = 2 ∨ a = 3 ∨ a = 4 := by omega
  rcases this with rfl | rfl | rfl | rfl | rfl | rfl | rfl | rfl | rfl <;> omega
/-- what a comprehension of pairs keeps: m shots a turn -/
def Gw (B : Int) (p D : Addr) (H0 : Hp) (n m i : Nat) (H : Hp) : Prop := SB p H0 H ∧ Lens H p (n + m * i) ∧ ∃ ts ps, ps.length = i ∧ LP H D ts ps ∧ InB B ps
theorem gw_nil {B : Int} {p D : Addr} {H0 : Hp} {n m : Nat} (v : Lens H0 p n) (hD : H0 D = none) : Gw B p D H0 n m 0 (upd H0 D (.lst [])) := ⟨SB.of (same_new hD), (v.same (same_new hD)).le (Nat.le_add_right _ _), [], [], rfl, ⟨upd_same, .nil⟩, InB.nil⟩
theorem gw_step {B : Int} {p D g : Addr} {H0 H' H2 : Hp} {n m i k : Nat} {a b : Int} {ts : List Addr} {ps : List (Int × Int)} (v0 : Lens H0 p k) (hD : H0 D = none) (s : SB p H0 H') (v' : Lens H' p (n + m * i)) (l : ps.length = i) (lp : LP H' D ts ps) (b9 : InB B ps) (hi : i < 7)
    (s2 : SB p H' H2) (v2 : Lens H2 p (n + m * i + m)) (hg : Pr H2 g (a, b)) (h1 : -B ≤ a) (h2 : a ≤ B) (h3 : -B ≤ b) (h4 : b ≤ B) :
    ∃ acc, H2 D = some (.lst acc) ∧ acc.length < sizeLine ∧ Gw B p D H0 n m (i + 1) (upd H2 D (.lst (acc ++ [V.ref g]))) := by
  have nD : D ≠ p := v0.not_none hD
  have lp2 := lp.sb v' nD s2
  exact ⟨_, lp2.1, by rw [List.length_map, lp.len, l]; exact small1000 (by omega), (s.trans s2).upd v0 hD, (v2.upd v0 (s.trans s2) hD).le (by rw [Nat.mul_add]; omega), _, _, by rw [List.length_append, l]; rfl, lp2.snoc hg, b9.snoc h1 h2 h3 h4⟩
end K14

namespace K14
open PySem PySem.Spec PyProof.Rows L2
/-- numbers of pins as values -/
def nV (ns : List Nat) : List V := (ns.map fun n => ((n : Nat) : Int)).map V.int
theorem nV_len (ns : List Nat) : (nV ns).length = ns.length := by
  unfold nV
  rw [List.length_map, List.length_map]
theorem rg_nV (k : Nat) : rgV 0 (k : Int) = nV (List.range k) := by
  unfold rgV nV
  rw [show ((k : Int) - 0).toNat = k by omega, List.map_map]
  refine List.map_congr_left fun i _ => ?_
  show V.int (0 + (i : Int)) = V.int (i : Int)
  rw [Int.zero_add]
theorem erase_map {α β : Type} (f : α → β) : ∀ (l : List α) (i : Nat), (l.map f).eraseIdx i = (l.eraseIdx i).map f
  | [], _ => rfl
  | _ :: _, 0 => rfl
  | a :: l, i + 1 => by
    show f a :: (l.map f).eraseIdx i = f a :: (l.eraseIdx i).map f
    rw [erase_map f l i]
theorem erase_nV (ns : List Nat) (i : Nat) : (nV ns).eraseIdx i = nV (ns.eraseIdx i) := by
  unfold nV
  rw [erase_map, erase_map]
theorem nV_at {ns : List Nat} {i : Nat} (h : i < ns.length) : (nV ns)[i]? = some (.int (ns[i] : Nat)) := by
  unfold nV
  rw [List.getElem?_map, List.getElem?_map, List.getElem?_eq_getElem h]
  rfl
theorem nV_snoc (ns : List Nat) (x : Nat) : nV (ns ++ [x]) = nV ns ++ [V.int (x : Nat)] := by
  unfold nV
  rw [List.map_append, List.map_append]
  rfl
theorem erase_perm {α : Type} : ∀ {l : List α} {i : Nat} (h : i < l.length), (l[i] :: l.eraseIdx i).Perm l
  | [], _, h => absurd h (Nat.not_lt_zero _)
  | _ :: _, 0, _ => List.Perm.refl _
  | a :: l, i + 1, h => by
    have h' : i < l.length := by simpa using h
    have ih := erase_perm (l := l) (i := i) h'
    show (l[i] :: a :: l.eraseIdx i).Perm (a :: l)
    exact (List.Perm.swap a l[i] (l.eraseIdx i)).trans (List.Perm.cons a ih)
theorem perm_pop {ns fs : List Nat} {i : Nat} (h : i < ns.length) : (ns.eraseIdx i ++ (fs ++ [ns[i]])).Perm (ns ++ fs) := by
  have b : (ns.eraseIdx i ++ (fs ++ [ns[i]])).Perm (ns[i] :: (ns.eraseIdx i ++ fs)) := by
    rw [← List.append_assoc]
    exact List.perm_append_singleton _ _
  exact b.trans (List.Perm.append_right fs (erase_perm h))
end K14

namespace K14
open PySem PySem.Spec PyProof.Rows L2
theorem encL_shaped (ps : List (Int × Int)) : SeqAt.shaped (.list (ps.map en)) = true := by
  show (PyData.canLayAll0 (ps.map en) && decide (PyData.depthAll (ps.map en) + 1 ≤ 64)) = true
  rw [enc_lay, Bool.true_and, decide_eq_true_iff]
  have := enc_depth ps
  omega
theorem LP.dp {K : PySem.W.Frag} {H : Hp} {a : Addr} {ts : List Addr} {ps : List (Int × Int)} (h : LP H a ts ps) : Dp K H (.ref a) (.list (ps.map en)) := .lst (SqL.of h.1) (dp_pairs h.2)
end K14

namespace K14
open PySem PySem.Spec PyProof.Rows L2
section
variable {P : Program} {w : World} {K : PySem.W.Frag} {mg : Str → Option Value} {base : Heap} {C : Addr}
/-! ### first_twice -/
/-- the first that stands twice -/
def TW (ks : List Key) (r : Option Key) : Prop := (r = none ∧ ks.Nodup) ∨ ∃ i k, ks[i]? = some k ∧ k ∈ ks.take i ∧ (ks.take i).Nodup ∧ r = some k
def seenS (ks : List Key) (i : Nat) : Key → Bool := fun k => (ks.take i).any fun j => decide (k = j)
theorem seenS_t {ks : List Key} {i : Nat} {k : Key} : seenS ks i k = true ↔ k ∈ ks.take i := by
  unfold seenS
  rw [List.any_eq_true]
  constructor
  · rintro ⟨j, hj, e⟩
    rw [of_decide_eq_true e]
    exact hj
  · intro h
    exact ⟨k, h, decide_eq_true rfl⟩
def rv : Option Key → V
  | none => .non
  | some k => kV k
theorem get_keys {ks : List Key} {i : Nat} {x : V} (h : (ks.map kV)[i]? = some x) : ∃ k, ks[i]? = some k ∧ x = kV k := by
  rw [List.getElem?_map] at h
  cases e : ks[i]? with
  | none =>
    rw [e] at h
    cases h
  | some z =>
    rw [e] at h
    exact ⟨z, rfl, (Option.some.inj h).symm⟩
def spFt : Sp := fun vs H Q _ => ∃ (a : Addr) (ks : List Key), vs = [.ref a] ∧ Sq H a (ks.map kV) ∧ ks.length ≤ 100 ∧ ∀ H' r, Same H H' → TW ks r → Q (rv r) H'
abbrev sFt : Stmt := top 17
abbrev nFt : List Str := ["values", "seen", "value"]
theorem scFt : FnScope nFt ["values"] (defScope sFt) := ⟨rfl, rfl, rfl, by decide +kernel, rfl, by decide +kernel, by decide +kernel⟩
theorem nodup_snoc {ks : List Key} {k : Key} (h : ks.Nodup) (hk : k ∉ ks) : (ks ++ [k]).Nodup := by
  rw [List.nodup_append]
  exact ⟨h, List.nodup_cons.mpr ⟨List.not_mem_nil, List.nodup_nil⟩, fun a ha b hb => by rw [List.mem_singleton.mp hb]; intro e; exact hk (e ▸ ha)⟩
theorem ok_ft {f : Addr} {fd : FuncData} (F : Fun K "first_twice" "first_twice" sFt f fd) (hset : mg "set" = none) : FnOk P w K mg base CX0 1 f fd ["values"] spFt := by
  have nd := scFt.nd
  refine F.ok scFt (fun vs H Q E h => ?_) (fun cdv A outer s H vs Q E hr h => ?_)
  · obtain ⟨a, ks, rfl, _⟩ := h
    rfl
  · obtain ⟨a, ks, rfl, hs, hl, q⟩ := h
    rcases hs with hs | hs
    · refine ⟨_, (pss_cons ((ps_set (i := 1) nd rfl (Or.inl rfl) (pe_callTy0 cr_set0K (by rfl) hset (by decide +kernel)))) (pss_cons (ps_for PassesOwn.never rfl (pi_list (pv 0)) (pg_name (i := 2) nd rfl (Or.inl rfl)) (pss_cons (ps_if (pt_cmpR or_sinK (pv 2) (pv 1) rfl) (pss_one (ps_ret (pv 2))) pss_nil) (pss_one (ps_expr (pe_saddK (pv 1) (pa_cons (pv 2) pa_nil)))))) (pss_one (ps_ret pe_non)))), ?_⟩
      refine ⟨rfl, fun p hp => ?_⟩
      have s0 := same_new (o := SetK P w p (fun _ => false) 0) hp
      refine ⟨_, rfl, a, rfl, ⟨_, SqL.of (s0 _ _ hs)⟩, ?_⟩
      refine for_list (xs := ks.map kV) (fun i σ H' => Same H H' ∧ (∃ v, σ = [some (.ref a), some (.ref p), v]) ∧ (ks.take i).Nodup ∧ ∃ n, n ≤ i ∧ H' p = some (SetK P w p (seenS ks i) n))
        ⟨s0, ⟨none, rfl⟩, List.nodup_nil, 0, Nat.le_refl _, upd_same⟩ (fun i σ H' _ p' => SqL.of (p'.1 _ _ hs)) ?_ ?_
      · rintro i x σ H' hx ⟨s1, ⟨v, rfl⟩, hnd, n, hn, hS⟩
        obtain ⟨k, hk, rfl⟩ := get_keys hx
        have hi : i < ks.length := by
          rcases Nat.lt_or_ge i ks.length with z | z
          · exact z
          · rw [List.getElem?_eq_none z] at hk
            cases hk
        refine ⟨_, rfl, _, rfl, k, p, _, n, rfl, rfl, hS, _, rfl, ?_⟩
        by_cases hm : k ∈ ks.take i
        · rw [seenS_t.mpr hm]
          exact iteT ⟨_, rfl, q _ (some k) s1 (.inr ⟨i, k, hk, hm, hnd, rfl⟩)⟩
        · have em : seenS ks i k = false := by
            cases e : seenS ks i k with
            | false => rfl
            | true => exact absurd (seenS_t.mp e) hm
          rw [em]
          refine iteF ⟨_, rfl, ⟨p, _, n, rfl, hS⟩, _, rfl, p, k, _, n, rfl, rfl, hS, Nat.lt_of_le_of_lt (show n + 1 ≤ 100 by omega) (by decide +kernel), ?_⟩
          refine ⟨fun b o eb => ?_, ⟨_, rfl⟩, ?_, if seenS ks i k = true then n else n + 1, ?_, ?_⟩
          · have nb : b ≠ p := ne_of_none eb hp
            rw [upd_ne nb]
            exact s1 b o eb
          · rw [take_more hk]
            exact nodup_snoc hnd hm
          · split <;> omega
          · rw [upd_same]
            have e : seenS ks (i + 1) = fun j => seenS ks i j || decide (j = k) := by
              funext j
              unfold seenS
              rw [take_more hk, List.any_append]
              simp
            rw [e]
            rfl
      · rintro σ H' ⟨s1, ⟨v, rfl⟩, hnd, n, hn, hS⟩
        rw [List.length_map, List.take_length] at hnd
        exact q _ none s1 (.inl ⟨rfl, hnd⟩)
    · refine ⟨_, (pss_cons ((ps_set (i := 1) nd rfl (Or.inl rfl) (pe_callTy0 cr_set0K (by rfl) hset (by decide +kernel)))) (pss_cons (ps_for PassesOwn.never rfl (pi_tup (pv 0)) (pg_name (i := 2) nd rfl (Or.inl rfl)) (pss_cons (ps_if (pt_cmpR or_sinK (pv 2) (pv 1) rfl) (pss_one (ps_ret (pv 2))) pss_nil) (pss_one (ps_expr (pe_saddK (pv 1) (pa_cons (pv 2) pa_nil)))))) (pss_one (ps_ret pe_non)))), ?_⟩
      refine ⟨rfl, fun p hp => ?_⟩
      have s0 := same_new (o := SetK P w p (fun _ => false) 0) hp
      refine ⟨_, rfl, a, rfl, ⟨_, SqT.of (s0 _ _ hs)⟩, ?_⟩
      refine for_tup (xs := ks.map kV) (fun i σ H' => Same H H' ∧ (∃ v, σ = [some (.ref a), some (.ref p), v]) ∧ (ks.take i).Nodup ∧ ∃ n, n ≤ i ∧ H' p = some (SetK P w p (seenS ks i) n))
        ⟨s0, ⟨none, rfl⟩, List.nodup_nil, 0, Nat.le_refl _, upd_same⟩ (fun i σ H' _ p' => SqT.of (p'.1 _ _ hs)) ?_ ?_
      · rintro i x σ H' hx ⟨s1, ⟨v, rfl⟩, hnd, n, hn, hS⟩
        obtain ⟨k, hk, rfl⟩ := get_keys hx
        have hi : i < ks.length := by
          rcases Nat.lt_or_ge i ks.length with z | z
          · exact z
          · rw [List.getElem?_eq_none z] at hk
            cases hk
        refine ⟨_, rfl, _, rfl, k, p, _, n, rfl, rfl, hS, _, rfl, ?_⟩
        by_cases hm : k ∈ ks.take i
        · rw [seenS_t.mpr hm]
          exact iteT ⟨_, rfl, q _ (some k) s1 (.inr ⟨i, k, hk, hm, hnd, rfl⟩)⟩
        · have em : seenS ks i k = false := by
            cases e : seenS ks i k with
            | false => rfl
            | true => exact absurd (seenS_t.mp e) hm
          rw [em]
          refine iteF ⟨_, rfl, ⟨p, _, n, rfl, hS⟩, _, rfl, p, k, _, n, rfl, rfl, hS, Nat.lt_of_le_of_lt (show n + 1 ≤ 100 by omega) (by decide +kernel), ?_⟩
          refine ⟨fun b o eb => ?_, ⟨_, rfl⟩, ?_, if seenS ks i k = true then n else n + 1, ?_, ?_⟩
          · have nb : b ≠ p := ne_of_none eb hp
            rw [upd_ne nb]
            exact s1 b o eb
          · rw [take_more hk]
            exact nodup_snoc hnd hm
          · split <;> omega
          · rw [upd_same]
            have e : seenS ks (i + 1) = fun j => seenS ks i j || decide (j = k) := by
              funext j
              unfold seenS
              rw [take_more hk, List.any_append]
              simp
            rw [e]
            rfl
      · rintro σ H' ⟨s1, ⟨v, rfl⟩, hnd, n, hn, hS⟩
        rw [List.length_map, List.take_length] at hnd
        exact q _ none s1 (.inl ⟨rfl, hnd⟩)
end
/-! ### TooMany -/
/-- the exception at a has these fields, its own dict is new -/
def ErN (H H' : Hp) (C : Addr) (fs : List (Str × V)) (a : Addr) : Prop := ∃ d, H d = none ∧ d ≠ a ∧ H' a = some (exo a C (some d)) ∧ H' d = some (exd d fs)
def spIn2 (K : PySem.W.Frag) (f g : Str) : Sp := fun vs H Q _ => ∃ (a C : Addr) (v u : V), vs = [.ref a, v, u] ∧ OexC K C ∧ PySem.W.findIn K (.ref C) f = some none ∧ PySem.W.findIn K (.ref C) g = some none ∧ H a = some (exo a C none) ∧
  ∀ H', (∀ b o, b ≠ a → H b = some o → H' b = some o) → ErN H H' C [(g, u), (f, v)] a → Q .non H'
theorem two_fields {H : Hp} {a C : Addr} {f g : Str} {v u : V} {Q : VK} (q : ∀ H', (∀ b o, b ≠ a → H b = some o → H' b = some o) → ErN H H' C [(g, u), (f, v)] a → Q .non H') :
    ∀ dx, H dx = none → dx ≠ a → Q .non (upd (upd (upd H dx (exd dx [(f, v)])) a (exo a C (some dx))) dx (exd dx [(g, u), (f, v)])) := fun dx n ne => by
  refine q _ (fun b o nb e => ?_) ⟨dx, n, ne, ?_, upd_same⟩
  · rw [upd_ne (ne_of_none e n), upd_ne nb, upd_ne (ne_of_none e n)]
    exact e
  · rw [upd_ne ne.symm]
    exact upd_same
/-- an error of the class at C with these fields is raised -/
def RzF (C : Addr) (fs : List (Str × V)) (H : Hp) (E : XK) : Prop := ∀ d H', Same H H' → H' d = some (.xd fs) → E (.ref C) (some d) H'
theorem rzf_of {C a d : Addr} {fs : List (Str × V)} {H H2 : Hp} {E : XK} (r : RzF C fs H E) (na : H a = none) (k : ∀ b o, b ≠ a → upd H a (exo a C none) b = some o → H2 b = some o) (nd : upd H a (exo a C none) d = none) (ne : d ≠ a) :
    E (.ref C) (some d) (upd (L2.del H2 a) d (.xd fs)) := by
  have hd : H d = none := by
    rw [upd_ne ne] at nd
    exact nd
  refine r d _ (fun b o e => ?_) upd_same
  have b1 : b ≠ d := ne_of_none e hd
  have b2 : b ≠ a := ne_of_none e na
  rw [upd_ne b1, del_ne b2]
  exact k b o b2 (by rw [upd_ne b2]; exact e)
/-- what the top has written of TooMany -/
structure TmT (K : PySem.W.Frag) (mg : Str → Option Value) (C fI : Addr) : Prop where
  oex : OexC K C
  mgC : mg "TooMany" = some (.ref C)
  no1 : PySem.W.findIn K (.ref C) "what" = some none
  no2 : PySem.W.findIn K (.ref C) "most" = some none
  iC : PySem.W.findIn K (.ref C) "__init__" = some (some (.ref fI))
  tI : PySem.W.typeIn K (.ref fI) = some (.type "function")
/-! ### classes of errors with one field -/
structure ErT (K : PySem.W.Frag) (mg : Str → Option Value) (x fld : Str) (C fI : Addr) : Prop where
  oex : OexC K C
  mgC : mg x = some (.ref C)
  noF : PySem.W.findIn K (.ref C) fld = some none
  iC : PySem.W.findIn K (.ref C) "__init__" = some (some (.ref fI))
  tI : PySem.W.typeIn K (.ref fI) = some (.type "function")
/-- an error of the class at C with this one field is raised: its own dict is new -/
def RzV (C : Addr) (fld : Str) (v : V) (H : Hp) (E : XK) : Prop := ∀ d H', Same H H' → H d = none → H' d = some (.xd [(fld, v)]) → E (.ref C) (some d) H'
theorem RzV.same {C : Addr} {fld : Str} {v : V} {H H1 : Hp} {E : XK} (h : RzV C fld v H E) (s : Same H H1) : RzV C fld v H1 E := fun d H' s' n e => h d H' (s.trans s') (s.free n) e
theorem raisedV {H H1 : Hp} {C a dx : Addr} {fld : Str} {v : V} {E : XK} (h : RzV C fld v H E) (s1 : Same H H1) (ha : H1 a = none) (hd : upd H1 a (exo a C none) dx = none) (ne : dx ≠ a) :
    E (.ref C) (some dx) (upd (L2.del (upd (upd (upd H1 a (exo a C none)) dx (exd dx [(fld, v)])) a (exo a C (some dx))) a) dx (.xd [(fld, v)])) := by
  have hd1 : H1 dx = none := by
    rw [upd_ne ne] at hd
    exact hd
  refine h dx _ (fun b o e => ?_) (s1.free hd1) upd_same
  have e1 := s1 b o e
  have nb : b ≠ dx := ne_of_none e1 hd1
  have na : b ≠ a := ne_of_none e1 ha
  rw [upd_ne nb, del_ne na, upd_ne na, upd_ne nb, upd_ne na]
  exact e1
section
variable {P : Program} {w : World} {K : PySem.W.Frag} {mg : Str → Option Value} {base : Heap}
/-- an __init__ that keeps one field -/
def spE1 (K : PySem.W.Frag) (fld : Str) (C : Addr) : Sp := fun vs H Q _ => ∃ (a : Addr) (y : V), vs = [.ref a, y] ∧ OexC K C ∧ PySem.W.findIn K (.ref C) fld = some none ∧ H a = some (exo a C none) ∧
  ∀ dx, H dx = none → dx ≠ a → Q .non (upd (upd H dx (exd dx [(fld, y)])) a (exo a C (some dx)))
abbrev sNI : Stmt := inClass (top 3) 0
theorem scNI : FnScope ["self", "part"] ["self", "part"] (defScope sNI) := ⟨rfl, rfl, rfl, by decide +kernel, rfl, by decide +kernel, by decide +kernel⟩
theorem ok_ni {f C : Addr} {fd : FuncData} (F : Fun K "__init__" "BadNumber.__init__" sNI f fd) : FnOk P w K mg base CX0 1 f fd ["self", "part"] (spE1 K "part" C) := by
  refine F.ok scNI (fun vs H Q E h => ?_) (fun cdv A outer s H vs Q E hr h => ?_)
  · obtain ⟨a, y, rfl, _⟩ := h
    rfl
  · obtain ⟨a, y, rfl, T, no, ha, q⟩ := h
    exact ⟨_, pss_one (ps_ost (pv 0) (pv 1)), _, rfl, _, rfl, a, C, rfl, T, no, .inl ⟨ha, q⟩⟩
abbrev sFI : Stmt := inClass (top 6) 0
theorem scFI : FnScope ["self", "part"] ["self", "part"] (defScope sFI) := ⟨rfl, rfl, rfl, by decide +kernel, rfl, by decide +kernel, by decide +kernel⟩
theorem ok_fi {f C : Addr} {fd : FuncData} (F : Fun K "__init__" "Misfit.__init__" sFI f fd) : FnOk P w K mg base CX0 1 f fd ["self", "part"] (spE1 K "part" C) := by
  refine F.ok scFI (fun vs H Q E h => ?_) (fun cdv A outer s H vs Q E hr h => ?_)
  · obtain ⟨a, y, rfl, _⟩ := h
    rfl
  · obtain ⟨a, y, rfl, T, no, ha, q⟩ := h
    exact ⟨_, pss_one (ps_ost (pv 0) (pv 1)), _, rfl, _, rfl, a, C, rfl, T, no, .inl ⟨ha, q⟩⟩
abbrev sVI : Stmt := inClass (top 7) 0
theorem scVI : FnScope ["self", "value"] ["self", "value"] (defScope sVI) := ⟨rfl, rfl, rfl, by decide +kernel, rfl, by decide +kernel, by decide +kernel⟩
theorem ok_vi {f C : Addr} {fd : FuncData} (F : Fun K "__init__" "Missing.__init__" sVI f fd) : FnOk P w K mg base CX0 1 f fd ["self", "value"] (spE1 K "value" C) := by
  refine F.ok scVI (fun vs H Q E h => ?_) (fun cdv A outer s H vs Q E hr h => ?_)
  · obtain ⟨a, y, rfl, _⟩ := h
    rfl
  · obtain ⟨a, y, rfl, T, no, ha, q⟩ := h
    exact ⟨_, pss_one (ps_ost (pv 0) (pv 1)), _, rfl, _, rfl, a, C, rfl, T, no, .inl ⟨ha, q⟩⟩
abbrev sWI : Stmt := inClass (top 10) 0
theorem scWI : FnScope ["self", "value"] ["self", "value"] (defScope sWI) := ⟨rfl, rfl, rfl, by decide +kernel, rfl, by decide +kernel, by decide +kernel⟩
theorem ok_wi {f C : Addr} {fd : FuncData} (F : Fun K "__init__" "Twice.__init__" sWI f fd) : FnOk P w K mg base CX0 1 f fd ["self", "value"] (spE1 K "value" C) := by
  refine F.ok scWI (fun vs H Q E h => ?_) (fun cdv A outer s H vs Q E hr h => ?_)
  · obtain ⟨a, y, rfl, _⟩ := h
    rfl
  · obtain ⟨a, y, rfl, T, no, ha, q⟩ := h
    exact ⟨_, pss_one (ps_ost (pv 0) (pv 1)), _, rfl, _, rfl, a, C, rfl, T, no, .inl ⟨ha, q⟩⟩
abbrev sTI : Stmt := inClass (top 11) 0
theorem scTI : FnScope ["self", "what", "most"] ["self", "what", "most"] (defScope sTI) := ⟨rfl, rfl, rfl, by decide +kernel, rfl, by decide +kernel, by decide +kernel⟩
theorem ok_ti {f : Addr} {fd : FuncData} (F : Fun K "__init__" "TooMany.__init__" sTI f fd) : FnOk P w K mg base CX0 1 f fd ["self", "what", "most"] (spIn2 K "what" "most") := by
  refine F.ok scTI (fun vs H Q E h => ?_) (fun cdv A outer s H vs Q E hr h => ?_)
  · obtain ⟨a, C, v, u, rfl, _⟩ := h
    rfl
  · obtain ⟨a, C, v, u, rfl, T, no1, no2, ha, q⟩ := h
    refine ⟨_, pss_cons (ps_ost (pv 0) (pv 1)) (pss_one (ps_ost (pv 0) (pv 2))), _, rfl, _, rfl, a, C, rfl, T, no1, .inl ⟨ha, fun dx n ne => ?_⟩⟩
    exact ⟨_, rfl, _, rfl, a, C, rfl, T, no2, .inr ⟨dx, _, upd_same, by rw [upd_ne ne]; exact upd_same, (by show 1 ≤ 900; decide), two_fields q dx n ne⟩⟩
end
end K14

namespace K14
open PySem PySem.Spec PyProof.Rows L2
/-! ### numbers of pins, judged -/
def pinOk (k : Nat) (x : V) : Bool := within x 0 ((k : Int) - 1)
inductive WJ (K : PySem.W.Frag) (H : Hp) (k : Nat) : V → Option V → Prop
  | no {v : V} (h : Kd K H v false) : WJ K H k v (some v)
  | seq {a : Addr} {xs : List V} (hs : Sq H a xs) (hk : ∀ x ∈ xs, ∃ t, Kd K H x t) (hl : xs.length ≤ 100) : WJ K H k (.ref a) (xs.find? fun x => !pinOk k x)
theorem WJ.same {K : PySem.W.Frag} {H H' : Hp} {k : Nat} {v : V} {r : Option V} (j : WJ K H k v r) (s : Same H H') : WJ K H' k v r := by
  cases j with
  | no h => exact .no (h.same s)
  | seq hs hk hl => exact .seq (hs.same s) (fun x hx => let ⟨t, h⟩ := hk x hx; ⟨t, h.same s⟩) hl
/-- a list or a tuple of these numbers, each of a pin -/
structure PinL (H : Hp) (a : Addr) (ns : List Nat) (k : Nat) : Prop where
  sq : Sq H a (nV ns)
  len : ns.length ≤ 100
  lt : ∀ n ∈ ns, n < k
theorem PinL.same {H H' : Hp} {a : Addr} {ns : List Nat} {k : Nat} (h : PinL H a ns k) (s : Same H H') : PinL H' a ns k := ⟨h.sq.same s, h.len, h.lt⟩
def ksN (ns : List Nat) : List Key := ns.map fun n => Sum.inl ((n : Nat) : Int)
theorem ksN_v (ns : List Nat) : (ksN ns).map kV = nV ns := by
  unfold ksN nV
  rw [List.map_map, List.map_map]
  rfl
theorem ksN_nd {ns : List Nat} : (ksN ns).Nodup ↔ ns.Nodup := by
  unfold ksN
  rw [List.Nodup, List.pairwise_map]
  constructor
  · intro h
    refine h.imp fun {a b} n e => n (by rw [e])
  · intro h
    refine h.imp fun {a b} n e => n (by have := Sum.inl.inj e; omega)
/-- the first number that stands twice -/
def TwN (ns : List Nat) (j : Nat) : Prop := ∃ i, ns[i]? = some j ∧ j ∈ ns.take i ∧ (ns.take i).Nodup
theorem tw_none {ns : List Nat} (h : TW (ksN ns) none) : ns.Nodup := by
  rcases h with ⟨_, h⟩ | ⟨_, _, _, _, _, e⟩
  · exact ksN_nd.mp h
  · cases e
theorem tw_some {ns : List Nat} {k : Key} (h : TW (ksN ns) (some k)) : ∃ j, k = Sum.inl ((j : Nat) : Int) ∧ TwN ns j := by
  rcases h with ⟨e, _⟩ | ⟨i, k', h1, h2, h3, e⟩
  · cases e
  · cases e
    unfold ksN at h1 h2 h3
    rw [List.getElem?_map] at h1
    cases q : ns[i]? with
    | none =>
      rw [q] at h1
      cases h1
    | some j =>
      rw [q] at h1
      have ek : (Sum.inl ((j : Nat) : Int) : Key) = k := Option.some.inj h1
      subst ek
      refine ⟨j, rfl, i, q, ?_, ?_⟩
      · rw [← List.map_take] at h2
        obtain ⟨m, hm, em⟩ := List.mem_map.mp h2
        have : (m : Int) = j := Sum.inl.inj em
        have : m = j := by omega
        rw [← this]
        exact hm
      · rw [← List.map_take] at h3
        exact ksN_nd.mp h3
theorem nV_pin {k : Nat} : ∀ {xs : List V}, xs.find? (fun x => !pinOk k x) = none → ∃ ns, xs = nV ns ∧ ∀ n ∈ ns, n < k := by
  intro xs
  induction xs with
  | nil => exact fun _ => ⟨[], rfl, fun n h => by cases h⟩
  | cons x xs ih =>
    intro h
    rw [List.find?_cons] at h
    cases e : pinOk k x with
    | false =>
      rw [e] at h
      cases h
    | true =>
      rw [e] at h
      obtain ⟨ns, rfl, hl⟩ := ih h
      cases x with
      | int i =>
        have e : (decide (0 ≤ i) && decide (i ≤ (k : Int) - 1)) = true := e
        rw [Bool.and_eq_true] at e
        have e1 := of_decide_eq_true e.1
        have e2 := of_decide_eq_true e.2
        obtain ⟨m, rfl⟩ := Int.eq_ofNat_of_zero_le e1
        refine ⟨m :: ns, rfl, fun n hn => ?_⟩
        rcases List.mem_cons.mp hn with z | z
        · omega
        · exact hl n z
      | _ => cases e
theorem pinOk_nat {k n : Nat} : pinOk k (.int (n : Nat)) = decide (n < k) := by
  show (decide ((0 : Int) ≤ (n : Int)) && decide ((n : Int) ≤ (k : Int) - 1)) = _
  rw [decide_eq_true (show (0 : Int) ≤ (n : Int) by omega), Bool.true_and, Bool.eq_iff_iff, decide_eq_true_iff, decide_eq_true_iff]
  omega
theorem find_pins {k : Nat} {ns : List Nat} (h : ∀ n ∈ ns, n < k) : (nV ns).find? (fun x => !pinOk k x) = none := by
  rw [List.find?_eq_none]
  intro x hx
  unfold nV at hx
  rw [List.map_map] at hx
  obtain ⟨n, hn, rfl⟩ := List.mem_map.mp hx
  show ¬ (!pinOk k (.int (n : Nat))) = true
  rw [pinOk_nat, decide_eq_true (h n hn)]
  decide
theorem find_first {α : Type} {f : α → Bool} : ∀ {xs : List α} {i : Nat} {x : α}, xs[i]? = some x → f x = true → (∀ y ∈ xs.take i, f y = false) → xs.find? f = some x
  | a :: xs, 0, x, e, h, _ => by
    have e : a = x := Option.some.inj e
    subst e
    rw [List.find?_cons, h]
  | a :: xs, i + 1, x, e, h, n => by
    rw [List.find?_cons, n a (by rw [List.take_succ_cons]; exact List.mem_cons_self)]
    exact find_first (xs := xs) (i := i) (by simpa using e) h fun y hy => n y (by rw [List.take_succ_cons]; exact List.mem_cons_of_mem _ hy)
section
variable {P : Program} {w : World} {K : PySem.W.Frag} {mg : Str → Option Value} {base : Heap}
/-! ### _first_wrong -/
def spFW (K : PySem.W.Frag) : Sp := fun vs H Q _ => ∃ (v : V) (k : Nat) (r : Option V), vs = [v, .int k] ∧ WJ K H k v r ∧ ∀ H' t, Same H H' → H' t = some (.tup r.toList) → Q (.ref t) H'
abbrev sFW : Stmt := top 20
abbrev nFW : List Str := ["values", "many", "value"]
theorem scFW : FnScope nFW ["values", "many"] (defScope sFW) := ⟨rfl, rfl, rfl, by decide +kernel, rfl, by decide +kernel, by decide +kernel⟩
theorem ok_fw {f : Addr} {fd : FuncData} (F : Fun K "_first_wrong" "_first_wrong" sFW f fd) (C1 : Callee P w K mg base CX0 1 "is_list" ["value"] (spIsList K)) (C2 : Callee P w K mg base CX0 2 "is_within" ["value", "least", "most"] (spWithin K)) : FnOk P w K mg base CX0 3 f fd ["values", "many"] (spFW K) := by
  obtain ⟨f1, fd1, m1, k1, b1, G1⟩ := C1
  obtain ⟨f2, fd2, m2, k2, b2, G2⟩ := C2
  have nd := scFW.nd
  refine F.ok scFW (fun vs H Q E h => ?_) (fun cdv A outer s H vs Q E hr h => ?_)
  · obtain ⟨v, k, r, rfl, _⟩ := h
    rfl
  · obtain ⟨v, k, r, rfl, j, q⟩ := h
    cases j with
    | no h =>
      refine ⟨_, pss_cons (ps_if (pt_not (pt_val (pe_call G1 (hr.mono (by decide)) rfl m1 k1 b1 .nil pass0 (pa_cons (pv 0) pa_nil)))) (pss_one (ps_ret (pe_tup (pa_cons (pv 0) pa_nil)))) pss_nil) pss_never, ?_⟩
      refine ⟨_, rfl, v, false, rfl, h, fun H1 s1 => ⟨_, rfl, iteT ⟨_, rfl, by show 1 ≤ sizeLine; decide, fun t ht => ?_⟩⟩⟩
      exact q _ t (s1.trans (same_new ht)) upd_same
    | @seq a xs hs hk hl =>
      have sq := hs
      have turn : ∀ {i : Nat} {x : V}, xs[i]? = some x → (∀ y ∈ xs.take i, pinOk k y = true) → (pinOk k x = true → ∀ y ∈ xs.take (i + 1), pinOk k y = true) ∧ (pinOk k x = false → xs.find? (fun x => !pinOk k x) = some x) := fun {i x} hx al => ⟨fun e y hy => by
          rw [take_more hx] at hy
          rcases List.mem_append.mp hy with z | z
          · exact al y z
          · rw [List.mem_singleton.mp z]
            exact e, fun e => find_first hx (by rw [e]; rfl) fun y hy => by rw [al y hy]; rfl⟩
      have none_of : (∀ y ∈ xs.take xs.length, pinOk k y = true) → xs.find? (fun x => !pinOk k x) = none := fun h => by
        rw [List.take_length] at h
        rw [List.find?_eq_none]
        intro x hx
        rw [h x hx]
        decide
      rcases hs with hs | hs
      · refine ⟨_, (pss_cons (ps_if (pt_not (pt_val (pe_call G1 (hr.mono (by decide)) rfl m1 k1 b1 .nil pass0 (pa_cons (pv 0) pa_nil)))) (pss_one (ps_ret (pe_tup (pa_cons (pv 0) pa_nil)))) pss_nil) (pss_cons (ps_for PassesOwn.never rfl (pi_list (pv 0)) (pg_name (i := 2) nd rfl (Or.inl rfl)) (pss_one (ps_if (pt_not (pt_val (pe_call G2 (hr.mono (by decide)) rfl m2 k2 b2 .nil pass0 (pa_cons (pv 2) (pa_cons (pe_int) (pa_cons (pe_op op_sub (pv 1) pe_int) pa_nil)))))) (pss_one (ps_ret (pe_tup (pa_cons (pv 2) pa_nil)))) pss_nil))) (pss_one (ps_ret (pe_tup pa_nil))))), ?_⟩
        refine ⟨_, rfl, _, true, rfl, sq.kd, fun H1 s1 => ⟨_, rfl, iteF ?_⟩⟩
        refine ⟨_, rfl, a, rfl, ⟨_, SqL.of (s1 _ _ hs)⟩, ?_⟩
        refine for_list (K := K) (a := a) (xs := xs) (fun i σ H' => Same H1 H' ∧ (∀ y ∈ xs.take i, pinOk k y = true) ∧ ∃ c, σ = [some (.ref a), some (.int k), c]) ⟨Same.me, (fun y h => by cases h), _, rfl⟩ (fun i σ H' _ p => SqL.of (p.1 _ _ (s1 _ _ hs))) (fun i x σ H' hx p => ?_) (fun σ H' p => ?_)
        · obtain ⟨s2, al, c, rfl⟩ := p
          obtain ⟨tx, kx⟩ := hk x (List.mem_of_getElem? hx)
          refine ⟨_, rfl, _, rfl, _, _, rfl, rfl, x, tx, 0, (k : Int) - 1, rfl, (kx.same s1).same s2, _, rfl, ?_⟩
          cases e : within x 0 ((k : Int) - 1) with
          | true => exact iteF ⟨s2, (turn hx al).1 e, _, rfl⟩
          | false =>
            refine iteT ⟨_, rfl, by show 1 ≤ sizeLine; decide, fun t ht => ?_⟩
            refine q _ t ((s1.trans s2).trans (same_new ht)) ?_
            rw [(turn hx al).2 e]
            exact upd_same
        · obtain ⟨s2, al, c, rfl⟩ := p
          refine ⟨by show 0 ≤ sizeLine; decide, fun t ht => q _ t ((s1.trans s2).trans (same_new ht)) ?_⟩
          rw [none_of al]
          exact upd_same
      · refine ⟨_, (pss_cons (ps_if (pt_not (pt_val (pe_call G1 (hr.mono (by decide)) rfl m1 k1 b1 .nil pass0 (pa_cons (pv 0) pa_nil)))) (pss_one (ps_ret (pe_tup (pa_cons (pv 0) pa_nil)))) pss_nil) (pss_cons (ps_for PassesOwn.never rfl (pi_tup (pv 0)) (pg_name (i := 2) nd rfl (Or.inl rfl)) (pss_one (ps_if (pt_not (pt_val (pe_call G2 (hr.mono (by decide)) rfl m2 k2 b2 .nil pass0 (pa_cons (pv 2) (pa_cons (pe_int) (pa_cons (pe_op op_sub (pv 1) pe_int) pa_nil)))))) (pss_one (ps_ret (pe_tup (pa_cons (pv 2) pa_nil)))) pss_nil))) (pss_one (ps_ret (pe_tup pa_nil))))), ?_⟩
        refine ⟨_, rfl, _, true, rfl, sq.kd, fun H1 s1 => ⟨_, rfl, iteF ?_⟩⟩
        refine ⟨_, rfl, a, rfl, ⟨_, SqT.of (s1 _ _ hs)⟩, ?_⟩
        refine for_tup (K := K) (a := a) (xs := xs) (fun i σ H' => Same H1 H' ∧ (∀ y ∈ xs.take i, pinOk k y = true) ∧ ∃ c, σ = [some (.ref a), some (.int k), c]) ⟨Same.me, (fun y h => by cases h), _, rfl⟩ (fun i σ H' _ p => SqT.of (p.1 _ _ (s1 _ _ hs))) (fun i x σ H' hx p => ?_) (fun σ H' p => ?_)
        · obtain ⟨s2, al, c, rfl⟩ := p
          obtain ⟨tx, kx⟩ := hk x (List.mem_of_getElem? hx)
          refine ⟨_, rfl, _, rfl, _, _, rfl, rfl, x, tx, 0, (k : Int) - 1, rfl, (kx.same s1).same s2, _, rfl, ?_⟩
          cases e : within x 0 ((k : Int) - 1) with
          | true => exact iteF ⟨s2, (turn hx al).1 e, _, rfl⟩
          | false =>
            refine iteT ⟨_, rfl, by show 1 ≤ sizeLine; decide, fun t ht => ?_⟩
            refine q _ t ((s1.trans s2).trans (same_new ht)) ?_
            rw [(turn hx al).2 e]
            exact upd_same
        · obtain ⟨s2, al, c, rfl⟩ := p
          refine ⟨by show 0 ≤ sizeLine; decide, fun t ht => q _ t ((s1.trans s2).trans (same_new ht)) ?_⟩
          rw [none_of al]
          exact upd_same
end
end K14

namespace K14
open PySem PySem.Spec PyProof.Rows L2
theorem tw_excl {ks : List Key} {k : Key} (h : TW ks (some k)) : ¬ ks.Nodup := fun nd => by
  rcases h with ⟨e, _⟩ | ⟨i, k', h1, h2, _, _⟩
  · cases e
  · have hi : i < ks.length := (List.getElem?_eq_some_iff.mp h1).1
    have hm : k' ∈ ks.drop i := List.mem_of_getElem? (i := 0) (by rw [List.getElem?_drop, Nat.add_zero]; exact h1)
    rw [← List.take_append_drop i ks, List.nodup_append] at nd
    exact nd.2.2 k' h2 k' hm rfl
/-- a class of errors with one field, as it is raised -/
def ErM (P : Program) (w : World) (K : PySem.W.Frag) (mg : Str → Option Value) (base : Heap) (x fld : Str) (C : Addr) : Prop :=
  ∃ (fI : Addr) (fd : FuncData), ErT K mg x fld C fI ∧ FnOk P w K mg base CX0 1 fI fd ["self", fld] (spE1 K fld C) ∧ Binds K fd ["self", fld] []
section
variable {P : Program} {w : World} {K : PySem.W.Frag} {mg : Str → Option Value} {base : Heap} {CP CW CF : Addr}
/-! ### _check_unlike -/
def spCU (CW : Addr) : Sp := fun vs H Q E => ∃ (a : Addr) (ks : List Key), vs = [.ref a] ∧ Sq H a (ks.map kV) ∧ ks.length ≤ 100 ∧ (TW ks none → ∀ H', Same H H' → Q .non H') ∧ ∀ k, TW ks (some k) → RzV CW "value" (kV k) H E
abbrev sCU : Stmt := top 21
theorem scCU : FnScope ["values"] ["values"] (defScope sCU) := ⟨rfl, rfl, rfl, by decide +kernel, rfl, by decide +kernel, by decide +kernel⟩
theorem kv_non (k : Key) : kV k ≠ .non := by
  cases k <;> exact fun z => nomatch z
theorem ok_cu {f : Addr} {fd : FuncData} (F : Fun K "_check_unlike" "_check_unlike" sCU f fd) (M1 : ErM P w K mg base "Twice" "value" CW) (C1 : Callee P w K mg base CX0 1 "first_twice" ["values"] spFt) : FnOk P w K mg base (L2.CX P w) 3 f fd ["values"] (spCU CW) := by
  obtain ⟨f1, fd1, m1, k1, b1, G1⟩ := C1
  obtain ⟨fI, fdI, T1, GE1, bE1⟩ := M1
  have nd := scCU.nd
  refine F.okX scCU (fun vs H Q E h => ?_) (fun cdv A outer s H vs Q E hr h => ?_)
  · obtain ⟨a, ks, rfl, _⟩ := h
    rfl
  · obtain ⟨a, ks, rfl, hs, hl, hy, hn⟩ := h
    refine ⟨_, pss_one (ps_if (pt_cmpR op_notN (pe_call G1 (hr.mono (by decide)) rfl m1 k1 b1 .nil pass0 (pa_cons (pv 0) pa_nil)) pe_non (nomark _)) (pss_one (ps_raise rfl (takes_of rfl rfl rfl rfl) (pmk_oex T1.oex T1.iC T1.tI GE1 (hr.mono (by decide)) bE1 .nil pass0 rfl T1.mgC (pa_cons ((pe_call G1 (hr.mono (by decide)) rfl m1 k1 b1 .nil pass0 (pa_cons (pv 0) pa_nil))) pa_nil)))) pss_nil), ?_⟩
    refine ⟨_, rfl, a, ks, rfl, hs, hl, fun H1 r s1 tw => ⟨rfl, _, rfl, ?_⟩⟩
    cases r with
    | none => exact iteF (hy tw _ s1)
    | some k =>
      have e : (!decide (rv (some k) = V.non)) = true := by
        rw [decide_eq_false (show ¬ rv (some k) = V.non from kv_non k)]
        rfl
      rw [e]
      refine iteT ⟨_, rfl, a, ks, rfl, hs.same s1, hl, fun H2 r2 s2 tw2 => ?_⟩
      cases r2 with
      | none =>
        rcases tw2 with ⟨_, nd2⟩ | ⟨_, _, _, _, _, z⟩
        · exact absurd nd2 (tw_excl tw)
        · cases z
      | some k2 =>
        refine ⟨by show 1 ≤ 1000; decide, fun x hx => ?_⟩
        exact ⟨x, _, rfl, T1.oex, T1.noF, upd_same, fun dx hdx ne => ⟨rfl, dx, _, upd_same, by rw [upd_ne ne]; exact upd_same, by rw [upd_ne ne] at hdx; exact hdx, raisedV (hn _ tw2) (s1.trans s2) hx hdx ne⟩⟩
/-! ### check_pin -/
def spC1 (K : PySem.W.Frag) (CP : Addr) : Sp := fun vs H Q E => ∃ (v : V) (t : Bool) (k : Nat), vs = [v, .int k] ∧ Kd K H v t ∧ (pinOk k v = true → Q .non H) ∧ (pinOk k v = false → RzV CP "value" v H E)
abbrev sC1 : Stmt := top 22
theorem scC1 : FnScope ["value", "many"] ["value", "many"] (defScope sC1) := ⟨rfl, rfl, rfl, by decide +kernel, rfl, by decide +kernel, by decide +kernel⟩
theorem ok_c1 {f : Addr} {fd : FuncData} (F : Fun K "check_pin" "check_pin" sC1 f fd) (M1 : ErM P w K mg base "NoPin" "value" CP) (C1 : Callee P w K mg base CX0 2 "is_within" ["value", "least", "most"] (spWithin K)) : FnOk P w K mg base (L2.CX P w) 3 f fd ["value", "many"] (spC1 K CP) := by
  obtain ⟨f1, fd1, m1, k1, b1, G1⟩ := C1
  obtain ⟨fI, fdI, T1, GE1, bE1⟩ := M1
  have nd := scC1.nd
  refine F.okX scC1 (fun vs H Q E h => ?_) (fun cdv A outer s H vs Q E hr h => ?_)
  · obtain ⟨v, t, k, rfl, _⟩ := h
    rfl
  · obtain ⟨v, t, k, rfl, kd, hy, hn⟩ := h
    refine ⟨_, pss_one (ps_if (pt_not (pt_val (pe_call G1 (hr.mono (by decide)) rfl m1 k1 b1 .nil pass0 (pa_cons (pv 0) (pa_cons (pe_int) (pa_cons (pe_op op_sub (pv 1) pe_int) pa_nil)))))) (pss_one (ps_raise rfl (takes_of rfl rfl rfl rfl) (pmk_oex T1.oex T1.iC T1.tI GE1 (hr.mono (by decide)) bE1 .nil pass0 rfl T1.mgC (pa_cons (pv 0) pa_nil)))) pss_nil), ?_⟩
    refine ⟨_, rfl, _, rfl, _, _, rfl, rfl, v, t, 0, (k : Int) - 1, rfl, kd, _, rfl, ?_⟩
    cases e : within v 0 ((k : Int) - 1) with
    | true => exact iteF (hy e)
    | false =>
      refine iteT ⟨_, rfl, by show 1 ≤ 1000; decide, fun x hx => ?_⟩
      exact ⟨x, _, rfl, T1.oex, T1.noF, upd_same, fun dx hdx ne => ⟨rfl, dx, _, upd_same, by rw [upd_ne ne]; exact upd_same, by rw [upd_ne ne] at hdx; exact hdx, raisedV (hn e) Same.me hx hdx ne⟩⟩
/-! ### check_pins -/
def spCP (K : PySem.W.Frag) (CP CW : Addr) : Sp := fun vs H Q E => ∃ (v : V) (k : Nat), vs = [v, .int k] ∧
  ((∃ x, WJ K H k v (some x) ∧ RzV CP "value" x H E) ∨ (∃ a ns, v = .ref a ∧ PinL H a ns k ∧ (ns.Nodup → ∀ H', Same H H' → Q .non H') ∧ ∀ j, TwN ns j → RzV CW "value" (.int (j : Nat)) H E))
abbrev sCP : Stmt := top 23
abbrev nCP : List Str := ["values", "many", "wrong"]
theorem scCP : FnScope nCP ["values", "many"] (defScope sCP) := ⟨rfl, rfl, rfl, by decide +kernel, rfl, by decide +kernel, by decide +kernel⟩
theorem PinL.wj {K : PySem.W.Frag} {H : Hp} {a : Addr} {ns : List Nat} {k : Nat} (h : PinL H a ns k) : WJ K H k (.ref a) none := by
  have z : WJ K H k (.ref a) ((nV ns).find? fun x => !pinOk k x) := .seq h.sq (fun x hx => by
    unfold nV at hx
    obtain ⟨i, _, rfl⟩ := List.mem_map.mp hx
    exact ⟨_, .int i⟩) (by rw [nV_len]; exact h.len)
  rw [find_pins h.lt] at z
  exact z
theorem ok_cp {f : Addr} {fd : FuncData} (F : Fun K "check_pins" "check_pins" sCP f fd) (M1 : ErM P w K mg base "NoPin" "value" CP) (C1 : Callee P w K mg base CX0 3 "_first_wrong" ["values", "many"] (spFW K)) (C2 : Callee P w K mg base (L2.CX P w) 3 "_check_unlike" ["values"] (spCU CW)) : FnOk P w K mg base (L2.CX P w) 4 f fd ["values", "many"] (spCP K CP CW) := by
  obtain ⟨f1, fd1, m1, k1, b1, G1⟩ := C1
  obtain ⟨f2, fd2, m2, k2, b2, G2⟩ := C2
  obtain ⟨fI, fdI, T1, GE1, bE1⟩ := M1
  have nd := scCP.nd
  refine F.okX scCP (fun vs H Q E h => ?_) (fun cdv A outer s H vs Q E hr h => ?_)
  · obtain ⟨v, k, rfl, _⟩ := h
    rfl
  · obtain ⟨v, k, rfl, h⟩ := h
    refine ⟨_, (pss_cons ((ps_set (i := 2) nd rfl (Or.inl rfl) ((pe_call G1 (hr.mono (by decide)) rfl m1 k1 b1 .nil pass0 (pa_cons (pv 0) (pa_cons (pv 1) pa_nil)))))) (pss_cons (ps_if (pt_truth (pv 2) (fun _ => rfl)) (pss_one (ps_raise rfl (takes_of rfl rfl rfl rfl) (pmk_oex T1.oex T1.iC T1.tI GE1 (hr.mono (by decide)) bE1 .nil pass0 rfl T1.mgC (pa_cons ((pe_ix ix_tup (pv 2) (pe_int) (fun _ _ => rfl))) pa_nil)))) pss_nil) (pss_one (ps_expr (pe_callS (E := fun _ => E) G2 (hr.mono (by decide)) rfl m2 k2 b2 (fun σ => passAt (takes_of rfl rfl rfl rfl) σ) (pa_cons (pv 0) pa_nil)))))), ?_⟩
    rcases h with ⟨x, j, r⟩ | ⟨a, ns, rfl, pl, hy, hn⟩
    · refine ⟨_, rfl, _, rfl, v, k, some x, rfl, j, fun H1 t s1 ht => ?_⟩
      refine ⟨_, rfl, true, .inr (.inl ⟨_, SqT.of ht, rfl⟩), iteT ⟨_, rfl, t, _, 0, x, rfl, rfl, SqT.of ht, rfl, by show 1 ≤ 1000; decide, fun e he => ?_⟩⟩
      exact ⟨e, _, rfl, T1.oex, T1.noF, upd_same, fun dx hdx ne => ⟨rfl, dx, _, upd_same, by rw [upd_ne ne]; exact upd_same, by rw [upd_ne ne] at hdx; exact hdx, raisedV r s1 he hdx ne⟩⟩
    · refine ⟨_, rfl, _, rfl, .ref a, k, none, rfl, pl.wj, fun H1 t s1 ht => ?_⟩
      refine ⟨_, rfl, false, .inr (.inl ⟨_, SqT.of ht, rfl⟩), iteF ?_⟩
      refine ⟨_, rfl, a, ksN ns, rfl, by rw [ksN_v]; exact pl.sq.same s1, by unfold ksN; rw [List.length_map]; exact pl.len, fun tw H2 s2 => hy (tw_none tw) H2 (s1.trans s2), fun k' tw => ?_⟩
      obtain ⟨j, rfl, hj⟩ := tw_some tw
      exact (hn j hj).same s1
/-! ### check_order -/
def spCO (K : PySem.W.Frag) (CP CW CF : Addr) : Sp := fun vs H Q E => ∃ (v : V) (k : Nat), vs = [v, .int k] ∧
  ((∃ x, WJ K H k v (some x) ∧ RzV CP "value" x H E) ∨ (∃ a ns, v = .ref a ∧ PinL H a ns k ∧ (ns.Nodup → k ≤ ns.length → ∀ H', Same H H' → Q .non H') ∧ (ns.Nodup → ns.length < k → RzV CF "part" (.str "pins") H E) ∧ ∀ j, TwN ns j → RzV CW "value" (.int (j : Nat)) H E))
abbrev sCO : Stmt := top 24
theorem scCO : FnScope ["values", "many"] ["values", "many"] (defScope sCO) := ⟨rfl, rfl, rfl, by decide +kernel, rfl, by decide +kernel, by decide +kernel⟩
theorem ok_co {f : Addr} {fd : FuncData} (F : Fun K "check_order" "check_order" sCO f fd) (B : Bn mg) (M1 : ErM P w K mg base "Misfit" "part" CF) (C1 : Callee P w K mg base (L2.CX P w) 4 "check_pins" ["values", "many"] (spCP K CP CW)) : FnOk P w K mg base (L2.CX P w) 5 f fd ["values", "many"] (spCO K CP CW CF) := by
  obtain ⟨f1, fd1, m1, k1, b1, G1⟩ := C1
  obtain ⟨fI, fdI, T1, GE1, bE1⟩ := M1
  have nd := scCO.nd
  refine F.okX scCO (fun vs H Q E h => ?_) (fun cdv A outer s H vs Q E hr h => ?_)
  · obtain ⟨v, k, rfl, _⟩ := h
    rfl
  · obtain ⟨v, k, rfl, h⟩ := h
    refine ⟨_, (pss_cons (ps_expr (pe_callS (E := fun _ => E) G1 (hr.mono (by decide)) rfl m1 k1 b1 (fun σ => passAt (takes_of rfl rfl rfl rfl) σ) (pa_cons (pv 0) (pa_cons (pv 1) pa_nil)))) (pss_one (ps_if (pt_cmpR op_lt ((pe_callB call_len_seq (by rfl) B.len PySem.boot_len (pa_cons (pv 0) pa_nil))) (pv 1) (nomark _)) (pss_one (ps_raise rfl (takes_of rfl rfl rfl rfl) (pmk_oex T1.oex T1.iC T1.tI GE1 (hr.mono (by decide)) bE1 .nil pass0 rfl T1.mgC (pa_cons (pe_str) pa_nil)))) pss_nil))), ?_⟩
    rcases h with ⟨x, j, r⟩ | ⟨a, ns, rfl, pl, hy, hs, hn⟩
    · exact ⟨_, rfl, _, rfl, v, k, rfl, .inl ⟨x, j, r⟩⟩
    · refine ⟨_, rfl, _, rfl, .ref a, k, rfl, .inr ⟨a, ns, rfl, pl, fun ndp H1 s1 => ?_, hn⟩⟩
      refine ⟨_, rfl, a, _, rfl, (pl.sq.same s1).elim (fun z => .inl (SqL.of z)) (fun z => .inr (SqT.of z)), _, rfl, _, _, rfl, rfl, _, rfl, ?_⟩
      rw [nV_len]
      by_cases hlt : ns.length < k
      · rw [decide_eq_true (show ((ns.length : Nat) : Int) < (k : Int) by omega)]
        refine iteT ⟨by show 1 ≤ 1000; decide, fun e he => ?_⟩
        exact ⟨e, _, rfl, T1.oex, T1.noF, upd_same, fun dx hdx ne => ⟨rfl, dx, _, upd_same, by rw [upd_ne ne]; exact upd_same, by rw [upd_ne ne] at hdx; exact hdx, raisedV (hs ndp hlt) s1 he hdx ne⟩⟩
      · rw [decide_eq_false (show ¬ ((ns.length : Nat) : Int) < (k : Int) by omega)]
        exact iteF (hy ndp (by omega) _ s1)
end
end K14

namespace K14
open PySem PySem.Spec PyProof.Rows L2
theorem pla_prs {H : Hp} {ts : List Addr} {ps : List (Int × Int)} (h : Paired (Pr H) ts ps) : Paired (PlA H) (ts.map V.ref) ps := by
  induction h with
  | nil => exact .nil
  | cons a _ ih => exact .cons ⟨_, rfl, .inr a⟩ ih
theorem LP.pls {H : Hp} {a : Addr} {ts : List Addr} {ps : List (Int × Int)} (h : LP H a ts ps) : Pls H (.ref a) ps := ⟨a, _, rfl, .inl h.1, pla_prs h.2⟩

theorem pe_fldK {X : Cx} {e : Expr} {ta : TE} {f : Str} {pos : Pos} (K : PySem.W.Frag) (he : PE X e ta) (hb : attributeBase e f X.env (eval e X.env) = eval e X.env) (h : X.K = K := by rfl) : PE X (.Attribute e f pos) (tFld K ta f) := by subst h; exact pe_fld he hb
/-! ### places in an order -/
def pick (ps : List (Int × Int)) (ns : List Nat) : List (Int × Int) := ns.map fun n => ps.getD n (0, 0)
def tsel (ts : List Addr) (ns : List Nat) : List Addr := ns.map fun n => ts.getD n 0
theorem pick_prs {H H' : Hp} {ts : List Addr} {ps : List (Int × Int)} (pr : Paired (Pr H) ts ps) : ∀ {ns : List Nat}, (∀ n ∈ ns, n < ps.length) → (∀ g q, Pr H g q → Pr H' g q) → Paired (Pr H') (tsel ts ns) (pick ps ns)
  | [], _, _ => .nil
  | n :: ns, h, s => by
    have hn := h n List.mem_cons_self
    obtain ⟨g, eg, r⟩ := paired_of pr (List.getElem?_eq_getElem hn)
    refine .cons ?_ (pick_prs pr (fun m hm => h m (List.mem_cons_of_mem _ hm)) s)
    have e1 : ts.getD n 0 = g := by rw [List.getD_eq_getElem?_getD, eg]; rfl
    have e2 : ps.getD n (0, 0) = ps[n] := by rw [List.getD_eq_getElem?_getD, List.getElem?_eq_getElem hn]; rfl
    show Pr H' (ts.getD n 0) (ps.getD n (0, 0))
    rw [e1, e2]
    exact s _ _ r
theorem pick_ok {ps : List (Int × Int)} {ns : List Nat} (ok : OkP ps) (h : ∀ n ∈ ns, n < ps.length) (l4 : 4 ≤ ns.length) (l7 : ns.length ≤ 7) : OkP (pick ps ns) := by
  refine ⟨by unfold pick; rw [List.length_map]; exact l4, by unfold pick; rw [List.length_map]; exact l7, fun q hq => ?_⟩
  unfold pick at hq
  obtain ⟨n, hn, rfl⟩ := List.mem_map.mp hq
  refine ok.2.2 _ ?_
  rw [List.getD_eq_getElem?_getD, List.getElem?_eq_getElem (h n hn)]
  exact List.getElem_mem (h n hn)
theorem nV_get {ns : List Nat} {i : Nat} {x : V} (h : (nV ns)[i]? = some x) : ∃ n, ns[i]? = some n ∧ x = .int (n : Nat) := by
  unfold nV at h
  obtain ⟨z, hz, rfl⟩ := get_ints h
  rw [List.getElem?_map] at hz
  cases e : ns[i]? with
  | none =>
    rw [e] at hz
    cases hz
  | some n =>
    rw [e] at hz
    exact ⟨n, rfl, by rw [← Option.some.inj hz]⟩
theorem cut_from {xs : List V} {k : Nat} (h : k ≤ xs.length) : cutV xs (some (k : Int)) none = xs.drop k := by
  unfold cutV
  have e : HT.sIx xs.length 0 (some (k : Int)) = k := by
    rw [HT.sIx_nat]
    omega
  rw [e]
  show (xs.drop k).take (xs.length - k) = _
  rw [List.take_of_length_le (by rw [List.length_drop]; exact Nat.le_refl _)]
theorem cut_to {xs : List V} {k : Nat} (h : k ≤ xs.length) : cutV xs none (some (k : Int)) = xs.take k := by
  unfold cutV
  have e : HT.sIx xs.length xs.length (some (k : Int)) = k := by
    rw [HT.sIx_nat]
    omega
  rw [e]
  rfl
section
variable {P : Program} {w : World} {K : PySem.W.Frag} {mg : Str → Option Value} {base : Heap} {C CB CP CW CF CN CT : Addr}
/-! ### Picture.in_order -/
def OrdP (K : PySem.W.Frag) (C CP CW CF : Addr) (v : V) (ps : List (Int × Int)) (H : Hp) (Q : VK) (E : XK) : Prop :=
  (∃ x, WJ K H ps.length v (some x) ∧ RzV CP "value" x H E) ∨ (∃ c ns, v = .ref c ∧ PinL H c ns ps.length ∧ (ns.Nodup → ps.length ≤ ns.length → ns.length ≤ 7 ∧ NewP C (pick ps ns) H Q) ∧ (ns.Nodup → ns.length < ps.length → RzV CF "part" (.str "pins") H E) ∧ ∀ j, TwN ns j → RzV CW "value" (.int (j : Nat)) H E)
def spIO (K : PySem.W.Frag) (C CP CW CF : Addr) : Sp := fun vs H Q E => ∃ (a : Addr) (v : V) (ps : List (Int × Int)), vs = [.ref a, v] ∧ PicF H C a ps ∧ OkP ps ∧ OrdP K C CP CW CF v ps H Q E
abbrev sIO : Stmt := inClass (top 44) 10
abbrev nIO : List Str := ["self", "pins", "pin"]
theorem scIO : FnScope nIO ["self", "pins"] (defScope sIO) := ⟨rfl, rfl, rfl, by decide +kernel, rfl, by decide +kernel, by decide +kernel⟩
theorem ok_io {f : Addr} {fd : FuncData} (F : Fun K "in_order" "Picture.in_order" sIO f fd) (T : PicT K C) (mC : mg "Picture" = some (.ref C)) (ini : ∃ (fI : Addr) (fd : FuncData), Mk K C fI ∧ FnOk P w K mg base (L2.CX P w) 6 fI fd ["self", "places"] (spPI K C CB) ∧ Binds K fd ["self", "places"] []) (C1 : Callee P w K mg base (L2.CX P w) 5 "check_order" ["values", "many"] (spCO K CP CW CF)) : FnOk P w K mg base (L2.CX P w) 8 f fd ["self", "pins"] (spIO K C CP CW CF) := by
  obtain ⟨f1, fd1, m1, k1, b1, G1⟩ := C1
  obtain ⟨fI, fdI, M, G, b⟩ := ini
  have cl := T.pc.cls
  have nd := scIO.nd
  refine F.okX scIO (fun vs H Q E h => ?_) (fun cdv A outer s H vs Q E hr h => ?_)
  · obtain ⟨a, v, ps, rfl, _⟩ := h
    rfl
  · obtain ⟨a, v, ps, rfl, pf, ok, h⟩ := h
    obtain ⟨dx, t, u, ha, ⟨ts, ht, pr⟩, _⟩ := id pf
    have lt : ts.length = ps.length := Paired.length pr
    rcases h with ⟨x, j, r⟩ | ⟨c, ns, rfl, pl, hok, hsh, htw⟩
    · refine ⟨_, pss_cons (ps_expr (pe_callS (E := fun _ => E) G1 (hr.mono (by decide)) rfl m1 k1 b1 (fun σ => passAt (takes_of rfl rfl rfl rfl) σ) (pa_cons (pv 1) (pa_cons (pe_fld (pv 0) rfl) pa_nil)))) pss_never, ?_⟩
      exact ⟨_, rfl, _, rfl, a, C, dx, _, .int ps.length, rfl, ha, cl, T.n2, rfl, v, ps.length, rfl, .inl ⟨x, j, r⟩⟩
    rcases pl.sq with hq | hq
    · refine ⟨_, (pss_cons (ps_expr (pe_callS (E := fun _ => E) G1 (hr.mono (by decide)) rfl m1 k1 b1 (fun σ => passAt (takes_of rfl rfl rfl rfl) σ) (pa_cons (pv 1) (pa_cons (pe_fld (pv 0) rfl) pa_nil)))) (pss_one (ps_ret (pe_make (E := E0) M G (hr.mono (by decide)) rfl mC b .nil passL (pa_cons (pe_lc (own := [("pin", 2)]) (g := gName 2) (tt := tYes) rfl nd (pi_list (pv 1)) (blkOk_by (N := nIO) (sc := defScope sIO) (by decide +kernel)) (fun _ _ _ _ _ => (pg_name (i := 2) nd rfl (Or.inl rfl))) (fun _ _ _ _ _ => pts_nil)
          (fun _ _ _ _ _ => (pe_ix (r := rIxT K) ix_tupK (pe_fldK K (pv 0) rfl) (pv 2) (fun _ _ => rfl)))) pa_nil))))), ?_⟩
      refine ⟨_, rfl, _, rfl, a, C, dx, _, .int ps.length, rfl, ha, cl, T.n2, rfl, .ref c, ps.length, rfl, .inr ⟨c, ns, rfl, pl, fun ndp hle H1 s1 => ?_, hsh, htw⟩⟩
      obtain ⟨n7, qn⟩ := hok ndp hle
      have hq1 := s1 _ _ hq
      have ha1 := s1 _ _ ha
      have ht1 := s1 _ _ ht
      refine ⟨_, rfl, c, rfl, ⟨_, SqL.of hq1⟩, fun D hD => ?_⟩
      refine lc_list (K := K) (a := c) (xs := nV ns) (fun i => At H1 D (((tsel ts ns).take i).map V.ref)) ⟨same_new hD, upd_same⟩ (fun i H' _ p => SqL.of (p.1 _ _ hq1)) (fun i x H' hx p => ?_) (fun H' p => ?_)
      · obtain ⟨n, en, rfl⟩ := nV_get hx
        have hn : n < ps.length := pl.lt n (List.mem_of_getElem? en)
        have eg : (tsel ts ns)[i]? = some (ts.getD n 0) := by
          unfold tsel
          rw [List.getElem?_map, en]
          rfl
        refine ⟨rfl, yes_of ?_⟩
        refine ⟨_, rfl, a, C, dx, _, .ref t, rfl, p.1 _ _ ha1, cl, T.n1, rfl, _, rfl, t, _, _, .ref (ts.getD n 0), rfl, rfl, SqT.of (p.1 _ _ ht1), ?_, _, p.2, ?_, p.step hD Same.me ?_⟩
        · refine atI_nat ?_
          rw [List.getElem?_map, List.getD_eq_getElem?_getD, List.getElem?_eq_getElem (by omega)]
          rfl
        · rw [List.length_map]
          exact small1000 (Nat.le_trans (List.length_take_le' _ _) (by unfold tsel; rw [List.length_map]; omega))
        · rw [take_more eg, List.map_append]
          rfl
      · have el : (nV ns).length = (tsel ts ns).length := by
          unfold tsel
          rw [nV_len, List.length_map]
        rw [el, List.take_length] at p
        have lpD : LP H' D (tsel ts ns) (pick ps ns) := ⟨p.2, pick_prs pr pl.lt fun g q z => p.1 _ _ (s1 _ _ z)⟩
        have okk : OkP (pick ps ns) := pick_ok ok pl.lt (by have := ok.1; omega) n7
        exact mk_in (.inl ⟨_, lpD.pls, okk, fun x H2 s2 n2 pf2 => qn x H2 (s1.trans (p.1.trans s2)) (s1.free (p.1.free n2)) pf2⟩)
    · refine ⟨_, (pss_cons (ps_expr (pe_callS (E := fun _ => E) G1 (hr.mono (by decide)) rfl m1 k1 b1 (fun σ => passAt (takes_of rfl rfl rfl rfl) σ) (pa_cons (pv 1) (pa_cons (pe_fld (pv 0) rfl) pa_nil)))) (pss_one (ps_ret (pe_make (E := E0) M G (hr.mono (by decide)) rfl mC b .nil passL (pa_cons (pe_lc (own := [("pin", 2)]) (g := gName 2) (tt := tYes) rfl nd (pi_tup (pv 1)) (blkOk_by (N := nIO) (sc := defScope sIO) (by decide +kernel)) (fun _ _ _ _ _ => (pg_name (i := 2) nd rfl (Or.inl rfl))) (fun _ _ _ _ _ => pts_nil)
          (fun _ _ _ _ _ => (pe_ix (r := rIxT K) ix_tupK (pe_fldK K (pv 0) rfl) (pv 2) (fun _ _ => rfl)))) pa_nil))))), ?_⟩
      refine ⟨_, rfl, _, rfl, a, C, dx, _, .int ps.length, rfl, ha, cl, T.n2, rfl, .ref c, ps.length, rfl, .inr ⟨c, ns, rfl, pl, fun ndp hle H1 s1 => ?_, hsh, htw⟩⟩
      obtain ⟨n7, qn⟩ := hok ndp hle
      have hq1 := s1 _ _ hq
      have ha1 := s1 _ _ ha
      have ht1 := s1 _ _ ht
      refine ⟨_, rfl, c, rfl, ⟨_, SqT.of hq1⟩, fun D hD => ?_⟩
      refine lc_tup (K := K) (a := c) (xs := nV ns) (fun i => At H1 D (((tsel ts ns).take i).map V.ref)) ⟨same_new hD, upd_same⟩ (fun i H' _ p => SqT.of (p.1 _ _ hq1)) (fun i x H' hx p => ?_) (fun H' p => ?_)
      · obtain ⟨n, en, rfl⟩ := nV_get hx
        have hn : n < ps.length := pl.lt n (List.mem_of_getElem? en)
        have eg : (tsel ts ns)[i]? = some (ts.getD n 0) := by
          unfold tsel
          rw [List.getElem?_map, en]
          rfl
        refine ⟨rfl, yes_of ?_⟩
        refine ⟨_, rfl, a, C, dx, _, .ref t, rfl, p.1 _ _ ha1, cl, T.n1, rfl, _, rfl, t, _, _, .ref (ts.getD n 0), rfl, rfl, SqT.of (p.1 _ _ ht1), ?_, _, p.2, ?_, p.step hD Same.me ?_⟩
        · refine atI_nat ?_
          rw [List.getElem?_map, List.getD_eq_getElem?_getD, List.getElem?_eq_getElem (by omega)]
          rfl
        · rw [List.length_map]
          exact small1000 (Nat.le_trans (List.length_take_le' _ _) (by unfold tsel; rw [List.length_map]; omega))
        · rw [take_more eg, List.map_append]
          rfl
      · have el : (nV ns).length = (tsel ts ns).length := by
          unfold tsel
          rw [nV_len, List.length_map]
        rw [el, List.take_length] at p
        have lpD : LP H' D (tsel ts ns) (pick ps ns) := ⟨p.2, pick_prs pr pl.lt fun g q z => p.1 _ _ (s1 _ _ z)⟩
        have okk : OkP (pick ps ns) := pick_ok ok pl.lt (by have := ok.1; omega) n7
        exact mk_in (.inl ⟨_, lpD.pls, okk, fun x H2 s2 n2 pf2 => qn x H2 (s1.trans (p.1.trans s2)) (s1.free (p.1.free n2)) pf2⟩)
/-! ### Picture.without -/
def spWo (K : PySem.W.Frag) (C CP CF : Addr) : Sp := fun vs H Q E => ∃ (a : Addr) (v : V) (tv : Bool) (ps : List (Int × Int)), vs = [.ref a, v] ∧ PicF H C a ps ∧ OkP ps ∧ Kd K H v tv ∧ (pinOk ps.length v = false → RzV CP "value" v H E) ∧
  ∀ n : Nat, v = .int n → n < ps.length → (ps.length = 4 → RzV CF "part" (.str "pins") H E) ∧ (4 < ps.length → NewP C (ps.take n ++ ps.drop (n + 1)) H Q)
abbrev sWo : Stmt := inClass (top 44) 11
theorem scWo : FnScope ["self", "pin"] ["self", "pin"] (defScope sWo) := ⟨rfl, rfl, rfl, by decide +kernel, rfl, by decide +kernel, by decide +kernel⟩
theorem pin_of {k : Nat} {v : V} (h : pinOk k v = true) : ∃ n : Nat, v = .int n ∧ n < k := by
  cases v with
  | int i =>
    have e : (decide (0 ≤ i) && decide (i ≤ (k : Int) - 1)) = true := h
    rw [Bool.and_eq_true] at e
    have e1 := of_decide_eq_true e.1
    have e2 := of_decide_eq_true e.2
    obtain ⟨m, rfl⟩ := Int.eq_ofNat_of_zero_le e1
    exact ⟨m, rfl, by omega⟩
  | _ => cases h
theorem paired_take {α β : Type} {R : α → β → Prop} {xs : List α} {ys : List β} (h : Paired R xs ys) : ∀ n, Paired R (xs.take n) (ys.take n) ∧ Paired R (xs.drop n) (ys.drop n) := by
  induction h with
  | nil => exact fun n => ⟨by rw [List.take_nil, List.take_nil]; exact .nil, by rw [List.drop_nil, List.drop_nil]; exact .nil⟩
  | cons a t ih => exact fun n => match n with
    | 0 => ⟨.nil, .cons a t⟩
    | n + 1 => ⟨.cons a (ih n).1, (ih n).2⟩
theorem paired_app {α β : Type} {R : α → β → Prop} {xs us : List α} {ys vs : List β} (h : Paired R xs ys) (k : Paired R us vs) : Paired R (xs ++ us) (ys ++ vs) := by
  induction h with
  | nil => exact k
  | cons a _ ih => exact .cons a ih
theorem ok_wo {f : Addr} {fd : FuncData} (F : Fun K "without" "Picture.without" sWo f fd) (T : PicT K C) (L4 : ∃ t, mg "FEWEST_PINS" = some (.int 4 t)) (M1 : ErM P w K mg base "Misfit" "part" CF) (mC : mg "Picture" = some (.ref C)) (ini : ∃ (fI : Addr) (fd : FuncData), Mk K C fI ∧ FnOk P w K mg base (L2.CX P w) 6 fI fd ["self", "places"] (spPI K C CB) ∧ Binds K fd ["self", "places"] []) (C1 : Callee P w K mg base (L2.CX P w) 3 "check_pin" ["value", "many"] (spC1 K CP)) : FnOk P w K mg base (L2.CX P w) 8 f fd ["self", "pin"] (spWo K C CP CF) := by
  obtain ⟨f1, fd1, m1, k1, b1, G1⟩ := C1
  obtain ⟨fI, fdI, M, G, b⟩ := ini
  obtain ⟨fE, fdE, T1, GE1, bE1⟩ := M1
  obtain ⟨t4, m4⟩ := L4
  have cl := T.pc.cls
  have nd := scWo.nd
  refine F.okX scWo (fun vs H Q E h => ?_) (fun cdv A outer s H vs Q E hr h => ?_)
  · obtain ⟨a, v, tv, ps, rfl, _⟩ := h
    rfl
  · obtain ⟨a, v, tv, ps, rfl, pf, ok, kv, hbad, hgo⟩ := h
    obtain ⟨dx, t, u, ha, ⟨ts, ht, pr⟩, _⟩ := id pf
    have lt : ts.length = ps.length := Paired.length pr
    refine ⟨_, (pss_cons (ps_expr (pe_callS (E := fun _ => E) G1 (hr.mono (by decide)) rfl m1 k1 b1 (fun σ => passAt (takes_of rfl rfl rfl rfl) σ) (pa_cons (pv 1) (pa_cons (pe_fld (pv 0) rfl) pa_nil)))) (pss_cons (ps_if (pt_cmpR op_eq (pe_fld (pv 0) rfl) (pe_glob (v := .int 4) rfl m4 ⟨_, rfl⟩) (nomark _)) (pss_one (ps_raise rfl (takes_of rfl rfl rfl rfl) (pmk_oex T1.oex T1.iC T1.tI GE1 (hr.mono (by decide)) bE1 .nil pass0 rfl T1.mgC (pa_cons (pe_str) pa_nil)))) pss_nil) (pss_one (ps_ret (pe_make (E := E0) M G (hr.mono (by decide)) rfl mC b .nil passL (pa_cons (pe_op op_catA (pe_slice sl_tup (pe_fld (pv 0) rfl) po_none (po_some (pv 1))) (pe_slice sl_tup (pe_fld (pv 0) rfl) (po_some (pe_op op_add (pv 1) pe_int)) po_none)) pa_nil)))))), ?_⟩
    refine ⟨_, rfl, _, rfl, a, C, dx, _, .int ps.length, rfl, ha, cl, T.n2, rfl, v, tv, ps.length, rfl, kv, fun hp => ?_, hbad⟩
    obtain ⟨n, rfl, hn⟩ := pin_of hp
    obtain ⟨h4, h5⟩ := hgo n rfl hn
    refine ⟨_, rfl, a, C, dx, _, .int ps.length, rfl, ha, cl, T.n2, rfl, rfl, _, rfl, ?_⟩
    by_cases e4 : ps.length = 4
    · rw [decide_eq_true (show V.int (ps.length : Int) = V.int 4 by rw [e4]; rfl)]
      refine iteT ⟨by show 1 ≤ 1000; decide, fun e he => ?_⟩
      exact ⟨e, _, rfl, T1.oex, T1.noF, upd_same, fun dx hdx ne => ⟨rfl, dx, _, upd_same, by rw [upd_ne ne]; exact upd_same, by rw [upd_ne ne] at hdx; exact hdx, raisedV (h4 e4) Same.me he hdx ne⟩⟩
    · rw [decide_eq_false (show ¬ V.int (ps.length : Int) = V.int 4 from fun z => e4 (by have := V.int.inj z; omega))]
      have ok4 := ok.1
      have ok7 := ok.2.1
      refine iteF ⟨_, rfl, a, C, dx, _, .ref t, rfl, ha, cl, T.n1, rfl, _, rfl, _, rfl, t, _, rfl, SqT.of ht, ?_, fun c1 hc1 => ?_⟩
      · rw [List.length_map]
        rintro ⟨_, z⟩
        rw [HT.sIx_nat] at z
        omega
      rw [cut_to (by rw [List.length_map]; omega)]
      have s1 := same_new (o := .tup ((ts.map V.ref).take n)) hc1
      have g1 : upd H c1 (.tup ((ts.map V.ref).take n)) c1 = some (.tup ((ts.map V.ref).take n)) := upd_same
      generalize upd H c1 (.tup ((ts.map V.ref).take n)) = H1 at s1 g1 ⊢
      refine ⟨_, rfl, a, C, dx, _, .ref t, rfl, s1 _ _ ha, cl, T.n1, rfl, _, rfl, _, _, rfl, rfl, _, rfl, t, _, rfl, SqT.of (s1 _ _ ht), ?_, fun c2 hc2 => ?_⟩
      · rw [List.length_map]
        rintro ⟨z, _⟩
        have z : HT.sIx ts.length 0 (some (((n + 1 : Nat)) : Int)) = 0 := z
        rw [HT.sIx_nat] at z
        omega
      have ec : cutV (ts.map V.ref) (some ((n : Int) + 1)) none = (ts.map V.ref).drop (n + 1) := cut_from (k := n + 1) (by rw [List.length_map]; omega)
      rw [ec]
      have s2 := same_new (o := .tup ((ts.map V.ref).drop (n + 1))) hc2
      have g2 : upd H1 c2 (.tup ((ts.map V.ref).drop (n + 1))) c2 = some (.tup ((ts.map V.ref).drop (n + 1))) := upd_same
      generalize upd H1 c2 (.tup ((ts.map V.ref).drop (n + 1))) = H2 at s2 g2 ⊢
      have s12 := s1.trans s2
      have lps : ∀ {H3 : Hp} {c : Addr}, Same H H3 → H3 c = some (.tup ((ts.map V.ref).take n ++ (ts.map V.ref).drop (n + 1))) → Pls H3 (.ref c) (ps.take n ++ ps.drop (n + 1)) := fun {H3 c} s3 g => by
        refine ⟨c, _, rfl, .inr g, ?_⟩
        rw [← List.map_take, ← List.map_drop, ← List.map_append]
        exact pla_prs (paired_app (paired_take (paired_mono pr fun _ _ z => s3 _ _ z) n).1 (paired_take (paired_mono pr fun _ _ z => s3 _ _ z) (n + 1)).2)
      have okk : 4 < ps.length → OkP (ps.take n ++ ps.drop (n + 1)) := fun l5 => by
        refine ⟨?_, ?_, fun q hq => ?_⟩
        · rw [List.length_append, List.length_take, List.length_drop]
          omega
        · rw [List.length_append, List.length_take, List.length_drop]
          omega
        · rcases List.mem_append.mp hq with z | z
          · exact ok.2.2 q (List.mem_of_mem_take z)
          · exact ok.2.2 q (List.mem_of_mem_drop z)
      have l5 : 4 < ps.length := by omega
      have fin : ∀ {H3 : Hp} {c : Addr}, Same H H3 → H3 c = some (.tup ((ts.map V.ref).take n ++ (ts.map V.ref).drop (n + 1))) → MkP K C CB (.ref c) H3 Q E0 := fun {H3 c} s3 g => .inl ⟨_, lps s3 g, okk l5, fun x H4 s4 n4 pf4 => h5 l5 x H4 (s3.trans s4) (s3.free n4) pf4⟩
      refine ⟨c1, c2, _, _, rfl, rfl, SqT.of (s2 _ _ g1), SqT.of g2, ?_, fun e0 => ?_, fun ne e0 => ?_, fun ne ne2 c3 hc3 => ?_⟩
      · rw [List.length_take, List.length_drop, List.length_map]
        exact Nat.le_of_lt (small1000 (by omega))
      · exact mk_in (fin s12 (by rw [e0, List.nil_append]; exact g2))
      · exact mk_in (fin s12 (by rw [e0, List.append_nil]; exact s2 _ _ g1))
      · exact mk_in (fin (s12.trans (same_new hc3)) upd_same)
end
end K14

namespace K14
open PySem PySem.Spec PyProof.Rows L2
def full7 : List (Str × V) := [("most", .int 7), ("what", .str "pins")]
theorem RzF.same {C : Addr} {fs : List (Str × V)} {H H1 : Hp} {E : XK} (h : RzF C fs H E) (s : Same H H1) : RzF C fs H1 E := fun d H' s' e => h d H' (s.trans s') e
section
variable {P : Program} {w : World} {K : PySem.W.Frag} {mg : Str → Option Value} {base : Heap} {C CB CP CW CF CN CT fT : Addr}
/-! ### Picture.with_pin -/
def spWP (K : PySem.W.Frag) (C CN CT : Addr) : Sp := fun vs H Q E => ∃ (a : Addr) (x y : V) (tx ty : Bool) (ps : List (Int × Int)), vs = [.ref a, x, y] ∧ PicF H C a ps ∧ OkP ps ∧ Kd K H x tx ∧ Kd K H y ty ∧ (inB x = false → RzV CN "part" (.str "x") H E) ∧ (inB x = true → inB y = false → RzV CN "part" (.str "y") H E) ∧
  ∀ i j, x = .int i → y = .int j → inB x = true → inB y = true → (ps.length = 7 → RzF CT full7 H E) ∧ (ps.length < 7 → NewP C (ps ++ [(i, j)]) H Q)
abbrev sWP : Stmt := inClass (top 44) 12
abbrev nWP : List Str := ["self", "x", "y", "number", "part"]
theorem scWP : FnScope nWP ["self", "x", "y"] (defScope sWP) := ⟨rfl, rfl, rfl, by decide +kernel, rfl, by decide +kernel, by decide +kernel⟩
theorem inB_int {x : V} (h : inB x = true) : ∃ i, x = .int i ∧ -G9 ≤ i ∧ i ≤ G9 := by
  cases x with
  | int i =>
    have e : (decide (-G9 ≤ i) && decide (i ≤ G9)) = true := h
    rw [Bool.and_eq_true] at e
    exact ⟨i, rfl, of_decide_eq_true e.1, of_decide_eq_true e.2⟩
  | _ => cases h
theorem ok_wp {f : Addr} {fd fdT : FuncData} (F : Fun K "with_pin" "Picture.with_pin" sWP f fd) (T : PicT K C) (L : ∃ t, mg "LIMIT" = some (.int 1000000000 t)) (L7 : ∃ t, mg "MOST_PINS" = some (.int 7 t)) (M1 : ErM P w K mg base "BadNumber" "part" CN) (TT : TmT K mg CT fT) (FT : Fun K "__init__" "TooMany.__init__" sTI fT fdT) (mC : mg "Picture" = some (.ref C)) (ini : ∃ (fI : Addr) (fd : FuncData), Mk K C fI ∧ FnOk P w K mg base (L2.CX P w) 6 fI fd ["self", "places"] (spPI K C CB) ∧ Binds K fd ["self", "places"] []) (C1 : Callee P w K mg base CX0 2 "is_within" ["value", "least", "most"] (spWithin K)) : FnOk P w K mg base (L2.CX P w) 8 f fd ["self", "x", "y"] (spWP K C CN CT) := by
  obtain ⟨f1, fd1, m1, k1, b1, G1⟩ := C1
  obtain ⟨fI, fdI, M, G, b⟩ := ini
  obtain ⟨fE, fdE, T1, GE1, bE1⟩ := M1
  obtain ⟨tL, mL⟩ := L
  obtain ⟨t7, m7⟩ := L7
  have GT : FnOk P w K mg base CX0 1 fT fdT ["self", "what", "most"] (spIn2 K "what" "most") := ok_ti FT
  have bT : Binds K fdT ["self", "what", "most"] [] := FT.binds (ps := ["self", "what", "most"]) fun _ _ _ _ _ _ us hl => match us, hl with | [_, _, _], _ => rfl
  have cl := T.pc.cls
  have nd := scWP.nd
  refine F.okX scWP (fun vs H Q E h => ?_) (fun cdv A outer s H vs Q E hr h => ?_)
  · obtain ⟨a, x, y, tx, ty, ps, rfl, _⟩ := h
    rfl
  · obtain ⟨a, x, y, tx, ty, ps, rfl, pf, ok, kx, ky, hx, hy, hgo⟩ := h
    refine ⟨_, (pss_cons (ps_for (passes_of rfl) rfl (pi_tup (pe_tup (pa_cons (pe_tup (pa_cons (pv 1) (pa_cons (pe_str) pa_nil))) (pa_cons (pe_tup (pa_cons (pv 2) (pa_cons (pe_str) pa_nil))) pa_nil)))) (pg_tup rfl (pgs_cons ((pg_name (i := 3) nd rfl (Or.inl rfl))) (pgs_cons ((pg_name (i := 4) nd rfl (Or.inl rfl))) pgs_nil)))
        (pss_one (ps_if (pt_not (pt_val (pe_call G1 (hr.mono (by decide)) rfl m1 k1 b1 .nil pass0 (pa_cons (pv 3) (pa_cons (pe_un un_neg (pe_glob (v := .int 1000000000) rfl mL ⟨_, rfl⟩)) (pa_cons (pe_glob (v := .int 1000000000) rfl mL ⟨_, rfl⟩) pa_nil)))))) (pss_one (ps_raise rfl (takes_of rfl rfl rfl rfl) (pmk_oex T1.oex T1.iC T1.tI GE1 (hr.mono (by decide)) bE1 .nil pass0 rfl T1.mgC (pa_cons (pv 4) pa_nil)))) pss_nil))) (pss_cons (ps_if (pt_cmpR op_eq (pe_fld (pv 0) rfl) (pe_glob (v := .int 7) rfl m7 ⟨_, rfl⟩) (nomark _)) (pss_one (ps_raise rfl (takes_of rfl rfl rfl rfl) (pmk_oex TT.oex TT.iC TT.tI GT (hr.mono (by decide)) bT .nil pass0 rfl TT.mgC (pa_cons (pe_str) (pa_cons (pe_glob (v := .int 7) rfl m7 ⟨_, rfl⟩) pa_nil))))) pss_nil) (pss_one (ps_ret (pe_make (E := E0) M G (hr.mono (by decide)) rfl mC b .nil passL (pa_cons (pe_op op_catA (pe_fld (pv 0) rfl) (pe_tup (pa_cons (pe_tup (pa_cons (pv 1) (pa_cons (pv 2) pa_nil))) pa_nil))) pa_nil)))))), ?_⟩
    refine ⟨_, rfl, by show 2 ≤ sizeLine; decide, fun c1 n1 => ?_⟩
    have s1 := same_new (o := .tup [x, V.str "x"]) n1
    have g1 : upd H c1 (.tup [x, V.str "x"]) c1 = some (.tup [x, V.str "x"]) := upd_same
    generalize upd H c1 (.tup [x, V.str "x"]) = H1 at s1 g1 ⊢
    refine ⟨_, rfl, by show 2 ≤ sizeLine; decide, fun c2 n2 => ?_⟩
    have s2 := same_new (o := .tup [y, V.str "y"]) n2
    have g2 : upd H1 c2 (.tup [y, V.str "y"]) c2 = some (.tup [y, V.str "y"]) := upd_same
    generalize upd H1 c2 (.tup [y, V.str "y"]) = H2 at s2 g2 ⊢
    refine ⟨by show 2 ≤ sizeLine; decide, fun c3 n3 => ?_⟩
    have s3 := same_new (o := .tup [V.ref c1, V.ref c2]) n3
    have g3 : upd H2 c3 (.tup [V.ref c1, V.ref c2]) c3 = some (.tup [V.ref c1, V.ref c2]) := upd_same
    generalize upd H2 c3 (.tup [V.ref c1, V.ref c2]) = H3 at s3 g3 ⊢
    have g1 := s3 _ _ (s2 _ _ g1)
    have g2 := s3 _ _ g2
    have s03 := (s1.trans s2).trans s3
    refine ⟨c3, rfl, ⟨_, SqT.of g3⟩, ?_⟩
    refine for_tup (K := K) (a := c3) (xs := [V.ref c1, V.ref c2]) (fun i σ H' => H' = H3 ∧ (0 < i → inB x = true) ∧ (1 < i → inB y = true) ∧ ∃ c d, σ = [some (.ref a), some x, some y, c, d]) ⟨rfl, fun h => absurd h (Nat.lt_irrefl _), fun h => absurd h (by omega), _, _, rfl⟩ (fun i σ H' _ p => by rw [p.1]; exact SqT.of g3) (fun i v σ H' hv p => ?_) (fun σ H' p => ?_)
    · obtain ⟨rfl, p1, p2, c, d, rfl⟩ := p
      match i, hv with
      | 0, hv =>
        have ev : V.ref c1 = v := Option.some.inj hv
        subst ev
        refine ⟨c1, _, rfl, SqT.of g1, rfl, _, _, rfl, _, _, rfl, rfl, ?_⟩
        refine ⟨_, rfl, _, rfl, x, tx, -1000000000, 1000000000, rfl, kx.same s03, _, rfl, ?_⟩
        cases e : within x (-1000000000) 1000000000 with
        | true => exact iteF ⟨rfl, fun _ => e, fun h => absurd h (by omega), _, _, rfl⟩
        | false =>
          refine iteT ⟨_, rfl, by show 1 ≤ 1000; decide, fun z hz => ?_⟩
          exact ⟨z, _, rfl, T1.oex, T1.noF, upd_same, fun dx hdx ne => ⟨rfl, dx, _, upd_same, by rw [upd_ne ne]; exact upd_same, by rw [upd_ne ne] at hdx; exact hdx, raisedV (hx e) s03 hz hdx ne⟩⟩
      | 1, hv =>
        have ev : V.ref c2 = v := Option.some.inj hv
        subst ev
        refine ⟨c2, _, rfl, SqT.of g2, rfl, _, _, rfl, _, _, rfl, rfl, ?_⟩
        refine ⟨_, rfl, _, rfl, y, ty, -1000000000, 1000000000, rfl, ky.same s03, _, rfl, ?_⟩
        cases e : within y (-1000000000) 1000000000 with
        | true => exact iteF ⟨rfl, fun _ => p1 (by decide), fun _ => e, _, _, rfl⟩
        | false =>
          refine iteT ⟨_, rfl, by show 1 ≤ 1000; decide, fun z hz => ?_⟩
          exact ⟨z, _, rfl, T1.oex, T1.noF, upd_same, fun dx hdx ne => ⟨rfl, dx, _, upd_same, by rw [upd_ne ne]; exact upd_same, by rw [upd_ne ne] at hdx; exact hdx, raisedV (hy (p1 (by decide)) e) s03 hz hdx ne⟩⟩
    · obtain ⟨rfl, p1, p2, c, d, rfl⟩ := p
      have ix := p1 (by show 0 < 2; decide)
      have iy := p2 (by show 1 < 2; decide)
      obtain ⟨i, rfl, i1, i2⟩ := inB_int ix
      obtain ⟨j, rfl, j1, j2⟩ := inB_int iy
      obtain ⟨h7, hl⟩ := hgo i j rfl rfl ix iy
      obtain ⟨dx, t, u, ha, ⟨ts, ht, pr⟩, _⟩ := id (pf.same s03)
      have lt : ts.length = ps.length := Paired.length pr
      have ok4 := ok.1
      have ok7 := ok.2.1
      refine ⟨_, rfl, a, C, dx, _, .int ps.length, rfl, ha, cl, T.n2, rfl, rfl, _, rfl, ?_⟩
      by_cases e7 : ps.length = 7
      · rw [decide_eq_true (show V.int (ps.length : Int) = V.int 7 by rw [e7]; rfl)]
        refine iteT ⟨by show 2 ≤ 1000; decide, fun e na => ?_⟩
        refine ⟨e, CT, _, _, rfl, TT.oex, TT.no1, TT.no2, upd_same, fun H4 k ⟨d, nd, ne, h1, h2⟩ => ⟨rfl, d, _, h1, h2, ?_, rzf_of ((h7 e7).same s03) na k nd ne⟩⟩
        rw [upd_ne ne] at nd
        exact nd
      · rw [decide_eq_false (show ¬ V.int (ps.length : Int) = V.int 7 from fun z => e7 (by have := V.int.inj z; omega))]
        refine iteF ⟨_, rfl, a, C, dx, _, .ref t, rfl, ha, cl, T.n1, rfl, _, rfl, _, rfl, by show 2 ≤ sizeLine; decide, fun c4 n4 => ?_⟩
        have s4 := same_new (o := .tup [V.int i, V.int j]) n4
        have g4 : upd H' c4 (.tup [V.int i, V.int j]) c4 = some (.tup [V.int i, V.int j]) := upd_same
        generalize upd H' c4 (.tup [V.int i, V.int j]) = H4 at s4 g4 ⊢
        refine ⟨by show 1 ≤ sizeLine; decide, fun c5 n5 => ?_⟩
        have s5 := same_new (o := .tup [V.ref c4]) n5
        have g5 : upd H4 c5 (.tup [V.ref c4]) c5 = some (.tup [V.ref c4]) := upd_same
        generalize upd H4 c5 (.tup [V.ref c4]) = H5 at s5 g5 ⊢
        have s45 := s4.trans s5
        refine ⟨t, c5, _, _, rfl, rfl, SqT.of (s45 _ _ ht), SqT.of g5, ?_, fun e0 => ?_, fun _ e0 => ?_, fun _ _ c6 n6 => ?_⟩
        · rw [List.length_map]
          exact Nat.le_of_lt (small1000 (by show ts.length + 1 ≤ 1000; omega))
        · exact absurd (congrArg List.length e0) (by rw [List.length_map]; show ¬ ts.length = 0; omega)
        · cases e0
        · have s6 := same_new (o := .tup (ts.map V.ref ++ [V.ref c4])) n6
          have s46 := s45.trans s6
          have pls : Pls (upd H5 c6 (.tup (ts.map V.ref ++ [V.ref c4]))) (.ref c6) (ps ++ [(i, j)]) := ⟨c6, _, rfl, .inr upd_same, paired_app (pla_prs (paired_mono pr fun _ _ z => s46 _ _ z)) (.cons ⟨c4, rfl, .inr (s6 _ _ (s5 _ _ g4))⟩ .nil)⟩
          have l6 : ps.length < 7 := by omega
          have okk : OkP (ps ++ [(i, j)]) := ⟨by rw [List.length_append]; show 4 ≤ ps.length + 1; omega, by rw [List.length_append]; show ps.length + 1 ≤ 7; omega, fun q hq => by
            rcases List.mem_append.mp hq with z | z
            · exact ok.2.2 q z
            · rw [List.mem_singleton.mp z]
              exact ⟨i1, i2, j1, j2⟩⟩
          exact mk_in (.inl ⟨_, pls, okk, fun x H7 s7 n7 pf7 => hl l6 x H7 ((s03.trans s46).trans s7) ((s03.trans s46).free n7) pf7⟩)
/-! ### the class of pictures, its methods of orders -/
def rv2 {α : Type} (vs zs : List α) : List α := vs ++ zs.reverse
/-- a promise that is not looked into -/
inductive Bx (sp : Sp) : List V → Hp → VK → XK → Prop
  | mk {vs : List V} {H : Hp} {Q : VK} {E : XK} (h : sp vs H Q E) : Bx sp vs H Q E
theorem Bx.un {sp : Sp} {vs : List V} {H : Hp} {Q : VK} {E : XK} (h : Bx sp vs H Q E) : sp vs H Q E := by
  cases h with
  | mk h => exact h
structure Po (P : Program) (w : World) (K : PySem.W.Frag) (mg : Str → Option Value) (base : Heap) (C CP CW CF CN CT : Addr) : Prop where
  io : ∃ (f : Addr) (fd : FuncData), Meth K C "in_order" f ∧ FnOk P w K mg base (L2.CX P w) 8 f fd ["self", "pins"] (Bx (spIO K C CP CW CF)) ∧ Binds K fd ["self", "pins"] [] ∧ KBn K fd ["self", "pins"] 1 ["pins"] (fun us ws => us ++ ws) (fun vs zs => vs ++ zs)
  wo : ∃ (f : Addr) (fd : FuncData), Meth K C "without" f ∧ FnOk P w K mg base (L2.CX P w) 8 f fd ["self", "pin"] (Bx (spWo K C CP CF)) ∧ Binds K fd ["self", "pin"] [] ∧ KBn K fd ["self", "pin"] 1 ["pin"] (fun us ws => us ++ ws) (fun vs zs => vs ++ zs)
  wp : ∃ (f : Addr) (fd : FuncData), Meth K C "with_pin" f ∧ FnOk P w K mg base (L2.CX P w) 8 f fd ["self", "x", "y"] (Bx (spWP K C CN CT)) ∧ Binds K fd ["self", "x", "y"] [] ∧ KBn K fd ["self", "x", "y"] 1 ["y", "x"] rv2 rv2
end
end K14

namespace K14
open PySem PySem.Spec PyProof.Rows L2
/-! ### all pins on one line, whatever their order -/
def crx (p q r : Int × Int) : Int := (q.1 - p.1) * (r.2 - p.2) - (q.2 - p.2) * (r.1 - p.1)
def Col (ps : List (Int × Int)) : Prop := ∀ p ∈ ps, ∀ q ∈ ps, ∀ r ∈ ps, crx p q r = 0
theorem sk_at {p0 : Int × Int} {qs : List (Int × Int)} {i : Nat} (hi : i < qs.length) : (sk 0 (p0 :: qs)).getD i 0 = qs[i].1 - p0.1 ∧ (sk 1 (p0 :: qs)).getD i 0 = qs[i].2 - p0.2 := by
  constructor
  · show (qs.map fun p => p.1 - p0.1).getD i 0 = _
    rw [List.getD_eq_getElem?_getD, List.getElem?_map, List.getElem?_eq_getElem hi]
    rfl
  · show (qs.map fun p => p.2 - p0.2).getD i 0 = _
    rw [List.getD_eq_getElem?_getD, List.getElem?_map, List.getElem?_eq_getElem hi]
    rfl
theorem thin_pairs {p0 : Int × Int} {qs : List (Int × Int)} : thin (sk 0 (p0 :: qs)) (sk 1 (p0 :: qs)) ↔ ∀ q ∈ qs, ∀ r ∈ qs, crx p0 q r = 0 := by
  have e : ∀ i j (hi : i < qs.length) (hj : j < qs.length), crs (sk 0 (p0 :: qs)) (sk 1 (p0 :: qs)) i j = crx p0 qs[i] qs[j] := fun i j hi hj => by
    unfold crs crx
    rw [(sk_at hi).1, (sk_at hi).2, (sk_at hj).1, (sk_at hj).2]
  constructor
  · intro h q hq r hr
    obtain ⟨i, hi, rfl⟩ := List.getElem_of_mem hq
    obtain ⟨j, hj, rfl⟩ := List.getElem_of_mem hr
    have lj : (sk 0 (p0 :: qs)).length = qs.length := by
      show (qs.map _).length = _
      rw [List.length_map]
    rcases Nat.lt_trichotomy i j with l | l | l
    · rw [← e i j hi hj]
      exact h i j l (by rw [lj]; exact hj)
    · subst l
      unfold crx
      rw [Int.mul_comm]
      omega
    · have := h j i l (by rw [lj]; exact hi)
      rw [e j i hj hi] at this
      unfold crx at this ⊢
      rw [Int.mul_comm (qs[i].1 - p0.1), Int.mul_comm (qs[i].2 - p0.2)]
      omega
  · intro h i j hij hj
    have lj : (sk 0 (p0 :: qs)).length = qs.length := by
      show (qs.map _).length = _
      rw [List.length_map]
    rw [lj] at hj
    rw [e i j (by omega) hj]
    exact h _ (List.getElem_mem _) _ (List.getElem_mem _)
theorem thin_col {ps : List (Int × Int)} (h0 : ps ≠ []) : thin (sk 0 ps) (sk 1 ps) ↔ Col ps := by
  cases ps with
  | nil => exact absurd rfl h0
  | cons p0 qs =>
    rw [thin_pairs]
    constructor
    · intro h
      have h' : ∀ q ∈ p0 :: qs, ∀ r ∈ p0 :: qs, crx p0 q r = 0 := fun q hq r hr => by
        rcases List.mem_cons.mp hq with e | hq
        · unfold crx
          rw [e, Int.sub_self, Int.sub_self, Int.zero_mul, Int.zero_mul]
          rfl
        · rcases List.mem_cons.mp hr with e | hr
          · unfold crx
            rw [e, Int.sub_self, Int.sub_self, Int.mul_zero, Int.mul_zero]
            rfl
          · exact h q hq r hr
      intro p hp q hq r hr
      have a1 := h' q hq r hr
      have a2 := h' q hq p hp
      have a3 := h' p hp r hr
      unfold crx at a1 a2 a3 ⊢
      grind
    · intro h q hq r hr
      exact h p0 List.mem_cons_self q (List.mem_cons_of_mem _ hq) r (List.mem_cons_of_mem _ hr)
theorem col_of {ps qs : List (Int × Int)} (h : ∀ q, q ∈ qs → q ∈ ps) (c : Col ps) : Col qs := fun p hp q hq r hr => c p (h p hp) q (h q hq) r (h r hr)
/-! ### orders behind orders -/
theorem pick_len (ps : List (Int × Int)) (ns : List Nat) : (pick ps ns).length = ns.length := by
  unfold pick
  rw [List.length_map]
theorem pick_at {ps : List (Int × Int)} {ns : List Nat} {i : Nat} (hi : i < ns.length) : (pick ps ns).getD i (0, 0) = ps.getD ns[i] (0, 0) := by
  unfold pick
  rw [List.getD_eq_getElem?_getD, List.getElem?_map, List.getElem?_eq_getElem hi]
  rfl
theorem pick_pick {ps : List (Int × Int)} {ns ms : List Nat} (h : ∀ m ∈ ms, m < ns.length) : pick (pick ps ns) ms = pick ps (ms.map fun m => ns.getD m 0) := by
  show ms.map (fun m => (pick ps ns).getD m (0, 0)) = (ms.map fun m => ns.getD m 0).map fun n => ps.getD n (0, 0)
  rw [List.map_map]
  refine List.map_congr_left fun m hm => ?_
  rw [pick_at (h m hm)]
  show _ = ps.getD (ns.getD m 0) (0, 0)
  rw [List.getD_eq_getElem?_getD (l := ns), List.getElem?_eq_getElem (h m hm)]
  rfl
theorem pick_range (ps : List (Int × Int)) : pick ps (List.range ps.length) = ps := by
  show (List.range ps.length).map (fun n => ps.getD n (0, 0)) = ps
  refine List.ext_getElem (by rw [List.length_map, List.length_range]) fun i h1 h2 => ?_
  rw [List.getElem_map, List.getElem_range, List.getD_eq_getElem?_getD, List.getElem?_eq_getElem h2]
  rfl
/-- an order of all pins -/
structure OrdN (ns : List Nat) (k : Nat) : Prop where
  nd : ns.Nodup
  lt : ∀ n ∈ ns, n < k
  len : ns.length = k
  all : ∀ i, i < k → i ∈ ns
theorem ord_perm {ns : List Nat} {k : Nat} (h : ns.Perm (List.range k)) : OrdN ns k := ⟨h.nodup_iff.mpr List.nodup_range, fun n hn => List.mem_range.mp (h.mem_iff.mp hn), by rw [h.length_eq, List.length_range], fun i hi => h.mem_iff.mpr (List.mem_range.mpr hi)⟩
theorem ord_range (k : Nat) : OrdN (List.range k) k := ord_perm (List.Perm.refl _)
theorem nd_inj {ns : List Nat} (h : ns.Nodup) {i j : Nat} (hi : i < ns.length) (hj : j < ns.length) (e : ns[i] = ns[j]) : i = j := by
  rw [List.Nodup, List.pairwise_iff_getElem] at h
  rcases Nat.lt_trichotomy i j with l | l | l
  · exact absurd e (h i j hi hj l)
  · exact l
  · exact absurd e.symm (h j i hj hi l)
/-- bs is the contrary order of ns -/
structure Back (ns bs : List Nat) (k : Nat) : Prop where
  len : bs.length = k
  at_ : ∀ m (hm : m < bs.length), ns[bs[m]]? = some m
theorem Back.ord {ns bs : List Nat} {k : Nat} (o : OrdN ns k) (b : Back ns bs k) : OrdN bs k := by
  have lt : ∀ m (hm : m < bs.length), bs[m] < ns.length := fun m hm => (List.getElem?_eq_some_iff.mp (b.at_ m hm)).1
  refine ⟨?_, fun n hn => ?_, b.len, fun i hi => ?_⟩
  · rw [List.Nodup, List.pairwise_iff_getElem]
    intro i j hi hj hij e
    have h1 := b.at_ i hi
    rw [e, b.at_ j hj] at h1
    have := Option.some.inj h1
    omega
  · obtain ⟨m, hm, rfl⟩ := List.getElem_of_mem hn
    rw [← o.len]
    exact lt m hm
  · have hi' : i < ns.length := by rw [o.len]; exact hi
    have hn : ns[i] < bs.length := by
      rw [b.len]
      exact o.lt _ (List.getElem_mem hi')
    have h1 := b.at_ ns[i] hn
    obtain ⟨h2, h3⟩ := List.getElem?_eq_some_iff.mp h1
    have := nd_inj o.nd h2 hi' h3
    rw [← this]
    exact List.getElem_mem hn
theorem Back.to {ns bs : List Nat} {k : Nat} (b : Back ns bs k) : (bs.map fun m => ns.getD m 0) = List.range k := by
  refine List.ext_getElem (by rw [List.length_map, List.length_range, b.len]) fun i h1 h2 => ?_
  have hi : i < bs.length := by rw [List.length_map] at h1; exact h1
  rw [List.getElem_map, List.getElem_range, List.getD_eq_getElem?_getD, b.at_ i hi]
  rfl
theorem Back.from {ns bs : List Nat} {k : Nat} (o : OrdN ns k) (b : Back ns bs k) : (ns.map fun m => bs.getD m 0) = List.range k := by
  refine List.ext_getElem (by rw [List.length_map, List.length_range, o.len]) fun i h1 h2 => ?_
  have hi : i < ns.length := by rw [List.length_map] at h1; exact h1
  have hn : ns[i] < bs.length := by
    rw [b.len]
    exact o.lt _ (List.getElem_mem hi)
  have h1' := b.at_ ns[i] hn
  obtain ⟨h3, h4⟩ := List.getElem?_eq_some_iff.mp h1'
  have e := nd_inj o.nd h3 hi h4
  rw [List.getElem_map, List.getElem_range, List.getD_eq_getElem?_getD, List.getElem?_eq_getElem hn]
  exact e
theorem Back.left {ns bs : List Nat} {ps : List (Int × Int)} (o : OrdN ns ps.length) (b : Back ns bs ps.length) : pick (pick ps ns) bs = ps := by
  rw [pick_pick (fun m hm => by rw [o.len]; exact (b.ord o).lt m hm), b.to]
  exact pick_range ps
theorem Back.right {ns bs : List Nat} {ps : List (Int × Int)} (o : OrdN ns ps.length) (b : Back ns bs ps.length) : pick (pick ps bs) ns = ps := by
  rw [pick_pick (fun m hm => by rw [b.len]; exact o.lt m hm), b.from o]
  exact pick_range ps
theorem ord_mem {ns : List Nat} {ps : List (Int × Int)} (o : OrdN ns ps.length) (q : Int × Int) : q ∈ pick ps ns ↔ q ∈ ps := by
  unfold pick
  constructor
  · intro h
    obtain ⟨n, hn, rfl⟩ := List.mem_map.mp h
    rw [List.getD_eq_getElem?_getD, List.getElem?_eq_getElem (o.lt n hn)]
    exact List.getElem_mem _
  · intro h
    obtain ⟨i, hi, rfl⟩ := List.getElem_of_mem h
    refine List.mem_map.mpr ⟨i, o.all i hi, ?_⟩
    rw [List.getD_eq_getElem?_getD, List.getElem?_eq_getElem hi]
    rfl
theorem ord_thin {ns : List Nat} {ps : List (Int × Int)} (o : OrdN ns ps.length) (h4 : 4 ≤ ps.length) : thin (sk 0 (pick ps ns)) (sk 1 (pick ps ns)) ↔ thin (sk 0 ps) (sk 1 ps) := by
  have n1 : ps ≠ [] := by
    rintro rfl
    exact absurd h4 (by decide)
  have n2 : pick ps ns ≠ [] := fun e => by
    have := congrArg List.length e
    rw [pick_len, o.len] at this
    have z : ([] : List (Int × Int)).length = 0 := rfl
    omega
  rw [thin_col n1, thin_col n2]
  exact ⟨col_of fun q h => (ord_mem o q).mpr h, col_of fun q h => (ord_mem o q).mp h⟩
theorem ord_ok {ns : List Nat} {ps : List (Int × Int)} (o : OrdN ns ps.length) (ok : OkP ps) : OkP (pick ps ns) := pick_ok ok o.lt (by rw [o.len]; exact ok.1) (by rw [o.len]; exact ok.2.1)
theorem ord_comp {ns ms : List Nat} {k : Nat} (o : OrdN ns k) (u : OrdN ms k) : OrdN (ms.map fun m => ns.getD m 0) k := by
  have gt : ∀ m, m < k → ∃ h : m < ns.length, ns.getD m 0 = ns[m] := fun m hm => by
    have h : m < ns.length := by rw [o.len]; exact hm
    refine ⟨h, ?_⟩
    rw [List.getD_eq_getElem?_getD, List.getElem?_eq_getElem h]
    rfl
  refine ⟨?_, fun n hn => ?_, by rw [List.length_map, u.len], fun i hi => ?_⟩
  · rw [List.Nodup, List.pairwise_iff_getElem]
    intro i j hi hj hij e
    rw [List.length_map] at hi hj
    rw [List.getElem_map, List.getElem_map] at e
    obtain ⟨h1, e1⟩ := gt _ (u.lt _ (List.getElem_mem hi))
    obtain ⟨h2, e2⟩ := gt _ (u.lt _ (List.getElem_mem hj))
    rw [e1, e2] at e
    have := nd_inj u.nd hi hj (nd_inj o.nd h1 h2 e)
    omega
  · obtain ⟨m, hm, rfl⟩ := List.mem_map.mp hn
    obtain ⟨h1, e1⟩ := gt _ (u.lt _ hm)
    rw [e1]
    exact o.lt _ (List.getElem_mem h1)
  · obtain ⟨j, hj, e⟩ := List.getElem_of_mem (o.all i hi)
    refine List.mem_map.mpr ⟨j, u.all j (by rw [← o.len]; exact hj), ?_⟩
    rw [List.getD_eq_getElem?_getD, List.getElem?_eq_getElem hj]
    exact e
/-! ### promises, as they are used -/
section
variable {K : PySem.W.Frag} {C CP CW CF CN CT : Addr} {ps : List (Int × Int)} {H : Hp} {Q : VK} {E : XK} {a c : Addr} {ns : List Nat}
theorem OrdN.pin (o : OrdN ns ps.length) (l7 : ps.length ≤ 7) (hs : Sq H c (nV ns)) : PinL H c ns ps.length := ⟨hs, by rw [o.len]; omega, o.lt⟩
theorem ord_no (o : OrdN ns ps.length) {j : Nat} (h : TwN ns j) : False := by
  obtain ⟨i, h1, h2, _⟩ := h
  have nd := o.nd
  have hi : i < ns.length := (List.getElem?_eq_some_iff.mp h1).1
  have hm : j ∈ ns.drop i := List.mem_of_getElem? (i := 0) (by rw [List.getElem?_drop, Nat.add_zero]; exact h1)
  rw [← List.take_append_drop i ns, List.nodup_append] at nd
  exact absurd rfl (nd.2.2 j h2 j hm)
theorem io_in (pf : PicF H C a ps) (ok : OkP ps) (o : OrdN ns ps.length) (hs : Sq H c (nV ns)) (h : NewP C (pick ps ns) H Q) : Bx (spIO K C CP CW CF) [.ref a, .ref c] H Q E :=
  .mk ⟨a, .ref c, ps, rfl, pf, ok, .inr ⟨c, ns, rfl, o.pin ok.2.1 hs, fun _ _ => ⟨by rw [o.len]; exact ok.2.1, h⟩, fun _ l => absurd l (by rw [o.len]; omega), fun j t => (ord_no o t).elim⟩⟩
theorem wo_in {n : Nat} (pf : PicF H C a ps) (ok : OkP ps) (hn : n < ps.length) (h5 : 4 < ps.length) (h : NewP C (ps.take n ++ ps.drop (n + 1)) H Q) : Bx (spWo K C CP CF) [.ref a, .int n] H Q E := by
  refine .mk ⟨a, .int n, false, ps, rfl, pf, ok, .int _, fun z => ?_, fun m e _ => ?_⟩
  · rw [pinOk_nat, decide_eq_true hn] at z
    cases z
  · have e2 : n = m := by
      have := V.int.inj e
      omega
    subst e2
    exact ⟨fun z => absurd z (by omega), fun _ => h⟩
theorem wp_in {x y : Int} (pf : PicF H C a ps) (ok : OkP ps) (hx : -G9 ≤ x ∧ x ≤ G9) (hy : -G9 ≤ y ∧ y ≤ G9) (l : ps.length < 7) (h : NewP C (ps ++ [(x, y)]) H Q) : Bx (spWP K C CN CT) [.ref a, .int x, .int y] H Q E := by
  refine .mk ⟨a, .int x, .int y, false, false, ps, rfl, pf, ok, .int _, .int _, fun z => ?_, fun _ z => ?_, fun i j e1 e2 _ _ => ?_⟩
  · rw [inB_of hx.1 hx.2] at z
    cases z
  · rw [inB_of hy.1 hy.2] at z
    cases z
  · cases e1
    cases e2
    exact ⟨fun z => absurd z (by omega), fun _ => h⟩
end
theorem meth_in {H : Hp} {C a : Addr} {m : Str} {ps : List (Int × Int)} {R : Prop} (pf : PicF H C a ps) (hm : ∀ t n u : V, List.lookup m [("places", t), ("pins", n), ("rows", u)] = none) (r : R) : ∃ a' dx fs, V.ref a = .ref a' ∧ H a' = some (.ins C dx fs) ∧ fs.lookup m = none ∧ R := by
  obtain ⟨dx, t, u, ha, _⟩ := pf
  exact ⟨a, dx, _, rfl, ha, hm _ _ _, r⟩
theorem PicF.sb {H H' : Hp} {C a p : Addr} {n : Nat} {ps : List (Int × Int)} (h : PicF H C a ps) (v : Lens H p n) (s : SB p H H') : PicF H' C a ps := by
  obtain ⟨c, x, y, e⟩ := v.at
  obtain ⟨dx, t, u, ha, ⟨ts, ht, pr⟩, r0, r1, hu, h0, h1⟩ := h
  exact ⟨dx, t, u, s.1 _ _ (L2.ne_of ha e (by intro z; cases z)) ha, ⟨ts, s.1 _ _ (v.not_tup ht) ht, paired_mono pr fun _ _ z => s.1 _ _ (v.not_tup z) z⟩, r0, r1, s.1 _ _ (v.not_tup hu) hu, s.1 _ _ (v.not_tup h0) h0, s.1 _ _ (v.not_tup h1) h1⟩
theorem PicF.updl {H : Hp} {C a l : Addr} {xs : List V} {o : HO} {ps : List (Int × Int)} (h : PicF H C a ps) (hl : H l = some (.lst xs)) : PicF (upd H l o) C a ps := by
  have nt : ∀ {b : Addr} {ys : List V}, H b = some (.tup ys) → upd H l o b = some (.tup ys) := fun e => by
    rw [upd_ne (L2.ne_of e hl (by intro z; cases z))]
    exact e
  obtain ⟨dx, t, u, ha, ⟨ts, ht, pr⟩, r0, r1, hu, h0, h1⟩ := h
  exact ⟨dx, t, u, by rw [upd_ne (L2.ne_of ha hl (by intro z; cases z))]; exact ha, ⟨ts, nt ht, paired_mono pr fun _ _ z => nt z⟩, r0, r1, nt hu, nt h0, nt h1⟩
theorem tNext_eq {D : Ends} {σ : L2.St} {H : Hp} : tNext D σ H = D.nx σ H := rfl
theorem if_join {tb : TT} {t1 t2 : TS} {u : TS} {D : Ends} {σ : L2.St} {H : Hp} {P : L2.St → Hp → Prop} (rest : ∀ σ' H', P σ' H' → u D σ' H') (h : (∀ σ' H', P σ' H' → u D σ' H') → tSeq (tIfS tb t1 t2) u D σ H) : tSeq (tIfS tb t1 t2) u D σ H := h rest
end K14

namespace K14
open PySem PySem.Spec PyProof.Rows L2
/-! ### an exception that was caught and is kept by a name -/
/-- the exception object at a, of the class cls, its own dict d -/
def Held (cls : Value) (d : Option Addr) (a : Addr) : HO := .ext fun h => ∃ (ob : Obj) (fv : Array Value), h.get? a = some ob ∧ Zc cls d ob ∧ ob.data = .fields fv
section
variable {X : Cx} {pins : List (Addr × Obj)} {σ : L2.St} {H : Hp} {s : Shared} {a : Addr} {ob : Obj} {fv : Array Value} {cls : Value} {d : Option Addr}
/-- a pinned exception that is newer than the frame is tracked from here on -/
theorem track (I : Inv X ((a, ob) :: pins) σ H s) (hz : Zc cls d ob) (hd : ob.data = .fields fv) (n0 : X.s_0.heap.get? a = none) (np : ∀ p ∈ X.pn ++ pins, p.1 ≠ a) : Inv X pins σ (upd H a (Held cls d a)) s := by
  obtain ⟨ha, hn, hL, hF, _⟩ := I.pin (a, ob) (List.mem_append_right _ List.mem_cons_self)
  have ha : s.heap.get? a = some ob := ha
  have hn : H a = none := hn
  have hL : a ≠ X.env.locals := hL
  have new : ObjOk X.prog X.w (upd H a (Held cls d a)) s.heap a (Held cls d a) := ⟨⟨ob, fv, ha, hz, hd⟩, ⟨ob, ha⟩, fun _ _ ⟨o, v, e, r⟩ k => ⟨o, v, k o e, r⟩⟩
  have old : ∀ b o, X.s_0.heap.get? b = some o → b ≠ a := fun b o e z => by
    rw [z, n0] at e
    cases e
  have tr : ∀ b o, H b = some o → upd H a (Held cls d a) b = some o := fun b o e => by
    rw [upd_ne (ne_of_none e hn)]
    exact e
  have B := I.base
  refine ⟨I.ok, I.os, I.bare, ⟨B.keep, B.slot, fun b o e n x => ?_, B.there, fun b xs e => tr _ _ (B.tups b xs e), fun b o u e => tr _ _ (B.frzs b o u e), fun b ps e => ?_⟩, I.loc, I.cell, ?_, fun x c e => ?_, fun p hp => ?_, HOk.laidN I.hok (fun _ _ q => q) hn new, I.len⟩
  · rw [upd_ne (old b o e)]
    exact B.free b o e n x
  · obtain ⟨m, q⟩ := B.tbls b ps e
    exact ⟨m, tr _ _ q⟩
  · rw [upd_ne hL.symm]
    exact I.free
  · have nc : c ≠ a := fun z => by
      obtain ⟨v, o, q, q2⟩ := I.cell x c e
      rw [z, ha] at q
      cases q
      rw [hd] at q2
      cases q2
    rw [upd_ne nc]
    exact I.freeC x c e
  · have hp2 : p ∈ X.pn ++ ((a, ob) :: pins) := by
      rcases List.mem_append.mp hp with z | z
      · exact List.mem_append_left _ z
      · exact List.mem_append_right _ (List.mem_cons_of_mem _ z)
    obtain ⟨e1, e2, e3⟩ := I.pin p hp2
    exact ⟨e1, by rw [upd_ne (np p hp)]; exact e2, e3⟩
/-- isinstance(e, C) of a kept exception of just this class, and its field -/
theorem held_at (I : Inv X pins σ H s) (e : H a = some (Held cls d a)) : ∃ ob fv, s.heap.get? a = some ob ∧ Zc cls d ob ∧ ob.data = .fields fv := by
  have z : ObjOk X.prog X.w H s.heap a (.ext fun h => ∃ (ob : Obj) (fv : Array Value), h.get? a = some ob ∧ Zc cls d ob ∧ ob.data = .fields fv) := I.hok a _ e
  exact z.1
end
/-! ### try: .. except C as n: y = n -/
/-- what the clause wishes of what its body raises: it is C's, and behind it y (slot j) keeps it -/
def wKeep (K : PySem.W.Frag) (c : Value) (i j m : Nat) (D : Ends) : WX := fun cls d σ H =>
  PySem.W.exmOne K cls c = some true ∧ ∀ a, H a = none → σ.length = m → D.nx (((σ.set i (some (.ref a))).set j (some (.ref a))).set i none) (upd H a (Held cls d a))
section
variable {X : Cx} {x n y : Str} {c : Value} {i j : Nat} {body : List Stmt} {np px py ap hp tp : Pos} {tb : WX → TS}
theorem ps_try_keep (stk : X.stack = X.env :: X.outer) (fra : X.env.frame = some X.env.locals) (noex : X.ex = []) (nod : X.N.Nodup) (atI : X.N[i]? = some n) (atJ : X.N[j]? = some y) (kn : X.env.kindOf n = some .local) (ly : Loc X.env.scope y) (fy : X.fn y = true ∨ X.env.scope.names.lookup y = some .local) (nm : Names X x c)
    (hi : i < X.N.length) (d1 : (n == ("__debug__" : Str)) = false) (d2 : (n == ("__classdict__" : Str)) = false)
    (run : ∀ (W : WX) (pn : List (Addr × Obj)) (xe : Value → Shared → Prop), Takes (X.tr pn xe) W → PassesOwn (model X.prog X.w) X.A X.env xe → PSs (X.tr pn xe) body (tb W)) :
    PS X (.Try body [.ExceptHandler (some (.Name x np)) (some n) [.Assign [.Name y py] (.Name n px) ap] hp] [] [] tp) (fun D σ H => tb (wKeep X.K c i j X.N.length D) D σ H) := by
  refine ⟨fun pins s σ H D I wish => ?_⟩
  have good := I.ok
  have lone : Loc X.env.scope n := .inl kn
  have frames : X.A.frames = some (X.env :: X.outer) := by rw [good.frames, stk]
  refine wpAny_Try_except (wpAny_mono ((run (wKeep X.K c i j X.N.length D) (X.pn ++ pins) (fun e z => wpAny (model X.prog X.w) X.A (noteFrame e X.env) (fun _ z2 => wpAny (model X.prog X.w) X.A (setFlight e none)
      (fun _ z3 => wpAny (model X.prog X.w) X.A (handleBy e X.env [.ExceptHandler (some (.Name x np)) (some n) [.Assign [.Name y py] (.Name n px) ap] hp]) (SP X pins D) X.xe z3) X.xe z2) X.xe z) (fun u sT air => ?_) PassesOwn.looking).run [] s σ H D (I.toTry _) wish) (fun fl sE hE => ?_) (fun _ _ z => z))
  · obtain ⟨a, B, sG, pG, σG, HG, cls, d, rfl, JG, ground, slots, sky, free, hos, bare, ematch, keep⟩ := air
    have J : Inv X pins σG HG sG := JG.ofTry good
    rw [show (X.tr (X.pn ++ pins) _).stack = X.env :: X.outer from stk] at sky
    show wpAny (model X.prog X.w) X.A (noteFrame (.ref a) X.env) _ _ _
    refine Sky.land Zc.steady frames fra sky fun hA flA upA => ?_
    have JA : Inv X pins σG HG { sT with heap := hA } := J.landed ground flA.1 (slots.trans upA) hos bare
    obtain ⟨oA, vA, gA, zA, dA⟩ := flA.there
    have away : a ∉ frs (X.env :: X.outer) := fun hm => by
      obtain ⟨_, oz, ez, nf⟩ := flA.2.2.1.mem hm
      rw [gA] at ez
      cases ez
      exact nf _ dA
    have noL : a ≠ X.env.locals := fun z => away (List.mem_filterMap.mpr ⟨X.env, List.mem_cons_self, by rw [fra, z]⟩)
    have noF : a ∉ X.fs := fun hm => by
      obtain ⟨e, he, q⟩ := List.mem_filterMap.mp hm
      exact away (List.mem_filterMap.mpr ⟨e, List.mem_cons_of_mem _ he, q⟩)
    have SA := JA.suite gA dA free noL noF
    have Bnone : B.get? a = none := flA.2.1
    have offB : ∀ b o, sG.heap.get? b = some o → b ∉ frs X.stack → b ≠ a := fun b o e nf z => by
      have q := ground b o e nf
      rw [z, Bnone] at q
      cases q
    have off0 : X.s_0.heap.get? a = none := by
      cases e : X.s_0.heap.get? a with
      | none => rfl
      | some o =>
        obtain ⟨o2, q⟩ := J.base.there a o e (by rw [noex]; exact fun z => nomatch z)
        exact absurd rfl (offB a o2 q (by rw [stk]; exact away))
    have offP : ∀ p ∈ X.pn ++ pins, p.1 ≠ a := fun p hp => by
      obtain ⟨q, _, nl, nf, _⟩ := J.pin p hp
      refine offB p.1 _ q fun hm => ?_
      rw [stk] at hm
      obtain ⟨e, he, qe⟩ := List.mem_filterMap.mp hm
      rcases List.mem_cons.mp he with z | z
      · rw [z, fra] at qe
        exact nl (Option.some.inj qe).symm
      · exact nf (List.mem_filterMap.mpr ⟨e, z, qe⟩)
    -- the clause takes it
    refine wpAny_handleBy_cons (codeAny_handlers_test ?_) (by intro q; cases q)
    have look : PySem.W.Looks (model X.prog X.w) hA (typeOf (.ref a)) cls := fun _ _ _ _ k q => wpAny_typeOf_ref (k _ _ gA) (by rw [zA.1]; exact q)
    have answer := PySem.W.exm_one (M := model X.prog X.w) JA.kIn look ematch
    have named : ∀ {Q E : Value → Shared → Prop}, Q c { sT with heap := hA } → wpAny (model X.prog X.w) (X.A.mark (some (.ref a))) (eval (.Name x np) X.env) Q E { sT with heap := hA } := fun {Q E} q => by
      obtain ⟨g1, g2, g3 | ⟨g3, g4, g5⟩⟩ := nm
      · exact ld_glob (X := X.suite a ((a, oA) :: (X.pn ++ pins))) SA g1 g3 q g2
      · exact ld_blt (X := X.suite a ((a, oA) :: (X.pn ++ pins))) SA g1 g3 g4 q g5 g2
    refine named (answer.here ?_)
    refine codeAny_handlers_suite_as (HandSPX.lands_againZ flA fun hB flB upB => ?_)
    have JB : Inv X pins σG HG { sT with heap := hB } := J.landed ground flB.1 ((slots.trans upA).trans upB) hos bare
    obtain ⟨oB, vB, gB, zB, dB⟩ := flB.there
    have SB' := JB.suite gB dB free noL noF
    refine store_ok (X := X.suite a ((a, oB) :: (X.pn ++ pins))) (v := .ref a) SB' nod atI lone rfl (fun s5 S5 => ?_) (.inr kn)
    have vis : Vis X.env.scope n := .inl kn
    have suite : PSs (X.suite a ((a, oB) :: (X.pn ++ pins))) [.Assign [.Name y py] (.Name n px) ap] (tAsg (tVar i) (gName j)) := pss_one (ps_set nod atJ ly (pe_var atI vis d1 d2) rfl fy)
    have inI : (σG.set i (some (V.ref a)))[i]? = some (some (V.ref a)) := List.getElem?_set_self (by rw [J.len]; exact hi)
    refine wpAny_mono (suite.run [] s5 _ HG { nx := fun σ' H' => σ' = (σG.set i (some (V.ref a))).set j (some (V.ref a)) ∧ H' = HG, rt := fun _ _ => False } S5 ⟨_, inI, rfl, rfl⟩) (fun fl s6 h6 => ?_) (fun _ _ z => False.elim z)
    cases fl with
    | next =>
      obtain ⟨σ6, H6, S6, e1, e2⟩ := h6
      rw [e1, e2] at S6
      have K6 : Inv X ((a, oB) :: pins) ((σG.set i (some (V.ref a))).set j (some (V.ref a))) HG s6 := ⟨good, S6.os, S6.bare, S6.base, S6.loc, S6.cell, S6.free, S6.freeC, fun p hp => S6.pin p (by
        rw [List.append_nil]
        rcases List.mem_append.mp hp with z | z
        · exact List.mem_cons_of_mem _ (List.mem_append_left _ z)
        · rcases List.mem_cons.mp z with z | z
          · rw [z]
            exact List.mem_cons_self
          · exact List.mem_cons_of_mem _ (List.mem_append_right _ z)), S6.hok, S6.len⟩
      exact gone_ok K6 nod atI kn fun s7 K7 => ⟨_, _, track K7 zB dB off0 offP, keep a free J.len⟩
    | brk =>
      obtain ⟨_, _, _, z⟩ := h6
      exact z.elim
    | cont =>
      obtain ⟨_, _, _, z⟩ := h6
      exact z.elim
    | ret u =>
      obtain ⟨_, _, _, _, _, z⟩ := h6
      exact z.elim
  · cases fl with
    | next =>
      obtain ⟨_, _, J, q⟩ := hE
      exact wpAny_execs_nil ⟨_, _, J.ofTry good, q⟩
    | brk =>
      obtain ⟨_, _, J, q⟩ := hE
      exact ⟨_, _, J.ofTry good, q⟩
    | cont =>
      obtain ⟨_, _, J, q⟩ := hE
      exact ⟨_, _, J.ofTry good, q⟩
    | ret u =>
      obtain ⟨_, _, _, J, r, q⟩ := hE
      exact ⟨_, _, _, J.ofTry good, r, q⟩
end
theorem any_cls {K : PySem.W.Frag} {C : Addr} (h : PySem.W.hasDictIn K C = true) : (PySem.W.clsIn K C).isSome = true := by
  unfold PySem.W.hasDictIn at h
  cases e : PySem.W.clsIn K C with
  | some c => rfl
  | none =>
    rw [e] at h
    cases h
section
variable {X : Cx} {C : Addr}
/-- a kept exception of the class at C, with its fields -/
def Kept (C : Addr) (fs : List (Str × V)) (a : Addr) (H : Hp) : Prop := ∃ dd : Addr, H a = some (Held (.ref C) (some dd) a) ∧ H dd = some (.xd fs)
theorem kept_inst {pins : List (Addr × Obj)} {σ : L2.St} {H : Hp} {s : Shared} {a : Addr} {fs : List (Str × V)} (I : Inv X pins σ H s) (k : Kept C fs a H) :
    ∃ (ob : Obj) (mA : Str → Option Value) (od : Obj), PySem.W.InstAt s.heap a ob C (some od) ∧ (∀ f, RelO (fs.lookup f) (mA f)) ∧ ∀ n, PySem.W.lookIn n od = some (mA n) := by
  obtain ⟨dd, h1, h2⟩ := k
  obtain ⟨ob, fv, g, z, dt⟩ := held_at I h1
  have q : ObjOk X.prog X.w H s.heap dd (.xd fs) := I.hok dd _ h2
  obtain ⟨mA, ns, rel⟩ := q
  obtain ⟨od, go, lo⟩ := lookIn_ns ns
  exact ⟨ob, mA, od, ⟨g, z.1, by unfold PySem.W.notCls; rw [dt] <;> rfl, by rw [z.2]; exact go⟩, rel, lo⟩
def rIsH (C : Addr) : List V → Hp → VK → Prop := fun xs H Q => ∃ (a : Addr) (fs : List (Str × V)), xs = [.ref a, .ref C] ∧ Kept C fs a H ∧ Q (.bl true) H
theorem call_isH (E : ExcC X.K C) : CallR X (.builtin "isinstance") (rIsH C) := by
  intro pins s σ H xs us Q I r h
  obtain ⟨a, fs, rfl, k, q⟩ := h
  obtain ⟨u1, u2, rfl, r1, r2⟩ := vals2 r
  obtain rfl : u1 = Value.ref a := r1
  obtain rfl : u2 = Value.ref C := r2
  obtain ⟨ob, mA, od, J, _⟩ := kept_inst I k
  have one : PySem.W.kitOne X.K (.ref C) (.ref C) = some true := by
    unfold PySem.W.kitOne
    rw [if_pos (beq_self_eq_true _)]
  exact PySem.W.kia_one (PySem.W.kitx_exc (any_cls E.hd) E.hg E.hk E.hs E.ha E.hn E.ht E.hm) I.kIn J one (fun z => nomatch z) fun tk => ⟨.bl true, H, I.tok tk, rfl, q⟩
def tHf (C : Addr) (f : Str) (te : TE) : TE := fun σ H Q => te σ H fun x H1 => ∃ (a : Addr) (fs : List (Str × V)) (v : V), x = .ref a ∧ Kept C fs a H1 ∧ fs.lookup f = some v ∧ Q v H1
theorem pe_hf {e : Expr} {te : TE} {pos : Pos} {n : Str} (T : XfC X.K C) (no : PySem.W.findIn X.K (.ref C) n = some none) (he : PE X e te) (hb : attributeBase e n X.env (eval e X.env) = eval e X.env := by rfl) : PE X (.Attribute e n pos) (tHf C n te) := by
  refine ⟨fun pins s σ H Q I h => attr_of hb (thn (he.run pins s σ H _ I h) fun u s1 hh => ?_)⟩
  obtain ⟨x, H1, I1, rx, a, fs, v, rfl, k, l, q⟩ := hh
  obtain rfl : u = Value.ref a := rx
  obtain ⟨ob, mA, od, J, rel, lo⟩ := kept_inst I1 k
  obtain ⟨w, hw, rw'⟩ := RelO.some_of (v := v) (o := mA n) (by rw [← l]; exact rel n)
  exact HandSPX.exc_get I1.kIn J T.ga T.gg T.exC (PySem.W.findObj_own T.hdC no rfl (by rw [lo, hw])) (handed_of rw') ⟨v, H1, I1.tok _, rw', q⟩
end

/-! ### isinstance of a kept exception, any answer -/
def rIsK (K : PySem.W.Frag) (D : Addr) : List V → Hp → VK → Prop := fun xs H Q => ∃ (a C : Addr) (fs : List (Str × V)) (b : Bool), xs = [.ref a, .ref D] ∧ Kept C fs a H ∧ ExcC K C ∧ PySem.W.kitOne K (.ref C) (.ref D) = some b ∧ Q (.bl b) H
section
variable {X : Cx} {C D : Addr}
theorem call_isK : CallR X (.builtin "isinstance") (rIsK X.K D) := by
  intro pins s σ H xs us Q I r h
  obtain ⟨a, C, fs, b, rfl, k, E, one, q⟩ := h
  obtain ⟨u1, u2, rfl, r1, r2⟩ := vals2 r
  obtain rfl : u1 = Value.ref a := r1
  obtain rfl : u2 = Value.ref D := r2
  obtain ⟨ob, mA, od, J, _⟩ := kept_inst I k
  exact PySem.W.kia_one (PySem.W.kitx_exc (any_cls E.hd) E.hg E.hk E.hs E.ha E.hn E.ht E.hm) I.kIn J one (fun z => nomatch z) fun tk => ⟨.bl b, H, I.tok tk, rfl, q⟩
end
/-! ### a kept exception's field, its class told by the promise -/
def tHg (K : PySem.W.Frag) (f : Str) (te : TE) : TE := fun σ H Q => te σ H fun x H1 => ∃ (a C : Addr) (fs : List (Str × V)) (v : V), x = .ref a ∧ Kept C fs a H1 ∧ XfC K C ∧ PySem.W.findIn K (.ref C) f = some none ∧ fs.lookup f = some v ∧ Q v H1
section
variable {X : Cx}
theorem pe_hg {e : Expr} {te : TE} {pos : Pos} {n : Str} (he : PE X e te) (hb : attributeBase e n X.env (eval e X.env) = eval e X.env := by rfl) : PE X (.Attribute e n pos) (tHg X.K n te) := by
  refine ⟨fun pins s σ H Q I h => attr_of hb (thn (he.run pins s σ H _ I h) fun u s1 hh => ?_)⟩
  obtain ⟨x, H1, I1, rx, a, C, fs, v, rfl, k, T, no, l, q⟩ := hh
  obtain rfl : u = Value.ref a := rx
  obtain ⟨ob, mA, od, J, rel, lo⟩ := kept_inst I1 k
  obtain ⟨w, hw, rw'⟩ := RelO.some_of (v := v) (o := mA n) (by rw [← l]; exact rel n)
  exact HandSPX.exc_get I1.kIn J T.ga T.gg T.exC (PySem.W.findObj_own T.hdC no rfl (by rw [lo, hw])) (handed_of rw') ⟨v, H1, I1.tok _, rw', q⟩
end
/-! ### o.m(k = v, ..) -/
def tMethK (C : Addr) (m : Str) (nk : Nat) (sp : Sp) (gV : List V → List V → List V) (E : XK) (ta : TE) (tk : TA) : TE := fun σ H Q => ta σ H fun x H1 => ∃ a dx fs, x = .ref a ∧ H1 a = some (.ins C dx fs) ∧ fs.lookup m = none ∧ tk σ H1 fun zs H2 => zs.length = nk ∧ sp (gV [x] zs) H2 Q E
section
variable {X : Cx} {CX : CXT} {k : Nat} {f C : Addr} {fd : FuncData} {ps ks : List Str} {sp : Sp} {E : XK} {m : Str} {pos apos : Pos} {o : Expr} {kws : List Keyword} {ta : TE} {tk : TA} {g : List Value → List Value → List Value} {gV : List V → List V → List V}
theorem pe_methK0 {pl : Sem Bool} (he : PE X o ta) (c : Cls X.K C) (hm : Meth X.K C m f) (F : FnOk X.prog X.w X.K X.mg X.base CX k f fd ps sp) (hr : Room k X.A) (hb : KBn X.K fd ps 1 ks g gV) (hx : Passes CX X E) (hkw : PK X kws tk)
    (hall : (backToKw pos (keywordEach kws X.env)).all (·.1.isSome) = true := by rfl) (hks : (backToKw pos (keywordEach kws X.env)).filterMap (·.1) = ks := by rfl)
    (hpl : ((backTo pos (starEach [] X.env)).any (·.1) || (backToKw pos (keywordEach kws X.env)).any (·.1.isNone)) = false := by rfl)
    (ht : eval (.Call (.Attribute o m apos) [] kws pos) X.env = (do
      let ov ← eval o X.env
      standAt apos.atName
      let (f, first) ← holding [ov] (getMethod ov m pl)
      callWith pos f first (backTo pos (starEach [] X.env)) (backToKw pos (keywordEach kws X.env))) := by rfl) :
    PE X (.Call (.Attribute o m apos) [] kws pos) (tMethK C m ks.length sp gV E ta tk) := by
  refine ⟨fun pins s σ H Q I h => ?_⟩
  refine PySem.W.methodCall_KW (pl := pl) (thn (he.run pins s σ H _ I h) fun u s1 ⟨x, H1, I1, rx, a, dx, fs, ex, ea, l, q⟩ => ?_) ht
  subst ex
  obtain rfl : u = Value.ref a := rx
  refine getmeth_ok I1 ea c hm l ?_
  refine PySem.W.callWith_KW0 (first := [.ref a]) (h₀ := X.base) I1.ok.mod.kin hm.kp hall ?_ hpl
  refine thn (hkw.run pos pins s1 σ H1 _ I1 q) fun ws s2 ⟨zs, H2, I2, rz, l2, q2⟩ => ⟨I2.kIn, ?_⟩
  rw [hks]
  exact run_fnN (us := [.ref a]) (vs := [.ref a]) F hr hb hx I2 (.cons rfl .nil) rz rfl l2 q2
end
end K14

namespace K14
open PySem PySem.Spec PyProof.Rows L2
theorem pe_idxK {X : Cx} {e : Expr} {to : TE} {t : TA} (K : PySem.W.Frag) (B : PE X e (tBM X.K "list" (rIndex X.K) to t)) (h : X.K = K := by rfl) : PE X e (tBM K "list" (rIndex K) to t) := by
  subst h
  exact B
theorem eqV_int (i j : Int) : eqV (.int i) (.int j) = (i == j) := rfl
theorem flat_nV (ns : List Nat) : (nV ns).all flatV = true := by
  unfold nV
  rw [List.all_map]
  exact List.all_eq_true.mpr fun _ _ => rfl
theorem nV_of {ns : List Nat} {i n : Nat} (h : ns[i]? = some n) : (nV ns)[i]? = some (.int (n : Nat)) := by
  unfold nV
  rw [List.getElem?_map, List.getElem?_map, h]
  rfl
theorem LP.getD {H : Hp} {D : Addr} {ts : List Addr} {ps : List (Int × Int)} {i : Nat} (h : LP H D ts ps) (hi : i < ps.length) : (ts.map V.ref)[i]? = some (.ref (ts.getD i 0)) ∧ Pr H (ts.getD i 0) (ps.getD i (0, 0)) := by
  obtain ⟨g, q, eg, eq, r⟩ := h.at hi
  have e1 : ts.getD i 0 = g := by
    rw [List.getElem?_map] at eg
    cases e : ts[i]? with
    | none =>
      rw [e] at eg
      cases eg
    | some z =>
      rw [e] at eg
      rw [List.getD_eq_getElem?_getD, e]
      exact V.ref.inj (Option.some.inj eg)
  have e2 : ps.getD i (0, 0) = q := by
    rw [List.getD_eq_getElem?_getD, eq]
    rfl
  rw [e1, e2]
  exact ⟨eg, r⟩
theorem sk_get {ps : List (Int × Int)} {i : Nat} (hi : i + 1 < ps.length) : (sk 0 ps).getD i 0 = (ps.getD (i + 1) (0, 0)).1 - (ps.getD 0 (0, 0)).1 ∧ (sk 1 ps).getD i 0 = (ps.getD (i + 1) (0, 0)).2 - (ps.getD 0 (0, 0)).2 := by
  cases ps with
  | nil => exact absurd hi (Nat.not_lt_zero _)
  | cons p0 qs =>
    have hi : i < qs.length := by simpa using hi
    have e : (p0 :: qs).getD (i + 1) (0, 0) = qs[i] := by
      rw [List.getD_eq_getElem?_getD, List.getElem?_cons_succ, List.getElem?_eq_getElem hi]
      rfl
    rw [e]
    exact sk_at hi
theorem mrow_at {m : Nat → Nat → Int} {n i j : Nat} (hj : j < n) : ((mrow m n i).map V.int)[j]? = some (.int (m i j)) := by
  unfold mrow
  rw [List.getElem?_map, List.getElem?_map, List.getElem?_range hj]
  rfl
theorem SB.free {p l : Addr} {H H' : Hp} {n : Nat} (v : Lens H p n) (s : SB p H H') (h : H' l = none) : H l = none := by
  cases e : H l with
  | none => rfl
  | some o =>
    by_cases z : l = p
    · obtain ⟨c, x, y, g⟩ := v.at
      obtain ⟨x', y', g'⟩ := s.2 _ _ _ g
      rw [← z, h] at g'
      cases g'
    · rw [s.1 _ _ z e] at h
      cases h
theorem nil_in {σ : L2.St} {H : Hp} {R : List V → Hp → Prop} (h : R [] H) : tNil σ H R := h
theorem en_sh (q : Int × Int) : SeqAt.shaped (en q) = true := rfl
theorem Pr.dp {K : PySem.W.Frag} {H : Hp} {g : Addr} {q : Int × Int} (h : Pr H g q) : Dp K H (.ref g) (en q) := .tup (SqT.of h) (.cons (.int _) (.cons (.int _) .nil))
end K14

namespace K14
open PySem PySem.Spec PyProof.Rows L2
/-! ### one pin less, one more -/
def eN (n i : Nat) : List Nat := (List.range i).filter fun k => decide (k ≠ n)
theorem eN_succ (n i : Nat) : eN n (i + 1) = if i = n then eN n i else eN n i ++ [i] := by
  unfold eN
  rw [List.range_succ, List.filter_append]
  by_cases h : i = n
  · rw [if_pos h, List.filter_cons, if_neg (by simp [h]), List.filter_nil, List.append_nil]
  · rw [if_neg h, List.filter_cons, if_pos (by simpa using h), List.filter_nil]
theorem pick_app (ps : List (Int × Int)) (ns ms : List Nat) : pick ps (ns ++ ms) = pick ps ns ++ pick ps ms := List.map_append
theorem pick_one {ps : List (Int × Int)} {i : Nat} (h : i < ps.length) : pick ps [i] = [ps[i]] := by
  show [ps.getD i (0, 0)] = _
  rw [List.getD_eq_getElem?_getD, List.getElem?_eq_getElem h]
  rfl
theorem pick_eN {ps : List (Int × Int)} {n : Nat} (hn : n < ps.length) : ∀ i, i ≤ ps.length → pick ps (eN n i) = if i ≤ n then ps.take i else ps.take n ++ (ps.drop (n + 1)).take (i - n - 1) := by
  intro i
  induction i with
  | zero => exact fun _ => rfl
  | succ i ih =>
    intro h
    have ih := ih (by omega)
    rw [eN_succ]
    rcases Nat.lt_trichotomy i n with l | l | l
    · rw [if_neg (by omega), pick_app, ih, if_pos (by omega), if_pos (by omega), pick_one (by omega), take_more (List.getElem?_eq_getElem (show i < ps.length by omega))]
    · rw [if_pos l, ih, if_pos (by omega), if_neg (by omega), l, show n + 1 - n - 1 = 0 by omega, List.take_zero, List.append_nil]
    · rw [if_neg (by omega), pick_app, ih, if_neg (by omega), if_neg (by omega), pick_one (by omega), List.append_assoc]
      have e : (ps.drop (n + 1))[i - n - 1]? = some ps[i] := by
        rw [List.getElem?_drop, show n + 1 + (i - n - 1) = i by omega, List.getElem?_eq_getElem (show i < ps.length by omega)]
      rw [← take_more e, show i - n - 1 + 1 = i + 1 - n - 1 by omega]
theorem pick_less {ps : List (Int × Int)} {n : Nat} (hn : n < ps.length) : pick ps (eN n ps.length) = ps.take n ++ ps.drop (n + 1) := by
  rw [pick_eN hn _ (Nat.le_refl _), if_neg (by omega), List.take_of_length_le (l := ps.drop (n + 1)) (by rw [List.length_drop]; omega)]
theorem less_len {ps : List (Int × Int)} {n : Nat} (hn : n < ps.length) : (ps.take n ++ ps.drop (n + 1)).length = ps.length - 1 := by
  rw [List.length_append, List.length_take, List.length_drop]
  omega
theorem less_ord {ps : List (Int × Int)} {n : Nat} (hn : n < ps.length) : OrdN (eN n ps.length ++ [n]) ps.length := by
  have nin : n ∉ eN n ps.length := fun h => by
    unfold eN at h
    have := (List.mem_filter.mp h).2
    simp at this
  refine ⟨?_, fun k hk => ?_, ?_, fun i hi => ?_⟩
  · rw [List.nodup_append]
    refine ⟨List.nodup_range.filter _, by simp, fun x hx y hy => ?_⟩
    rw [List.mem_singleton.mp hy]
    rintro rfl
    exact nin hx
  · rcases List.mem_append.mp hk with z | z
    · unfold eN at z
      exact List.mem_range.mp (List.mem_filter.mp z).1
    · rw [List.mem_singleton.mp z]
      exact hn
  · have := congrArg List.length (pick_less hn)
    rw [pick_len, less_len hn] at this
    rw [List.length_append, this]
    show ps.length - 1 + 1 = _
    omega
  · by_cases z : i = n
    · exact List.mem_append_right _ (by rw [z]; exact List.mem_singleton.mpr rfl)
    · exact List.mem_append_left _ (List.mem_filter.mpr ⟨List.mem_range.mpr hi, by simpa using z⟩)
theorem last_out {qs : List (Int × Int)} {q : Int × Int} {k : Nat} (h : qs.length = k) : (qs ++ [q]).take k ++ (qs ++ [q]).drop (k + 1) = qs := by
  subst h
  rw [List.take_left, List.drop_of_length_le (by rw [List.length_append]; show qs.length + 1 ≤ qs.length + 1; exact Nat.le_refl _), List.append_nil]
theorem front_ord (k : Nat) : OrdN ([k] ++ List.range k) (k + 1) := ord_perm (by rw [List.range_succ]; exact List.perm_append_comm)
theorem front_pick (ps : List (Int × Int)) (q : Int × Int) : pick (ps ++ [q]) ([ps.length] ++ List.range ps.length) = q :: ps := by
  rw [pick_app]
  have e1 : pick (ps ++ [q]) [ps.length] = [q] := by
    show [(ps ++ [q]).getD ps.length (0, 0)] = _
    rw [List.getD_eq_getElem?_getD, List.getElem?_append_right (Nat.le_refl _), Nat.sub_self]
    rfl
  have e2 : pick (ps ++ [q]) (List.range ps.length) = pick ps (List.range ps.length) := by
    refine List.map_congr_left fun n hn => ?_
    rw [List.getD_eq_getElem?_getD, List.getElem?_append_left (List.mem_range.mp hn), ← List.getD_eq_getElem?_getD]
  rw [e1, e2, pick_range]
  rfl
theorem nV_app (a b : List Nat) : nV (a ++ b) = nV a ++ nV b := by
  unfold nV
  rw [List.map_append, List.map_append]
theorem wo_at {K : PySem.W.Frag} {C CP CF a : Addr} {ps : List (Int × Int)} {H : Hp} {Q : VK} {E : XK} {n : Nat} {i : Int} (e : i = (n : Nat)) (pf : PicF H C a ps) (ok : OkP ps) (hn : n < ps.length) (h5 : 4 < ps.length) (h : NewP C (ps.take n ++ ps.drop (n + 1)) H Q) : Bx (spWo K C CP CF) [.ref a, .int i] H Q E := by
  subst e
  exact wo_in pf ok hn h5 h
theorem less_ok {ps : List (Int × Int)} {n : Nat} (ok : OkP ps) (hn : n < ps.length) (h5 : 4 < ps.length) : OkP (ps.take n ++ ps.drop (n + 1)) := by
  have l7 := ok.2.1
  refine ⟨by rw [less_len hn]; omega, by rw [less_len hn]; omega, fun q hq => ?_⟩
  rcases List.mem_append.mp hq with z | z
  · exact ok.2.2 q (List.mem_of_mem_take z)
  · exact ok.2.2 q (List.mem_of_mem_drop z)
theorem more_ok {ps : List (Int × Int)} {x y : Int} (ok : OkP ps) (l : ps.length < 7) (hx : -G9 ≤ x ∧ x ≤ G9) (hy : -G9 ≤ y ∧ y ≤ G9) : OkP (ps ++ [(x, y)]) := by
  have l4 := ok.1
  refine ⟨by rw [List.length_append]; show 4 ≤ ps.length + 1; omega, by rw [List.length_append]; show ps.length + 1 ≤ 7; omega, fun q hq => ?_⟩
  rcases List.mem_append.mp hq with z | z
  · exact ok.2.2 q z
  · rw [List.mem_singleton.mp z]
    exact ⟨hx.1, hx.2, hy.1, hy.2⟩
end K14

namespace GG
open PySem PySem.Spec PyProof.Rows L2
/-! ### defs that are called while nothing is being shown: the text of a value hangs on it -/
/-- no text of a list, a tuple, a dict is being made -/
def Shy (A : Around) : Prop := A.guards = some []
theorem Shy.deeper {A : Around} (h : Shy A) (env : Env) : Shy (A.deeper env) := h
/-- as FnOk, for calls while nothing is being shown -/
def FnG (P : Program) (w : World) (K : PySem.W.Frag) (mg : Str → Option Value) (base : Heap) (CX : CXT) (k : Nat) (f : Addr) (fd : FuncData) (ps : List Str) (sp : Sp) : Prop :=
  (∀ (xs : List V) (H : Hp) (Q : VK) (E : XK), sp xs H Q E → xs.length = ps.length) ∧
  ∀ (A : Around) (out : List Env) (z : Shared) (H : Hp) (g : Args) (us : List Value) (xs : List V) (Q : VK) (E : XK), Shy A → Room k A → Env0 P w K mg base A out z H → BindsTo z fd g (ps.zip us) → Vals xs us → sp xs H Q E →
    codeAny (model P w) A (.call (.ref f) g) (CR CX out P w H z Q E) z
section
variable {P : Program} {w : World} {K : PySem.W.Frag} {mg : Str → Option Value} {base : Heap} {CX : CXT} {k : Nat} {f : Addr} {fd : FuncData} {ps : List Str} {sp : Sp}
theorem FnG.of (F : FnOk P w K mg base CX k f fd ps sp) : FnG P w K mg base CX k f fd ps sp := ⟨F.len, fun A out z H g us xs Q E _ => F.run A out z H g us xs Q E⟩
theorem fn_g {x q : Str} {pr : Arguments} {bd : List Stmt} {sc : Scope} {dV kV dc pm cd ct oc : Value} {an od : Option Addr} {sl : Array (Option Value)} {N : List Str}
    (lk : K.lookup f = some ⟨oc, od, .func (PySem.W.fnOf x q pr bd sc dV kV dc pm an cd ct), sl⟩) (hc : PySem.W.codeIn K cd q = true) (S : FnScope N ps sc) (ln : ∀ (xs : List V) (H : Hp) (Q : VK) (E : XK), sp xs H Q E → xs.length = ps.length)
    (go : ∀ (A : Around) (out : List Env) (z : Shared) (H : Hp) (xs : List V) (Q : VK) (E : XK), Shy A → Room k (A.deeper (envOfC q sc z.heap.objs.size f cd)) → sp xs H Q E →
      ∃ t, PSs (cxOf CX P w K mg base N q sc f cd A out z H E) bd t ∧ t { nx := fun _ H' => Q .non H', rt := Q } (start N xs) H) :
    FnG P w K mg base CX (k + 1) f (PySem.W.fnOf x q pr bd sc dV kV dc pm an cd ct) ps sp := by
  refine ⟨ln, fun A out z H g us xs Q E sh hr e0 hb r h => ?_⟩
  have up : ∀ (b : Addr) (o : Obj), base.get? b = some o → z.heap.get? b = some o := fun b o e => (e0.bs b o e).1
  have kIn : K.In z.heap := e0.mod.kin.keeps up
  have kinds : ∀ y ∈ ps.zip us, sc.names.lookup y.1 = some .local ∨ (sc.names.lookup y.1 = some .cell ∧ ((cellsFrom (z.heap.objs.size + 1) sc.names []).lookup y.1).isSome = true) := by
    rintro ⟨n, v⟩ hy
    exact (S.par n (List.of_mem_zip hy).1).imp id fun e => ⟨e, PySem.W.cellsFrom_some _ _ _ (.inl e)⟩
  refine codeAny_call_function hr.depth (kIn _ _ lk) rfl S.co S.gen rfl (PySem.W.codeRec_of kIn hc) (hb _ _ _ _ (wpAny_newFunctionEnv_cells S.kind kinds fun e he s1 x => ?_))
  subst he
  refine ⟨(e0.mod.nolimit.keeps up).keeps x.toInCall.keep, codeAny_func ?_⟩
  obtain ⟨t, ht, hq⟩ := go A out z H xs Q E sh (hr.deeper _) h
  refine wpAny_mono (ht.run [] s1 (start N xs) H _ (inv_start S hr.hd e0 (ln _ _ _ _ h) r x) hq) (fun fl s' e => ?_) fun _ _ e => e
  cases fl with
  | ret u =>
    obtain ⟨v, σ, H', J, rv, qv⟩ := e
    exact ⟨v, H', J.os, J.bare, J.base, J.hok, rv, qv⟩
  | next =>
    obtain ⟨σ, H', J, qv⟩ := e
    exact ⟨V.non, H', J.os, J.bare, J.base, J.hok, rfl, qv⟩
  | brk =>
    obtain ⟨_, _, _, no⟩ := e
    exact no.elim
  | cont =>
    obtain ⟨_, _, _, no⟩ := e
    exact no.elim
end
section
variable {X : Cx} {CX : CXT} {k : Nat} {f : Addr} {fd : FuncData} {ps : List Str} {sp : Sp} {ds : List Value} {dvs : List V} {E : XK} {x : Str} {p pos : Pos} {e : Expr} {es : List Expr} {t : TA}
/-- f(e, ..) where nothing is being shown -/
theorem pe_cg (F : FnG X.prog X.w X.K X.mg X.base CX k f fd ps sp) (sh : Shy X.A) (hr : Room k X.A) (gl : Gl X x) (hm : X.mg x = some (.ref f)) (kp : PySem.W.keepIn X.K (.ref f) = true) (hb : Binds X.K fd ps ds) (hd : Vals dvs ds) (hx : Passes CX X E)
    (ha : PA X (e :: es) t) (nb : (x == ("__debug__" : Str)) = false := by decide) (st : starEach (e :: es) X.env = (false, eval e X.env) :: starEach es X.env := by rfl) (np : (backTo pos (starEach es X.env)).any (·.1) = false := by rfl) :
    PE X (.Call (.Name x p) (e :: es) [] pos) (tCall sp dvs E t) := by
  refine ⟨fun pins s σ H Q I h => wpAny_Call_Name_kw (ld_glob I gl hm ?_ nb)⟩
  refine PySem.W.callWith_K (h₀ := X.base) I.ok.mod.kin kp (thn (ha.run pos pins s σ H _ I h) ?_) st np
  rintro us s1 ⟨vs, H1, I1, r, q⟩
  have rr : Vals (vs ++ dvs) (us ++ ds) := r.append hd
  refine ⟨I1.kIn, wpAny_call (codeAny_mono (F.2 X.A X.stack s1 H1 ⟨us, []⟩ (us ++ ds) (vs ++ dvs) Q E sh hr I1.env0 (hb s1 us I1.kIn (by rw [← rr.length]; exact F.1 _ _ _ _ q)) rr q) ?_)⟩
  intro r' s2 hq
  cases r' with
  | error a => exact hx pins σ H1 s1 a s2 I1 hq
  | ok fl => cases fl with
    | ret u => exact I1.after hq
    | next => exact hq.elim
    | brk => exact hq.elim
    | cont => exact hq.elim
end
end GG

namespace GG
open PySem PySem.Spec PyProof.Rows L2
/-! ### repr(v) where nothing is being shown -/
/-- a dict from integers to integers -/
def dI (ms : List (Int × Int)) : PyData := .dict (ms.map fun m => (.int m.1, .int m.2))
/-- what is shown of v -/
def Rp (K : PySem.W.Frag) (H : Hp) (v : V) (d : PyData) : Prop := (Dp K H v d ∧ d.hasDict = false) ∨ ∃ (a : Addr) (ms : List (Int × Int)), v = .ref a ∧ H a = some (.dK (ms.map fun m => (Sum.inl m.1, V.int m.2))) ∧ d = dI ms
def rRep (K : PySem.W.Frag) : List V → Hp → VK → Prop := fun xs H Q => ∃ (v : V) (d : PyData), xs = [v] ∧ Rp K H v d ∧ d.showable = true ∧ d.shown.length ≤ sizeLine ∧ d.depth ≤ 10 ∧ Q (.str d.shown) H
section
variable {P : Program} {w : World} {h : Heap}
theorem reads_ints {es : List DictEntry} {kvs : List (Key × Value)} (p : Pairs (mixKind P w) es kvs) : ∀ {ms : List (Int × Int)}, KV (ms.map fun m => ((Sum.inl m.1 : Key), V.int m.2)) kvs → ReadsAll h (es.map (·.key)) (ms.map fun m => PyData.int m.1) [] ∧ ReadsAll h (es.map (·.val)) (ms.map fun m => PyData.int m.2) [] := by
  induction p with
  | nil =>
    intro ms r
    cases ms with
    | nil => exact ⟨.nil, .nil⟩
    | cons _ _ => cases r
  | @cons e kv es kvs h1 h2 _ ih =>
    intro ms r
    cases ms with
    | nil => cases r
    | cons m ms =>
      cases r with
      | cons r0 r1 =>
        obtain ⟨a, b⟩ := ih r1
        obtain ⟨k, v⟩ := kv
        obtain ⟨z1, z2⟩ := r0
        have z1 : Sum.inl m.1 = k := z1
        subst z1
        obtain ⟨t, rfl⟩ := z2
        rcases keyIs_shape (k := Sum.inl m.1) (v := e.key) h1 with ⟨i, u, q1, q2⟩ | ⟨_, _, q1, _⟩
        · cases q1
          refine ⟨?_, ?_⟩
          · show ReadsAll h (e.key :: _) _ ([] ++ [])
            rw [q2]
            exact .cons (.int _ _) a
          · show ReadsAll h (e.val :: _) _ ([] ++ [])
            rw [h2]
            exact .cons (.int _ _) b
        · cases q1
end
section
variable {X : Cx}
theorem call_repr (sh : Shy X.A) (hu : X.A.units + 40 < cLine) : CallR X (.builtin "repr") (rRep X.K) := by
  intro pins s σ H xs us Q I r h
  obtain ⟨v, d, rfl, rp, sw, sz, dp, q⟩ := h
  obtain ⟨u, rfl, ru⟩ := vals1 r
  have fin : ∀ (h' : Heap) (t tk : Tok), (∀ b o, s.heap.get? b = some o → h'.get? b = some o) → EP X pins σ Q (.str d.shown t) { s with heap := h', toks := tk } := fun h' t tk k => ⟨.str d.shown, H, I.kept k, ⟨t, rfl⟩, q⟩
  have fin0 : EP X pins σ Q (.str d.shown s.toks) { s with toks := s.toks + 1 } := fin s.heap s.toks _ fun _ _ e => e
  rcases rp with ⟨hd, nd⟩ | ⟨a, ms, rfl, ha, rfl⟩
  · obtain ⟨as, rd⟩ := Dp.reads I d v u hd ru
    cases rd with
    | none => exact PySem.P.repr_of_none fin0
    | bool b => exact PySem.P.repr_of_bool fin0
    | int i t => exact PySem.P.repr_of_int (by simpa [PyData.showable] using sw) fin0
    | str x t => exact PySem.P.repr_of_str fin0 sz
    | list h1 h2 h3 h4 => exact repr_of_reads' (.list h1 h2 h3 h4) sw (fun z => by rw [nd] at z; cases z) sh (by omega) (fun _ _ e => e) fin sz
    | tuple h1 h2 h3 h4 => exact repr_of_reads' (.tuple h1 h2 h3 h4) sw (fun z => by rw [nd] at z; cases z) sh (by omega) (fun _ _ e => e) fin sz
    | dict _ _ _ _ _ => cases hd
  · obtain rfl : u = Value.ref a := ru
    obtain ⟨_, low, vs, kv, o, es, ep, h1, h2, h3, _, pr, _⟩ := dk_of I.hok ha
    obtain ⟨rk, rv⟩ := reads_ints (h := s.heap) pr kv
    have rd : Reads s.heap (.ref a) (dI ms) (a :: [] ++ []) := .dict h1 h2.1 h3 (by rw [List.map_map]; exact rk) (by rw [List.map_map]; exact rv)
    exact repr_of_reads' rd sw (fun _ z => by
      rw [List.append_nil, List.mem_singleton] at z
      rw [z] at low
      simp at low) sh (by omega) (fun _ _ e => e) fin sz
end
end GG

namespace K14
open PySem PySem.Spec PyProof.Rows L2
/-! ### isinstance of what is kept: nothing, or an exception -/
inductive Cau (K : PySem.W.Frag) (H : Hp) : V → Value → Prop
  | non : Cau K H .non (.type "NoneType")
  | ex {a C : Addr} {fs : List (Str × V)} (k : Kept C fs a H) (E : ExcC K C) : Cau K H (.ref a) (.ref C)
def rCau (K : PySem.W.Frag) : List V → Hp → VK → Prop := fun xs H Q => ∃ (x : V) (D : Addr) (t : Value) (b : Bool), xs = [x, .ref D] ∧ Cau K H x t ∧ PySem.W.kitOne K t (.ref D) = some b ∧ Q (.bl b) H
def rCauT (K : PySem.W.Frag) : List V → Hp → VK → Prop := fun xs H Q => ∃ (x : V) (tp : Addr) (Ds : List Addr) (t : Value) (b : Bool), xs = [x, .ref tp] ∧ H tp = some (.tup (Ds.map V.ref)) ∧ Cau K H x t ∧ PySem.W.kitAny K t (Ds.map Value.ref) = some b ∧ Q (.bl b) H
section
variable {X : Cx}
theorem cau_kit {pins : List (Addr × Obj)} {σ : L2.St} {H : Hp} {s : Shared} {x : V} {u t : Value} (I : Inv X pins σ H s) (c : Cau X.K H x t) (r : RelV x u) : ∃ P : Heap → Prop, PySem.W.KitX X.K u t P ∧ P s.heap ∧ u ≠ .builtin "__main__.__loader__#opaque" := by
  cases c with
  | non => exact kit_of I r (.base .non)
  | ex k E =>
    rename_i a C fs
    obtain rfl : u = Value.ref a := r
    obtain ⟨ob, mA, od, J, _⟩ := kept_inst I k
    exact ⟨_, PySem.W.kitx_exc (any_cls E.hd) E.hg E.hk E.hs E.ha E.hn E.ht E.hm, J, fun z => nomatch z⟩
theorem call_cau : CallR X (.builtin "isinstance") (rCau X.K) := by
  intro pins s σ H xs us Q I r h
  obtain ⟨x, D, t, b, rfl, c, e, q⟩ := h
  obtain ⟨u1, u2, rfl, r1, r2⟩ := vals2 r
  obtain rfl : u2 = Value.ref D := r2
  obtain ⟨P, Z, p, hx⟩ := cau_kit I c r1
  exact PySem.W.kia_one Z I.kIn p e hx fun tk => ⟨.bl b, H, I.tok tk, rfl, q⟩
theorem refs_vals {Ds : List Addr} {its : List Value} (h : Vals (Ds.map V.ref) its) : its = Ds.map Value.ref := by
  induction Ds generalizing its with
  | nil => cases h; rfl
  | cons d ds ih =>
    cases h with
    | cons r t =>
      rename_i u us
      obtain rfl : u = Value.ref d := r
      rw [ih t]
      rfl
theorem call_cauT : CallR X (.builtin "isinstance") (rCauT X.K) := by
  intro pins s σ H xs us Q I r h
  obtain ⟨x, tp, Ds, t, b, rfl, hT, c, e, q⟩ := h
  obtain ⟨u1, u2, rfl, r1, r2⟩ := vals2 r
  cases (show u2 = Value.ref tp from r2)
  obtain ⟨P, Z, p, hx⟩ := cau_kit I c r1
  obtain ⟨_, its, rv, o, h1, h2, n, h3⟩ := (show ObjOk X.prog X.w H s.heap tp (.tup (Ds.map V.ref)) from I.hok tp _ hT)
  have ei := refs_vals rv
  subst ei
  obtain ⟨oc, od', dt, sl⟩ := o
  simp only at h2 h3
  subst h2 h3
  exact PySem.W.kia_tup Z I.kIn p h1 e hx fun tk => ⟨.bl b, H, I.tok tk, rfl, q⟩
end
/-- what is shown of v, from here on -/
def Sh (K : PySem.W.Frag) (H : Hp) (v : V) (d : PyData) : Prop := d.showable = true ∧ d.shown.length ≤ sizeLine ∧ d.depth ≤ 10 ∧ ∀ H', Same H H' → GG.Rp K H' v d
theorem Sh.same {K : PySem.W.Frag} {H H1 : Hp} {v : V} {d : PyData} (h : Sh K H v d) (s : Same H H1) : Sh K H1 v d := ⟨h.1, h.2.1, h.2.2.1, fun H' s' => h.2.2.2 H' (s.trans s')⟩
theorem Sh.rep {K : PySem.W.Frag} {H : Hp} {v : V} {d : PyData} {Q : VK} (h : Sh K H v d) (q : Q (.str d.shown) H) : GG.rRep K [v] H Q := ⟨v, d, rfl, h.2.2.2 H Same.me, h.1, h.2.1, h.2.2.1, q⟩
end K14

namespace K14
open PySem PySem.Spec PyProof.Rows L2
/-! ### what stands while lambdas are made -/
abbrev Ext := LamX.ExtN
theorem ext_of {H H' : Hp} (s : Same H H') : Ext H H' := LamX.ExtN.of s
section
variable {H H' : Hp} {a C p : Addr} {xs : List V} {ps : List (Int × Int)} {ts : List Addr} {n : Nat}
theorem Ext.tup (s : Ext H H') (h : H a = some (.tup xs)) : H' a = some (.tup xs) := s _ _ h (by intro ps z; cases z)
theorem Ext.lst (s : Ext H H') (h : H a = some (.lst xs)) : H' a = some (.lst xs) := s _ _ h (by intro ps z; cases z)
theorem LP.ext (h : LP H a ts ps) (s : Ext H H') : LP H' a ts ps := ⟨Ext.lst s h.1, paired_mono h.2 fun _ _ z => Ext.tup s z⟩
theorem PT.ext (h : PT H a ps) (s : Ext H H') : PT H' a ps := let ⟨ts, e, b⟩ := h; ⟨ts, Ext.tup s e, paired_mono b fun _ _ z => Ext.tup s z⟩
theorem Two.ext {us vs : List Int} (h : Two H a us vs) (s : Ext H H') : Two H' a us vs := let ⟨r0, r1, e, e0, e1⟩ := h; ⟨r0, r1, Ext.tup s e, Ext.tup s e0, Ext.tup s e1⟩
theorem PicF.ext (h : PicF H C a ps) (s : Ext H H') : PicF H' C a ps := let ⟨dx, t, u, e, q, r⟩ := h; ⟨dx, t, u, s _ _ e (by intro ps z; cases z), q.ext s, r.ext s⟩
theorem Lens.ext (v : Lens H p n) (s : Ext H H') : Lens H' p n := by
  obtain ⟨c, ns, x, y, h1, h2, h⟩ := v
  exact ⟨c, ns, x, y, Ext.lst s h1, Ext.lst s h2, h⟩
theorem Kd.ext {K : PySem.W.Frag} {v : V} {t : Bool} (k : Kd K H v t) (s : Ext H H') : Kd K H' v t := by
  cases k with
  | non => exact .non
  | bl b => exact .bl b
  | int i => exact .int i
  | str x => exact .str x
  | lst e => exact .lst (Ext.lst s e)
  | tup e => exact .tup (Ext.tup s e)
  | dK e => exact .dK (s _ _ e (by intro ps z; cases z))
  | ins e P => exact .ins (s _ _ e (by intro ps z; cases z)) P
end
/-- but at p, and but tables, all stands as it stood -/
def Kq (p : Addr) (H H' : Hp) : Prop := ∀ b o, b ≠ p → (∀ ps, o ≠ .tbl ps) → H b = some o → H' b = some o
theorem Kq.refl (p : Addr) (H : Hp) : Kq p H H := fun _ _ _ _ h => h
theorem Kq.trans {p : Addr} {H H1 H2 : Hp} (a : Kq p H H1) (b : Kq p H1 H2) : Kq p H H2 := fun c o n t h => b c o n t (a c o n t h)
theorem Kq.ofS {p : Addr} {H H' : Hp} (s : SB p H H') : Kq p H H' := fun b o n _ h => s.1 b o n h
theorem Kq.ofE {p : Addr} {H H' : Hp} (s : Ext H H') : Kq p H H' := fun b o _ t h => s b o h t
theorem LP.kq {p a : Addr} {H H' : Hp} {ts : List Addr} {ps : List (Int × Int)} {n : Nat} (h : LP H a ts ps) (v : Lens H p n) (na : a ≠ p) (k : Kq p H H') : LP H' a ts ps :=
  ⟨k _ _ na (by intro ps z; cases z) h.1, paired_mono h.2 fun _ _ z => k _ _ (v.not_tup z) (by intro ps z; cases z) z⟩
theorem codeO_no {c : Addr} {q : Str} {xs : List V} : LamX.CodeO c q ≠ .lst xs := fun z => by
  unfold LamX.CodeO at z
  cases z
theorem tabs_sb {T : List (Addr × Str)} {H H' : Hp} {p : Addr} {n : Nat} (t : LamX.Tabs T H) (v : Lens H p n) (s : SB p H H') : LamX.Tabs T H' := fun x hx => by
  obtain ⟨_, _, _, hp⟩ := v.at
  obtain ⟨ps, h1, h2, h3⟩ := t x hx
  refine ⟨ps, s.1 _ _ (L2.ne_of h1 hp (by intro z; cases z)) h1, h2, fun pos cv hc => ?_⟩
  obtain ⟨c, e1, e2⟩ := h3 pos cv hc
  exact ⟨c, e1, s.1 _ _ (L2.ne_of e2 hp codeO_no) e2⟩
theorem tabs_upd {T : List (Addr × Str)} {H : Hp} {l : Addr} {xs : List V} {o : HO} (t : LamX.Tabs T H) (hl : H l = some (.lst xs)) : LamX.Tabs T (upd H l o) := fun x hx => by
  obtain ⟨ps, h1, h2, h3⟩ := t x hx
  refine ⟨ps, by rw [upd_ne (L2.ne_of h1 hl (by intro z; cases z))]; exact h1, h2, fun pos cv hc => ?_⟩
  obtain ⟨c, e1, e2⟩ := h3 pos cv hc
  exact ⟨c, e1, by rw [upd_ne (L2.ne_of e2 hl codeO_no)]; exact e2⟩

theorem lam_passes {X : Cx} {A : Around} {outer : List Env} {s : Shared} {H : Hp} {E : XK} {scope : Scope} {f c' : Addr} : Passes (L2.CX X.prog X.w) (LamX.lamCx X A outer s H E scope f c') E :=
  passes_call (X := LamX.lamCx X A outer s H E scope f c') (takes_of rfl rfl rfl rfl) (fun _ _ _ _ h => h)

theorem kq_same {p : Addr} {H H' : Hp} (s : Same H H') : Kq p H H' := Kq.ofE (ext_of s)
theorem PicF.kq {H H' : Hp} {C a p : Addr} {n : Nat} {ps : List (Int × Int)} (h : PicF H C a ps) (v : Lens H p n) (s : Kq p H H') : PicF H' C a ps := by
  obtain ⟨c, x, y, e⟩ := v.at
  obtain ⟨dx, t, u, ha, ⟨ts, ht, pr⟩, r0, r1, hu, h0, h1⟩ := h
  have tp : ∀ {b : Addr} {xs : List V}, H b = some (.tup xs) → H' b = some (.tup xs) := fun e => s _ _ (v.not_tup e) (by intro ps z; cases z) e
  exact ⟨dx, t, u, s _ _ (L2.ne_of ha e (by intro z; cases z)) (by intro ps z; cases z) ha, ⟨ts, tp ht, paired_mono pr fun _ _ z => tp z⟩, r0, r1, tp hu, tp h0, tp h1⟩
theorem keptl {H H' : Hp} {a p : Addr} {xs : List V} (h : H a = some (.lst xs)) (n : a ≠ p) (s : Kq p H H') : H' a = some (.lst xs) := s _ _ n (by intro ps z; cases z) h
/-- but at p, and but tables, all stands; what draws keeps its cells -/
structure Kz (p : Addr) (H H' : Hp) : Prop where
  k : Kq p H H'
  c : ∀ c x y, H p = some (.lst [.ref c, x, y]) → ∃ x' y', H' p = some (.lst [.ref c, x', y'])
theorem Kz.refl (p : Addr) (H : Hp) : Kz p H H := ⟨Kq.refl p H, fun _ _ _ h => ⟨_, _, h⟩⟩
theorem Kz.trans {p : Addr} {H H1 H2 : Hp} (a : Kz p H H1) (b : Kz p H1 H2) : Kz p H H2 := ⟨a.k.trans b.k, fun c x y h => let ⟨_, _, h1⟩ := a.c c x y h; b.c _ _ _ h1⟩
theorem Kz.ofS {p : Addr} {H H' : Hp} (s : SB p H H') : Kz p H H' := ⟨Kq.ofS s, s.2⟩
theorem Kz.ofE {p : Addr} {H H' : Hp} (s : Ext H H') : Kz p H H' := ⟨Kq.ofE s, fun _ _ _ h => ⟨_, _, Ext.lst s h⟩⟩
theorem Kz.same {p : Addr} {H H' : Hp} (s : Same H H') : Kz p H H' := Kz.ofE (ext_of s)
theorem kz_upd {p l : Addr} {H H' : Hp} {o : HO} (s : Kz p H H') (nl : H l = none) : Kz p H (upd H' l o) := ⟨fun b u n t h => by
  rw [upd_ne (ne_of_none h nl)]
  exact s.k b u n t h, fun c x y h => by
  obtain ⟨x', y', e⟩ := s.c c x y h
  exact ⟨x', y', by rw [upd_ne (ne_of_none h nl)]; exact e⟩⟩
theorem lens_kupd {H4 H : Hp} {p D : Addr} {n n4 : Nat} {o : HO} (v : Lens H p n) (v4 : Lens H4 p n4) (s : Kz p H4 H) (hD : H4 D = none) : Lens (L2.upd H D o) p n := by
  obtain ⟨c, ns, x, y, h1, h2, h3, h4, h5⟩ := v
  obtain ⟨c4, ms, x4, y4, g1, g2, g3, _⟩ := v4
  obtain ⟨x', y', e⟩ := s.c _ _ _ g1
  rw [h1] at e
  have z : c = c4 := V.ref.inj (List.cons.inj (HO.lst.inj (Option.some.inj e))).1
  subst z
  exact ⟨c, ns, x, y, by rw [upd_ne (ne_of_none g1 hD)]; exact h1, by rw [upd_ne (ne_of_none g2 hD)]; exact h2, h3, h4, h5⟩
/-! ### values that are drawn, whatever is drawn and made later -/
structure Val (p : Addr) (K : PySem.W.Frag) (H : Hp) (x : V) (t : Bool) (D : PyData) : Prop where
  w : D.showable = true
  z : D.shown.length ≤ sizeLine
  d : D.depth ≤ 10
  o : PyData.strOk D.shown = true
  r : ∀ H', Kq p H H' → Kd K H' x t ∧ GG.Rp K H' x D
theorem Val.kq {p : Addr} {K : PySem.W.Frag} {H H' : Hp} {x : V} {t : Bool} {D : PyData} (v : Val p K H x t D) (k : Kq p H H') : Val p K H' x t D := ⟨v.w, v.z, v.d, v.o, fun H2 k2 => v.r H2 (k.trans k2)⟩
theorem Val.sh {p : Addr} {K : PySem.W.Frag} {H : Hp} {x : V} {t : Bool} {D : PyData} (v : Val p K H x t D) : Sh K H x D := ⟨v.w, v.z, v.d, fun H' s => (v.r H' (kq_same s)).2⟩
theorem Val.kd {p : Addr} {K : PySem.W.Frag} {H : Hp} {x : V} {t : Bool} {D : PyData} (v : Val p K H x t D) : Kd K H x t := (v.r H (Kq.refl p H)).1
section
variable {p a : Addr} {K : PySem.W.Frag} {H : Hp}
theorem val_non : Val p K H .non false .none := ⟨rfl, by decide +kernel, by decide +kernel, by decide +kernel, fun _ _ => ⟨.non, .inl ⟨.non, rfl⟩⟩⟩
theorem val_bl (b : Bool) : Val p K H (.bl b) false (.bool b) := ⟨rfl, by cases b <;> decide +kernel, by show 0 ≤ 10; decide, by cases b <;> decide +kernel, fun _ _ => ⟨.bl b, .inl ⟨.bl b, rfl⟩⟩⟩
theorem val_int {i : Int} (h1 : (PyData.int i).showable = true) (h2 : (PyData.int i).shown.length ≤ sizeLine) (h3 : PyData.strOk (PyData.int i).shown = true) : Val p K H (.int i) false (.int i) := ⟨h1, h2, by show 0 ≤ 10; decide, h3, fun _ _ => ⟨.int i, .inl ⟨.int i, rfl⟩⟩⟩
theorem val_str {z : Str} (h2 : (PyData.str z).shown.length ≤ sizeLine) (h3 : PyData.strOk (PyData.str z).shown = true) : Val p K H (.str z) false (.str z) := ⟨rfl, h2, by show 0 ≤ 10; decide, h3, fun _ _ => ⟨.str z, .inl ⟨.str z, rfl⟩⟩⟩
theorem val_tup {i : Int} (n : a ≠ p) (e : H a = some (.tup [.int i])) (h1 : (PyData.tuple [.int i]).showable = true) (h2 : (PyData.tuple [.int i]).shown.length ≤ sizeLine) (h3 : PyData.strOk (PyData.tuple [.int i]).shown = true) : Val p K H (.ref a) true (.tuple [.int i]) :=
  ⟨h1, h2, by show 1 ≤ 10; decide, h3, fun H' k => ⟨.tup (k _ _ n (by intro ps z; cases z) e), .inl ⟨.tup (SqT.of (k _ _ n (by intro ps z; cases z) e)) (.cons (.int i) .nil), rfl⟩⟩⟩
theorem val_lst {i : Int} (n : a ≠ p) (e : H a = some (.lst [.int i])) (h1 : (PyData.list [.int i]).showable = true) (h2 : (PyData.list [.int i]).shown.length ≤ sizeLine) (h3 : PyData.strOk (PyData.list [.int i]).shown = true) : Val p K H (.ref a) true (.list [.int i]) :=
  ⟨h1, h2, by show 1 ≤ 10; decide, h3, fun H' k => ⟨.lst (k _ _ n (by intro ps z; cases z) e), .inl ⟨.lst (SqL.of (k _ _ n (by intro ps z; cases z) e)) (.cons (.int i) .nil), rfl⟩⟩⟩
theorem val_dK {ms : List (Int × Int)} (n : a ≠ p) (e : H a = some (.dK (ms.map fun m => (Sum.inl m.1, V.int m.2)))) (h1 : (GG.dI ms).showable = true) (h2 : (GG.dI ms).shown.length ≤ sizeLine) (h3 : PyData.strOk (GG.dI ms).shown = true) (h4 : (GG.dI ms).depth ≤ 10) : Val p K H (.ref a) false (GG.dI ms) :=
  ⟨h1, h2, h4, h3, fun H' k => ⟨.dK (k _ _ n (by intro ps z; cases z) e), .inr ⟨a, ms, rfl, k _ _ n (by intro ps z; cases z) e, rfl⟩⟩⟩
theorem small_shown : ∀ n : Fin 9, (PyData.int ((n.val : Nat) : Int)).showable = true ∧ (PyData.int ((n.val : Nat) : Int)).shown.length ≤ sizeLine ∧ PyData.strOk (PyData.int ((n.val : Nat) : Int)).shown = true := by decide +kernel
theorem val_nat {n : Nat} (h : n < 9) : Val p K H (.int (n : Nat)) false (.int (n : Nat)) := val_int (small_shown ⟨n, h⟩).1 (small_shown ⟨n, h⟩).2.1 (small_shown ⟨n, h⟩).2.2
end
/-! ### a list of what was heard -/
abbrev Ee := Option (Str × V)
def T2 (H : Hp) (x : V) : Ee → Prop
  | none => x = .non
  | some e => ∃ t, x = .ref t ∧ H t = some (.tup [.str e.1, e.2])
def HsP (H : Hp) (l : Addr) (es : List Ee) : Prop := ∃ xs, H l = some (.lst xs) ∧ Paired (T2 H) xs es
theorem T2.tup {H H' : Hp} {x : V} {e : Ee} (h : T2 H x e) (s : ∀ t xs, H t = some (.tup xs) → H' t = some (.tup xs)) : T2 H' x e := by
  cases e with
  | none => exact h
  | some e =>
    obtain ⟨t, rfl, g⟩ := h
    exact ⟨t, rfl, s _ _ g⟩
theorem HsP.kq {H H' : Hp} {p l : Addr} {n : Nat} {es : List Ee} (h : HsP H l es) (v : Lens H p n) (nl : l ≠ p) (k : Kq p H H') : HsP H' l es := by
  obtain ⟨xs, g, pr⟩ := h
  exact ⟨xs, keptl g nl k, paired_mono pr fun _ _ z => z.tup fun t ys e => k _ _ (v.not_tup e) (by intro ps z; cases z) e⟩
theorem hsp_upd {H : Hp} {d l : Addr} {es : List Ee} {ys : List V} {o : HO} (h : HsP H d es) (hl : H l = some (.lst ys)) (ne : d ≠ l) : HsP (upd H l o) d es := by
  obtain ⟨xs, g, pr⟩ := h
  exact ⟨xs, by rw [upd_ne ne]; exact g, paired_mono pr fun _ _ z => z.tup fun t ys e => by rw [upd_ne (L2.ne_of e hl (by intro z; cases z))]; exact e⟩
/-- since H0: what stood there stands but what draws; the list at l has these, the lists of ds have theirs -/
structure St (TL : List (Addr × Str)) (p : Addr) (H0 : Hp) (l : Addr) (es : List Ee) (ds : List (Addr × List Ee)) (n : Nat) (H : Hp) : Prop where
  z : Kz p H0 H
  v : Lens H p n
  T : LamX.Tabs TL H
  h : HsP H l es
  nl : l ≠ p
  nl0 : H0 l = none
  ds : ∀ x ∈ ds, HsP H x.1 x.2 ∧ x.1 ≠ l ∧ x.1 ≠ p
section
variable {TL : List (Addr × Str)} {p l : Addr} {H0 H H' HC HD : Hp} {es : List Ee} {ds : List (Addr × List Ee)} {n n0 : Nat}
theorem St.at (s : St TL p H0 l es ds n H) : ∃ xs, H l = some (.lst xs) ∧ xs.length = es.length := by
  obtain ⟨xs, g, pr⟩ := s.h
  exact ⟨xs, g, Paired.length pr⟩
theorem St.ext (s : St TL p H0 l es ds n H) (x : Ext H H') (T' : LamX.Tabs TL H') : St TL p H0 l es ds n H' := ⟨s.z.trans (Kz.ofE x), s.v.ext x, T', s.h.kq s.v s.nl (Kq.ofE x), s.nl, s.nl0, fun d hd => ⟨(s.ds d hd).1.kq s.v (s.ds d hd).2.2 (Kq.ofE x), (s.ds d hd).2⟩⟩
theorem St.same (s : St TL p H0 l es ds n H) (x : Same H H') : St TL p H0 l es ds n H' := s.ext (ext_of x) (s.T.ext x)
theorem St.draw {m : Nat} (s : St TL p H0 l es ds n H) (x : SB p H H') (v' : Lens H' p m) : St TL p H0 l es ds m H' := ⟨s.z.trans (Kz.ofS x), v', tabs_sb s.T s.v x, s.h.kq s.v s.nl (Kq.ofS x), s.nl, s.nl0, fun d hd => ⟨(s.ds d hd).1.kq s.v (s.ds d hd).2.2 (Kq.ofS x), (s.ds d hd).2⟩⟩
theorem St.app {x : V} {e : Ee} (s : St TL p H0 l es ds n H) (v0 : Lens H0 p n0) (x1 : Ext H HC) (T1 : LamX.Tabs TL HC) (sD : Same HC HD) (hx : T2 HD x e) : ∃ xs, HD l = some (.lst xs) ∧ xs.length = es.length ∧ St TL p H0 l (es ++ [e]) ds n (upd HD l (.lst (xs ++ [x]))) := by
  have s2 := (s.ext x1 T1).same sD
  obtain ⟨xs, g, pr⟩ := s2.h
  have up : ∀ t ys, HD t = some (.tup ys) → upd HD l (.lst (xs ++ [x])) t = some (.tup ys) := fun t ys e => by
    rw [upd_ne (L2.ne_of e g (by intro z; cases z))]
    exact e
  exact ⟨xs, g, Paired.length pr, kz_upd s2.z s2.nl0, lens_kupd s2.v v0 s2.z s2.nl0, tabs_upd s2.T g, ⟨_, upd_same, paired_snoc (paired_mono pr fun _ _ z => z.tup up) (hx.tup up)⟩, s2.nl, s2.nl0, fun d hd => ⟨hsp_upd (s2.ds d hd).1 g (s2.ds d hd).2.1, (s2.ds d hd).2⟩⟩
/-- a new list -/
theorem St.put {d : Addr} {xs : List V} {fs : List Ee} (s : St TL p H0 l es ds n H) (nd : H d = none) (pr : Paired (T2 H) xs fs) : St TL p H0 l es ((d, fs) :: ds) n (upd H d (.lst xs)) := by
  have sd := same_new (o := .lst xs) nd
  have s2 := s.same sd
  obtain ⟨ys, g, _⟩ := s.at
  refine ⟨s2.z, s2.v, s2.T, s2.h, s2.nl, s2.nl0, fun x hx => ?_⟩
  rcases List.mem_cons.mp hx with e | hx
  · subst e
    exact ⟨⟨xs, upd_same, paired_mono pr fun _ _ z => z.tup fun t ys e => sd _ _ e⟩, (ne_of_none g nd).symm, s.v.not_none nd⟩
  · exact s2.ds x hx
end
/-- what is heard, as data -/
def dE : Ee → PyData
  | none => .none
  | some e => .tuple [.str e.1, match e.2 with
    | .int i => .int i
    | .str z => .str z
    | _ => .none]
def okE : Ee → Prop
  | none => True
  | some e => PyData.strOk e.1 = true ∧ ((∃ i, e.2 = .int i) ∨ ∃ z, e.2 = .str z ∧ PyData.strOk z = true)
theorem hs_dp {K : PySem.W.Frag} {H : Hp} : ∀ {xs : List V} {es : List Ee}, Paired (T2 H) xs es → (∀ e ∈ es, okE e) → DpAll K H xs (es.map dE)
  | _, _, .nil, _ => .nil
  | _, _, .cons (b := none) a r, h => by
    have a : _ = V.non := a
    subst a
    exact .cons .non (hs_dp r fun e he => h e (List.mem_cons_of_mem _ he))
  | _, _, .cons (b := some e) a r, h => by
    obtain ⟨t, rfl, g⟩ := a
    refine .cons ?_ (hs_dp r fun e he => h e (List.mem_cons_of_mem _ he))
    obtain ⟨s, v⟩ := e
    rcases (h (some (s, v)) List.mem_cons_self).2 with ⟨i, z⟩ | ⟨i, z, _⟩
    · have z : v = .int i := z
      subst z
      exact .tup (SqT.of g) (.cons (.str _) (.cons (.int _) .nil))
    · have z : v = .str i := z
      subst z
      exact .tup (SqT.of g) (.cons (.str _) (.cons (.str _) .nil))
theorem hs_lay : ∀ {es : List Ee}, (∀ e ∈ es, okE e) → PyData.canLayAll0 (es.map dE) = true ∧ PyData.depthAll (es.map dE) ≤ 1 ∧ PyData.eqvAll (es.map dE) (es.map dE) = true := by
  intro es
  induction es with
  | nil => exact fun _ => ⟨rfl, by decide, rfl⟩
  | cons e es ih =>
    intro h
    obtain ⟨i1, i2, i3⟩ := ih fun e he => h e (List.mem_cons_of_mem _ he)
    have one : PyData.canLay0 (dE e) = true ∧ PyData.depth (dE e) ≤ 1 ∧ PyData.eqv (dE e) (dE e) = true := by
      have he := h e List.mem_cons_self
      cases e with
      | none => exact ⟨rfl, by decide, rfl⟩
      | some e =>
        obtain ⟨s, v⟩ := e
        obtain ⟨h1, ⟨i, z⟩ | ⟨z, q, h2⟩⟩ := he
        · have z : v = .int i := z
          have h1 : PyData.strOk s = true := h1
          subst z
          refine ⟨?_, by show 1 ≤ 1; decide, ?_⟩
          · show (PyData.strOk s && (true && true)) = true
            rw [h1]
            rfl
          · show ((s == s) && ((i == i) && true)) = true
            rw [beq_self_eq_true, beq_self_eq_true]
            rfl
        · have q : v = .str z := q
          have h1 : PyData.strOk s = true := h1
          subst q
          refine ⟨?_, by show 1 ≤ 1; decide, ?_⟩
          · show (PyData.strOk s && (PyData.strOk z && true)) = true
            rw [h1, h2]
            rfl
          · show ((s == s) && ((z == z) && true)) = true
            rw [beq_self_eq_true, beq_self_eq_true]
            rfl
    refine ⟨?_, ?_, ?_⟩
    · show (PyData.canLay0 (dE e) && PyData.canLayAll0 (es.map dE)) = true
      rw [one.1, i1]
      rfl
    · show max (PyData.depth (dE e)) (PyData.depthAll (es.map dE)) ≤ 1
      have := one.2.1
      omega
    · show (PyData.eqv (dE e) (dE e) && PyData.eqvAll (es.map dE) (es.map dE)) = true
      rw [one.2.2, i3]
      rfl
theorem hs_eq {K : PySem.W.Frag} {H : Hp} {l d : Addr} {es : List Ee} {Q : VK} (h1 : HsP H l es) (h2 : HsP H d es) (ok : ∀ e ∈ es, okE e) (q : Q (.bl true) H) : rEqD K (.ref l) (.ref d) H Q := by
  obtain ⟨xs, g1, p1⟩ := h1
  obtain ⟨ys, g2, p2⟩ := h2
  obtain ⟨a, b, c⟩ := hs_lay ok
  have sh : SeqAt.shaped (.list (es.map dE)) = true := by
    show (PyData.canLayAll0 (es.map dE) && decide (PyData.depthAll (es.map dE) + 1 ≤ 64)) = true
    rw [a, Bool.true_and, decide_eq_true_iff]
    omega
  refine ⟨_, _, .lst (SqL.of g1) (hs_dp p1 ok), .lst (SqL.of g2) (hs_dp p2 ok), sh, sh, ?_⟩
  have e : PyData.eqv (.list (es.map dE)) (.list (es.map dE)) = true := c
  rw [e]
  exact q
end K14

namespace K14
open PySem PySem.Spec PyProof.Rows L2
section
variable {P : Program} {w : World} {K : PySem.W.Frag} {mg : Str → Option Value} {base : Heap}
/-! ### _law_places -/
def spPlc : Sp := fun vs H Q _ => ∃ (p : Addr) (n k : Nat), vs = [.ref p, .int k] ∧ Lens H p n ∧ n + 60 < 60000 ∧ 4 ≤ k ∧ k ≤ 7 ∧ ∀ H' a ts ps, SB p H H' → Lens H' p (n + 15) → a ≠ p → H a = none → LP H' a ts ps → ps.length = k → OkP ps → Q (.ref a) H'
abbrev sPlc : Stmt := top 56
abbrev nPlc : List Str := ["_law_lens_here", "_law_pins", "_law_most", "_law_pin"]
theorem scPlc : FnScope nPlc ["_law_lens_here", "_law_pins"] (defScope sPlc) := ⟨rfl, rfl, rfl, by decide +kernel, rfl, by decide +kernel, by decide +kernel⟩
theorem ok_plc {f : Addr} {fd : FuncData} (F : Fun K "_law_places" "_law_places" sPlc f fd) (B : Bn mg) (C1 : Callee P w K mg base CX0 1 "_law_shot" ["_law_lens_here", "_law_many"] spShot) (C2 : Callee P w K mg base CX0 2 "_law_pick" ["_law_lens_here", "_law_some_here"] spPick) :
    FnOk P w K mg base CX0 3 f fd ["_law_lens_here", "_law_pins"] spPlc := by
  obtain ⟨f1, fd1, m1, k1, b1, G1⟩ := C1
  obtain ⟨f2, fd2, m2, k2, b2, G2⟩ := C2
  have nd := scPlc.nd
  have eG : G9 = 1000000000 := rfl
  refine F.ok scPlc (fun vs H Q E h => ?_) (fun cdv A outer s H vs Q E hr h => ?_)
  · obtain ⟨p, n, k, rfl, _⟩ := h
    rfl
  · obtain ⟨p, n, k, rfl, hv, hn, k4, k7, q⟩ := h
    refine ⟨_, (pss_cons ((ps_set (i := 2) nd rfl (Or.inr rfl) ((pe_call G2 (hr.mono (by decide)) rfl m2 k2 b2 .nil pass0 (pa_cons (pv 0) (pa_cons (pe_lst (pa_cons (pe_int) (pa_cons (pe_int) (pa_cons (pe_int) (pa_cons (pe_int) (pa_cons (pe_op op_pow pe_int pe_int) pa_nil)))))) pa_nil)))))) (pss_one (ps_ret (pe_lc (own := [("_law_pin", 3)]) (g := gName 3) (tt := tYes) rfl nd ((pi_range1 rfl B.range (pa_cons (pv 1) pa_nil))) (blkOk_by (N := nPlc) (sc := defScope sPlc) (by decide +kernel)) (fun _ _ _ _ _ => (pg_name (i := 3) nd rfl (Or.inl rfl))) (fun _ _ _ _ _ => pts_nil) (fun _ _ _ _ _ => pe_tup (pa_cons (pe_op op_sub (pe_call G1 (hr.mono (by decide)) rfl m1 k1 b1 .nil pass0 (pa_cons (pv 0) (pa_cons (pe_op op_add (pe_op op_mul pe_int (pv 2)) pe_int) pa_nil))) (pv 2)) (pa_cons (pe_op op_sub (pe_call G1 (hr.mono (by decide)) rfl m1 k1 b1 .nil pass0 (pa_cons (pv 0) (pa_cons (pe_op op_add (pe_op op_mul pe_int (pv 2)) pe_int) pa_nil))) (pv 2)) pa_nil))))))), ?_⟩
    refine ⟨_, rfl, _, _, rfl, rfl, ⟨by decide, by decide, by decide⟩, by show 5 ≤ sizeLine; decide, fun l1 nl1 => ?_⟩
    have e9 : (10 : Int) ^ (Int.toNat 9) = 1000000000 := by decide
    have s1 := same_new (o := .lst [V.int 1, V.int 3, V.int 3, V.int 60, V.int ((10 : Int) ^ (Int.toNat 9))]) nl1
    refine ⟨p, l1, _, _, rfl, hv.same s1, by omega, upd_same, hv.not_none nl1, by show 0 < 5; decide, by show 5 ≤ 1000; decide, fun H4 y s4 v4 hy => ?_⟩
    obtain ⟨m, rfl, m0, m9⟩ : ∃ m : Int, y = .int m ∧ 1 ≤ m ∧ m ≤ 1000000000 := by
      simp only [List.mem_cons, List.not_mem_nil, or_false] at hy
      rcases hy with rfl | rfl | rfl | rfl | rfl
      · exact ⟨1, rfl, by decide, by decide⟩
      · exact ⟨3, rfl, by decide, by decide⟩
      · exact ⟨3, rfl, by decide, by decide⟩
      · exact ⟨60, rfl, by decide, by decide⟩
      · exact ⟨_, rfl, by rw [e9]; decide, by rw [e9]; decide⟩
    have s04 : SB p H H4 := (SB.of s1).trans s4
    generalize upd H l1 (.lst [V.int 1, V.int 3, V.int 3, V.int 60, V.int ((10 : Int) ^ (Int.toNat 9))]) = H1 at s1 s4
    refine ⟨_, rfl, (k : Int), rfl, by omega, by omega, fun D hD => ?_⟩
    rw [Int.toNat_natCast]
    refine lc_range (lo := 0) (n := k) (Gw G9 p D H4 (n + 1) 2) (gw_nil v4 hD) (fun i H' hi pv => ?_) (fun H6 pv => ?_)
    · obtain ⟨s, v, ts, ps, l, lp, b9⟩ := pv
      refine ⟨rfl, ?_⟩
      refine ⟨_, rfl, _, rfl, _, _, rfl, rfl, .inl ⟨by decide, by decide⟩, _, _, rfl, rfl, p, _, _, rfl, v, by omega, by omega, by omega, fun Ha x sa va xa xb => ⟨_, rfl, _, _, rfl, rfl, ?_⟩⟩
      refine ⟨_, rfl, _, rfl, _, _, rfl, rfl, .inl ⟨by decide, by decide⟩, _, _, rfl, rfl, p, _, _, rfl, va, by omega, by omega, by omega, fun Hb y sb vb ya yb => ⟨_, rfl, _, _, rfl, rfl, ?_⟩⟩
      refine ⟨by show 2 ≤ sizeLine; decide, fun g hg => ?_⟩
      have sg := same_new (o := .tup [V.int (x - m), V.int (y - m)]) hg
      exact gw_step v4 hD s v l lp b9 (by omega) ((sa.trans sb).trans (SB.of sg)) ((vb.same sg).le (by omega)) upd_same (by omega) (by omega) (by omega) (by omega)
    obtain ⟨s, v, ts, ps, l, lp, b9⟩ := pv
    exact q _ D ts ps (s04.trans s) (v.le (by omega)) (v4.not_none hD) (SB.free hv s04 hD) lp l ⟨by omega, by omega, b9⟩
/-! ### _law_order -/
def spOrd : Sp := fun vs H Q _ => ∃ (p : Addr) (n k : Nat), vs = [.ref p, .int k] ∧ Lens H p n ∧ n + 10 < 60000 ∧ k ≤ 7 ∧ ∀ H' a ns, SB p H H' → Lens H' p (n + k) → a ≠ p → H a = none → H' a = some (.lst (nV ns)) → ns.Perm (List.range k) → Q (.ref a) H'
abbrev sOrd : Stmt := top 63
abbrev nOrd : List Str := ["_law_lens_here", "_law_many", "_law_left", "_law_found", "_law_turn"]
theorem scOrd : FnScope nOrd ["_law_lens_here", "_law_many"] (defScope sOrd) := ⟨rfl, rfl, rfl, by decide +kernel, rfl, by decide +kernel, by decide +kernel⟩
/-- what the two lists keep: drawn out of one, put to the other -/
def Dr (p L R : Addr) (H0 : Hp) (k n i : Nat) (H : Hp) : Prop := ∃ ls fs : List Nat, fs.length = i ∧ SB p H0 H ∧ Lens H p (n + i) ∧ H L = some (.lst (nV ls)) ∧ H R = some (.lst (nV fs)) ∧ (ls ++ fs).Perm (List.range k)
theorem ok_ord {f : Addr} {fd : FuncData} (F : Fun K "_law_order" "_law_order" sOrd f fd) (B : Bn mg) (C1 : Callee P w K mg base CX0 1 "_law_shot" ["_law_lens_here", "_law_many"] spShot) : FnOk P w K mg base CX0 2 f fd ["_law_lens_here", "_law_many"] spOrd := by
  obtain ⟨f1, fd1, m1, k1, b1, G1⟩ := C1
  have nd := scOrd.nd
  refine F.ok scOrd (fun vs H Q E h => ?_) (fun cdv A outer s H vs Q E hr h => ?_)
  · obtain ⟨p, n, k, rfl, _⟩ := h
    rfl
  · obtain ⟨p, n, k, rfl, hv, hn, k7, q⟩ := h
    refine ⟨_, (pss_cons (ps_par (i := 2) (j := 3) rfl nd rfl rfl (by decide) rfl rfl (pa_cons ((pe_listRg rfl (by rfl) B.list (prg_1 rfl B.range (pv 1)))) (pa_cons (pe_lst pa_nil) pa_nil)) (by rfl)) (pss_cons (ps_for PassesOwn.never rfl (pi_range1 rfl B.range (pa_cons (pv 1) pa_nil)) (pg_name (i := 4) nd rfl (Or.inl rfl)) (pss_one (ps_expr (pe_bm PySem.F.plainAttrs_list PySem.F.slot_list_append PySem.F.type_list_append mt_append (pv 3) (pa_cons (pe_bm PySem.F.plainAttrs_list PySem.F.slot_list_pop PySem.F.type_list_pop mt_popAt (pv 2) (pa_cons ((pe_call G1 (hr.mono (by decide)) rfl m1 k1 b1 .nil pass0 (pa_cons (pv 0) (pa_cons ((pe_callB call_len_seq (by rfl) B.len PySem.boot_len (pa_cons (pv 2) pa_nil))) pa_nil)))) pa_nil)) pa_nil))))) (pss_one (ps_ret (pv 3))))), ?_⟩
    refine ⟨_, rfl, (k : Int), rfl, RgOk.of_le (by decide) (by omega) (by decide) (by omega), fun L hL => ?_⟩
    rw [rg_nV]
    have sL := same_new (o := .lst (nV (List.range k))) hL
    have gL : upd H L (.lst (nV (List.range k))) L = some (.lst (nV (List.range k))) := upd_same
    have nLp := hv.not_none hL
    have v1 := hv.same sL
    generalize upd H L (.lst (nV (List.range k))) = H1 at sL gL v1 ⊢
    refine ⟨Nat.zero_le _, fun R hR => ?_⟩
    have sR := same_new (o := .lst []) hR
    have gR : upd H1 R (.lst []) R = some (.lst (nV [])) := upd_same
    have nRp := v1.not_none hR
    have nRL : R ≠ L := (ne_of_none gL hR).symm
    have hR0 := sL.free hR
    have gL2 := sR _ _ gL
    have v2 := v1.same sR
    have s2 : SB p H (upd H1 R (.lst [])) := SB.of (sL.trans sR)
    generalize upd H1 R (.lst []) = H2 at sR gR gL2 v2 s2 ⊢
    refine ⟨_, _, rfl, ?_⟩
    refine ⟨_, rfl, (k : Int), rfl, by omega, by omega, ?_⟩
    rw [Int.toNat_natCast]
    refine for_range (lo := 0) (n := k) (fun i σ H' => Dr p L R H k n i H' ∧ ∃ c, σ = [some (.ref p), some (.int k), some (.ref L), some (.ref R), c]) ⟨⟨List.range k, [], rfl, s2, v2, gL2, gR, by rw [List.append_nil]⟩, _, rfl⟩ (fun i σ H' hi pv => ?_) (fun σ H' pv => ?_)
    · obtain ⟨⟨ls, fs, lf, s, v, gl, gr, pm⟩, c, rfl⟩ := pv
      have lk : ls.length + fs.length = k := by
        have := pm.length_eq
        rw [List.length_append, List.length_range] at this
        exact this
      refine ⟨_, rfl, .inl ⟨rfl, _, SqL.of gr⟩, _, rfl, .inl ⟨rfl, _, SqL.of gl⟩, _, rfl, _, rfl, L, _, rfl, .inl (SqL.of gl), p, _, _, rfl, v, by omega, by rw [nV_len]; omega, by rw [Int.natAbs_natCast, nV_len]; exact Nat.lt_of_le_of_lt (show ls.length ≤ 7 by omega) (by decide), fun H4 d s4 v4 d0 d1 => ?_⟩
      rw [nV_len] at d1
      obtain ⟨i', rfl⟩ := Int.eq_ofNat_of_zero_le d0
      have hi : i' < ls.length := by omega
      have gl4 := s4.1 _ _ nLp gl
      have gr4 := s4.1 _ _ nRp gr
      refine ⟨L, _, _, i', _, rfl, rfl, gl4, by omega, by omega, (ixN_seq (ixN_nat (by rw [nV_len]; exact hi))).1, nV_at hi, ?_⟩
      rw [erase_nV]
      have sb5 : SB p H (upd H4 L (.lst (nV (ls.eraseIdx i')))) := SB.upd hv (s.trans s4) hL
      have v5 : Lens (upd H4 L (.lst (nV (ls.eraseIdx i')))) p (n + i + 1) := v4.upd hv (s.trans s4) hL
      have gr5 : upd H4 L (.lst (nV (ls.eraseIdx i'))) R = some (.lst (nV fs)) := by rw [upd_ne nRL]; exact gr4
      have gl5 : upd H4 L (.lst (nV (ls.eraseIdx i'))) L = some (.lst (nV (ls.eraseIdx i'))) := upd_same
      generalize upd H4 L (.lst (nV (ls.eraseIdx i'))) = H5 at sb5 v5 gr5 gl5 ⊢
      refine ⟨R, _, _, rfl, rfl, gr5, by rw [nV_len]; exact small1000 (by omega), ?_⟩
      have pp := perm_pop (fs := fs) hi
      exact ⟨⟨ls.eraseIdx i', fs ++ [ls[i']], by rw [List.length_append, lf]; rfl, SB.upd hv sb5 hR0, (v5.upd hv sb5 hR0).le (by omega), by rw [upd_ne nRL.symm]; exact gl5, by rw [upd_same, nV_snoc], pp.trans pm⟩, _, rfl⟩
    · obtain ⟨⟨ls, fs, lf, s, v, gl, gr, pm⟩, c, rfl⟩ := pv
      have z : ls = [] := by
        have := pm.length_eq
        rw [List.length_append, List.length_range] at this
        exact List.length_eq_zero_iff.mp (by omega)
      subst z
      exact ⟨_, rfl, q _ R fs s v nRp hR0 gr pm⟩
/-! ### _law_some -/
def spSome : Sp := fun vs H Q _ => ∃ (p : Addr) (n k : Nat), vs = [.ref p, .int k] ∧ Lens H p n ∧ n + 20 < 60000 ∧ 1 ≤ k ∧ k ≤ 8 ∧ ∀ H' a ns, SB p H H' → Lens H' p (n + 10) → a ≠ p → H a = none → H' a = some (.lst (nV ns)) → 1 ≤ ns.length → ns.length ≤ k → ns.Nodup → (∀ i ∈ ns, i < k) → Q (.ref a) H'
abbrev sSome : Stmt := top 60
theorem scSome : FnScope nOrd ["_law_lens_here", "_law_many"] (defScope sSome) := ⟨rfl, rfl, rfl, by decide +kernel, rfl, by decide +kernel, by decide +kernel⟩
theorem ok_some {f : Addr} {fd : FuncData} (F : Fun K "_law_some" "_law_some" sSome f fd) (B : Bn mg) (C1 : Callee P w K mg base CX0 1 "_law_shot" ["_law_lens_here", "_law_many"] spShot) : FnOk P w K mg base CX0 2 f fd ["_law_lens_here", "_law_many"] spSome := by
  obtain ⟨f1, fd1, m1, k1, b1, G1⟩ := C1
  have nd := scSome.nd
  refine F.ok scSome (fun vs H Q E h => ?_) (fun cdv A outer s H vs Q E hr h => ?_)
  · obtain ⟨p, n, k, rfl, _⟩ := h
    rfl
  · obtain ⟨p, n, k, rfl, hv, hn, k1', k8, q⟩ := h
    refine ⟨_, (pss_cons (ps_par (i := 2) (j := 3) rfl nd rfl rfl (by decide) rfl rfl (pa_cons ((pe_listRg rfl (by rfl) B.list (prg_1 rfl B.range (pv 1)))) (pa_cons (pe_lst pa_nil) pa_nil)) (by rfl)) (pss_cons (ps_for PassesOwn.never rfl (pi_range1 rfl B.range (pa_cons (pe_op op_add pe_int (pe_call G1 (hr.mono (by decide)) rfl m1 k1 b1 .nil pass0 (pa_cons (pv 0) (pa_cons (pv 1) pa_nil)))) pa_nil)) (pg_name (i := 4) nd rfl (Or.inl rfl)) (pss_one (ps_expr (pe_bm PySem.F.plainAttrs_list PySem.F.slot_list_append PySem.F.type_list_append mt_append (pv 3) (pa_cons (pe_bm PySem.F.plainAttrs_list PySem.F.slot_list_pop PySem.F.type_list_pop mt_popAt (pv 2) (pa_cons ((pe_call G1 (hr.mono (by decide)) rfl m1 k1 b1 .nil pass0 (pa_cons (pv 0) (pa_cons ((pe_callB call_len_seq (by rfl) B.len PySem.boot_len (pa_cons (pv 2) pa_nil))) pa_nil)))) pa_nil)) pa_nil))))) (pss_one (ps_ret (pv 3))))), ?_⟩
    refine ⟨_, rfl, (k : Int), rfl, RgOk.of_le (by decide) (by omega) (by decide) (by omega), fun L hL => ?_⟩
    rw [rg_nV]
    have sL := same_new (o := .lst (nV (List.range k))) hL
    have gL : upd H L (.lst (nV (List.range k))) L = some (.lst (nV (List.range k))) := upd_same
    have nLp := hv.not_none hL
    have v1 := hv.same sL
    generalize upd H L (.lst (nV (List.range k))) = H1 at sL gL v1 ⊢
    refine ⟨Nat.zero_le _, fun R hR => ?_⟩
    have sR := same_new (o := .lst []) hR
    have gR : upd H1 R (.lst []) R = some (.lst (nV [])) := upd_same
    have nRp := v1.not_none hR
    have nRL : R ≠ L := (ne_of_none gL hR).symm
    have hR0 := sL.free hR
    have gL2 := sR _ _ gL
    have v2 := v1.same sR
    have s2 : SB p H (upd H1 R (.lst [])) := SB.of (sL.trans sR)
    generalize upd H1 R (.lst []) = H2 at sR gR gL2 v2 s2 ⊢
    refine ⟨_, _, rfl, ?_⟩
    refine ⟨_, rfl, _, rfl, p, k, _, rfl, v2, by omega, by omega, by omega, fun H3 d s3 v3 d0 d1 => ⟨_, _, rfl, rfl, ?_⟩⟩
    obtain ⟨d, rfl⟩ := Int.eq_ofNat_of_zero_le d0
    have gL3 := s3.1 _ _ nLp gL2
    have gR3 := s3.1 _ _ nRp gR
    have s03 := s2.trans s3
    refine ⟨_, rfl, by omega, by omega, ?_⟩
    have et : ((1 : Int) + (d : Int)).toNat = d + 1 := by omega
    rw [et]
    refine for_range (lo := 0) (n := d + 1) (fun i σ H' => Dr p L R H k (n + 1) i H' ∧ ∃ c, σ = [some (.ref p), some (.int k), some (.ref L), some (.ref R), c]) ⟨⟨List.range k, [], rfl, s03, v3, gL3, gR3, by rw [List.append_nil]⟩, _, rfl⟩ (fun i σ H' hi pv => ?_) (fun σ H' pv => ?_)
    · obtain ⟨⟨ls, fs, lf, s, v, gl, gr, pm⟩, c, rfl⟩ := pv
      have lk : ls.length + fs.length = k := by
        have := pm.length_eq
        rw [List.length_append, List.length_range] at this
        exact this
      refine ⟨_, rfl, .inl ⟨rfl, _, SqL.of gr⟩, _, rfl, .inl ⟨rfl, _, SqL.of gl⟩, _, rfl, _, rfl, L, _, rfl, .inl (SqL.of gl), p, _, _, rfl, v, by omega, by rw [nV_len]; omega, by rw [Int.natAbs_natCast, nV_len]; exact Nat.lt_of_le_of_lt (show ls.length ≤ 8 by omega) (by decide), fun H4 d' s4 v4 d0 d1 => ?_⟩
      rw [nV_len] at d1
      obtain ⟨i', rfl⟩ := Int.eq_ofNat_of_zero_le d0
      have hi : i' < ls.length := by omega
      have gl4 := s4.1 _ _ nLp gl
      have gr4 := s4.1 _ _ nRp gr
      refine ⟨L, _, _, i', _, rfl, rfl, gl4, by omega, by omega, (ixN_seq (ixN_nat (by rw [nV_len]; exact hi))).1, nV_at hi, ?_⟩
      rw [erase_nV]
      have sb5 : SB p H (upd H4 L (.lst (nV (ls.eraseIdx i')))) := SB.upd hv (s.trans s4) hL
      have v5 : Lens (upd H4 L (.lst (nV (ls.eraseIdx i')))) p (n + 1 + i + 1) := v4.upd hv (s.trans s4) hL
      have gr5 : upd H4 L (.lst (nV (ls.eraseIdx i'))) R = some (.lst (nV fs)) := by rw [upd_ne nRL]; exact gr4
      have gl5 : upd H4 L (.lst (nV (ls.eraseIdx i'))) L = some (.lst (nV (ls.eraseIdx i'))) := upd_same
      generalize upd H4 L (.lst (nV (ls.eraseIdx i'))) = H5 at sb5 v5 gr5 gl5 ⊢
      refine ⟨R, _, _, rfl, rfl, gr5, by rw [nV_len]; exact small1000 (by omega), ?_⟩
      have pp := perm_pop (fs := fs) hi
      exact ⟨⟨ls.eraseIdx i', fs ++ [ls[i']], by rw [List.length_append, lf]; rfl, SB.upd hv sb5 hR0, (v5.upd hv sb5 hR0).le (by omega), by rw [upd_ne nRL.symm]; exact gl5, by rw [upd_same, nV_snoc], pp.trans pm⟩, _, rfl⟩
    · obtain ⟨⟨ls, fs, lf, s, v, gl, gr, pm⟩, c, rfl⟩ := pv
      have nn : (ls ++ fs).Nodup := pm.nodup_iff.mpr List.nodup_range
      refine ⟨_, rfl, q _ R fs s (v.le (by omega)) nRp hR0 gr (by omega) (by omega) (List.nodup_append.mp nn).2.1 fun i hi => List.mem_range.mp (pm.mem_iff.mp (List.mem_append_right _ hi))⟩
end
end K14

namespace K14
open PySem PySem.Spec PyProof.Rows L2
/-! ### lists of places in a list -/
abbrev PSS := List (List (Int × Int))
def LPx (H : Hp) (a : Addr) (ps : List (Int × Int)) : Prop := ∃ ts, LP H a ts ps
def Told (H : Hp) (D : Addr) (as : List Addr) (pss : PSS) : Prop := H D = some (.lst (as.map V.ref)) ∧ Paired (LPx H) as pss
/-- so many pins each, all in reach -/
def Tok (k : Nat) (pss : PSS) : Prop := ∀ ps ∈ pss, ps.length = k ∧ OkP ps
theorem Lens.not_refs {H : Hp} {p a : Addr} {n : Nat} {as : List Addr} (v : Lens H p n) (h : H a = some (.lst (as.map V.ref))) : a ≠ p := by
  obtain ⟨c, x, y, e⟩ := v.at
  rintro rfl
  rw [e] at h
  have z := HO.lst.inj (Option.some.inj h)
  cases as with
  | nil => cases z
  | cons b bs =>
    cases bs with
    | nil => cases z
    | cons c cs => cases z
theorem LPx.same {H H' : Hp} {a : Addr} {ps : List (Int × Int)} (h : LPx H a ps) (s : Same H H') : LPx H' a ps := let ⟨ts, l⟩ := h; ⟨ts, l.same s⟩
theorem LPx.sb {H H' : Hp} {p a : Addr} {n : Nat} {ps : List (Int × Int)} (h : LPx H a ps) (v : Lens H p n) (s : SB p H H') : LPx H' a ps := let ⟨ts, l⟩ := h; ⟨ts, l.sb v (v.not_refs l.1) s⟩
theorem LPx.upd {H : Hp} {a D : Addr} {ps : List (Int × Int)} {xs zs : List V} (h : LPx H a ps) (n : a ≠ D) (hd : H D = some (.lst xs)) : LPx (upd H D (.lst zs)) a ps := let ⟨ts, l, r⟩ := h; ⟨ts, by rw [upd_ne n]; exact l, prs_upd hd r⟩
theorem Told.same {H H' : Hp} {D : Addr} {as : List Addr} {pss : PSS} (h : Told H D as pss) (s : Same H H') : Told H' D as pss := ⟨s _ _ h.1, paired_mono h.2 fun _ _ z => z.same s⟩
theorem Told.sb {H H' : Hp} {p D : Addr} {n : Nat} {as : List Addr} {pss : PSS} (h : Told H D as pss) (v : Lens H p n) (s : SB p H H') : Told H' D as pss := ⟨s.1 _ _ (v.not_refs h.1) h.1, paired_mono h.2 fun _ _ z => z.sb v s⟩
theorem Told.len {H : Hp} {D : Addr} {as : List Addr} {pss : PSS} (h : Told H D as pss) : as.length = pss.length := Paired.length h.2
theorem Told.at {H : Hp} {D : Addr} {as : List Addr} {pss : PSS} {i : Nat} {ps : List (Int × Int)} (h : Told H D as pss) (hi : pss[i]? = some ps) : ∃ a, (as.map V.ref)[i]? = some (.ref a) ∧ LPx H a ps := by
  obtain ⟨g, hg, r⟩ := paired_of h.2 hi
  exact ⟨g, by rw [List.getElem?_map, hg]; rfl, r⟩
theorem Told.mem {H : Hp} {D : Addr} {as : List Addr} {pss : PSS} {i : Nat} {x : V} (h : Told H D as pss) (hx : (as.map V.ref)[i]? = some x) : ∃ a ps, as[i]? = some a ∧ x = .ref a ∧ pss[i]? = some ps ∧ LPx H a ps := by
  rw [List.getElem?_map] at hx
  cases e : as[i]? with
  | none => rw [e] at hx; cases hx
  | some a =>
    rw [e] at hx
    obtain ⟨ps, hp, r⟩ := paired_get h.2 e
    exact ⟨a, ps, rfl, (Option.some.inj hx).symm, hp, r⟩
theorem lpx_upd {H : Hp} {D : Addr} {xs zs : List V} {as : List Addr} {pss : PSS} (nm : D ∉ as) (hd : H D = some (.lst xs)) (h : Paired (LPx H) as pss) : Paired (LPx (upd H D (.lst zs))) as pss := by
  induction h with
  | nil => exact .nil
  | @cons b ps bs pss r _ ih => exact .cons (r.upd (fun e => nm (e ▸ List.mem_cons_self)) hd) (ih fun z => nm (List.mem_cons_of_mem _ z))
theorem ixN_last {n : Nat} (h : 0 < n) : ixN n (-1) = some (n - 1) := by
  unfold ixN
  rw [if_neg (by omega), if_pos (by omega)]
  congr 1
  omega
/-- pictures in a list or a tuple -/
def Pics (H : Hp) (C : Addr) (cs : List Addr) (pss : PSS) : Prop := Paired (PicF H C) cs pss
theorem Pics.same {H H' : Hp} {C : Addr} {cs : List Addr} {pss : PSS} (h : Pics H C cs pss) (s : Same H H') : Pics H' C cs pss := paired_mono h fun _ _ z => z.same s
theorem Pics.sb {H H' : Hp} {C p : Addr} {n : Nat} {cs : List Addr} {pss : PSS} (h : Pics H C cs pss) (v : Lens H p n) (s : SB p H H') : Pics H' C cs pss := paired_mono h fun _ _ z => z.sb v s
theorem Pics.updl {H : Hp} {C l : Addr} {o : HO} {xs : List V} {cs : List Addr} {pss : PSS} (h : Pics H C cs pss) (hl : H l = some (.lst xs)) : Pics (upd H l o) C cs pss := paired_mono h fun _ _ z => z.updl hl
theorem Pics.len {H : Hp} {C : Addr} {cs : List Addr} {pss : PSS} (h : Pics H C cs pss) : cs.length = pss.length := Paired.length h
/-- pictures in a list -/
def PicL (H : Hp) (C D : Addr) (cs : List Addr) (pss : PSS) : Prop := H D = some (.lst (cs.map V.ref)) ∧ Pics H C cs pss
theorem PicL.same {H H' : Hp} {C D : Addr} {cs : List Addr} {pss : PSS} (h : PicL H C D cs pss) (s : Same H H') : PicL H' C D cs pss := ⟨s _ _ h.1, h.2.same s⟩
theorem PicL.sb {H H' : Hp} {C D p : Addr} {n : Nat} {cs : List Addr} {pss : PSS} (h : PicL H C D cs pss) (v : Lens H p n) (s : SB p H H') : PicL H' C D cs pss := ⟨s.1 _ _ (v.not_refs h.1) h.1, h.2.sb v s⟩
theorem pe_mkPc {X : Cx} {C CB : Addr} {e : Expr} {es : List Expr} {t : TA} {p pos : Pos} {E : XK} (K : PySem.W.Frag) (T : Pc X.prog X.w X.K X.mg X.base C CB) (hr : Room 7 X.A) (hx : Passes (L2.CX X.prog X.w) X E) (hg : Gl X "Picture") (ha : PA X (e :: es) t) (h : X.K = K := by rfl) (he : starEach (e :: es) X.env = (false, eval e X.env) :: starEach es X.env := by rfl) (hpl : (backTo pos (starEach es X.env)).any (·.1) = false := by rfl) :
    PE X (.Call (.Name "Picture" p) (e :: es) [] pos) (tMkP K C CB E t) := by
  subst h
  exact pe_mkP T hr hx hg ha he hpl
section
variable {P : Program} {w : World} {K : PySem.W.Frag} {mg : Str → Option Value} {base : Heap} {C CB : Addr}
/-! ### _law_all -/
def spAll : Sp := fun vs H Q _ => ∃ (p : Addr) (n k m : Nat), vs = [.ref p, .int k, .int m] ∧ Lens H p n ∧ n + 200 < 60000 ∧ 4 ≤ k ∧ k ≤ 7 ∧ 1 ≤ m ∧ m ≤ 8 ∧ ∀ H' D as pss, SB p H H' → Lens H' p (n + 130) → H D = none → Told H' D as pss → pss.length = m → Tok k pss → Q (.ref D) H'
abbrev sAll : Stmt := top 57
abbrev nAll : List Str := ["_law_lens_here", "_law_pins", "_law_many", "_law_found", "_law_number"]
theorem scAll : FnScope nAll ["_law_lens_here", "_law_pins", "_law_many"] (defScope sAll) := ⟨rfl, rfl, rfl, by decide +kernel, rfl, by decide +kernel, by decide +kernel⟩
theorem ok_all {f : Addr} {fd : FuncData} (F : Fun K "_law_all" "_law_all" sAll f fd) (B : Bn mg) (C1 : Callee P w K mg base CX0 1 "_law_shot" ["_law_lens_here", "_law_many"] spShot) (C2 : Callee P w K mg base CX0 3 "_law_places" ["_law_lens_here", "_law_pins"] spPlc) :
    FnOk P w K mg base CX0 4 f fd ["_law_lens_here", "_law_pins", "_law_many"] spAll := by
  obtain ⟨f1, fd1, m1, k1, b1, G1⟩ := C1
  obtain ⟨f2, fd2, m2, k2, b2, G2⟩ := C2
  have nd := scAll.nd
  refine F.ok scAll (fun vs H Q E h => ?_) (fun cdv A outer s H vs Q E hr h => ?_)
  · obtain ⟨p, n, k, m, rfl, _⟩ := h
    rfl
  · obtain ⟨p, n, k, m, rfl, hv, hn, k4, k7, h1m, m8, q⟩ := h
    refine ⟨_, (pss_cons ((ps_setLc (i := 3) (own := [("_law_number", 4)]) (g := gName 4) (tt := tYes) rfl nd rfl rfl (sw_true rfl rfl rfl (by decide +kernel)) ((pi_range1 rfl B.range (pa_cons (pv 2) pa_nil))) (blkOk_by (N := nAll) (sc := defScope sAll) (by decide +kernel)) (fun _ _ _ _ _ => (pg_name (i := 4) nd rfl (Or.inl rfl))) (fun _ _ _ _ _ => pts_nil) (fun _ _ _ _ _ => (pe_call G2 (hr.mono (by decide)) rfl m2 k2 b2 .nil pass0 (pa_cons (pv 0) (pa_cons (pv 1) pa_nil)))))) (pss_cons (ps_if (pt_cmpR op_eq ((pe_call G1 (hr.mono (by decide)) rfl m1 k1 b1 .nil pass0 (pa_cons (pv 0) (pa_cons (pe_int) pa_nil)))) (pe_int) (nomark _)) (pss_one (ps_asg (pe_ix ix_list (pv 3) (pe_int) (fun _ _ => rfl)) (pg_sub (pv 3) (pe_un un_neg pe_int) set_list))) pss_nil) (pss_one (ps_ret (pv 3))))), ?_⟩
    refine ⟨_, rfl, (m : Int), rfl, by omega, by omega, fun D hD => ?_⟩
    rw [Int.toNat_natCast]
    have nD := hv.not_none hD
    refine lc_range (lo := 0) (n := m) (fun i H' => SB p H H' ∧ Lens H' p (n + 15 * i) ∧ ∃ as pss, pss.length = i ∧ Told H' D as pss ∧ Tok k pss ∧ D ∉ as) ⟨SB.of (same_new hD), hv.same (same_new hD), [], [], rfl, ⟨upd_same, .nil⟩, (fun ps h => absurd h List.not_mem_nil), List.not_mem_nil⟩ (fun i H' hi pv => ?_) (fun H6 pv => ?_)
    · obtain ⟨s, v, as, pss, l, td, tk, nm⟩ := pv
      refine ⟨rfl, ?_⟩
      refine ⟨_, rfl, _, rfl, p, _, k, rfl, v, by omega, k4, k7, fun H2 a ts ps s2 v2 _ a0 lp lps okp => ?_⟩
      have td2 := td.sb v s2
      have nDa : a ≠ D := by
        rintro rfl
        rw [td.1] at a0
        cases a0
      refine ⟨_, td2.1, by rw [List.length_map, td2.len, l]; exact small1000 (by omega), (s.trans s2).upd hv hD, (v2.upd hv (s.trans s2) hD).le (by omega), as ++ [a], pss ++ [ps], by rw [List.length_append, l]; rfl, ⟨by rw [upd_same, List.map_append]; rfl, ?_⟩, fun qs hq => ?_, fun hm => ?_⟩
      · exact paired_snoc (lpx_upd nm td2.1 td2.2) ⟨ts, (show LP (upd H2 D _) a ts ps from ⟨by rw [upd_ne nDa]; exact lp.1, prs_upd td2.1 lp.2⟩)⟩
      · rcases List.mem_append.mp hq with z | z
        · exact tk qs z
        · rw [List.mem_singleton.mp z]
          exact ⟨lps, okp⟩
      · rcases List.mem_append.mp hm with z | z
        · exact nm z
        · exact nDa (List.mem_singleton.mp z).symm
    · obtain ⟨s, v, as, pss, l, td, tk, nm⟩ := pv
      refine ⟨_, rfl, p, 3, _, rfl, v, by omega, by decide, by decide, fun H7 d s7 v7 d0 d3 => ⟨rfl, _, rfl, ?_⟩⟩
      have td7 := td.sb v s7
      have s07 := s.trans s7
      have la := td7.len
      by_cases h0 : d = 0
      · rw [decide_eq_true (show V.int d = V.int 0 by rw [h0])]
        obtain ⟨a, ea, ra⟩ := td7.at (i := 0) (ps := pss[0]) (List.getElem?_eq_getElem (by omega))
        have ea' : as[0]? = some a := by
          rw [List.getElem?_map] at ea
          cases e : as[0]? with
          | none => rw [e] at ea; cases ea
          | some b =>
            rw [e] at ea
            rw [V.ref.inj (Option.some.inj ea)]
        have nDa : a ≠ D := fun e => nm (e ▸ List.mem_of_getElem? ea')
        refine iteT ⟨_, rfl, D, _, 0, _, rfl, rfl, SqL.of td7.1, atI_nat (j := 0) ea, ?_⟩
        refine ⟨_, rfl, _, rfl, D, _, _, m - 1, rfl, rfl, td7.1, by rw [List.length_map, la, l]; exact ixN_last h1m, ?_⟩
        have td8 : Told (upd H7 D (.lst ((as.map V.ref).set (m - 1) (V.ref a)))) D (as.set (m - 1) a) (pss.set (m - 1) pss[0]) := ⟨by rw [upd_same, List.map_set], paired_set (lpx_upd nm td7.1 td7.2) (ra.upd nDa td7.1) _⟩
        refine ⟨_, rfl, q _ D _ _ (SB.upd hv s07 hD) ((v7.upd hv s07 hD).le (by omega)) hD td8 (by rw [List.length_set, l]) fun qs hq => ?_⟩
        rcases List.mem_or_eq_of_mem_set hq with e | e
        · exact tk _ e
        · rw [e]
          exact tk _ (List.getElem_mem _)
      · rw [decide_eq_false (fun z => h0 (V.int.inj z))]
        exact iteF ⟨_, rfl, q _ D as pss s07 (v7.le (by omega)) hD td7 l tk⟩
/-! ### _law_made -/
def spMade (C : Addr) : Sp := fun vs H Q _ => ∃ (D : Addr) (as : List Addr) (pss : PSS), vs = [.ref D] ∧ Told H D as pss ∧ (∀ ps ∈ pss, OkP ps) ∧ pss.length ≤ 100 ∧ ∀ H' R cs, Same H H' → H R = none → PicL H' C R cs pss → Q (.ref R) H'
abbrev sMade : Stmt := top 58
abbrev nMade : List Str := ["_law_told", "_law_places_here"]
theorem scMade : FnScope nMade ["_law_told"] (defScope sMade) := ⟨rfl, rfl, rfl, by decide +kernel, rfl, by decide +kernel, by decide +kernel⟩
theorem ok_made {f : Addr} {fd : FuncData} (F : Fun K "_law_made" "_law_made" sMade f fd) (B : Bn mg) (T : Pc P w K mg base C CB) : FnOk P w K mg base CX0 8 f fd ["_law_told"] (spMade C) := by
  have nd := scMade.nd
  refine F.ok scMade (fun vs H Q E h => ?_) (fun cdv A outer s H vs Q E hr h => ?_)
  · obtain ⟨D, as, pss, rfl, _⟩ := h
    rfl
  · obtain ⟨D, as, pss, rfl, td, ok, hl, q⟩ := h
    refine ⟨_, pss_one (ps_ret (pe_lc (own := [("_law_places_here", 1)]) (g := gName 1) (tt := tYes) rfl nd (pi_list (pv 0)) (blkOk_by (N := nMade) (sc := defScope sMade) (by decide +kernel)) (fun _ _ _ _ _ => (pg_name (i := 1) nd rfl (Or.inl rfl))) (fun _ _ _ _ _ => pts_nil) (fun _ _ _ _ _ => pe_mkPc (E := E0) K T (hr.mono (by decide)) passL rfl (pa_cons (pv 1) pa_nil)))), ?_⟩
    refine ⟨_, rfl, D, rfl, ⟨_, SqL.of td.1⟩, fun R hR => ?_⟩
    have sR := same_new (o := .lst []) hR
    refine lc_list (K := K) (a := D) (xs := as.map V.ref) (fun i H' => Same H H' ∧ ∃ cs, H' R = some (.lst (cs.map V.ref)) ∧ Pics H' C cs (pss.take i)) ⟨sR, [], upd_same, .nil⟩ (fun i H' _ p => SqL.of (p.1 _ _ td.1)) (fun i x H' hx p => ?_) (fun H' p => ?_)
    · obtain ⟨s1, cs, gR, pc⟩ := p
      obtain ⟨a, ps, ha, rfl, hp, lpx⟩ := td.mem hx
      obtain ⟨ts, lp⟩ := lpx.same s1
      refine ⟨rfl, yes_of ?_⟩
      refine ⟨_, rfl, _, rfl, .inl ⟨ps, lp.pls, ok ps (List.mem_of_getElem? hp), fun x H2 s2 n2 pf => ?_⟩⟩
      have g2 := s2 _ _ gR
      refine ⟨_, g2, ?_, fun b o e => ?_, cs ++ [x], by rw [upd_same, List.map_append]; rfl, ?_⟩
      · rw [List.length_map, pc.len]
        exact small1000 (Nat.le_trans (List.length_take_le' _ _) (by omega))
      · rw [upd_ne (ne_of_none e hR)]
        exact s2 _ _ (s1 _ _ e)
      · rw [take_more hp]
        exact paired_snoc ((pc.same s2).updl g2) (pf.updl g2)
    · obtain ⟨s1, cs, gR, pc⟩ := p
      rw [List.length_map, td.len, List.take_length] at pc
      exact q _ R cs s1 hR ⟨gR, pc⟩
end
end K14

namespace K14
open PySem PySem.Spec PyProof.Rows L2
/-! ### whether a value is of a class -/
def IsA (K : PySem.W.Frag) (C : Addr) (H : Hp) (v : V) (b : Bool) : Prop := ∃ u, PySem.W.kitOne K u (.ref C) = some b ∧ ∀ H', Same H H' → TyX K H' v u
theorem IsA.same {K : PySem.W.Frag} {C : Addr} {H H1 : Hp} {v : V} {b : Bool} (h : IsA K C H v b) (s : Same H H1) : IsA K C H1 v b := let ⟨u, k, t⟩ := h; ⟨u, k, fun H' s' => t H' (s.trans s')⟩
theorem PicF.isA {K : PySem.W.Frag} {C a : Addr} {H : Hp} {ps : List (Int × Int)} (h : PicF H C a ps) (T : PicT K C) : IsA K C H (.ref a) true := ⟨_, kit_self, fun _ s => (h.same s).ty T⟩
section
variable {P : Program} {w : World} {K : PySem.W.Frag} {mg : Str → Option Value} {base : Heap} {C CA CB CX' CP CW : Addr}
/-! ### BadAlbum -/
abbrev sAI : Stmt := inClass (top 5) 0
theorem scAI : FnScope ["self", "part"] ["self", "part"] (defScope sAI) := ⟨rfl, rfl, rfl, by decide +kernel, rfl, by decide +kernel, by decide +kernel⟩
theorem ok_ai {f C : Addr} {fd : FuncData} (F : Fun K "__init__" "BadAlbum.__init__" sAI f fd) : FnOk P w K mg base CX0 1 f fd ["self", "part"] (spE1 K "part" C) := by
  refine F.ok scAI (fun vs H Q E h => ?_) (fun cdv A outer s H vs Q E hr h => ?_)
  · obtain ⟨a, y, rfl, _⟩ := h
    rfl
  · obtain ⟨a, y, rfl, T, no, ha, q⟩ := h
    exact ⟨_, pss_one (ps_ost (pv 0) (pv 1)), _, rfl, _, rfl, a, C, rfl, T, no, .inl ⟨ha, q⟩⟩
/-! ### check_picture_numbers -/
abbrev sPN : Stmt := top 25
theorem scPN : FnScope nCP ["values", "many"] (defScope sPN) := ⟨rfl, rfl, rfl, by decide +kernel, rfl, by decide +kernel, by decide +kernel⟩
theorem ok_pn {f : Addr} {fd : FuncData} (F : Fun K "check_picture_numbers" "check_picture_numbers" sPN f fd) (M1 : ErM P w K mg base "NoPicture" "value" CP) (C1 : Callee P w K mg base CX0 3 "_first_wrong" ["values", "many"] (spFW K)) (C2 : Callee P w K mg base (L2.CX P w) 3 "_check_unlike" ["values"] (spCU CW)) : FnOk P w K mg base (L2.CX P w) 4 f fd ["values", "many"] (spCP K CP CW) := by
  obtain ⟨f1, fd1, m1, k1, b1, G1⟩ := C1
  obtain ⟨f2, fd2, m2, k2, b2, G2⟩ := C2
  obtain ⟨fI, fdI, T1, GE1, bE1⟩ := M1
  have nd := scPN.nd
  refine F.okX scPN (fun vs H Q E h => ?_) (fun cdv A outer s H vs Q E hr h => ?_)
  · obtain ⟨v, k, rfl, _⟩ := h
    rfl
  · obtain ⟨v, k, rfl, h⟩ := h
    refine ⟨_, (pss_cons ((ps_set (i := 2) nd rfl (Or.inl rfl) ((pe_call G1 (hr.mono (by decide)) rfl m1 k1 b1 .nil pass0 (pa_cons (pv 0) (pa_cons (pv 1) pa_nil)))))) (pss_cons (ps_if (pt_truth (pv 2) (fun _ => rfl)) (pss_one (ps_raise rfl (takes_of rfl rfl rfl rfl) (pmk_oex T1.oex T1.iC T1.tI GE1 (hr.mono (by decide)) bE1 .nil pass0 rfl T1.mgC (pa_cons ((pe_ix ix_tup (pv 2) (pe_int) (fun _ _ => rfl))) pa_nil)))) pss_nil) (pss_one (ps_expr (pe_callS (E := fun _ => E) G2 (hr.mono (by decide)) rfl m2 k2 b2 (fun σ => passAt (takes_of rfl rfl rfl rfl) σ) (pa_cons (pv 0) pa_nil)))))), ?_⟩
    rcases h with ⟨x, j, r⟩ | ⟨a, ns, rfl, pl, hy, hn⟩
    · refine ⟨_, rfl, _, rfl, v, k, some x, rfl, j, fun H1 t s1 ht => ?_⟩
      refine ⟨_, rfl, true, .inr (.inl ⟨_, SqT.of ht, rfl⟩), iteT ⟨_, rfl, t, _, 0, x, rfl, rfl, SqT.of ht, rfl, by show 1 ≤ 1000; decide, fun e he => ?_⟩⟩
      exact ⟨e, _, rfl, T1.oex, T1.noF, upd_same, fun dx hdx ne => ⟨rfl, dx, _, upd_same, by rw [upd_ne ne]; exact upd_same, by rw [upd_ne ne] at hdx; exact hdx, raisedV r s1 he hdx ne⟩⟩
    · refine ⟨_, rfl, _, rfl, .ref a, k, none, rfl, pl.wj, fun H1 t s1 ht => ?_⟩
      refine ⟨_, rfl, false, .inr (.inl ⟨_, SqT.of ht, rfl⟩), iteF ?_⟩
      refine ⟨_, rfl, a, ksN ns, rfl, by rw [ksN_v]; exact pl.sq.same s1, by unfold ksN; rw [List.length_map]; exact pl.len, fun tw H2 s2 => hy (tw_none tw) H2 (s1.trans s2), fun k' tw => ?_⟩
      obtain ⟨j, rfl, hj⟩ := tw_some tw
      exact (hn j hj).same s1
/-! ### check_picture, check_album -/
def spIs (K : PySem.W.Frag) (C CB : Addr) : Sp := fun vs H Q E => ∃ (v : V) (z : Str) (b : Bool), vs = [v, .str z] ∧ IsA K C H v b ∧ (b = true → Q .non H) ∧ (b = false → RzV CB "part" (.str z) H E)
abbrev sCkP : Stmt := top 47
theorem scCkP : FnScope ["value", "part"] ["value", "part"] (defScope sCkP) := ⟨rfl, rfl, rfl, by decide +kernel, rfl, by decide +kernel, by decide +kernel⟩
theorem ok_ckp {f : Addr} {fd : FuncData} (F : Fun K "check_picture" "check_picture" sCkP f fd) (B : Bn mg) (mC : mg "Picture" = some (.ref C)) (M1 : ErM P w K mg base "BadPicture" "part" CB) : FnOk P w K mg base (L2.CX P w) 3 f fd ["value", "part"] (spIs K C CB) := by
  obtain ⟨fI, fdI, T1, GE1, bE1⟩ := M1
  have nd := scCkP.nd
  refine F.okX scCkP (fun vs H Q E h => ?_) (fun cdv A outer s H vs Q E hr h => ?_)
  · obtain ⟨v, z, b, rfl, _⟩ := h
    rfl
  · obtain ⟨v, z, b, rfl, ⟨u, hk, ht⟩, hy, hn⟩ := h
    refine ⟨_, pss_one (ps_if (pt_not (pt_val (pe_callB (r := rIsi K) call_isi (by rfl) B.isinstance boot_isinstance (pa_cons (pv 0) (pa_cons (pe_glob (v := .ref C) rfl mC rfl) pa_nil))))) (pss_one (ps_raise rfl (takes_of rfl rfl rfl rfl) (pmk_oex T1.oex T1.iC T1.tI GE1 (hr.mono (by decide)) bE1 .nil pass0 rfl T1.mgC (pa_cons (pv 1) pa_nil)))) pss_nil), ?_⟩
    refine ⟨_, rfl, _, _, _, _, b, rfl, .own _, ht H Same.me, hk, _, rfl, ?_⟩
    cases b with
    | true => exact iteF (hy rfl)
    | false =>
      refine iteT ⟨_, rfl, by show 1 ≤ 1000; decide, fun e he => ?_⟩
      exact ⟨e, _, rfl, T1.oex, T1.noF, upd_same, fun dx hdx ne => ⟨rfl, dx, _, upd_same, by rw [upd_ne ne]; exact upd_same, by rw [upd_ne ne] at hdx; exact hdx, raisedV (hn rfl) Same.me he hdx ne⟩⟩
abbrev sCkA : Stmt := top 51
theorem scCkA : FnScope ["value", "part"] ["value", "part"] (defScope sCkA) := ⟨rfl, rfl, rfl, by decide +kernel, rfl, by decide +kernel, by decide +kernel⟩
theorem ok_cka {f : Addr} {fd : FuncData} (F : Fun K "check_album" "check_album" sCkA f fd) (B : Bn mg) (mC : mg "Album" = some (.ref C)) (M1 : ErM P w K mg base "BadAlbum" "part" CB) : FnOk P w K mg base (L2.CX P w) 3 f fd ["value", "part"] (spIs K C CB) := by
  obtain ⟨fI, fdI, T1, GE1, bE1⟩ := M1
  have nd := scCkA.nd
  refine F.okX scCkA (fun vs H Q E h => ?_) (fun cdv A outer s H vs Q E hr h => ?_)
  · obtain ⟨v, z, b, rfl, _⟩ := h
    rfl
  · obtain ⟨v, z, b, rfl, ⟨u, hk, ht⟩, hy, hn⟩ := h
    refine ⟨_, pss_one (ps_if (pt_not (pt_val (pe_callB (r := rIsi K) call_isi (by rfl) B.isinstance boot_isinstance (pa_cons (pv 0) (pa_cons (pe_glob (v := .ref C) rfl mC rfl) pa_nil))))) (pss_one (ps_raise rfl (takes_of rfl rfl rfl rfl) (pmk_oex T1.oex T1.iC T1.tI GE1 (hr.mono (by decide)) bE1 .nil pass0 rfl T1.mgC (pa_cons (pv 1) pa_nil)))) pss_nil), ?_⟩
    refine ⟨_, rfl, _, _, _, _, b, rfl, .own _, ht H Same.me, hk, _, rfl, ?_⟩
    cases b with
    | true => exact iteF (hy rfl)
    | false =>
      refine iteT ⟨_, rfl, by show 1 ≤ 1000; decide, fun e he => ?_⟩
      exact ⟨e, _, rfl, T1.oex, T1.noF, upd_same, fun dx hdx ne => ⟨rfl, dx, _, upd_same, by rw [upd_ne ne]; exact upd_same, by rw [upd_ne ne] at hdx; exact hdx, raisedV (hn rfl) Same.me he hdx ne⟩⟩
end
end K14

namespace K14
open PySem PySem.Spec PyProof.Rows L2
/-! ### albums -/
/-- a walk over a tuple, whatever is done with each item -/
theorem wk_tup {K : PySem.W.Frag} {a : Addr} {xs : List V} {Qd : Hp → Prop} {BODY : V → Hp → (Hp → Prop) → Prop} {H0 : Hp} (Pv : Nat → Hp → Prop) (h0 : Pv 0 H0) (hl : ∀ i H, i ≤ xs.length → Pv i H → SqT K H a xs) (hs : ∀ i x H, xs[i]? = some x → Pv i H → BODY x H (Pv (i + 1))) (hd : ∀ H, Pv xs.length H → Qd H) :
    ∃ W : Nat → Nat → Hp → Prop, (∃ m, W 0 m H0) ∧ ∀ i m H, W i m H → ((Itt K a).stop i H ∧ Qd H) ∨ ((Itt K a).go i H ∧ ∃ Nx : Hp → Prop, (∀ H', Nx H' → ∃ m', m' < m ∧ W (i + 1) m' H') ∧ ∀ x H', (Itt K a).yld i H x H' → BODY x H' Nx) := by
  refine ⟨fun i m H => m + i = xs.length ∧ Pv i H, ⟨xs.length, Nat.add_zero _, h0⟩, ?_⟩
  rintro i m H ⟨em, p⟩
  have q := hl i H (by omega) p
  by_cases hlt : i < xs.length
  · refine .inr ⟨⟨xs, xs[i], q, List.getElem?_eq_getElem hlt⟩, Pv (i + 1), fun H' p' => ⟨m - 1, by omega, by omega, p'⟩, ?_⟩
    rintro x H' ⟨rfl, y⟩
    exact hs i x _ (y xs q) p
  · have e : i = xs.length := by omega
    subst e
    exact .inl ⟨⟨xs, q, Nat.le_refl _⟩, hd H p⟩
/-- the rows of pictures, one behind another -/
def rowsOf (pss : PSS) : List (List Int) := pss.flatMap fun ps => [sk 0 ps, sk 1 ps]
def RowT (H : Hp) (r : Addr) (xs : List Int) : Prop := H r = some (.tup (xs.map V.int))
theorem RowT.updl {H : Hp} {r D : Addr} {xs : List Int} {ys : List V} {o : HO} (h : RowT H r xs) (hd : H D = some (.lst ys)) : RowT (upd H D o) r xs := by
  unfold RowT at h ⊢
  rw [upd_ne (L2.ne_of h hd (by intro z; cases z))]
  exact h
/-- at a: the album of these pictures -/
def AlbF (H : Hp) (CA C a : Addr) (cs : List Addr) (pss : PSS) : Prop := ∃ dx t u rs, H a = some (.ins CA dx [("pins", .int ((pss.headD []).length : Nat)), ("pictures", .ref t), ("rows", .ref u)]) ∧ H t = some (.tup (cs.map V.ref)) ∧ Pics H C cs pss ∧ H u = some (.tup (rs.map V.ref)) ∧ Paired (RowT H) rs (rowsOf pss)
theorem AlbF.same {H H' : Hp} {CA C a : Addr} {cs : List Addr} {pss : PSS} (h : AlbF H CA C a cs pss) (s : Same H H') : AlbF H' CA C a cs pss := let ⟨dx, t, u, rs, e, et, p, eu, r⟩ := h; ⟨dx, t, u, rs, s _ _ e, s _ _ et, p.same s, s _ _ eu, paired_mono r fun _ _ z => s _ _ z⟩
structure AlbT (K : PySem.W.Frag) (CA : Addr) : Prop where
  pc : PicC K CA
  n1 : NoAttr K CA "pins"
  n2 : NoAttr K CA "pictures"
  n3 : NoAttr K CA "rows"
/-- as many pins in each -/
def alike (pss : PSS) : Bool := pss.all fun ps => decide (ps.length = (pss.headD []).length)
def fullA : List (Str × V) := [("most", .int 8), ("what", .str "pictures")]
theorem PicF.kp {H H' : Hp} {C CA a c dx : Addr} {ps : List (Int × Int)} (h : PicF H C c ps) (ha : H a = some (.ins CA dx [])) (k : Kp a H H') : PicF H' C c ps := by
  obtain ⟨dc, t, u, e, pt, tw⟩ := h
  refine ⟨dc, t, u, k _ _ (fun z => ?_) e, pt.kp ha k, tw.kp ha k⟩
  rw [z, ha] at e
  cases e
theorem Pics.kp {H H' : Hp} {C CA a dx : Addr} {cs : List Addr} {pss : PSS} (h : Pics H C cs pss) (ha : H a = some (.ins CA dx [])) (k : Kp a H H') : Pics H' C cs pss := paired_mono h fun _ _ z => z.kp ha k
theorem Pics.isA {K : PySem.W.Frag} {H : Hp} {C : Addr} {cs : List Addr} {pss : PSS} (h : Pics H C cs pss) (T : PicT K C) : Paired (IsA K C H) (cs.map V.ref) (pss.map fun _ => true) := by
  unfold Pics at h
  induction h with
  | nil => exact .nil
  | cons a _ ih => exact .cons (a.isA T) ih
theorem isA_all {K : PySem.W.Frag} {C : Addr} {H H' : Hp} {xs : List V} {bs : List Bool} (h : Paired (IsA K C H) xs bs) (s : Same H H') : Paired (IsA K C H') xs bs := paired_mono h fun _ _ z => z.same s
theorem Pics.mem {H : Hp} {C : Addr} {cs : List Addr} {pss : PSS} {i : Nat} {x : V} (h : Pics H C cs pss) (hx : (cs.map V.ref)[i]? = some x) : ∃ c ps, cs[i]? = some c ∧ x = .ref c ∧ pss[i]? = some ps ∧ PicF H C c ps := by
  rw [List.getElem?_map] at hx
  cases e : cs[i]? with
  | none => rw [e] at hx; cases hx
  | some a =>
    rw [e] at hx
    obtain ⟨ps, hp, r⟩ := paired_get h e
    exact ⟨a, ps, rfl, (Option.some.inj hx).symm, hp, r⟩
theorem rowsOf_take {pss : PSS} {i : Nat} {ps : List (Int × Int)} (h : pss[i]? = some ps) : rowsOf (pss.take (i + 1)) = rowsOf (pss.take i) ++ [sk 0 ps, sk 1 ps] := by
  unfold rowsOf
  rw [take_more h, List.flatMap_append]
  simp
theorem rowsOf_len (pss : PSS) : (rowsOf pss).length = 2 * pss.length := by
  induction pss with
  | nil => rfl
  | cons p ps ih =>
    have e : rowsOf (p :: ps) = [sk 0 p, sk 1 p] ++ rowsOf ps := rfl
    rw [e, List.length_append, ih]
    show 2 + 2 * ps.length = 2 * (ps.length + 1)
    omega
def nq (p0 ps : List (Int × Int)) : Bool := !decide (V.int (ps.length : Nat) = V.int (p0.length : Nat))
theorem nq_any (p0 : List (Int × Int)) : ∀ pss : PSS, pss.any (id ∘ nq p0) = !pss.all fun ps => decide (ps.length = p0.length)
  | [] => rfl
  | ps :: pss => by
    rw [List.any_cons, List.all_cons, nq_any p0 pss]
    have e : (id ∘ nq p0) ps = !decide (ps.length = p0.length) := by
      show (!decide (V.int (ps.length : Nat) = V.int (p0.length : Nat))) = _
      congr 1
      rw [Bool.eq_iff_iff, decide_eq_true_iff, decide_eq_true_iff]
      exact ⟨fun z => by have := V.int.inj z; omega, fun z => by rw [z]⟩
    rw [e, Bool.not_and]
section
variable {P : Program} {w : World} {K : PySem.W.Frag} {mg : Str → Option Value} {base : Heap} {C CA CB CF CT fT : Addr}
/-- how an album is made of a value: refused, or of pictures -/
def AlbJ (K : PySem.W.Frag) (C CA CB CF CT : Addr) (v : V) (H : Hp) (OK : List Addr → PSS → Prop) (RZ : (Hp → XK → Prop) → Prop) : Prop :=
  ((Kd K H v false ∨ (∃ b, v = .ref b ∧ Sq H b []) ∨ ∃ b xs bs, v = .ref b ∧ Sq H b xs ∧ xs ≠ [] ∧ xs.length ≤ 100 ∧ Paired (IsA K C H) xs bs ∧ bs.all id = false) ∧ RZ (RzV CB "part" (.str "pictures"))) ∨
  (∃ b cs pss, v = .ref b ∧ Sq H b (cs.map V.ref) ∧ Pics H C cs pss ∧ cs ≠ [] ∧ pss.length ≤ 100 ∧ (alike pss = false → RZ (RzV CF "part" (.str "pins"))) ∧ (alike pss = true → 8 < pss.length → RZ (RzF CT fullA)) ∧ (alike pss = true → pss.length ≤ 8 → OK cs pss))
/-! ### Album.__init__ -/
def spAI (K : PySem.W.Frag) (C CA CB CF CT : Addr) : Sp := fun vs H Q E => ∃ (a dx : Addr) (v : V), vs = [.ref a, v] ∧ H a = some (.ins CA dx []) ∧
  AlbJ K C CA CB CF CT v H (fun cs pss => ∀ H', Kp a H H' → AlbF H' CA C a cs pss → Q .non H') (fun R => ∀ H1, Kp a H H1 → R H1 E)
abbrev sAlI : Stmt := inClass (top 50) 0
abbrev nAlI : List Str := ["self", "pictures", "picture", "row"]
theorem scAlI : FnScope nAlI ["self", "pictures"] (defScope sAlI) := ⟨rfl, rfl, rfl, by decide +kernel, rfl, by decide +kernel, by decide +kernel⟩
theorem ok_ali {f : Addr} {fd fdT : FuncData} (F : Fun K "__init__" "Album.__init__" sAlI f fd) (B : Bn mg) (hany : mg "any" = none) (T : PicT K C) (TA : AlbT K CA) (mC : mg "Picture" = some (.ref C)) (L8 : ∃ t, mg "MOST_PICTURES" = some (.int 8 t)) (M1 : ErM P w K mg base "BadAlbum" "part" CB) (M2 : ErM P w K mg base "Misfit" "part" CF) (TT : TmT K mg CT fT) (FT : Fun K "__init__" "TooMany.__init__" sTI fT fdT) (C1 : Callee P w K mg base CX0 1 "is_list" ["value"] (spIsList K)) :
    FnOk P w K mg base (L2.CX P w) 4 f fd ["self", "pictures"] (spAI K C CA CB CF CT) := by
  obtain ⟨f1, fd1, m1, k1, b1, G1⟩ := C1
  obtain ⟨fE1, fdE1, T1, GE1, bE1⟩ := M1
  obtain ⟨fE2, fdE2, T2, GE2, bE2⟩ := M2
  obtain ⟨t8, m8⟩ := L8
  have GT : FnOk P w K mg base CX0 1 fT fdT ["self", "what", "most"] (spIn2 K "what" "most") := ok_ti FT
  have bT : Binds K fdT ["self", "what", "most"] [] := FT.binds (ps := ["self", "what", "most"]) fun _ _ _ _ _ _ us hl => match us, hl with | [_, _, _], _ => rfl
  have nd := scAlI.nd
  have cA := TA.pc.cls
  have cP := T.pc.cls
  have bad : ∀ {H H1 : Hp} {E : XK}, (∀ z, RzV CB "part" z H1 E → True) := fun _ _ => trivial
  refine F.okX scAlI (fun vs H Q E h => ?_) (fun cdv A outer s H vs Q E hr h => ?_)
  · obtain ⟨a, dx, v, rfl, _⟩ := h
    rfl
  · obtain ⟨a, dx, v, rfl, ha, h⟩ := h
    rcases h with ⟨h, r⟩ | ⟨b, cs, pss, rfl, hs, hp, hne, h100, r1, r2, q⟩
    · rcases h with h | ⟨b, rfl, hs⟩ | ⟨b, xs, bs, rfl, hs, hne, h100, hj, hb⟩
      · refine ⟨_, pss_cons (ps_if (PW.pt (pw_or (pt_not (pt_val (pe_call G1 (hr.mono (by decide)) rfl m1 k1 b1 .nil pass0 (pa_cons (pv 1) pa_nil)))) (pw_or1 (pt_not (pt_truth (pv 1) (fun _ => rfl)))))) (pss_one (ps_raise rfl (takes_of rfl rfl rfl rfl) (pmk_oex T1.oex T1.iC T1.tI GE1 (hr.mono (by decide)) bE1 .nil pass0 rfl T1.mgC (pa_cons (pe_str) pa_nil)))) pss_nil) pss_never, ?_⟩
        refine ⟨_, rfl, v, false, rfl, h, fun H1 s1 => ⟨_, rfl, ?_⟩⟩
        refine iteT ⟨by show 1 ≤ 1000; decide, fun e he => ?_⟩
        exact ⟨e, _, rfl, T1.oex, T1.noF, upd_same, fun dx hdx ne => ⟨rfl, dx, _, upd_same, by rw [upd_ne ne]; exact upd_same, by rw [upd_ne ne] at hdx; exact hdx, raisedV (r _ (Kp.of s1)) Same.me he hdx ne⟩⟩
      · refine ⟨_, pss_cons (ps_if (PW.pt (pw_or (pt_not (pt_val (pe_call G1 (hr.mono (by decide)) rfl m1 k1 b1 .nil pass0 (pa_cons (pv 1) pa_nil)))) (pw_or1 (pt_not (pt_truth (pv 1) (fun _ => rfl)))))) (pss_one (ps_raise rfl (takes_of rfl rfl rfl rfl) (pmk_oex T1.oex T1.iC T1.tI GE1 (hr.mono (by decide)) bE1 .nil pass0 rfl T1.mgC (pa_cons (pe_str) pa_nil)))) pss_nil) pss_never, ?_⟩
        refine ⟨_, rfl, _, true, rfl, hs.kd, fun H1 s1 => ⟨_, rfl, iteF ?_⟩⟩
        refine ⟨_, rfl, false, (hs.same s1).elim (fun z => .inl ⟨_, SqL.of z, rfl⟩) (fun z => .inr (.inl ⟨_, SqT.of z, rfl⟩)), ?_⟩
        refine iteT ⟨by show 1 ≤ 1000; decide, fun e he => ?_⟩
        exact ⟨e, _, rfl, T1.oex, T1.noF, upd_same, fun dx hdx ne => ⟨rfl, dx, _, upd_same, by rw [upd_ne ne]; exact upd_same, by rw [upd_ne ne] at hdx; exact hdx, raisedV (r _ (Kp.of s1)) Same.me he hdx ne⟩⟩
      · have trT : ∀ H1, Same H H1 → Sq H1 b xs := fun H1 s1 => hs.same s1
        have ne1 : (!xs.isEmpty) = true := by
          cases xs with
          | nil => exact absurd rfl hne
          | cons => rfl
        rcases hs with hs | hs
        · refine ⟨_, pss_cons (ps_if (PW.pt (pw_or (pt_not (pt_val (pe_call G1 (hr.mono (by decide)) rfl m1 k1 b1 .nil pass0 (pa_cons (pv 1) pa_nil)))) (pw_or1 (pt_not (pt_truth (pv 1) (fun _ => rfl)))))) (pss_one (ps_raise rfl (takes_of rfl rfl rfl rfl) (pmk_oex T1.oex T1.iC T1.tI GE1 (hr.mono (by decide)) bE1 .nil pass0 rfl T1.mgC (pa_cons (pe_str) pa_nil)))) pss_nil) (pss_cons (ps_if (pt_not (pt_val (pe_callB (cr_all rfl) (by rfl) B.all boot_all (pa_cons ((pe_lc (own := [("picture", 2)]) (g := gName 2) (tt := tYes) rfl nd (pi_list (pv 1)) (blkOk_by (N := nAlI) (sc := defScope sAlI) (by decide +kernel)) (fun _ _ _ _ _ => (pg_name (i := 2) nd rfl (Or.inl rfl))) (fun _ _ _ _ _ => pts_nil) (fun _ _ _ _ _ => pe_callB (r := rIsi K) call_isi (by rfl) B.isinstance boot_isinstance (pa_cons (pv 2) (pa_cons (pe_glob (v := .ref C) rfl mC rfl) pa_nil))))) pa_nil)))) (pss_one (ps_raise rfl (takes_of rfl rfl rfl rfl) (pmk_oex T1.oex T1.iC T1.tI GE1 (hr.mono (by decide)) bE1 .nil pass0 rfl T1.mgC (pa_cons (pe_str) pa_nil)))) pss_nil) pss_never), ?_⟩
          refine ⟨_, rfl, _, true, rfl, .lst hs, fun H1 s1 => ⟨_, rfl, iteF ?_⟩⟩
          refine ⟨_, rfl, true, .inl ⟨_, SqL.of (s1 _ _ hs), ?_⟩, ?_⟩
          · exact ne1.symm
          refine iteF ?_
          refine ⟨_, rfl, b, rfl, ⟨_, SqL.of (s1 _ _ hs)⟩, fun D hD => ?_⟩
          refine lc_list (K := K) (a := b) (xs := xs) (fun i => At H1 D ((bs.take i).map V.bl)) ⟨same_new hD, upd_same⟩ (fun i H' _ p => SqL.of (p.1 _ _ (s1 _ _ hs))) (fun i x H' hx p => ?_) (fun H' p => ?_)
          · obtain ⟨bx, hbx, u, hk, ht⟩ := paired_get hj hx
            refine ⟨rfl, yes_of ?_⟩
            refine ⟨_, rfl, _, _, _, _, bx, rfl, .own _, ht H' (s1.trans p.1), hk, _, p.2, len100 (by rw [← Paired.length hj]; exact h100) _ _, p.step hD Same.me ?_⟩
            rw [take_more hbx, List.map_append]
            rfl
          · rw [Paired.length hj, List.take_length] at p
            refine ⟨D, bs, rfl, SqL.of p.2, _, rfl, ?_⟩
            rw [hb]
            refine iteT ⟨by show 1 ≤ 1000; decide, fun e he => ?_⟩
            exact ⟨e, _, rfl, T1.oex, T1.noF, upd_same, fun dx hdx ne => ⟨rfl, dx, _, upd_same, by rw [upd_ne ne]; exact upd_same, by rw [upd_ne ne] at hdx; exact hdx, raisedV (r _ (Kp.of (s1.trans p.1))) Same.me he hdx ne⟩⟩
        · refine ⟨_, pss_cons (ps_if (PW.pt (pw_or (pt_not (pt_val (pe_call G1 (hr.mono (by decide)) rfl m1 k1 b1 .nil pass0 (pa_cons (pv 1) pa_nil)))) (pw_or1 (pt_not (pt_truth (pv 1) (fun _ => rfl)))))) (pss_one (ps_raise rfl (takes_of rfl rfl rfl rfl) (pmk_oex T1.oex T1.iC T1.tI GE1 (hr.mono (by decide)) bE1 .nil pass0 rfl T1.mgC (pa_cons (pe_str) pa_nil)))) pss_nil) (pss_cons (ps_if (pt_not (pt_val (pe_callB (cr_all rfl) (by rfl) B.all boot_all (pa_cons ((pe_lc (own := [("picture", 2)]) (g := gName 2) (tt := tYes) rfl nd (pi_tup (pv 1)) (blkOk_by (N := nAlI) (sc := defScope sAlI) (by decide +kernel)) (fun _ _ _ _ _ => (pg_name (i := 2) nd rfl (Or.inl rfl))) (fun _ _ _ _ _ => pts_nil) (fun _ _ _ _ _ => pe_callB (r := rIsi K) call_isi (by rfl) B.isinstance boot_isinstance (pa_cons (pv 2) (pa_cons (pe_glob (v := .ref C) rfl mC rfl) pa_nil))))) pa_nil)))) (pss_one (ps_raise rfl (takes_of rfl rfl rfl rfl) (pmk_oex T1.oex T1.iC T1.tI GE1 (hr.mono (by decide)) bE1 .nil pass0 rfl T1.mgC (pa_cons (pe_str) pa_nil)))) pss_nil) pss_never), ?_⟩
          refine ⟨_, rfl, _, true, rfl, .tup hs, fun H1 s1 => ⟨_, rfl, iteF ?_⟩⟩
          refine ⟨_, rfl, true, .inr (.inl ⟨_, SqT.of (s1 _ _ hs), ?_⟩), ?_⟩
          · exact ne1.symm
          refine iteF ?_
          refine ⟨_, rfl, b, rfl, ⟨_, SqT.of (s1 _ _ hs)⟩, fun D hD => ?_⟩
          refine lc_tup (K := K) (a := b) (xs := xs) (fun i => At H1 D ((bs.take i).map V.bl)) ⟨same_new hD, upd_same⟩ (fun i H' _ p => SqT.of (p.1 _ _ (s1 _ _ hs))) (fun i x H' hx p => ?_) (fun H' p => ?_)
          · obtain ⟨bx, hbx, u, hk, ht⟩ := paired_get hj hx
            refine ⟨rfl, yes_of ?_⟩
            refine ⟨_, rfl, _, _, _, _, bx, rfl, .own _, ht H' (s1.trans p.1), hk, _, p.2, len100 (by rw [← Paired.length hj]; exact h100) _ _, p.step hD Same.me ?_⟩
            rw [take_more hbx, List.map_append]
            rfl
          · rw [Paired.length hj, List.take_length] at p
            refine ⟨D, bs, rfl, SqL.of p.2, _, rfl, ?_⟩
            rw [hb]
            refine iteT ⟨by show 1 ≤ 1000; decide, fun e he => ?_⟩
            exact ⟨e, _, rfl, T1.oex, T1.noF, upd_same, fun dx hdx ne => ⟨rfl, dx, _, upd_same, by rw [upd_ne ne]; exact upd_same, by rw [upd_ne ne] at hdx; exact hdx, raisedV (r _ (Kp.of (s1.trans p.1))) Same.me he hdx ne⟩⟩
    · obtain ⟨c0, cr, rfl⟩ : ∃ c0 cr, cs = c0 :: cr := by
        cases cs with
        | nil => exact absurd rfl hne
        | cons c0 cr => exact ⟨c0, cr, rfl⟩
      obtain ⟨p0, pr, rfl⟩ : ∃ p0 pr, pss = p0 :: pr := by
        cases pss with
        | nil => cases hp
        | cons p0 pr => exact ⟨p0, pr, rfl⟩
      have lcs := hp.len
      have hpc := hp
      have hc0 : PicF H C c0 p0 := by
        cases hp with
        | cons a _ => exact a
      have al : ((p0 :: pr).map (nq p0)).any id = !alike (p0 :: pr) := by
        rw [List.any_map, nq_any]
        rfl
      rcases hs with hs | hs
      · have nb : b ≠ a := L2.ne_of hs ha (by intro z; cases z)
        refine ⟨_, (pss_cons (ps_if (PW.pt (pw_or (pt_not (pt_val (pe_call G1 (hr.mono (by decide)) rfl m1 k1 b1 .nil pass0 (pa_cons (pv 1) pa_nil)))) (pw_or1 (pt_not (pt_truth (pv 1) (fun _ => rfl)))))) (pss_one (ps_raise rfl (takes_of rfl rfl rfl rfl) (pmk_oex T1.oex T1.iC T1.tI GE1 (hr.mono (by decide)) bE1 .nil pass0 rfl T1.mgC (pa_cons (pe_str) pa_nil)))) pss_nil) (pss_cons (ps_if (pt_not (pt_val (pe_callB (cr_all rfl) (by rfl) B.all boot_all (pa_cons ((pe_lc (own := [("picture", 2)]) (g := gName 2) (tt := tYes) rfl nd (pi_list (pv 1)) (blkOk_by (N := nAlI) (sc := defScope sAlI) (by decide +kernel)) (fun _ _ _ _ _ => (pg_name (i := 2) nd rfl (Or.inl rfl))) (fun _ _ _ _ _ => pts_nil) (fun _ _ _ _ _ => pe_callB (r := rIsi K) call_isi (by rfl) B.isinstance boot_isinstance (pa_cons (pv 2) (pa_cons (pe_glob (v := .ref C) rfl mC rfl) pa_nil))))) pa_nil)))) (pss_one (ps_raise rfl (takes_of rfl rfl rfl rfl) (pmk_oex T1.oex T1.iC T1.tI GE1 (hr.mono (by decide)) bE1 .nil pass0 rfl T1.mgC (pa_cons (pe_str) pa_nil)))) pss_nil) (pss_cons (ps_fld (pv 0) (pe_fld (pe_ix ix_seq (pv 1) (pe_int) (fun _ _ => rfl)) rfl) rfl) (pss_cons (ps_if (pt_val (pe_callB (cr_any rfl) (by rfl) hany boot_any (pa_cons ((pe_lc (own := [("picture", 2)]) (g := gName 2) (tt := tYes) rfl nd (pi_list (pv 1)) (blkOk_by (N := nAlI) (sc := defScope sAlI) (by decide +kernel)) (fun _ _ _ _ _ => (pg_name (i := 2) nd rfl (Or.inl rfl))) (fun _ _ _ _ _ => pts_nil) (fun _ _ _ _ _ => pe_cmpR op_ne (pe_fldK K (pv 2) rfl) (pe_fldK K (pv 0) rfl) (nomark _)))) pa_nil))) (pss_one (ps_raise rfl (takes_of rfl rfl rfl rfl) (pmk_oex T2.oex T2.iC T2.tI GE2 (hr.mono (by decide)) bE2 .nil pass0 rfl T2.mgC (pa_cons (pe_str) pa_nil)))) pss_nil) (pss_cons (ps_if (pt_cmpR op_gt (pe_callB call_len_seq (by rfl) B.len PySem.boot_len (pa_cons (pv 1) pa_nil)) (pe_glob (v := .int 8) rfl m8 ⟨_, rfl⟩) (nomark _)) (pss_one (ps_raise rfl (takes_of rfl rfl rfl rfl) (pmk_oex TT.oex TT.iC TT.tI GT (hr.mono (by decide)) bT .nil pass0 rfl TT.mgC (pa_cons (pe_str) (pa_cons (pe_glob (v := .int 8) rfl m8 ⟨_, rfl⟩) pa_nil))))) pss_nil) (pss_cons (ps_fld (pv 0) (pe_callTy (T := "tuple") (r := rTu K) call_tuK (by rfl) B.tuple (by decide +kernel) (pa_cons (pv 1) pa_nil)) rfl) (pss_one (ps_fld (pv 0) (pe_callTy (T := "tuple") (r := rTu K) call_tuK (by rfl) B.tuple (by decide +kernel) (pa_cons (pe_lc2 (own := [("picture", 2), ("row", 3)]) (vs1 := [3]) (g := gName 2) (tt := tYes) (g1 := gName 3) (tt1 := tYes) rfl nd (pi_tup (pe_fld (pv 0) rfl)) (blkOk_by (N := nAlI) (sc := defScope sAlI) (by decide +kernel)) (by decide) (fun _ _ _ _ _ => (pg_name (i := 2) nd rfl (Or.inl rfl))) (fun _ _ _ _ _ => pts_nil) (fun _ _ _ _ _ => pi_tupK K (pe_fldK K (pv 2) rfl)) (fun _ _ _ _ _ => (pg_name (i := 3) nd rfl (Or.inl rfl))) (fun _ _ _ _ _ => pts_nil) (fun _ _ _ _ _ => pv 3)) pa_nil)) rfl)))))))), ?_⟩
        refine ⟨_, rfl, _, true, rfl, .lst hs, fun H1 s1 => ⟨_, rfl, iteF ?_⟩⟩
        refine ⟨_, rfl, true, .inl ⟨_, SqL.of (s1 _ _ hs), rfl⟩, ?_⟩
        refine iteF ?_
        refine ⟨_, rfl, b, rfl, ⟨_, SqL.of (s1 _ _ hs)⟩, fun D hD => ?_⟩
        refine lc_list (K := K) (a := b) (xs := (c0 :: cr).map V.ref) (fun i => At H1 D (((p0 :: pr).take i).map fun _ => V.bl true)) ⟨same_new hD, upd_same⟩ (fun i H' _ p => SqL.of (p.1 _ _ (s1 _ _ hs))) (fun i x H' hx p => ?_) (fun H2 p => ?_)
        · obtain ⟨c, ps, _, rfl, hps, pf⟩ := hp.mem hx
          refine ⟨rfl, yes_of ?_⟩
          refine ⟨_, rfl, _, _, _, _, true, rfl, .own _, ((pf.same s1).same p.1).ty T, kit_self, _, p.2, len100 h100 _ _, p.step hD Same.me ?_⟩
          rw [take_more hps, List.map_append]
          rfl
        · rw [List.length_map, lcs, List.take_length] at p
          refine ⟨D, (p0 :: pr).map fun _ => true, rfl, SqL.of (by rw [p.2, List.map_map]; rfl), _, rfl, ?_⟩
          have e1 : ((p0 :: pr).map fun _ => true).all id = true := by
            rw [List.all_map]
            exact List.all_eq_true.mpr fun _ _ => rfl
          rw [e1]
          refine iteF ?_
          have s12 := s1.trans p.1
          have hb2 := s12 _ _ hs
          have ha2 := s12 _ _ ha
          obtain ⟨dx0, t0, u0, e0, _⟩ := hc0.same s12
          refine ⟨_, rfl, .inl (⟨b, _, 0, .ref c0, rfl, rfl, SqL.of hb2, atI_nat (j := 0) rfl, ?_⟩)⟩
          refine ⟨c0, C, dx0, _, .int p0.length, rfl, e0, cP, T.n2, rfl, _, rfl, a, CA, dx, [], rfl, ha2, cA, TA.n1, by show 0 < 1000; decide, ?_⟩
          have k3 : Kp a H (upd H2 a (.ins CA dx (putF "pins" (.int p0.length) []))) := (Kp.of s12).trans Kp.set
          have ha3 : upd H2 a (.ins CA dx (putF "pins" (.int p0.length) [])) a = some (.ins CA dx [("pins", .int p0.length)]) := upd_same
          generalize upd H2 a (.ins CA dx (putF "pins" (.int p0.length) [])) = H3 at k3 ha3 ⊢
          have hb3 := k3 _ _ nb hs
          refine ⟨_, rfl, b, rfl, ⟨_, SqL.of hb3⟩, fun D2 hD2 => ?_⟩
          refine lc_list (K := K) (a := b) (xs := (c0 :: cr).map V.ref) (fun i => At H3 D2 ((((p0 :: pr).map (nq p0)).take i).map V.bl)) ⟨same_new hD2, upd_same⟩ (fun i H' _ p => SqL.of (p.1 _ _ hb3)) (fun i x H' hx p => ?_) (fun H4 p => ?_)
          · obtain ⟨c, ps, _, rfl, hps, pf⟩ := hp.mem hx
            obtain ⟨dc, tc, uc, ec, _⟩ := (pf.kp ha k3).same p.1
            refine ⟨rfl, yes_of ?_⟩
            refine ⟨_, rfl, c, C, dc, _, .int ps.length, rfl, ec, cP, T.n2, rfl, _, rfl, a, CA, dx, _, .int p0.length, rfl, p.1 _ _ ha3, cA, TA.n1, rfl, rfl, _, p.2, ?_, p.step hD2 Same.me ?_⟩
            · rw [List.length_map]
              exact small1000 (Nat.le_trans (List.length_take_le' _ _) (by rw [List.length_map]; exact Nat.le_trans h100 (by decide)))
            · rw [take_more (show ((p0 :: pr).map (nq p0))[i]? = some (nq p0 ps) by rw [List.getElem?_map, hps]; rfl), List.map_append]
              rfl
          · have el : ((c0 :: cr).map V.ref).length = ((p0 :: pr).map (nq p0)).length := by rw [List.length_map, List.length_map, lcs]
            rw [el, List.take_length] at p
            refine ⟨D2, _, rfl, SqL.of p.2, _, rfl, ?_⟩
            rw [al]
            have k4 : Kp a H H4 := k3.trans (Kp.of p.1)
            have ha4 := p.1 _ _ ha3
            have hb4 := p.1 _ _ hb3
            cases ea : alike (p0 :: pr) with
            | false =>
              refine iteT ⟨by show 1 ≤ 1000; decide, fun e he => ?_⟩
              exact ⟨e, _, rfl, T2.oex, T2.noF, upd_same, fun dx hdx ne => ⟨rfl, dx, _, upd_same, by rw [upd_ne ne]; exact upd_same, by rw [upd_ne ne] at hdx; exact hdx, raisedV (r1 ea _ k4) Same.me he hdx ne⟩⟩
            | true =>
              refine iteF ⟨_, rfl, b, _, rfl, .inl (SqL.of hb4), _, _, rfl, rfl, _, rfl, ?_⟩
              rw [List.length_map, lcs]
              by_cases h8 : 8 < (p0 :: pr).length
              · rw [decide_eq_true (show (8 : Int) < (((p0 :: pr).length : Nat) : Int) by omega)]
                refine iteT ⟨by show 2 ≤ 1000; decide, fun e na => ?_⟩
                refine ⟨e, CT, _, _, rfl, TT.oex, TT.no1, TT.no2, upd_same, fun H5 k ⟨d, nd, ne, h1, h2⟩ => ⟨rfl, d, _, h1, h2, ?_, rzf_of (r2 ea h8 _ k4) na k nd ne⟩⟩
                rw [upd_ne ne] at nd
                exact nd
              rw [decide_eq_false (show ¬ (8 : Int) < (((p0 :: pr).length : Nat) : Int) by omega)]
              refine iteF ⟨_, rfl, b, _, rfl, .inl ⟨SqL.of hb4, fun t nt => ?_⟩⟩
              have st : Same H4 (upd H4 t (.tup ((c0 :: cr).map V.ref))) := same_new nt
              have ht5 : upd H4 t (.tup ((c0 :: cr).map V.ref)) t = some (.tup ((c0 :: cr).map V.ref)) := upd_same
              generalize upd H4 t (.tup ((c0 :: cr).map V.ref)) = H5 at st ht5 ⊢
              have ha5 := st _ _ ha4
              have k5 : Kp a H H5 := k4.trans (Kp.of st)
              refine ⟨_, rfl, a, CA, dx, _, rfl, ha5, cA, TA.n2, by show 1 < 1000; decide, ?_⟩
              have k6 : Kp a H (upd H5 a (.ins CA dx (putF "pictures" (.ref t) [("pins", .int p0.length)]))) := k5.trans Kp.set
              have ha6 : upd H5 a (.ins CA dx (putF "pictures" (.ref t) [("pins", .int p0.length)])) a = some (.ins CA dx [("pins", .int p0.length), ("pictures", .ref t)]) := upd_same
              have nt : t ≠ a := L2.ne_of ht5 ha5 (by intro z; cases z)
              have ht6 : upd H5 a (.ins CA dx (putF "pictures" (.ref t) [("pins", .int p0.length)])) t = some (.tup ((c0 :: cr).map V.ref)) := by rw [upd_ne nt]; exact ht5
              generalize upd H5 a (.ins CA dx (putF "pictures" (.ref t) [("pins", .int p0.length)])) = H6 at k6 ha6 ht6 ⊢
              have hp6 := hpc.kp ha k6
              refine ⟨_, rfl, a, CA, dx, _, .ref t, rfl, ha6, cA, TA.n2, rfl, t, rfl, ⟨_, SqT.of ht6⟩, fun D hD => ?_⟩
              refine wk_tup (K := K) (a := t) (xs := (c0 :: cr).map V.ref) (fun i H' => Same H6 H' ∧ ∃ rs : List Addr, H' D = some (.lst (rs.map V.ref)) ∧ Paired (RowT H') rs (rowsOf ((p0 :: pr).take i))) ⟨same_new hD, [], upd_same, .nil⟩ (fun i H' _ p => SqT.of (p.1 _ _ ht6)) (fun i x H' hx p => ?_) (fun H7 p => ?_)
              · obtain ⟨s7, rs, hD7, rt⟩ := p
                obtain ⟨c, ps, _, rfl, hps, pf⟩ := hp6.mem hx
                obtain ⟨dc, tc, uc, ec, _, r0, r1, hu, h0, h1⟩ := pf
                refine ⟨rfl, yes_of ?_⟩
                refine ⟨_, rfl, c, C, dc, _, .ref uc, rfl, s7 _ _ ec, cP, T.n3, rfl, uc, rfl, ⟨_, SqT.of (s7 _ _ hu)⟩, ?_⟩
                refine wk_tup (K := K) (a := uc) (xs := [V.ref r0, V.ref r1]) (fun j H' => Same H6 H' ∧ ∃ rs : List Addr, H' D = some (.lst (rs.map V.ref)) ∧ Paired (RowT H') rs (rowsOf ((p0 :: pr).take i) ++ [sk 0 ps, sk 1 ps].take j)) ⟨s7, rs, hD7, by rw [List.take_zero, List.append_nil]; exact rt⟩ (fun j H' _ p => SqT.of (p.1 _ _ hu)) (fun j y H' hy p => ?_) (fun H8 p => ?_)
                · obtain ⟨s8, rs, hD8, rt⟩ := p
                  have i100 : (rowsOf ((p0 :: pr).take i)).length ≤ 200 := by
                    rw [rowsOf_len]
                    have := List.length_take_le' i (p0 :: pr)
                    omega
                  have two : ∃ r xs, y = .ref r ∧ H6 r = some (.tup (xs.map V.int)) ∧ [sk 0 ps, sk 1 ps][j]? = some xs := by
                    match j, hy with
                    | 0, hy => exact ⟨r0, _, (Option.some.inj hy).symm, h0, rfl⟩
                    | 1, hy => exact ⟨r1, _, (Option.some.inj hy).symm, h1, rfl⟩
                  obtain ⟨r, xs, rfl, hr6, hxs⟩ := two
                  refine ⟨rfl, yes_of ?_⟩
                  refine ⟨_, rfl, _, hD8, ?_, ?_, rs ++ [r], by rw [upd_same, List.map_append]; rfl, ?_⟩
                  · rw [List.length_map, Paired.length rt, List.length_append]
                    exact small1000 (by
                      have := List.length_take_le' j [sk 0 ps, sk 1 ps]
                      have z : [sk 0 ps, sk 1 ps].length = 2 := rfl
                      omega)
                  · intro b o e
                    rw [upd_ne (ne_of_none e hD)]
                    exact s8 _ _ e
                  · rw [take_more hxs, ← List.append_assoc]
                    exact paired_snoc (paired_mono rt fun _ _ z => z.updl hD8) (RowT.updl (s8 _ _ hr6) hD8)
                · obtain ⟨s8, rs, hD8, rt⟩ := p
                  refine ⟨s8, rs, hD8, ?_⟩
                  rw [rowsOf_take hps]
                  exact rt
              · obtain ⟨s7, rs, hD7, rt⟩ := p
                rw [List.length_map, lcs, List.take_length] at rt
                refine ⟨D, _, rfl, .inl ⟨SqL.of hD7, fun u nu => ?_⟩⟩
                have su := same_new (o := .tup (rs.map V.ref)) nu
                have hu8 : upd H7 u (.tup (rs.map V.ref)) u = some (.tup (rs.map V.ref)) := upd_same
                generalize upd H7 u (.tup (rs.map V.ref)) = H8 at su hu8 ⊢
                have s68 := s7.trans su
                have ha8 := s68 _ _ ha6
                refine ⟨_, rfl, a, CA, dx, _, rfl, ha8, cA, TA.n3, by show 2 < 1000; decide, ?_⟩
                have k9 : Kp a H (upd H8 a (.ins CA dx (putF "rows" (.ref u) [("pins", .int p0.length), ("pictures", .ref t)]))) := (k6.trans (Kp.of s68)).trans Kp.set
                have nu8 : u ≠ a := L2.ne_of hu8 ha8 (by intro z; cases z)
                refine q ea (by omega) _ k9 ⟨dx, t, u, rs, upd_same, ?_, hpc.kp ha k9, ?_, paired_mono rt fun r xs z => ?_⟩
                · rw [upd_ne nt]
                  exact s68 _ _ ht6
                · rw [upd_ne nu8]
                  exact hu8
                · have z8 : H8 r = some (.tup (xs.map V.int)) := su _ _ z
                  show upd H8 a _ r = _
                  rw [upd_ne (L2.ne_of z8 ha8 (by intro z; cases z))]
                  exact z8
      · have nb : b ≠ a := L2.ne_of hs ha (by intro z; cases z)
        refine ⟨_, (pss_cons (ps_if (PW.pt (pw_or (pt_not (pt_val (pe_call G1 (hr.mono (by decide)) rfl m1 k1 b1 .nil pass0 (pa_cons (pv 1) pa_nil)))) (pw_or1 (pt_not (pt_truth (pv 1) (fun _ => rfl)))))) (pss_one (ps_raise rfl (takes_of rfl rfl rfl rfl) (pmk_oex T1.oex T1.iC T1.tI GE1 (hr.mono (by decide)) bE1 .nil pass0 rfl T1.mgC (pa_cons (pe_str) pa_nil)))) pss_nil) (pss_cons (ps_if (pt_not (pt_val (pe_callB (cr_all rfl) (by rfl) B.all boot_all (pa_cons ((pe_lc (own := [("picture", 2)]) (g := gName 2) (tt := tYes) rfl nd (pi_tup (pv 1)) (blkOk_by (N := nAlI) (sc := defScope sAlI) (by decide +kernel)) (fun _ _ _ _ _ => (pg_name (i := 2) nd rfl (Or.inl rfl))) (fun _ _ _ _ _ => pts_nil) (fun _ _ _ _ _ => pe_callB (r := rIsi K) call_isi (by rfl) B.isinstance boot_isinstance (pa_cons (pv 2) (pa_cons (pe_glob (v := .ref C) rfl mC rfl) pa_nil))))) pa_nil)))) (pss_one (ps_raise rfl (takes_of rfl rfl rfl rfl) (pmk_oex T1.oex T1.iC T1.tI GE1 (hr.mono (by decide)) bE1 .nil pass0 rfl T1.mgC (pa_cons (pe_str) pa_nil)))) pss_nil) (pss_cons (ps_fld (pv 0) (pe_fld (pe_ix ix_seq (pv 1) (pe_int) (fun _ _ => rfl)) rfl) rfl) (pss_cons (ps_if (pt_val (pe_callB (cr_any rfl) (by rfl) hany boot_any (pa_cons ((pe_lc (own := [("picture", 2)]) (g := gName 2) (tt := tYes) rfl nd (pi_tup (pv 1)) (blkOk_by (N := nAlI) (sc := defScope sAlI) (by decide +kernel)) (fun _ _ _ _ _ => (pg_name (i := 2) nd rfl (Or.inl rfl))) (fun _ _ _ _ _ => pts_nil) (fun _ _ _ _ _ => pe_cmpR op_ne (pe_fldK K (pv 2) rfl) (pe_fldK K (pv 0) rfl) (nomark _)))) pa_nil))) (pss_one (ps_raise rfl (takes_of rfl rfl rfl rfl) (pmk_oex T2.oex T2.iC T2.tI GE2 (hr.mono (by decide)) bE2 .nil pass0 rfl T2.mgC (pa_cons (pe_str) pa_nil)))) pss_nil) (pss_cons (ps_if (pt_cmpR op_gt (pe_callB call_len_seq (by rfl) B.len PySem.boot_len (pa_cons (pv 1) pa_nil)) (pe_glob (v := .int 8) rfl m8 ⟨_, rfl⟩) (nomark _)) (pss_one (ps_raise rfl (takes_of rfl rfl rfl rfl) (pmk_oex TT.oex TT.iC TT.tI GT (hr.mono (by decide)) bT .nil pass0 rfl TT.mgC (pa_cons (pe_str) (pa_cons (pe_glob (v := .int 8) rfl m8 ⟨_, rfl⟩) pa_nil))))) pss_nil) (pss_cons (ps_fld (pv 0) (pe_callTy (T := "tuple") (r := rTu K) call_tuK (by rfl) B.tuple (by decide +kernel) (pa_cons (pv 1) pa_nil)) rfl) (pss_one (ps_fld (pv 0) (pe_callTy (T := "tuple") (r := rTu K) call_tuK (by rfl) B.tuple (by decide +kernel) (pa_cons (pe_lc2 (own := [("picture", 2), ("row", 3)]) (vs1 := [3]) (g := gName 2) (tt := tYes) (g1 := gName 3) (tt1 := tYes) rfl nd (pi_tup (pe_fld (pv 0) rfl)) (blkOk_by (N := nAlI) (sc := defScope sAlI) (by decide +kernel)) (by decide) (fun _ _ _ _ _ => (pg_name (i := 2) nd rfl (Or.inl rfl))) (fun _ _ _ _ _ => pts_nil) (fun _ _ _ _ _ => pi_tupK K (pe_fldK K (pv 2) rfl)) (fun _ _ _ _ _ => (pg_name (i := 3) nd rfl (Or.inl rfl))) (fun _ _ _ _ _ => pts_nil) (fun _ _ _ _ _ => pv 3)) pa_nil)) rfl)))))))), ?_⟩
        refine ⟨_, rfl, _, true, rfl, .tup hs, fun H1 s1 => ⟨_, rfl, iteF ?_⟩⟩
        refine ⟨_, rfl, true, .inr (.inl ⟨_, SqT.of (s1 _ _ hs), rfl⟩), ?_⟩
        refine iteF ?_
        refine ⟨_, rfl, b, rfl, ⟨_, SqT.of (s1 _ _ hs)⟩, fun D hD => ?_⟩
        refine lc_tup (K := K) (a := b) (xs := (c0 :: cr).map V.ref) (fun i => At H1 D (((p0 :: pr).take i).map fun _ => V.bl true)) ⟨same_new hD, upd_same⟩ (fun i H' _ p => SqT.of (p.1 _ _ (s1 _ _ hs))) (fun i x H' hx p => ?_) (fun H2 p => ?_)
        · obtain ⟨c, ps, _, rfl, hps, pf⟩ := hp.mem hx
          refine ⟨rfl, yes_of ?_⟩
          refine ⟨_, rfl, _, _, _, _, true, rfl, .own _, ((pf.same s1).same p.1).ty T, kit_self, _, p.2, len100 h100 _ _, p.step hD Same.me ?_⟩
          rw [take_more hps, List.map_append]
          rfl
        · rw [List.length_map, lcs, List.take_length] at p
          refine ⟨D, (p0 :: pr).map fun _ => true, rfl, SqL.of (by rw [p.2, List.map_map]; rfl), _, rfl, ?_⟩
          have e1 : ((p0 :: pr).map fun _ => true).all id = true := by
            rw [List.all_map]
            exact List.all_eq_true.mpr fun _ _ => rfl
          rw [e1]
          refine iteF ?_
          have s12 := s1.trans p.1
          have hb2 := s12 _ _ hs
          have ha2 := s12 _ _ ha
          obtain ⟨dx0, t0, u0, e0, _⟩ := hc0.same s12
          refine ⟨_, rfl, .inr <| .inl (⟨b, _, 0, .ref c0, rfl, rfl, SqT.of hb2, atI_nat (j := 0) rfl, ?_⟩)⟩
          refine ⟨c0, C, dx0, _, .int p0.length, rfl, e0, cP, T.n2, rfl, _, rfl, a, CA, dx, [], rfl, ha2, cA, TA.n1, by show 0 < 1000; decide, ?_⟩
          have k3 : Kp a H (upd H2 a (.ins CA dx (putF "pins" (.int p0.length) []))) := (Kp.of s12).trans Kp.set
          have ha3 : upd H2 a (.ins CA dx (putF "pins" (.int p0.length) [])) a = some (.ins CA dx [("pins", .int p0.length)]) := upd_same
          generalize upd H2 a (.ins CA dx (putF "pins" (.int p0.length) [])) = H3 at k3 ha3 ⊢
          have hb3 := k3 _ _ nb hs
          refine ⟨_, rfl, b, rfl, ⟨_, SqT.of hb3⟩, fun D2 hD2 => ?_⟩
          refine lc_tup (K := K) (a := b) (xs := (c0 :: cr).map V.ref) (fun i => At H3 D2 ((((p0 :: pr).map (nq p0)).take i).map V.bl)) ⟨same_new hD2, upd_same⟩ (fun i H' _ p => SqT.of (p.1 _ _ hb3)) (fun i x H' hx p => ?_) (fun H4 p => ?_)
          · obtain ⟨c, ps, _, rfl, hps, pf⟩ := hp.mem hx
            obtain ⟨dc, tc, uc, ec, _⟩ := (pf.kp ha k3).same p.1
            refine ⟨rfl, yes_of ?_⟩
            refine ⟨_, rfl, c, C, dc, _, .int ps.length, rfl, ec, cP, T.n2, rfl, _, rfl, a, CA, dx, _, .int p0.length, rfl, p.1 _ _ ha3, cA, TA.n1, rfl, rfl, _, p.2, ?_, p.step hD2 Same.me ?_⟩
            · rw [List.length_map]
              exact small1000 (Nat.le_trans (List.length_take_le' _ _) (by rw [List.length_map]; exact Nat.le_trans h100 (by decide)))
            · rw [take_more (show ((p0 :: pr).map (nq p0))[i]? = some (nq p0 ps) by rw [List.getElem?_map, hps]; rfl), List.map_append]
              rfl
          · have el : ((c0 :: cr).map V.ref).length = ((p0 :: pr).map (nq p0)).length := by rw [List.length_map, List.length_map, lcs]
            rw [el, List.take_length] at p
            refine ⟨D2, _, rfl, SqL.of p.2, _, rfl, ?_⟩
            rw [al]
            have k4 : Kp a H H4 := k3.trans (Kp.of p.1)
            have ha4 := p.1 _ _ ha3
            have hb4 := p.1 _ _ hb3
            cases ea : alike (p0 :: pr) with
            | false =>
              refine iteT ⟨by show 1 ≤ 1000; decide, fun e he => ?_⟩
              exact ⟨e, _, rfl, T2.oex, T2.noF, upd_same, fun dx hdx ne => ⟨rfl, dx, _, upd_same, by rw [upd_ne ne]; exact upd_same, by rw [upd_ne ne] at hdx; exact hdx, raisedV (r1 ea _ k4) Same.me he hdx ne⟩⟩
            | true =>
              refine iteF ⟨_, rfl, b, _, rfl, .inr (SqT.of hb4), _, _, rfl, rfl, _, rfl, ?_⟩
              rw [List.length_map, lcs]
              by_cases h8 : 8 < (p0 :: pr).length
              · rw [decide_eq_true (show (8 : Int) < (((p0 :: pr).length : Nat) : Int) by omega)]
                refine iteT ⟨by show 2 ≤ 1000; decide, fun e na => ?_⟩
                refine ⟨e, CT, _, _, rfl, TT.oex, TT.no1, TT.no2, upd_same, fun H5 k ⟨d, nd, ne, h1, h2⟩ => ⟨rfl, d, _, h1, h2, ?_, rzf_of (r2 ea h8 _ k4) na k nd ne⟩⟩
                rw [upd_ne ne] at nd
                exact nd
              rw [decide_eq_false (show ¬ (8 : Int) < (((p0 :: pr).length : Nat) : Int) by omega)]
              refine iteF ⟨_, rfl, b, _, rfl, .inr ⟨SqT.of hb4, ?_⟩⟩
              have ht5 := hb4
              have st : Same H4 H4 := Same.me
              have ha5 := st _ _ ha4
              have k5 : Kp a H H4 := k4.trans (Kp.of st)
              refine ⟨_, rfl, a, CA, dx, _, rfl, ha5, cA, TA.n2, by show 1 < 1000; decide, ?_⟩
              have k6 : Kp a H (upd H4 a (.ins CA dx (putF "pictures" (.ref b) [("pins", .int p0.length)]))) := k5.trans Kp.set
              have ha6 : upd H4 a (.ins CA dx (putF "pictures" (.ref b) [("pins", .int p0.length)])) a = some (.ins CA dx [("pins", .int p0.length), ("pictures", .ref b)]) := upd_same
              have nt : b ≠ a := L2.ne_of ht5 ha5 (by intro z; cases z)
              have ht6 : upd H4 a (.ins CA dx (putF "pictures" (.ref b) [("pins", .int p0.length)])) b = some (.tup ((c0 :: cr).map V.ref)) := by rw [upd_ne nt]; exact ht5
              generalize upd H4 a (.ins CA dx (putF "pictures" (.ref b) [("pins", .int p0.length)])) = H6 at k6 ha6 ht6 ⊢
              have hp6 := hpc.kp ha k6
              refine ⟨_, rfl, a, CA, dx, _, .ref b, rfl, ha6, cA, TA.n2, rfl, b, rfl, ⟨_, SqT.of ht6⟩, fun D hD => ?_⟩
              refine wk_tup (K := K) (a := b) (xs := (c0 :: cr).map V.ref) (fun i H' => Same H6 H' ∧ ∃ rs : List Addr, H' D = some (.lst (rs.map V.ref)) ∧ Paired (RowT H') rs (rowsOf ((p0 :: pr).take i))) ⟨same_new hD, [], upd_same, .nil⟩ (fun i H' _ p => SqT.of (p.1 _ _ ht6)) (fun i x H' hx p => ?_) (fun H7 p => ?_)
              · obtain ⟨s7, rs, hD7, rt⟩ := p
                obtain ⟨c, ps, _, rfl, hps, pf⟩ := hp6.mem hx
                obtain ⟨dc, tc, uc, ec, _, r0, r1, hu, h0, h1⟩ := pf
                refine ⟨rfl, yes_of ?_⟩
                refine ⟨_, rfl, c, C, dc, _, .ref uc, rfl, s7 _ _ ec, cP, T.n3, rfl, uc, rfl, ⟨_, SqT.of (s7 _ _ hu)⟩, ?_⟩
                refine wk_tup (K := K) (a := uc) (xs := [V.ref r0, V.ref r1]) (fun j H' => Same H6 H' ∧ ∃ rs : List Addr, H' D = some (.lst (rs.map V.ref)) ∧ Paired (RowT H') rs (rowsOf ((p0 :: pr).take i) ++ [sk 0 ps, sk 1 ps].take j)) ⟨s7, rs, hD7, by rw [List.take_zero, List.append_nil]; exact rt⟩ (fun j H' _ p => SqT.of (p.1 _ _ hu)) (fun j y H' hy p => ?_) (fun H8 p => ?_)
                · obtain ⟨s8, rs, hD8, rt⟩ := p
                  have i100 : (rowsOf ((p0 :: pr).take i)).length ≤ 200 := by
                    rw [rowsOf_len]
                    have := List.length_take_le' i (p0 :: pr)
                    omega
                  have two : ∃ r xs, y = .ref r ∧ H6 r = some (.tup (xs.map V.int)) ∧ [sk 0 ps, sk 1 ps][j]? = some xs := by
                    match j, hy with
                    | 0, hy => exact ⟨r0, _, (Option.some.inj hy).symm, h0, rfl⟩
                    | 1, hy => exact ⟨r1, _, (Option.some.inj hy).symm, h1, rfl⟩
                  obtain ⟨r, xs, rfl, hr6, hxs⟩ := two
                  refine ⟨rfl, yes_of ?_⟩
                  refine ⟨_, rfl, _, hD8, ?_, ?_, rs ++ [r], by rw [upd_same, List.map_append]; rfl, ?_⟩
                  · rw [List.length_map, Paired.length rt, List.length_append]
                    exact small1000 (by
                      have := List.length_take_le' j [sk 0 ps, sk 1 ps]
                      have z : [sk 0 ps, sk 1 ps].length = 2 := rfl
                      omega)
                  · intro b o e
                    rw [upd_ne (ne_of_none e hD)]
                    exact s8 _ _ e
                  · rw [take_more hxs, ← List.append_assoc]
                    exact paired_snoc (paired_mono rt fun _ _ z => z.updl hD8) (RowT.updl (s8 _ _ hr6) hD8)
                · obtain ⟨s8, rs, hD8, rt⟩ := p
                  refine ⟨s8, rs, hD8, ?_⟩
                  rw [rowsOf_take hps]
                  exact rt
              · obtain ⟨s7, rs, hD7, rt⟩ := p
                rw [List.length_map, lcs, List.take_length] at rt
                refine ⟨D, _, rfl, .inl ⟨SqL.of hD7, fun u nu => ?_⟩⟩
                have su := same_new (o := .tup (rs.map V.ref)) nu
                have hu8 : upd H7 u (.tup (rs.map V.ref)) u = some (.tup (rs.map V.ref)) := upd_same
                generalize upd H7 u (.tup (rs.map V.ref)) = H8 at su hu8 ⊢
                have s68 := s7.trans su
                have ha8 := s68 _ _ ha6
                refine ⟨_, rfl, a, CA, dx, _, rfl, ha8, cA, TA.n3, by show 2 < 1000; decide, ?_⟩
                have k9 : Kp a H (upd H8 a (.ins CA dx (putF "rows" (.ref u) [("pins", .int p0.length), ("pictures", .ref b)]))) := (k6.trans (Kp.of s68)).trans Kp.set
                have nu8 : u ≠ a := L2.ne_of hu8 ha8 (by intro z; cases z)
                refine q ea (by omega) _ k9 ⟨dx, b, u, rs, upd_same, ?_, hpc.kp ha k9, ?_, paired_mono rt fun r xs z => ?_⟩
                · rw [upd_ne nt]
                  exact s68 _ _ ht6
                · rw [upd_ne nu8]
                  exact hu8
                · have z8 : H8 r = some (.tup (xs.map V.int)) := su _ _ z
                  show upd H8 a _ r = _
                  rw [upd_ne (L2.ne_of z8 ha8 (by intro z; cases z))]
                  exact z8
end
end K14

namespace K14
open PySem PySem.SeqAt
open AutoSeq1 (wpAny_loadPart')
open MeetsSeq MeetsSeq2 MeetsSeq3 SeqRoads2
/-! ### == of tuples whose items are compared by their own == -/
section
variable {prog : Program} {w : World} {A : Around} {R : Result → Shared → Prop} {s : Shared}
theorem tuple_eqB (l b : Addr) (items items2 : Array Value) (n n2 : Nat) (dd dd2 : Option Addr) (sl sl2 : Array (Option Value)) (e : Nat → Bool) (I : Shared → Prop)
    (turn : ∀ i (h1 : i < items.size) (h2 : i < items2.size) s, I s → wpAny (model prog w) A.in1 (eqBool items[i] items2[i]) (fun r s' => r = e i ∧ I s') (fun e s' => R (.error e) s') s)
    (fin : ∀ s, I s → R (.ok (.ret (.bool ((List.range (min items.size items2.size)).all e && items.size == items2.size)))) s)
    (hl1 : s.heap.get? l = some { cls := .type "tuple", dict := dd, data := .seq items n, slots := sl }) (hb1 : s.heap.get? b = some { cls := .type "tuple", dict := dd2, data := .seq items2 n2, slots := sl2 }) (h0 : I s) :
    wpAny (model prog w) A.in1 (Builtin.«tuple.__eq__» ⟨[.ref l, .ref b], []⟩) (GQ.FinOf prog w A R) (fun e s' => R (.error e) s') s := by
  have f2 := AutoSeq1.sub_tuple_tuple
  have lz : (items.toList.zip items2.toList).length = min items.size items2.size := by rw [List.length_zip, Array.length_toList, Array.length_toList]
  have whole : (∀ j, j < min items.size items2.size → e j = true) → (List.range (min items.size items2.size)).all e = true := fun h => List.all_eq_true.mpr fun j hj => h j (List.mem_range.mp hj)
  have broke : ∀ k, k < min items.size items2.size → e k = false → (List.range (min items.size items2.size)).all e = false := fun k hk h => by
    cases q : (List.range (min items.size items2.size)).all e with
    | false => rfl
    | true =>
      rw [List.all_eq_true.mp q k (List.mem_range.mpr hk)] at h
      cases h
  wp_walk using wpAny_loadPart' hl1, wpAny_loadPart' hb1, wpAny_forIn_list _ (fun rest b s' => b.1 = none ∧ I s' ∧ ∃ k, rest = (items.toList.zip items2.toList).drop k ∧ ∀ j, j < k → e j = true) _
  case turn =>
    rintro ⟨u, v⟩ rest b s' ⟨nb, hI, k, hr, al⟩
    have at_k : (items.toList.zip items2.toList)[k]? = some (u, v) := by
      have z := congrArg (fun l => l[0]?) hr
      simpa [List.getElem?_drop] using z.symm
    obtain ⟨hk, ek⟩ := List.getElem?_eq_some_iff.mp at_k
    have hk' : k < min items.size items2.size := by omega
    have k1 : k < items.size := by omega
    have k2 : k < items2.size := by omega
    rw [List.getElem_zip, Prod.mk.injEq, Array.getElem_toList, Array.getElem_toList] at ek
    obtain ⟨rfl, rfl⟩ := ek
    refine wpAny_bind (wpAny_mono (turn k k1 k2 s' hI) (fun r s2 q2 => ?_) fun _ _ x => x)
    obtain ⟨rfl, q2⟩ := q2
    have hF := fin s2 q2
    cases ek : e k with
    | true =>
      wp_walk
      refine ⟨rfl, q2, k + 1, ?_, fun j hj => ?_⟩
      · have z := congrArg List.tail hr
        rw [List.tail_drop] at z
        exact z
      · rcases Nat.lt_succ_iff_lt_or_eq.mp hj with h | h
        · exact al j h
        · rw [h]
          exact ek
    | false =>
      rw [broke k hk' ek, Bool.false_and] at hF
      wp_walk
      exact hF
  case fin =>
    rintro ⟨b1, b2⟩ s' ⟨nb, hI, k, hr, al⟩
    have nb : b1 = none := nb
    subst nb
    have hk : min items.size items2.size ≤ k := by
      have z := congrArg List.length hr
      rw [List.length_drop, lz] at z
      have z0 : ([] : List (Value × Value)).length = 0 := rfl
      omega
    have hF := fin s' hI
    rw [whole fun j hj => al j (by omega), Bool.true_and] at hF
    wp_walk
    simpa [Builtin.Tuple.tupleCompareSizes] using hF
  case h =>
    exact ⟨rfl, h0, 0, rfl, fun j hj => absurd hj (Nat.not_lt_zero _)⟩
end
section
variable {prog : Program} {w : World} {A : Around} {E : Value → Shared → Prop} {s : Shared}
theorem rc_tupB {l b : Addr} {items items2 : Array Value} {Q : Value → Shared → Prop} (e : Nat → Bool) (hu : A.units < cLine) (I : Shared → Prop) (hl : s.heap.IsTuple l items) (hb : s.heap.IsTuple b items2)
    (turn : ∀ i (h1 : i < items.size) (h2 : i < items2.size) s, I s → wpAny (model prog w) A.in1 (eqBool items[i] items2[i]) (fun r s' => r = e i ∧ I s') E s)
    (fin : ∀ s, I s → Q (.bool ((List.range (min items.size items2.size)).all e && items.size == items2.size)) s) (h : I s) : wpAny (model prog w) A (richCompare .Eq (.ref l) (.ref b)) Q E s := by
  obtain ⟨⟨cls, dd, data, sl⟩, ho, hc, n, hd⟩ := id hl
  obtain ⟨⟨cls2, dd2, data2, sl2⟩, ho2, hc2, n2, hd2⟩ := id hb
  simp only at hc hd hc2 hd2
  subst hc hd hc2 hd2
  refine wpAny_richCompare_same_room (op := .Eq) ⟨_, ho, rfl⟩ ⟨_, ho2, rfl⟩ F.slot_tuple_eq (GQ.call_here F.slot_tuple_eq ⟨_, ho, rfl⟩ F.entry_tuple_eq (F.args_tuple_eq_2 _ _) ?_) hu
  exact tuple_eqB (R := wants (fun v s' => v ≠ .notImplemented ∧ Q v s') E) l b items items2 n n2 dd dd2 sl sl2 e I turn (fun s' q => ⟨(fun x => nomatch x), fin s' q⟩) ho ho2 h
end
end K14

namespace K14
open PySem PySem.Spec PyProof.Rows L2
/-! ### == and != by an own __eq__, whatever it promises -/
def rEqI (K : PySem.W.Frag) (C : Addr) (sp : Sp) : R2 := fun x y H Q => ∃ (a dx : Addr) (fs : List (Str × V)) (tb : Value), x = .ref a ∧ H a = some (.ins C dx fs) ∧ TyX K H y tb ∧ PySem.W.notFirst K C tb = true ∧ sp [.ref a, y] H (fun r H' => ∃ b : Bool, r = .bl b ∧ Q (.bl b) H') (fun _ _ _ => False)
def rNeI (K : PySem.W.Frag) (C : Addr) (sp : Sp) : R2 := fun x y H Q => ∃ (a dx : Addr) (fs : List (Str × V)) (tb : Value), x = .ref a ∧ H a = some (.ins C dx fs) ∧ TyX K H y tb ∧ PySem.W.notFirst K C tb = true ∧ sp [.ref a, y] H (fun r H' => ∃ b : Bool, r = .bl b ∧ Q (.bl (!b)) H') (fun _ _ _ => False)
section
variable {X : Cx} {C fE : Addr} {fd : FuncData} {sp : Sp} {k : Nat}
theorem ins_inst {pins : List (Addr × Obj)} {σ : L2.St} {H : Hp} {s : Shared} {a dx : Addr} {fs : List (Str × V)} (I : Inv X pins σ H s) (h : H a = some (.ins C dx fs)) : ∃ (ob : Obj) (od : Obj), PySem.W.InstAt s.heap a ob C (some od) := by
  obtain ⟨mA, J, _⟩ := ins_get I.hok h
  obtain ⟨od, J, _⟩ := J.look
  exact ⟨_, od, J⟩
theorem ty_look {pins : List (Addr × Obj)} {σ : L2.St} {H : Hp} {s : Shared} {y : V} {u tb : Value} (I : Inv X pins σ H s) (ry : RelV y u) (t : TyX X.K H y tb) : PySem.W.Looks (model X.prog X.w) s.heap (typeOf u) tb := by
  obtain ⟨P, Z, p, _⟩ := kit_of I ry t
  exact Z.ty _ _ I.kIn p
theorem rc_own {A' : Around} {pins : List (Addr × Obj)} {σ : L2.St} {H : Hp} {s : Shared} {a dx : Addr} {fs : List (Str × V)} {y : V} {u tb : Value} {Q : VK} (G : FnOk X.prog X.w X.K X.mg X.base CX0 k fE fd ["self", "other"] sp) (hs : PySem.W.findIn X.K (.ref C) "__eq__" = some (some (.ref fE))) (hf : PySem.W.isFn X.K (.ref fE) = true) (hb : Binds X.K fd ["self", "other"] []) (hr : Room (k + 1) A') (hA : A'.frames = X.A.frames)
    (I : Inv X pins σ H s) (ry : RelV y u) (ha : H a = some (.ins C dx fs)) (ht : TyX X.K H y tb) (nf : PySem.W.notFirst X.K C tb = true) (h : sp [.ref a, y] H (fun r H' => ∃ b : Bool, r = .bl b ∧ Q (.bl b) H') (fun _ _ _ => False)) :
    wpAny (model X.prog X.w) A' (richCompare .Eq (.ref a) u) (fun r s' => ∃ b, r = .bool b ∧ ∃ H', Inv X pins σ H' s' ∧ Q (.bl b) H') X.xe s := by
  obtain ⟨ob, od, J⟩ := ins_inst I ha
  obtain ⟨m, hF⟩ := I.fr
  refine PySem.W.cmp_K (op := .Eq) (tb := tb) hr.units0 hF I.ok.mod.kin J (ty_look I ry ht) nf hs hf ?_
  refine wpAny_mono (run_at (vs := [.ref a, y]) (us := [.ref a, u]) G (hr.mono (Nat.le_succ k)) hA hb I (.cons rfl (.cons ry .nil)) h) (fun r s' hq => ?_) fun _ _ z => z
  obtain ⟨v, H', I', rv, b, ev, q'⟩ := hq
  subst ev
  obtain rfl : r = Value.bool b := rv
  exact ⟨b, rfl, H', I', q'⟩
theorem op_eqI (G : FnOk X.prog X.w X.K X.mg X.base CX0 k fE fd ["self", "other"] sp) (hs : PySem.W.findIn X.K (.ref C) "__eq__" = some (some (.ref fE))) (hf : PySem.W.isFn X.K (.ref fE) = true) (hb : Binds X.K fd ["self", "other"] []) (hr : Room (k + 1) X.A) : OpR X (compareOp .Eq) (rEqI X.K C sp) := by
  intro pins s σ H x y v u Q I rx ry h
  obtain ⟨a, dx, fs, tb, rfl, ha, ht, nf, h⟩ := h
  obtain rfl : v = Value.ref a := rx
  show wpAny _ _ (richCompare .Eq (.ref a) u) _ _ s
  refine wpAny_mono (rc_own G hs hf hb hr rfl I ry ha ht nf h) (fun r s' hq => ?_) fun _ _ z => z
  obtain ⟨b, rfl, H', I', q⟩ := hq
  exact ⟨.bl b, H', I', rfl, q⟩
theorem op_neI (G : FnOk X.prog X.w X.K X.mg X.base CX0 k fE fd ["self", "other"] sp) (hs : PySem.W.findIn X.K (.ref C) "__eq__" = some (some (.ref fE))) (hf : PySem.W.isFn X.K (.ref fE) = true) (hb : Binds X.K fd ["self", "other"] []) (hne : PySem.W.findIn X.K (.ref C) "__ne__" = some (some (.builtin "object.__ne__"))) (hm : PySem.W.mroIn X.K C (.type "object") = some true) (hr : Room (k + 2) X.A) : OpR X (compareOp .NotEq) (rNeI X.K C sp) := by
  intro pins s σ H x y v u Q I rx ry h
  obtain ⟨a, dx, fs, tb, rfl, ha, ht, nf, h⟩ := h
  obtain rfl : v = Value.ref a := rx
  obtain ⟨ob, od, J⟩ := ins_inst I ha
  have L := ty_look I ry ht
  have hu : X.A.units + 1 < cLine := by
    have := hr.un
    omega
  have isO : PySem.W.Looks (model X.prog X.w) s.heap (isInstance (.ref a) (.type "object")) true := J.type.andThen (PySem.W.looks_mroIn I.kIn hm)
  have neDone : ∀ {Q' : Fin → Shared → Prop}, (∀ s' b, (∃ H', Inv X pins σ H' s' ∧ Q (.bl (!b)) H') → Q' (.done (.ret (.bool (!b)))) s') → wpAny (model X.prog X.w) X.A.in1 (Builtin.«object.__ne__» ⟨[.ref a, u], []⟩) Q' X.xe s := fun {Q'} k' => by
    unfold Builtin.«object.__ne__»
    have go : wpAny (model X.prog X.w) X.A.in1 (callSpecialIfBound? (.ref a) (Str.ofString "__eq__") [u]) (fun r s' => ∃ b, r = some (.bool b) ∧ ∃ H', Inv X pins σ H' s' ∧ Q (.bl (!b)) H') X.xe s :=
      PySem.W.ifBound_K I.kIn J hs hf (wpAny_mono (run_at (A := X.A.in1) (vs := [.ref a, y]) (us := [.ref a, u]) G (hr.mono (Nat.le_succ (k + 1))).in1 rfl hb I (.cons rfl (.cons ry .nil)) h) (fun r s' hq => by
        obtain ⟨v, H', I', rv, b, ev, q'⟩ := hq
        subst ev
        obtain rfl : r = Value.bool b := rv
        exact ⟨b, rfl, H', I', q'⟩) fun _ _ z => z)
    repeat (first
      | with_reducible refine wpAny_cRoomFor (show X.A.in1.units < cLine from hu) ?_
      | (refine wpAny_bind (m := callSpecialIfBound? (.ref a) (Str.ofString "__eq__") [u]) (wpAny_mono go (fun r s' hr => by
          obtain ⟨b, rfl, hq⟩ := hr
          have z := k' s' b hq
          repeat (first | exact z | exact wpAny_pure z | exact wpAny_truthy_bool z | (refine wpAny_bind (m := truthy (.bool _)) (wpAny_truthy_bool ?_)) | wp_step)) fun _ _ e => e))
      | wp_step)
  have tryDone : wpAny (model X.prog X.w) X.A (tryCompare (.ref a) "__ne__" u) (fun r s' => ∃ b, r = some (.bool (!b)) ∧ ∃ H', Inv X pins σ H' s' ∧ Q (.bl (!b)) H') X.xe s := by
    simp only [tryCompare]
    obtain ⟨hp', g, d, t, os⟩ := s
    refine wpAny_bind (special_in I.kIn J hne F.cmp_object.ne (wpAny_call (codeAny_call_builtin F.cmp_object.ne.plain F.cmpEntry_ne (PySem.W.check_slot F.cmpKind_ne F.cmpSplit_ne isO (F.cmpArgs_ne _ _) (neDone (fun s' b hq => ?_))))))
    exact wpAny_pure ⟨b, rfl, hq⟩
  show wpAny _ _ (richCompare .NotEq (.ref a) u) _ _ s
  unfold richCompare
  simp only [oneThing_ref, cmpInfo_NotEq]
  refine wpAny_holding (wpAny_bind (wpAny_cRoomFor (Nat.lt_of_succ_lt hu) ?_))
  refine wpAny_bind (J.type.here (wpAny_bind (L.here ?_)))
  split
  · rename_i q'
    have e : PySem.W.subIn X.K tb (.ref C) = some false := by
      unfold PySem.W.notFirst at nf
      rcases Bool.or_eq_true_iff.mp nf with e | e
      · rw [beq_iff_eq.mp e] at q'; simp at q'
      · exact beq_iff_eq.mp e
    refine wpAny_bind ((PySem.W.looks_subIn I.kIn e).here ?_)
    simp only [Bool.false_eq_true, if_false]
    refine wpAny_bind (wpAny_mono tryDone (fun r s' z => ?_) fun _ _ e => e)
    obtain ⟨b, rfl, H', I', hq⟩ := z
    exact wpAny_pure ⟨.bl (!b), H', I', rfl, hq⟩
  · refine wpAny_bind (wpAny_pure ?_)
    simp only [Bool.false_eq_true, if_false]
    refine wpAny_bind (wpAny_mono tryDone (fun r s' z => ?_) fun _ _ e => e)
    obtain ⟨b, rfl, H', I', hq⟩ := z
    exact wpAny_pure ⟨.bl (!b), H', I', rfl, hq⟩
/-! ### == of tuples of instances -/
/-- two tuples of instances of C, each judged equal to its fellow or not -/
def rEqT (K : PySem.W.Frag) (C : Addr) (sp : Sp) : R2 := fun x y H Q => ∃ (t1 t2 : Addr) (cs ds : List Addr) (e : Nat → Bool), x = .ref t1 ∧ y = .ref t2 ∧ H t1 = some (.tup (cs.map V.ref)) ∧ H t2 = some (.tup (ds.map V.ref)) ∧
  (∀ (j : Nat) c d, cs[j]? = some c → ds[j]? = some d → (c = d → e j = true) ∧ ∃ dx fs tb, H c = some (.ins C dx fs) ∧ TyX K H (.ref d) tb ∧ PySem.W.notFirst K C tb = true ∧ sp [.ref c, .ref d] H (fun r H' => r = .bl (e j) ∧ H' = H) (fun _ _ _ => False)) ∧
  Q (.bl ((List.range (min cs.length ds.length)).all e && cs.length == ds.length)) H
theorem op_eqT (G : FnOk X.prog X.w X.K X.mg X.base CX0 k fE fd ["self", "other"] sp) (hmono : ∀ vs H Q1 Q2 E, (∀ v H', Q1 v H' → Q2 v H') → sp vs H Q1 E → sp vs H Q2 E) (hs : PySem.W.findIn X.K (.ref C) "__eq__" = some (some (.ref fE))) (hf : PySem.W.isFn X.K (.ref fE) = true) (hb : Binds X.K fd ["self", "other"] []) (hr : Room (k + 2) X.A) : OpR X (compareOp .Eq) (rEqT X.K C sp) := by
  intro pins s σ H x y v u Q I rx ry h
  obtain ⟨t1, t2, cs, ds, e, rfl, rfl, h1, h2, he, q⟩ := h
  obtain rfl : v = Value.ref t1 := rx
  obtain rfl : u = Value.ref t2 := ry
  obtain ⟨its, r, i1, _⟩ := I.tuple (SqT.of h1)
  obtain ⟨its2, r2, i2, _⟩ := I.tuple (SqT.of h2)
  have l1 : its.length = cs.length := by rw [← r.length, List.length_map]
  have l2 : its2.length = ds.length := by rw [← r2.length, List.length_map]
  show wpAny _ _ (richCompare .Eq (.ref t1) (.ref t2)) _ _ s
  refine rc_tupB e hr.units0 (fun s' => Inv X pins σ H s') i1 i2 (fun i g1 g2 s' I' => ?_) (fun s' I' => ?_) I
  · have g1' : i < its.length := by simpa using g1
    have g2' : i < its2.length := by simpa using g2
    have c1 : cs[i]? = some cs[i] := List.getElem?_eq_getElem (by omega)
    have c2 : ds[i]? = some ds[i] := List.getElem?_eq_getElem (by omega)
    obtain ⟨u1, hu1, ru1⟩ := r.get (show (cs.map V.ref)[i]? = some (.ref cs[i]) by rw [List.getElem?_map, c1]; rfl)
    obtain ⟨u2, hu2, ru2⟩ := r2.get (show (ds.map V.ref)[i]? = some (.ref ds[i]) by rw [List.getElem?_map, c2]; rfl)
    have e1 : its.toArray[i] = u1 := by
      rw [List.getElem?_eq_getElem g1'] at hu1
      simpa using Option.some.inj hu1
    have e2 : its2.toArray[i] = u2 := by
      rw [List.getElem?_eq_getElem g2'] at hu2
      simpa using Option.some.inj hu2
    rw [e1, e2]
    obtain rfl : u1 = Value.ref cs[i] := ru1
    obtain rfl : u2 = Value.ref ds[i] := ru2
    have same : cs[i] = ds[i] → e i = true → wpAny (model X.prog X.w) X.A.in1 (eqBool (.ref cs[i]) (.ref ds[i])) (fun r s' => r = e i ∧ Inv X pins σ H s') X.xe s' := fun h ht => by
      rw [← h, ht]
      exact SeqAt.EqAt.same (A := X.A.in1) (s := s') (.ref cs[i]) X.prog X.w X.xe _ ⟨rfl, I'⟩
    obtain ⟨eqd, dx, fs, tb, hc, ht, nf, hsp⟩ := he i _ _ c1 c2
    by_cases ec : cs[i] = ds[i]
    · exact same ec (eqd ec)
    · refine GQ.eqBool_refG ec (wpAny_mono (rc_own (A' := X.A.in1) (Q := fun r H' => r = .bl (e i) ∧ H' = H) G hs hf hb hr.in1 rfl I' (show L2.RelV (V.ref ds[i]) (Value.ref ds[i]) from rfl) hc ht nf (hmono _ _ _ _ _ (fun v H' z => ⟨e i, z.1, rfl, z.2⟩) hsp)) (fun r s2 q => ?_) fun _ _ z => z)
      obtain ⟨b, rfl, H', I2, eb, rfl⟩ := q
      exact ⟨b, rfl, V.bl.inj eb, I2⟩
  · rw [List.size_toArray, List.size_toArray, l1, l2]
    exact ⟨.bl _, H, I', rfl, q⟩
end
end K14

namespace K14
open PySem PySem.Spec PyProof.Rows L2
/-! ### len(x) by an own __len__ -/
def rLenI (C : Addr) (sp : Sp) : List V → Hp → VK → Prop := fun xs H Q => ∃ (a dx : Addr) (fs : List (Str × V)), xs = [.ref a] ∧ H a = some (.ins C dx fs) ∧ sp [.ref a] H (fun r H' => ∃ n : Nat, r = .int n ∧ n ≤ 1000000 ∧ Q (.int n) H') (fun _ _ _ => False)
section
variable {X : Cx} {C fE : Addr} {fd : FuncData} {sp : Sp} {k : Nat}
theorem call_lenI (G : FnOk X.prog X.w X.K X.mg X.base CX0 k fE fd ["self"] sp) (hs : PySem.W.findIn X.K (.ref C) "__len__" = some (some (.ref fE))) (hf : PySem.W.isFn X.K (.ref fE) = true) (hb : Binds X.K fd ["self"] []) (hr : Room (k + 1) X.A) : CallR X (.builtin "len") (rLenI C sp) := by
  intro pins s σ H xs us Q I r h
  obtain ⟨a, dx, fs, rfl, ha, h⟩ := h
  obtain ⟨u, rfl, ru⟩ := vals1 r
  obtain rfl : u = Value.ref a := ru
  obtain ⟨ob, od, J⟩ := ins_inst I ha
  refine Calls.call_function_entry (by kernel_rfl) (by decide +kernel) entry_len (by kernel_rfl) ?_
  unfold Builtin.«len»
  refine wpAny_bind (m := oneArg "len" _) (wpAny_pure ?_)
  refine wpAny_bind (m := callSpecial? (.ref a) (Str.ofString "__len__")) (PySem.W.special_fn I.kIn J hs (beq_iff_eq.mp hf) (wpAny_mono (run_at (A := X.A.in1) (vs := [.ref a]) (us := [.ref a]) G hr.in1 rfl hb I (.cons rfl .nil) h) (fun r s' hq => ?_) fun _ _ z => z))
  obtain ⟨v, H', I', rv, n, ev, hn, q⟩ := hq
  subst ev
  obtain ⟨t, rfl⟩ := rv
  refine wpAny_bind (wpAny_holding (wpAny_pure ?_))
  refine wpAny_bind (wpAny_letGo ?_)
  show wpAny _ _ (if ((n : Nat) : Int) < 0 then _ else _) _ _ _
  rw [if_neg (by omega)]
  show wpAny _ _ (if ((n : Nat) : Int) ≥ 2 ^ 63 then _ else _) _ _ _
  rw [if_neg (by omega)]
  exact wpAny_bind (wpAny_mkInt (wpAny_pure ⟨_, rfl, .int n, H', I'.tok _, ⟨_, rfl⟩, q⟩))
end
end K14

namespace K14
open PySem PySem.Spec PyProof.Rows L2
/-! ### albums compared -/
theorem map_ref_inj {as bs : List Addr} (h : as.map V.ref = bs.map V.ref) : as = bs := by
  induction as generalizing bs with
  | nil =>
    cases bs with
    | nil => rfl
    | cons _ _ => cases h
  | cons a as ih =>
    cases bs with
    | nil => cases h
    | cons b bs =>
      rw [List.map_cons, List.map_cons, List.cons.injEq] at h
      rw [V.ref.inj h.1, ih h.2]
theorem prs_inj {H : Hp} {ts : List Addr} {ps : List (Int × Int)} (h : Paired (Pr H) ts ps) : ∀ {qs : List (Int × Int)}, Paired (Pr H) ts qs → ps = qs := by
  induction h with
  | nil =>
    intro qs k
    cases k
    rfl
  | @cons t p ts ps a _ ih =>
    intro qs k
    cases k with
    | @cons _ q _ qs b k =>
      have a : H t = some (.tup [.int p.1, .int p.2]) := a
      have b : H t = some (.tup [.int q.1, .int q.2]) := b
      rw [a] at b
      have z := HO.tup.inj (Option.some.inj b)
      rw [List.cons.injEq, List.cons.injEq] at z
      have e : p = q := Prod.ext (V.int.inj z.1) (V.int.inj z.2.1)
      rw [e, ih k]
theorem pic_inj {H : Hp} {C a : Addr} {ps qs : List (Int × Int)} (h : PicF H C a ps) (k : PicF H C a qs) : ps = qs := by
  obtain ⟨dx, t, u, e, ⟨ts, et, pt⟩, _⟩ := h
  obtain ⟨dy, t', u', e', ⟨ts', et', pt'⟩, _⟩ := k
  rw [e] at e'
  have z := HO.ins.inj (Option.some.inj e')
  have z := z.2.2
  rw [List.cons.injEq, Prod.mk.injEq] at z
  have tt := V.ref.inj z.1.2
  subst tt
  rw [et] at et'
  have w := map_ref_inj (HO.tup.inj (Option.some.inj et'))
  subst w
  exact prs_inj pt pt'
theorem all_eq {α : Type} [DecidableEq α] (xs ys : List α) : ((List.range (min xs.length ys.length)).all (fun j => decide (xs[j]? = ys[j]?)) && xs.length == ys.length) = decide (xs = ys) := by
  rw [Bool.eq_iff_iff, Bool.and_eq_true, beq_iff_eq, decide_eq_true_iff, List.all_eq_true]
  constructor
  · rintro ⟨h, l⟩
    refine List.ext_getElem? fun i => ?_
    rcases Nat.lt_or_ge i xs.length with z | z
    · exact of_decide_eq_true (h i (List.mem_range.mpr (by omega)))
    · rw [List.getElem?_eq_none z, List.getElem?_eq_none (by omega)]
  · rintro rfl
    exact ⟨fun j _ => decide_eq_true rfl, rfl⟩
/-- whether an album equals it -/
def EqA (K : PySem.W.Frag) (CA C : Addr) (H : Hp) (pss : PSS) (y : V) (b : Bool) : Prop :=
  (b = false ∧ ∃ u, PySem.W.kitOne K u (.ref CA) = some false ∧ PySem.W.notFirst K CA u = true ∧ TyX K H y u) ∨ (∃ q ds qss, y = .ref q ∧ AlbF H CA C q ds qss ∧ b = decide (pss = qss))
theorem AlbF.ty {K : PySem.W.Frag} {H : Hp} {C CA a : Addr} {cs : List Addr} {pss : PSS} (h : AlbF H CA C a cs pss) (T : AlbT K CA) : TyX K H (.ref a) (.ref CA) := let ⟨_, _, _, _, e, _⟩ := h; .base (.ins e T.pc.cls T.pc.ha T.pc.hn T.pc.ht T.pc.hm)
theorem AlbF.isA {K : PySem.W.Frag} {H : Hp} {C CA a : Addr} {cs : List Addr} {pss : PSS} (h : AlbF H CA C a cs pss) (T : AlbT K CA) : IsA K CA H (.ref a) true := ⟨_, kit_self, fun _ s => (h.same s).ty T⟩
theorem eqP_mono {C : Addr} : ∀ vs H (Q1 Q2 : VK) E, (∀ v H', Q1 v H' → Q2 v H') → spEqP C vs H Q1 E → spEqP C vs H Q2 E := fun vs H Q1 Q2 E i h => by
  obtain ⟨a, y, ps, b, e, p, q, h⟩ := h
  exact ⟨a, y, ps, b, e, p, q, i _ _ h⟩
section
variable {P : Program} {w : World} {K : PySem.W.Frag} {mg : Str → Option Value} {base : Heap} {C CA CB : Addr}
/-! ### Album.__eq__ -/
def spEqA (K : PySem.W.Frag) (CA C : Addr) : Sp := fun vs H Q _ => ∃ (a : Addr) (y : V) (cs : List Addr) (pss : PSS) (b : Bool), vs = [.ref a, y] ∧ AlbF H CA C a cs pss ∧ EqA K CA C H pss y b ∧ Q (.bl b) H
abbrev sEqA : Stmt := inClass (top 50) 2
theorem scEqA : FnScope ["self", "other"] ["self", "other"] (defScope sEqA) := ⟨rfl, rfl, rfl, by decide +kernel, rfl, by decide +kernel, by decide +kernel⟩
theorem ok_eqA {f : Addr} {fd : FuncData} (F : Fun K "__eq__" "Album.__eq__" sEqA f fd) (B : Bn mg) (TA : AlbT K CA) (T : Pc P w K mg base C CB) (mA : mg "Album" = some (.ref CA)) : FnOk P w K mg base CX0 4 f fd ["self", "other"] (spEqA K CA C) := by
  obtain ⟨fE, fdE, GE, hsE, hfE, bE⟩ := T.eq
  have cA := TA.pc.cls
  refine F.ok scEqA (fun vs H Q E h => ?_) (fun cdv A outer s H vs Q E hr h => ?_)
  · obtain ⟨a, y, cs, pss, b, rfl, _⟩ := h
    rfl
  · obtain ⟨a, y, cs, pss, b, rfl, hp, he, q⟩ := h
    refine ⟨_, pss_one (ps_ret (pe_and (pe_callB (r := rIsi K) call_isi (by rfl) B.isinstance boot_isinstance (pa_cons (pv 1) (pa_cons (pe_glob (v := .ref CA) rfl mA rfl) pa_nil))) (pe_one (pe_cmpR (op_eqT GE eqP_mono hsE hfE bE (hr.mono (by decide))) (pe_fld (pv 0) rfl) (pe_fld (pv 1) rfl) (nomark _))))), ?_⟩
    rcases he with ⟨rfl, u, hk, _, ht⟩ | ⟨c, ds, qss, rfl, hq, rfl⟩
    · exact ⟨_, rfl, _, _, _, _, false, rfl, .own _, ht, hk, _, rfl, iteF q⟩
    · refine ⟨_, rfl, _, _, _, _, true, rfl, .own _, hq.ty TA, kit_self, _, rfl, iteT ?_⟩
      obtain ⟨dx, t, u, rs, ha, ht, pa, _⟩ := hp
      obtain ⟨dx2, t2, u2, rs2, hc, ht2, pb, _⟩ := hq
      refine ⟨_, rfl, a, CA, dx, _, .ref t, rfl, ha, cA, TA.n2, rfl, _, rfl, c, CA, dx2, _, .ref t2, rfl, hc, cA, TA.n2, rfl, t, t2, cs, ds, (fun j => decide (pss[j]? = qss[j]?)), rfl, rfl, ht, ht2, fun j c d ec ed => ?_, ?_⟩
      · obtain ⟨ps, eps, pf⟩ := paired_get pa ec
        obtain ⟨qs, eqs, qf⟩ := paired_get pb ed
        have e : decide (pss[j]? = qss[j]?) = decide (ps = qs) := by
          rw [eps, eqs, Bool.eq_iff_iff, decide_eq_true_iff, decide_eq_true_iff, Option.some.injEq]
        refine ⟨fun h => ?_, ?_⟩
        · subst h
          exact e.trans (decide_eq_true (pic_inj pf qf))
        · obtain ⟨dp, tp, up, ep, _⟩ := id pf
          exact ⟨dp, _, _, ep, qf.ty T.t, by simp [PySem.W.notFirst], c, .ref d, ps, decide (ps = qs), rfl, pf, .inr ⟨d, qs, rfl, qf, rfl⟩, congrArg V.bl e.symm, rfl⟩
      · rw [pa.length, pb.length, all_eq]
        exact q
/-! ### Album.__len__ -/
def spLenA (CA C : Addr) : Sp := fun vs H Q _ => ∃ (a : Addr) (cs : List Addr) (pss : PSS), vs = [.ref a] ∧ AlbF H CA C a cs pss ∧ Q (.int (pss.length : Nat)) H
abbrev sLenA : Stmt := inClass (top 50) 1
theorem scLenA : FnScope ["self"] ["self"] (defScope sLenA) := ⟨rfl, rfl, rfl, by decide +kernel, rfl, by decide +kernel, by decide +kernel⟩
theorem ok_lenA {f : Addr} {fd : FuncData} (F : Fun K "__len__" "Album.__len__" sLenA f fd) (B : Bn mg) (TA : AlbT K CA) : FnOk P w K mg base CX0 1 f fd ["self"] (spLenA CA C) := by
  refine F.ok scLenA (fun vs H Q E h => ?_) (fun cdv A outer s H vs Q E hr h => ?_)
  · obtain ⟨a, cs, pss, rfl, _⟩ := h
    rfl
  · obtain ⟨a, cs, pss, rfl, hp, q⟩ := h
    refine ⟨_, pss_one (ps_ret (pe_callB call_len_seq (by rfl) B.len PySem.boot_len (pa_cons (pe_fld (pv 0) rfl) pa_nil))), ?_⟩
    obtain ⟨dx, t, u, rs, ha, ht, pa, _⟩ := hp
    refine ⟨_, rfl, a, CA, dx, _, .ref t, rfl, ha, TA.pc.cls, TA.n2, rfl, t, _, rfl, .inr (SqT.of ht), ?_⟩
    rw [List.length_map, pa.length]
    exact q
/-! ### Album.__str__ -/
def spStrA (CA C : Addr) : Sp := fun vs H Q _ => ∃ (a : Addr) (cs : List Addr) (pss : PSS), vs = [.ref a] ∧ AlbF H CA C a cs pss ∧ (∀ ps ∈ pss, OkP ps) ∧ pss.length ≤ 8 ∧ ∀ z H', Same H H' → Q (.str z) H'
abbrev sStrA : Stmt := inClass (top 50) 3
abbrev nStrA : List Str := ["self", "picture"]
theorem scStrA : FnScope nStrA ["self"] (defScope sStrA) := ⟨rfl, rfl, rfl, by decide +kernel, rfl, by decide +kernel, by decide +kernel⟩
theorem ok_strA {f : Addr} {fd : FuncData} (F : Fun K "__str__" "Album.__str__" sStrA f fd) (B : Bn mg) (TA : AlbT K CA) (T : Pc P w K mg base C CB) : FnOk P w K mg base CX0 5 f fd ["self"] (spStrA CA C) := by
  obtain ⟨fS, fdS, GS, hsS, hfS, bS⟩ := T.st
  have nd := scStrA.nd
  refine F.ok scStrA (fun vs H Q E h => ?_) (fun cdv A outer s H vs Q E hr h => ?_)
  · obtain ⟨a, cs, pss, rfl, _⟩ := h
    rfl
  · obtain ⟨a, cs, pss, rfl, hp, ok, h8, q⟩ := h
    refine ⟨_, pss_one (ps_ret (pe_joinN pe_str (pe_lc (own := [("picture", 1)]) (g := gName 1) (tt := tYes) rfl nd (pi_tup (pe_fld (pv 0) rfl)) (blkOk_by (N := nStrA) (sc := defScope sStrA) (by decide +kernel)) (fun _ _ _ _ _ => (pg_name (i := 1) nd rfl (Or.inl rfl))) (fun _ _ _ _ _ => pts_nil) (fun _ _ _ _ _ => pe_callTy (T := "str") (call_strP GS hsS hfS bS (hr.mono (by decide))) (by rfl) B.str (by decide +kernel) (pa_cons (pv 1) pa_nil))))), ?_⟩
    obtain ⟨dx, t, u, rs, ha, ht, pa, _⟩ := hp
    refine ⟨⟨_, rfl⟩, ?_⟩
    refine ⟨_, rfl, a, CA, dx, _, .ref t, rfl, ha, TA.pc.cls, TA.n2, rfl, t, rfl, ⟨_, SqT.of ht⟩, fun D hD => ?_⟩
    refine lc_tup (K := K) (a := t) (xs := cs.map V.ref) (fun i H' => Same H H' ∧ ∃ ys : List Str, ys.length = i ∧ H' D = some (.lst (ys.map V.str)) ∧ ∀ y ∈ ys, y.length ≤ 40000) ⟨same_new hD, [], rfl, upd_same, fun y h => absurd h List.not_mem_nil⟩ (fun i H' _ p => SqT.of (p.1 _ _ ht)) (fun i x H' hx p => ?_) (fun H' p => ?_)
    · obtain ⟨s1, ys, ly, hd, hb⟩ := p
      obtain ⟨c, ps, ec, rfl, eps, pf⟩ := pa.mem hx
      have hi : i < pss.length := (List.getElem?_eq_some_iff.mp eps).1
      refine ⟨rfl, yes_of ?_⟩
      refine ⟨_, rfl, c, ps, rfl, pf.same s1, ok ps (List.mem_of_getElem? eps), fun z H2 s2 hz => ⟨_, s2 _ _ hd, by rw [List.length_map]; exact small1000 (by omega), fun b o e => ?_, ys ++ [z], by rw [List.length_append, ly]; rfl, by rw [upd_same, List.map_append]; rfl, fun y hy => ?_⟩⟩
      · rw [upd_ne (ne_of_none e hD)]
        exact s2 _ _ (s1 _ _ e)
      · rcases List.mem_append.mp hy with h | h
        · exact hb y h
        · rw [List.mem_singleton.mp h]
          exact hz
    · obtain ⟨s1, ys, ly, hd, hb⟩ := p
      have h1 := sum_le 40000 ys hb
      rw [List.length_map, pa.len] at ly
      have e3 : (Str.ofString " ; ").length = 3 := by decide +kernel
      refine ⟨_, D, ys, rfl, rfl, .inl (SqL.of hd), ?_, q _ _ s1⟩
      rw [e3]
      omega
end
end K14

namespace K14
open PySem PySem.Spec PyProof.Rows L2
/-! ### an album is made -/
/-- wishes about what is raised that outlast what is made -/
def Mon (R : Hp → XK → Prop) : Prop := ∀ H H1 E, Same H H1 → R H E → R H1 E
theorem mon_V {C : Addr} {f : Str} {v : V} : Mon (RzV C f v) := fun _ _ _ s h => h.same s
theorem mon_F {C : Addr} {fs : List (Str × V)} : Mon (RzF C fs) := fun _ _ _ s h => h.same s
section
variable {K : PySem.W.Frag} {C CA CB CF CT : Addr} {v : V} {H H' : Hp} {OK OK' : List Addr → PSS → Prop} {RZ RZ' : (Hp → XK → Prop) → Prop}
theorem AlbJ.imp (h : AlbJ K C CA CB CF CT v H OK RZ) (s : Same H H') (i : ∀ cs pss, OK cs pss → OK' cs pss) (r : ∀ R, Mon R → RZ R → RZ' R) : AlbJ K C CA CB CF CT v H' OK' RZ' := by
  rcases h with ⟨h, z⟩ | ⟨b, cs, pss, e, hs, hp, hne, h100, z1, z2, q⟩
  · refine .inl ⟨?_, r _ mon_V z⟩
    rcases h with h | ⟨b, e, hs⟩ | ⟨b, xs, bs, e, hs, hne, h100, hj, hb⟩
    · exact .inl (h.same s)
    · exact .inr (.inl ⟨b, e, hs.same s⟩)
    · exact .inr (.inr ⟨b, xs, bs, e, hs.same s, hne, h100, isA_all hj s, hb⟩)
  · exact .inr ⟨b, cs, pss, e, hs.same s, hp.same s, hne, h100, fun a => r _ mon_V (z1 a), fun a l => r _ mon_F (z2 a l), fun a l => i _ _ (q a l)⟩
end
/-- a new album of these pictures -/
def NewA (CA C : Addr) (H : Hp) (Q : VK) (cs : List Addr) (pss : PSS) : Prop := ∀ a H', Same H H' → H a = none → AlbF H' CA C a cs pss → Q (.ref a) H'
theorem NewA.same {CA C : Addr} {H H1 : Hp} {Q : VK} {cs : List Addr} {pss : PSS} (h : NewA CA C H Q cs pss) (s : Same H H1) : NewA CA C H1 Q cs pss := fun a H' s' n f => h a H' (s.trans s') (s.free n) f
/-- how an album is made of a value, or refused -/
def MkA (K : PySem.W.Frag) (C CA CB CF CT : Addr) (v : V) (H : Hp) (Q : VK) (E : XK) : Prop := AlbJ K C CA CB CF CT v H (NewA CA C H Q) (fun R => R H E)
/-- of pictures: what comes of it -/
def ARes (C CA CF CT : Addr) (cs : List Addr) (pss : PSS) (H : Hp) (Q : VK) (E : XK) : Prop := (alike pss = false → RzV CF "part" (.str "pins") H E) ∧ (alike pss = true → 8 < pss.length → RzF CT fullA H E) ∧ (alike pss = true → pss.length ≤ 8 → NewA CA C H Q cs pss)
theorem ARes.same {C CA CF CT : Addr} {cs : List Addr} {pss : PSS} {H H1 : Hp} {Q : VK} {E : XK} (h : ARes C CA CF CT cs pss H Q E) (s : Same H H1) : ARes C CA CF CT cs pss H1 Q E := ⟨fun a => (h.1 a).same s, fun a l => (h.2.1 a l).same s, fun a l => (h.2.2 a l).same s⟩
theorem ARes.mk {K : PySem.W.Frag} {C CA CB CF CT b : Addr} {cs : List Addr} {pss : PSS} {H : Hp} {Q : VK} {E : XK} (h : ARes C CA CF CT cs pss H Q E) (hs : Sq H b (cs.map V.ref)) (hp : Pics H C cs pss) (hne : cs ≠ []) (h100 : pss.length ≤ 100) : MkA K C CA CB CF CT (.ref b) H Q E := .inr ⟨b, cs, pss, rfl, hs, hp, hne, h100, h.1, h.2.1, h.2.2⟩
theorem mkA_in {K : PySem.W.Frag} {C CA CB CF CT : Addr} {v : V} {H : Hp} {Q : VK} {E : XK} (m : MkA K C CA CB CF CT v H Q E) : ∀ x dx, H x = none → H dx = none → dx ≠ x → spAI K C CA CB CF CT [.ref x, v] (upd (upd H dx (.own x)) x (.ins CA dx [])) (fun r H2 => r = .non ∧ Q (.ref x) H2) E := fun x dx hx hdx ne => by
  have s0 : Same H (upd (upd H dx (.own x)) x (.ins CA dx [])) := fun b o e => by
    rw [upd_ne (ne_of_none e hx), upd_ne (ne_of_none e hdx)]
    exact e
  have sk : ∀ {H1 : Hp}, Kp x (upd (upd H dx (.own x)) x (.ins CA dx [])) H1 → Same H H1 := fun k b o e => k b o (ne_of_none e hx) (s0 _ _ e)
  exact ⟨x, dx, v, rfl, upd_same, m.imp s0 (fun cs pss n H' k f => ⟨rfl, n x H' (sk k) hx f⟩) fun R mo z H1 k => mo _ _ _ (sk k) z⟩
/-- the class of albums, as its callers see it -/
structure Ac (P : Program) (w : World) (K : PySem.W.Frag) (mg : Str → Option Value) (base : Heap) (C CA CB CF CT : Addr) : Prop where
  mgC : mg "Album" = some (.ref CA)
  t : AlbT K CA
  n : PicN K CA
  np : PySem.W.kitOne K (.ref C) (.ref CA) = some false ∧ PySem.W.notFirst K CA (.ref C) = true
  pn : PySem.W.kitOne K (.ref CA) (.ref C) = some false
  ini : ∃ (fI : Addr) (fd : FuncData), Mk K CA fI ∧ FnOk P w K mg base (L2.CX P w) 4 fI fd ["self", "pictures"] (spAI K C CA CB CF CT) ∧ Binds K fd ["self", "pictures"] [] ∧ KBn K fd ["self", "pictures"] 1 ["pictures"] (fun us ws => us ++ ws) (fun vs zs => vs ++ zs)
  eq : ∃ (fE : Addr) (fd : FuncData), FnOk P w K mg base CX0 4 fE fd ["self", "other"] (spEqA K CA C) ∧ PySem.W.findIn K (.ref CA) "__eq__" = some (some (.ref fE)) ∧ PySem.W.isFn K (.ref fE) = true ∧ Binds K fd ["self", "other"] []
  len : ∃ (fL : Addr) (fd : FuncData), FnOk P w K mg base CX0 1 fL fd ["self"] (spLenA CA C) ∧ PySem.W.findIn K (.ref CA) "__len__" = some (some (.ref fL)) ∧ PySem.W.isFn K (.ref fL) = true ∧ Binds K fd ["self"] []
  st : ∃ (fS : Addr) (fd : FuncData), FnOk P w K mg base CX0 5 fS fd ["self"] (spStrA CA C) ∧ PySem.W.findIn K (.ref CA) "__str__" = some (some (.ref fS)) ∧ PySem.W.isFn K (.ref fS) = true ∧ Binds K fd ["self"] []
section
variable {X : Cx} {C CA CB CF CT : Addr} {x : Str} {e : Expr} {es : List Expr} {kws : List Keyword} {t tk : TA} {p pos : Pos}
/-- Album(e) -/
def tMkA (K : PySem.W.Frag) (C CA CB CF CT : Addr) (E : XK) (t : TA) : TE := fun σ H Q => t σ H fun vs H1 => ∃ v, vs = [v] ∧ MkA K C CA CB CF CT v H1 Q E
theorem pe_mkA {E : XK} (K : PySem.W.Frag) (mA : X.mg "Album" = some (.ref CA)) (ini : ∃ (fI : Addr) (fd : FuncData), Mk X.K CA fI ∧ FnOk X.prog X.w X.K X.mg X.base (L2.CX X.prog X.w) 4 fI fd ["self", "pictures"] (spAI X.K C CA CB CF CT) ∧ Binds X.K fd ["self", "pictures"] []) (hr : Room 5 X.A) (hx : Passes (L2.CX X.prog X.w) X E) (hg : Gl X "Album") (ha : PA X (e :: es) t) (h : X.K = K := by rfl) (he : starEach (e :: es) X.env = (false, eval e X.env) :: starEach es X.env := by rfl) (hpl : (backTo pos (starEach es X.env)).any (·.1) = false := by rfl) :
    PE X (.Call (.Name "Album" p) (e :: es) [] pos) (tMkA K C CA CB CF CT E t) := by
  subst h
  obtain ⟨fI, fd, M, G, b⟩ := ini
  refine ⟨fun pins s σ H Q I h => ?_⟩
  refine wpAny_Call_Name_kw (ld_glob I hg mA ?_ (by decide))
  refine PySem.W.callWith_K (h₀ := X.base) I.ok.mod.kin M.kp (thn (ha.run pos pins s σ H _ I h) fun us s1 ⟨vs, H1, I1, r, v, ev, m⟩ => ⟨I1.kIn, ?_⟩) he hpl
  subst ev
  exact run_make (dvs := []) (ds := []) M G hr b .nil hx I1 r (mkA_in m)
/-- Album(pictures=e) -/
theorem pe_mkAK {E : XK} (K : PySem.W.Frag) (T : Ac X.prog X.w X.K X.mg X.base C CA CB CF CT) (hr : Room 5 X.A) (hx : Passes (L2.CX X.prog X.w) X E) (hg : Gl X "Album") (hkw : PK X kws tk) (h : X.K = K := by rfl)
    (hall : (backToKw pos (keywordEach kws X.env)).all (·.1.isSome) = true := by rfl) (hks : (backToKw pos (keywordEach kws X.env)).filterMap (·.1) = (["pictures"] : List Str) := by rfl)
    (hpl : ((backTo pos (starEach [] X.env)).any (·.1) || (backToKw pos (keywordEach kws X.env)).any (·.1.isNone)) = false := by rfl) :
    PE X (.Call (.Name "Album" p) [] kws pos) (tMkA K C CA CB CF CT E tk) := by
  subst h
  obtain ⟨fI, fd, M, G, _, b⟩ := T.ini
  refine ⟨fun pins s σ H Q I h => ?_⟩
  refine wpAny_Call_Name_kw (ld_glob I hg T.mgC ?_ (by decide))
  refine PySem.W.callWith_KW0 (h₀ := X.base) I.ok.mod.kin M.kp hall ?_ hpl
  refine thn (hkw.run pos pins s σ H _ I h) fun ws s2 ⟨zs, H2, I2, rz, v, ev, m⟩ => ⟨I2.kIn, ?_⟩
  subst ev
  rw [hks]
  exact run_makeN (n := 0) (us := []) (vs := []) M G hr b hx I2 .nil rz rfl rfl (mkA_in m)
end
end K14

namespace K14
open PySem PySem.Spec PyProof.Rows L2
/-! ### some pictures of an album -/
def pickA (cs : List Addr) (ns : List Nat) : List Addr := ns.map fun n => cs.getD n 0
def pickS (pss : PSS) (ns : List Nat) : PSS := ns.map fun n => pss.getD n []
/-- so many pins in each -/
def Eqn (k : Nat) (pss : PSS) : Prop := ∀ ps ∈ pss, ps.length = k
theorem Eqn.alike {k : Nat} {pss : PSS} (h : Eqn k pss) : alike pss = true := by
  cases pss with
  | nil => rfl
  | cons p ps =>
    refine List.all_eq_true.mpr fun q hq => decide_eq_true ?_
    show q.length = p.length
    rw [h q hq, h p List.mem_cons_self]
theorem getD_at {α : Type} {l : List α} {n : Nat} (d : α) (h : n < l.length) : l.getD n d = l[n] := by
  rw [List.getD_eq_getElem?_getD, List.getElem?_eq_getElem h]
  rfl
theorem pick_pics {H : Hp} {C : Addr} {cs : List Addr} {pss : PSS} (h : Pics H C cs pss) : ∀ {ns : List Nat}, (∀ n ∈ ns, n < pss.length) → Pics H C (pickA cs ns) (pickS pss ns)
  | [], _ => .nil
  | n :: ns, l => by
    have hn := l n List.mem_cons_self
    refine .cons ?_ (pick_pics h fun m hm => l m (List.mem_cons_of_mem _ hm))
    have hc : n < cs.length := by rw [h.len]; exact hn
    show PicF H C (cs.getD n 0) (pss.getD n [])
    rw [getD_at 0 hc, getD_at [] hn]
    obtain ⟨ps, e, r⟩ := paired_get h (List.getElem?_eq_getElem hc)
    rw [List.getElem?_eq_getElem hn] at e
    rw [Option.some.inj e]
    exact r
theorem pick_eqn {k : Nat} {pss : PSS} {ns : List Nat} (h : Eqn k pss) (l : ∀ n ∈ ns, n < pss.length) : Eqn k (pickS pss ns) := fun ps hp => by
  obtain ⟨n, hn, rfl⟩ := List.mem_map.mp hp
  rw [getD_at [] (l n hn)]
  exact h _ (List.getElem_mem _)
theorem pickS_len (pss : PSS) (ns : List Nat) : (pickS pss ns).length = ns.length := List.length_map ..
theorem pickA_len (cs : List Addr) (ns : List Nat) : (pickA cs ns).length = ns.length := List.length_map ..
theorem inV_nV (i : Nat) : ∀ ns : List Nat, inV (.int (i : Nat)) (nV ns) = decide (i ∈ ns)
  | [] => rfl
  | n :: ns => by
    have e : inV (.int (i : Nat)) (nV (n :: ns)) = (eqV (.int (n : Nat)) (.int (i : Nat)) || inV (.int (i : Nat)) (nV ns)) := rfl
    have e2 : eqV (.int (n : Nat)) (.int (i : Nat)) = decide ((n : Int) = (i : Int)) := rfl
    rw [e, e2, inV_nV i ns, Bool.eq_iff_iff, Bool.or_eq_true, decide_eq_true_iff, decide_eq_true_iff, decide_eq_true_iff, List.mem_cons]
    constructor
    · rintro (h | h)
      · exact .inl (by omega)
      · exact .inr h
    · rintro (h | h)
      · exact .inl (by omega)
      · exact .inr h
/-- the numbers that are left -/
def restN (k : Nat) (ns : List Nat) : List Nat := (List.range k).filter fun n => !decide (n ∈ ns)
theorem restN_lt {k : Nat} {ns : List Nat} : ∀ n ∈ restN k ns, n < k := fun n h => List.mem_range.mp (List.mem_filter.mp h).1
theorem restN_len (k : Nat) (ns : List Nat) : (restN k ns).length ≤ k := by
  have := List.length_filter_le (fun n => !decide (n ∈ ns)) (List.range k)
  rw [List.length_range] at this
  exact this
theorem restN_succ (i : Nat) (ns : List Nat) : restN (i + 1) ns = if decide (i ∈ ns) = true then restN i ns else restN i ns ++ [i] := by
  unfold restN
  rw [List.range_succ, List.filter_append]
  by_cases h : i ∈ ns
  · rw [if_pos (decide_eq_true h)]
    have : [i].filter (fun n => !decide (n ∈ ns)) = [] := by simp [h]
    rw [this, List.append_nil]
  · rw [if_neg (by rw [decide_eq_true_iff]; exact h)]
    have : [i].filter (fun n => !decide (n ∈ ns)) = [i] := by simp [h]
    rw [this]
section
variable {P : Program} {w : World} {K : PySem.W.Frag} {mg : Str → Option Value} {base : Heap} {C CA CB CP CF CT CQ CW : Addr}
/-! ### Album.with_picture -/
def spWi (K : PySem.W.Frag) (C CA CP CF CT : Addr) : Sp := fun vs H Q E => ∃ (a : Addr) (v : V) (cs : List Addr) (pss : PSS), vs = [.ref a, v] ∧ AlbF H CA C a cs pss ∧ cs ≠ [] ∧ pss.length ≤ 8 ∧
  ((IsA K C H v false ∧ RzV CP "part" (.str "picture") H E) ∨ (∃ c ps, v = .ref c ∧ PicF H C c ps ∧ ARes C CA CF CT (cs ++ [c]) (pss ++ [ps]) H Q E))
abbrev sWi : Stmt := inClass (top 50) 5
theorem scWi : FnScope ["self", "picture"] ["self", "picture"] (defScope sWi) := ⟨rfl, rfl, rfl, by decide +kernel, rfl, by decide +kernel, by decide +kernel⟩
theorem ok_wip {f : Addr} {fd : FuncData} (F : Fun K "with_picture" "Album.with_picture" sWi f fd) (T : PicT K C) (TA : AlbT K CA) (mA : mg "Album" = some (.ref CA)) (IA : ∃ (fI : Addr) (fd : FuncData), Mk K CA fI ∧ FnOk P w K mg base (L2.CX P w) 4 fI fd ["self", "pictures"] (spAI K C CA CB CF CT) ∧ Binds K fd ["self", "pictures"] []) (C1 : Callee P w K mg base (L2.CX P w) 3 "check_picture" ["value", "part"] (spIs K C CP)) :
    FnOk P w K mg base (L2.CX P w) 6 f fd ["self", "picture"] (spWi K C CA CP CF CT) := by
  obtain ⟨f1, fd1, m1, k1, b1, G1⟩ := C1
  have cA := TA.pc.cls
  have nd := scWi.nd
  refine F.okX scWi (fun vs H Q E h => ?_) (fun cdv A outer s H vs Q E hr h => ?_)
  · obtain ⟨a, v, cs, pss, rfl, _⟩ := h
    rfl
  · obtain ⟨a, v, cs, pss, rfl, al, hne, h8, h⟩ := h
    refine ⟨_, (pss_cons (ps_expr (pe_callS (E := fun _ => E) G1 (hr.mono (by decide)) rfl m1 k1 b1 (fun σ => passAt (takes_of rfl rfl rfl rfl) σ) (pa_cons (pv 1) (pa_cons (pe_str) pa_nil)))) (pss_one (ps_ret (pe_mkA (E := E) K mA IA (hr.mono (by decide)) (fun pins σ => passAt (takes_of rfl rfl rfl rfl) σ pins) rfl (pa_cons (pe_op op_catA (pe_fld (pv 0) rfl) (pe_tup (pa_cons (pv 1) pa_nil))) pa_nil))))), ?_⟩
    rcases h with ⟨hi, r⟩ | ⟨c, ps, rfl, pf, res⟩
    · exact ⟨_, rfl, v, "picture", false, rfl, hi, (fun z => nomatch z), fun _ => r⟩
    · refine ⟨_, rfl, .ref c, "picture", true, rfl, pf.isA T, (fun _ => ?_), fun z => nomatch z⟩
      obtain ⟨dx, t, u, rs, ha, ht, pa, _⟩ := id al
      refine ⟨_, rfl, a, CA, dx, _, .ref t, rfl, ha, cA, TA.n2, rfl, _, rfl, by show 1 ≤ sizeLine; decide, fun c1 n1 => ?_⟩
      have s1 := same_new (o := .tup [V.ref c]) n1
      have g1 : upd H c1 (.tup [V.ref c]) c1 = some (.tup [V.ref c]) := upd_same
      generalize upd H c1 (.tup [V.ref c]) = H1 at s1 g1 ⊢
      refine ⟨t, c1, _, _, rfl, rfl, SqT.of (s1 _ _ ht), SqT.of g1, ?_, fun e0 => ?_, fun _ e0 => ?_, fun _ _ c6 n6 => ?_⟩
      · rw [List.length_map, pa.len]
        exact Nat.le_of_lt (small1000 (by show pss.length + 1 ≤ 1000; omega))
      · exact absurd (List.map_eq_nil_iff.mp e0) hne
      · cases e0
      · have s6 := same_new (o := .tup (cs.map V.ref ++ [V.ref c])) n6
        have g6 : upd H1 c6 (.tup (cs.map V.ref ++ [V.ref c])) c6 = some (.tup ((cs ++ [c]).map V.ref)) := by
          rw [upd_same, List.map_append]
          rfl
        generalize upd H1 c6 (.tup (cs.map V.ref ++ [V.ref c])) = H6 at s6 g6 ⊢
        have s := s1.trans s6
        exact ⟨.ref c6, rfl, (res.same s).mk (.inr g6) (paired_snoc (pa.same s) (pf.same s)) (by simp) (by rw [List.length_append]; show pss.length + 1 ≤ 100; omega)⟩
/-! ### Album.joined -/
def spJo (K : PySem.W.Frag) (C CA CB CF CT : Addr) : Sp := fun vs H Q E => ∃ (a : Addr) (v : V) (cs : List Addr) (pss : PSS), vs = [.ref a, v] ∧ AlbF H CA C a cs pss ∧ cs ≠ [] ∧ pss.length ≤ 8 ∧
  ((IsA K CA H v false ∧ RzV CB "part" (.str "other") H E) ∨ (∃ c ds qss, v = .ref c ∧ AlbF H CA C c ds qss ∧ ds ≠ [] ∧ qss.length ≤ 8 ∧ ARes C CA CF CT (cs ++ ds) (pss ++ qss) H Q E))
abbrev sJo : Stmt := inClass (top 50) 6
theorem scJo : FnScope ["self", "other"] ["self", "other"] (defScope sJo) := ⟨rfl, rfl, rfl, by decide +kernel, rfl, by decide +kernel, by decide +kernel⟩
theorem ok_jo {f : Addr} {fd : FuncData} (F : Fun K "joined" "Album.joined" sJo f fd) (TA : AlbT K CA) (mA : mg "Album" = some (.ref CA)) (IA : ∃ (fI : Addr) (fd : FuncData), Mk K CA fI ∧ FnOk P w K mg base (L2.CX P w) 4 fI fd ["self", "pictures"] (spAI K C CA CB CF CT) ∧ Binds K fd ["self", "pictures"] []) (C1 : Callee P w K mg base (L2.CX P w) 3 "check_album" ["value", "part"] (spIs K CA CB)) :
    FnOk P w K mg base (L2.CX P w) 6 f fd ["self", "other"] (spJo K C CA CB CF CT) := by
  obtain ⟨f1, fd1, m1, k1, b1, G1⟩ := C1
  have cA := TA.pc.cls
  have nd := scJo.nd
  refine F.okX scJo (fun vs H Q E h => ?_) (fun cdv A outer s H vs Q E hr h => ?_)
  · obtain ⟨a, v, cs, pss, rfl, _⟩ := h
    rfl
  · obtain ⟨a, v, cs, pss, rfl, al, hne, h8, h⟩ := h
    refine ⟨_, (pss_cons (ps_expr (pe_callS (E := fun _ => E) G1 (hr.mono (by decide)) rfl m1 k1 b1 (fun σ => passAt (takes_of rfl rfl rfl rfl) σ) (pa_cons (pv 1) (pa_cons (pe_str) pa_nil)))) (pss_one (ps_ret (pe_mkA (E := E) K mA IA (hr.mono (by decide)) (fun pins σ => passAt (takes_of rfl rfl rfl rfl) σ pins) rfl (pa_cons (pe_op op_catA (pe_fld (pv 0) rfl) (pe_fld (pv 1) rfl)) pa_nil))))), ?_⟩
    rcases h with ⟨hi, r⟩ | ⟨c, ds, qss, rfl, bl, hnd, h8', res⟩
    · exact ⟨_, rfl, v, "other", false, rfl, hi, (fun z => nomatch z), fun _ => r⟩
    · refine ⟨_, rfl, .ref c, "other", true, rfl, bl.isA TA, (fun _ => ?_), fun z => nomatch z⟩
      obtain ⟨dx, t, u, rs, ha, ht, pa, _⟩ := id al
      obtain ⟨dy, t2, u2, rs2, hb, ht2, pb, _⟩ := id bl
      refine ⟨_, rfl, a, CA, dx, _, .ref t, rfl, ha, cA, TA.n2, rfl, _, rfl, c, CA, dy, _, .ref t2, rfl, hb, cA, TA.n2, rfl, ?_⟩
      refine ⟨t, t2, _, _, rfl, rfl, SqT.of ht, SqT.of ht2, ?_, fun e0 => ?_, fun _ e0 => ?_, fun _ _ c6 n6 => ?_⟩
      · rw [List.length_map, List.length_map, pa.len, pb.len]
        exact Nat.le_of_lt (small1000 (by omega))
      · exact absurd (List.map_eq_nil_iff.mp e0) hne
      · exact absurd (List.map_eq_nil_iff.mp e0) hnd
      · have s6 := same_new (o := .tup (cs.map V.ref ++ ds.map V.ref)) n6
        have g6 : upd H c6 (.tup (cs.map V.ref ++ ds.map V.ref)) c6 = some (.tup ((cs ++ ds).map V.ref)) := by
          rw [upd_same, List.map_append]
        generalize upd H c6 (.tup (cs.map V.ref ++ ds.map V.ref)) = H6 at s6 g6 ⊢
        exact ⟨.ref c6, rfl, (res.same s6).mk (.inr g6) (paired_app (pa.same s6) (pb.same s6)) (by simp [hne]) (by rw [List.length_append]; omega)⟩
/-! ### Album.picked -/
/-- numbers of pictures, judged -/
def NumJ (K : PySem.W.Frag) (CQ CW : Addr) (v : V) (k : Nat) (H : Hp) (E : XK) (G : Addr → List Nat → Prop) : Prop :=
  (∃ x, WJ K H k v (some x) ∧ RzV CQ "value" x H E) ∨ (∃ c ns, v = .ref c ∧ PinL H c ns k ∧ (ns.Nodup → G c ns) ∧ ∀ j, TwN ns j → RzV CW "value" (.int (j : Nat)) H E)
def spPk (K : PySem.W.Frag) (C CA CB CQ CW : Addr) : Sp := fun vs H Q E => ∃ (a : Addr) (v : V) (cs : List Addr) (pss : PSS) (k : Nat), vs = [.ref a, v] ∧ AlbF H CA C a cs pss ∧ Eqn k pss ∧ pss.length ≤ 8 ∧
  NumJ K CQ CW v pss.length H E (fun _ ns => (ns = [] → RzV CB "part" (.str "pictures") H E) ∧ (ns ≠ [] → ns.length ≤ 8 ∧ NewA CA C H Q (pickA cs ns) (pickS pss ns)))
abbrev sPk : Stmt := inClass (top 50) 7
abbrev nPk : List Str := ["self", "numbers", "number"]
theorem scPk : FnScope nPk ["self", "numbers"] (defScope sPk) := ⟨rfl, rfl, rfl, by decide +kernel, rfl, by decide +kernel, by decide +kernel⟩
/-- what is made of some pictures -/
theorem some_mk {D : Addr} {cs : List Addr} {pss : PSS} {k : Nat} {ns : List Nat} {H H1 H' : Hp} {Q : VK} {E : XK} (hp : Pics H C cs pss) (he : Eqn k pss) (lt : ∀ n ∈ ns, n < pss.length) (r : (ns = [] → RzV CB "part" (.str "pictures") H E) ∧ (ns ≠ [] → ns.length ≤ 8 ∧ NewA CA C H Q (pickA cs ns) (pickS pss ns))) (s : Same H H') (hD : H' D = some (.lst ((pickA cs ns).map V.ref))) : MkA K C CA CB CF CT (.ref D) H' Q E := by
  by_cases e : ns = []
  · subst e
    exact .inl ⟨.inr (.inl ⟨D, rfl, .inl hD⟩), (r.1 rfl).same s⟩
  · obtain ⟨l8, nw⟩ := r.2 e
    have pp : Pics H' C (pickA cs ns) (pickS pss ns) := (pick_pics hp lt).same s
    have ee := (pick_eqn he lt).alike
    refine .inr ⟨D, _, _, rfl, .inl hD, pp, fun z => e (List.map_eq_nil_iff.mp z), by rw [pickS_len]; omega, fun z => ?_, fun _ z => ?_, fun _ _ => nw.same s⟩
    · rw [ee] at z
      cases z
    · rw [pickS_len] at z
      exact absurd z (by omega)
theorem ok_pk {f : Addr} {fd : FuncData} (F : Fun K "picked" "Album.picked" sPk f fd) (B : Bn mg) (TA : AlbT K CA) (mA : mg "Album" = some (.ref CA)) (IA : ∃ (fI : Addr) (fd : FuncData), Mk K CA fI ∧ FnOk P w K mg base (L2.CX P w) 4 fI fd ["self", "pictures"] (spAI K C CA CB CF CT) ∧ Binds K fd ["self", "pictures"] []) (C1 : Callee P w K mg base (L2.CX P w) 4 "check_picture_numbers" ["values", "many"] (spCP K CQ CW)) :
    FnOk P w K mg base (L2.CX P w) 6 f fd ["self", "numbers"] (spPk K C CA CB CQ CW) := by
  obtain ⟨f1, fd1, m1, k1, b1, G1⟩ := C1
  have cA := TA.pc.cls
  have nd := scPk.nd
  refine F.okX scPk (fun vs H Q E h => ?_) (fun cdv A outer s H vs Q E hr h => ?_)
  · obtain ⟨a, v, cs, pss, k, rfl, _⟩ := h
    rfl
  · obtain ⟨a, v, cs, pss, k, rfl, al, he, h8, h⟩ := h
    obtain ⟨dx, t, u, rs, ha, ht, pa, _⟩ := id al
    rcases h with ⟨x, j, r⟩ | ⟨c, ns, rfl, pl, hok, htw⟩
    · refine ⟨_, pss_cons (ps_expr (pe_callS (E := fun _ => E) G1 (hr.mono (by decide)) rfl m1 k1 b1 (fun σ => passAt (takes_of rfl rfl rfl rfl) σ) (pa_cons (pv 1) (pa_cons ((pe_callB call_len_seq (by rfl) B.len PySem.boot_len (pa_cons (pe_fld (pv 0) rfl) pa_nil))) pa_nil)))) pss_never, ?_⟩
      refine ⟨_, rfl, _, rfl, a, CA, dx, _, .ref t, rfl, ha, cA, TA.n2, rfl, t, _, rfl, .inr (SqT.of ht), ?_⟩
      rw [List.length_map, pa.len]
      exact ⟨v, pss.length, rfl, .inl ⟨x, j, r⟩⟩
    rcases pl.sq with hq | hq
    · refine ⟨_, (pss_cons (ps_expr (pe_callS (E := fun _ => E) G1 (hr.mono (by decide)) rfl m1 k1 b1 (fun σ => passAt (takes_of rfl rfl rfl rfl) σ) (pa_cons (pv 1) (pa_cons ((pe_callB call_len_seq (by rfl) B.len PySem.boot_len (pa_cons (pe_fld (pv 0) rfl) pa_nil))) pa_nil)))) (pss_one (ps_ret (pe_mkA (E := E) K mA IA (hr.mono (by decide)) (fun pins σ => passAt (takes_of rfl rfl rfl rfl) σ pins) rfl (pa_cons ((pe_lc (own := [("number", 2)]) (g := gName 2) (tt := tYes) rfl nd (pi_list (pv 1)) (blkOk_by (N := nPk) (sc := defScope sPk) (by decide +kernel)) (fun _ _ _ _ _ => (pg_name (i := 2) nd rfl (Or.inl rfl))) (fun _ _ _ _ _ => pts_nil) (fun _ _ _ _ _ => (pe_ix (r := rIxT K) ix_tupK (pe_fldK K (pv 0) rfl) (pv 2) (fun _ _ => rfl))))) pa_nil))))), ?_⟩
      refine ⟨_, rfl, _, rfl, a, CA, dx, _, .ref t, rfl, ha, cA, TA.n2, rfl, t, _, rfl, .inr (SqT.of ht), ?_⟩
      rw [List.length_map, pa.len]
      refine ⟨.ref c, pss.length, rfl, .inr ⟨c, ns, rfl, pl, fun ndp H1 s1 => ?_, htw⟩⟩
      have hq1 := s1 _ _ hq
      have ha1 := s1 _ _ ha
      have ht1 := s1 _ _ ht
      refine ⟨_, rfl, c, rfl, ⟨_, SqL.of hq1⟩, fun D hD => ?_⟩
      refine lc_list (K := K) (a := c) (xs := nV ns) (fun i => At H1 D (((pickA cs ns).take i).map V.ref)) ⟨same_new hD, upd_same⟩ (fun i H' _ p => SqL.of (p.1 _ _ hq1)) (fun i x H' hx p => ?_) (fun H' p => ?_)
      · obtain ⟨n, en, rfl⟩ := nV_get hx
        have hn : n < pss.length := pl.lt n (List.mem_of_getElem? en)
        have eg : (pickA cs ns)[i]? = some (cs.getD n 0) := by
          unfold pickA
          rw [List.getElem?_map, en]
          rfl
        refine ⟨rfl, yes_of ?_⟩
        refine ⟨_, rfl, a, CA, dx, _, .ref t, rfl, p.1 _ _ ha1, cA, TA.n2, rfl, _, rfl, t, _, _, .ref (cs.getD n 0), rfl, rfl, SqT.of (p.1 _ _ ht1), ?_, _, p.2, ?_, p.step hD Same.me ?_⟩
        · refine atI_nat ?_
          have hc : n < cs.length := by rw [pa.len]; exact hn
          rw [List.getElem?_map, List.getD_eq_getElem?_getD, List.getElem?_eq_getElem hc]
          rfl
        · rw [List.length_map]
          exact small1000 (Nat.le_trans (List.length_take_le' _ _) (by rw [pickA_len]; exact Nat.le_trans pl.len (by decide)))
        · rw [take_more eg, List.map_append]
          rfl
      · have el : (nV ns).length = (pickA cs ns).length := by rw [nV_len, pickA_len]
        rw [el, List.take_length] at p
        exact ⟨.ref D, rfl, some_mk (H1 := H1) pa he pl.lt (hok ndp) (s1.trans p.1) p.2⟩
    · refine ⟨_, (pss_cons (ps_expr (pe_callS (E := fun _ => E) G1 (hr.mono (by decide)) rfl m1 k1 b1 (fun σ => passAt (takes_of rfl rfl rfl rfl) σ) (pa_cons (pv 1) (pa_cons ((pe_callB call_len_seq (by rfl) B.len PySem.boot_len (pa_cons (pe_fld (pv 0) rfl) pa_nil))) pa_nil)))) (pss_one (ps_ret (pe_mkA (E := E) K mA IA (hr.mono (by decide)) (fun pins σ => passAt (takes_of rfl rfl rfl rfl) σ pins) rfl (pa_cons ((pe_lc (own := [("number", 2)]) (g := gName 2) (tt := tYes) rfl nd (pi_tup (pv 1)) (blkOk_by (N := nPk) (sc := defScope sPk) (by decide +kernel)) (fun _ _ _ _ _ => (pg_name (i := 2) nd rfl (Or.inl rfl))) (fun _ _ _ _ _ => pts_nil) (fun _ _ _ _ _ => (pe_ix (r := rIxT K) ix_tupK (pe_fldK K (pv 0) rfl) (pv 2) (fun _ _ => rfl))))) pa_nil))))), ?_⟩
      refine ⟨_, rfl, _, rfl, a, CA, dx, _, .ref t, rfl, ha, cA, TA.n2, rfl, t, _, rfl, .inr (SqT.of ht), ?_⟩
      rw [List.length_map, pa.len]
      refine ⟨.ref c, pss.length, rfl, .inr ⟨c, ns, rfl, pl, fun ndp H1 s1 => ?_, htw⟩⟩
      have hq1 := s1 _ _ hq
      have ha1 := s1 _ _ ha
      have ht1 := s1 _ _ ht
      refine ⟨_, rfl, c, rfl, ⟨_, SqT.of hq1⟩, fun D hD => ?_⟩
      refine lc_tup (K := K) (a := c) (xs := nV ns) (fun i => At H1 D (((pickA cs ns).take i).map V.ref)) ⟨same_new hD, upd_same⟩ (fun i H' _ p => SqT.of (p.1 _ _ hq1)) (fun i x H' hx p => ?_) (fun H' p => ?_)
      · obtain ⟨n, en, rfl⟩ := nV_get hx
        have hn : n < pss.length := pl.lt n (List.mem_of_getElem? en)
        have eg : (pickA cs ns)[i]? = some (cs.getD n 0) := by
          unfold pickA
          rw [List.getElem?_map, en]
          rfl
        refine ⟨rfl, yes_of ?_⟩
        refine ⟨_, rfl, a, CA, dx, _, .ref t, rfl, p.1 _ _ ha1, cA, TA.n2, rfl, _, rfl, t, _, _, .ref (cs.getD n 0), rfl, rfl, SqT.of (p.1 _ _ ht1), ?_, _, p.2, ?_, p.step hD Same.me ?_⟩
        · refine atI_nat ?_
          have hc : n < cs.length := by rw [pa.len]; exact hn
          rw [List.getElem?_map, List.getD_eq_getElem?_getD, List.getElem?_eq_getElem hc]
          rfl
        · rw [List.length_map]
          exact small1000 (Nat.le_trans (List.length_take_le' _ _) (by rw [pickA_len]; exact Nat.le_trans pl.len (by decide)))
        · rw [take_more eg, List.map_append]
          rfl
      · have el : (nV ns).length = (pickA cs ns).length := by rw [nV_len, pickA_len]
        rw [el, List.take_length] at p
        exact ⟨.ref D, rfl, some_mk (H1 := H1) pa he pl.lt (hok ndp) (s1.trans p.1) p.2⟩
/-! ### Album.without -/
def spWt (K : PySem.W.Frag) (C CA CB CQ CW : Addr) : Sp := fun vs H Q E => ∃ (a : Addr) (v : V) (cs : List Addr) (pss : PSS) (k : Nat), vs = [.ref a, v] ∧ AlbF H CA C a cs pss ∧ Eqn k pss ∧ pss.length ≤ 8 ∧
  NumJ K CQ CW v pss.length H E (fun _ ns => (restN pss.length ns = [] → RzV CB "part" (.str "pictures") H E) ∧ (restN pss.length ns ≠ [] → NewA CA C H Q (pickA cs (restN pss.length ns)) (pickS pss (restN pss.length ns))))
abbrev sWt : Stmt := inClass (top 50) 8
abbrev nWt : List Str := ["self", "numbers", "many", "number"]
theorem scWt : FnScope nWt ["self", "numbers"] (defScope sWt) := ⟨rfl, rfl, rfl, by decide +kernel, rfl, by decide +kernel, by decide +kernel⟩
theorem ok_wt {f : Addr} {fd : FuncData} (F : Fun K "without" "Album.without" sWt f fd) (B : Bn mg) (TA : AlbT K CA) (mA : mg "Album" = some (.ref CA)) (IA : ∃ (fI : Addr) (fd : FuncData), Mk K CA fI ∧ FnOk P w K mg base (L2.CX P w) 4 fI fd ["self", "pictures"] (spAI K C CA CB CF CT) ∧ Binds K fd ["self", "pictures"] []) (C1 : Callee P w K mg base (L2.CX P w) 4 "check_picture_numbers" ["values", "many"] (spCP K CQ CW)) :
    FnOk P w K mg base (L2.CX P w) 6 f fd ["self", "numbers"] (spWt K C CA CB CQ CW) := by
  obtain ⟨f1, fd1, m1, k1, b1, G1⟩ := C1
  have cA := TA.pc.cls
  have nd := scWt.nd
  refine F.okX scWt (fun vs H Q E h => ?_) (fun cdv A outer s H vs Q E hr h => ?_)
  · obtain ⟨a, v, cs, pss, k, rfl, _⟩ := h
    rfl
  · obtain ⟨a, v, cs, pss, k, rfl, al, he, h8, h⟩ := h
    obtain ⟨dx, t, u, rs, ha, ht, pa, _⟩ := id al
    refine ⟨_, (pss_cons ((ps_set (i := 2) nd rfl (Or.inl rfl) ((pe_callB call_len_seq (by rfl) B.len PySem.boot_len (pa_cons (pe_fld (pv 0) rfl) pa_nil))))) (pss_cons (ps_expr (pe_callS (E := fun _ => E) G1 (hr.mono (by decide)) rfl m1 k1 b1 (fun σ => passAt (takes_of rfl rfl rfl rfl) σ) (pa_cons (pv 1) (pa_cons (pv 2) pa_nil)))) (pss_one (ps_ret (pe_mkA (E := E) K mA IA (hr.mono (by decide)) (fun pins σ => passAt (takes_of rfl rfl rfl rfl) σ pins) rfl (pa_cons ((pe_lc (own := [("number", 3)]) (g := gName 3) rfl nd (pi_range1 rfl B.range (pa_cons (pv 2) pa_nil)) (blkOk_by (N := nWt) (sc := defScope sWt) (by decide +kernel)) (fun _ _ _ _ _ => (pg_name (i := 3) nd rfl (Or.inl rfl))) (fun _ _ _ _ _ => pts_one (pt_cmpR (r := rIn K true) op_notIn_seq (pv 3) (pv 1) rfl)) (fun _ _ _ _ _ => (pe_ix (r := rIxT K) ix_tupK (pe_fldK K (pv 0) rfl) (pv 3) (fun _ _ => rfl))))) pa_nil)))))), ?_⟩
    refine ⟨_, rfl, a, CA, dx, _, .ref t, rfl, ha, cA, TA.n2, rfl, t, _, rfl, .inr (SqT.of ht), ?_⟩
    rw [List.length_map, pa.len]
    refine ⟨_, rfl, _, rfl, ?_⟩
    rcases h with ⟨x, j, r⟩ | ⟨c, ns, rfl, pl, hok, htw⟩
    · exact ⟨v, pss.length, rfl, .inl ⟨x, j, r⟩⟩
    refine ⟨.ref c, pss.length, rfl, .inr ⟨c, ns, rfl, pl, fun ndp H1 s1 => ?_, htw⟩⟩
    have hq1 := pl.sq.same s1
    have ha1 := s1 _ _ ha
    have ht1 := s1 _ _ ht
    refine ⟨_, rfl, (pss.length : Int), rfl, by omega, by omega, fun D hD => ?_⟩
    rw [Int.toNat_natCast]
    refine lc_range (lo := 0) (n := pss.length) (fun i => At H1 D ((pickA cs (restN i ns)).map V.ref)) ⟨same_new hD, upd_same⟩ (fun i H' hi p => ?_) (fun H' p => ?_)
    · have ez : (0 : Int) + (i : Int) = ((i : Nat) : Int) := Int.zero_add _
      refine ⟨rfl, ?_⟩
      refine ⟨_, rfl, _, rfl, c, nV ns, rfl, (hq1.same p.1).elim (fun z => .inl (SqL.of z)) (fun z => .inr (SqT.of z)), rfl, flat_nV ns, _, rfl, ?_⟩
      show if (!inV (V.int ((0 : Int) + (i : Int))) (nV ns)) = true then _ else _
      rw [ez, inV_nV]
      have hs := restN_succ i ns
      by_cases hm : i ∈ ns
      · rw [decide_eq_true hm] at hs ⊢
        show At H1 D ((pickA cs (restN (i + 1) ns)).map V.ref) H'
        rw [hs]
        exact p
      · rw [decide_eq_false hm] at hs ⊢
        have hs : restN (i + 1) ns = restN i ns ++ [i] := hs
        refine ⟨_, rfl, a, CA, dx, _, .ref t, rfl, p.1 _ _ ha1, cA, TA.n2, rfl, _, rfl, t, _, _, .ref (cs.getD i 0), rfl, rfl, SqT.of (p.1 _ _ ht1), ?_, _, p.2, ?_, p.step hD Same.me ?_⟩
        · refine atI_nat ?_
          have hc : i < cs.length := by rw [pa.len]; exact hi
          rw [List.getElem?_map, List.getD_eq_getElem?_getD, List.getElem?_eq_getElem hc]
          rfl
        · rw [List.length_map, pickA_len]
          exact small1000 (Nat.le_trans (restN_len _ _) (by omega))
        · rw [hs]
          unfold pickA
          rw [List.map_append, List.map_append]
          rfl
    · have r := hok ndp
      exact ⟨.ref D, rfl, some_mk (H1 := H1) pa he restN_lt ⟨r.1, fun z => ⟨Nat.le_trans (restN_len _ _) h8, r.2 z⟩⟩ (s1.trans p.1) p.2⟩
end
end K14

namespace K14
open PySem PySem.Spec PyProof.Rows L2
/-! ### a call in a comprehension's element raises -/
/-- what is let out of the block: what a call of its element let out -/
def OutE (X0 : Cx) (E : XK) : Value → Shared → Prop := fun u s' => ∃ (pins : List (Addr × Obj)) (σ : L2.St) (H : Hp) (s : Shared), Inv X0 pins σ H s ∧ L2.CX X0.prog X0.w X0.stack H s E u s'
theorem out_passes {X0 : Cx} {E : XK} : Passes (L2.CX X0.prog X0.w) (X0.wish (OutE X0 E)) E := fun pins σ H s e s' I c => ⟨pins, σ, H, s, I.unwish, c⟩
section
variable {X0 : Cx} {E : XK} {u : Value} {s' : Shared}
/-- it flies over the frames, in a state of the block -/
theorem out_flies (h : OutE X0 E u s') : ∃ (a : Addr) (B : Heap) (sI : Shared) (pins : List (Addr × Obj)) (σ : L2.St) (H : Hp) (cls : Value) (d : Option Addr),
    u = .ref a ∧ Inv X0 pins σ H sI ∧ (∀ b o, sI.heap.get? b = some o → b ∉ frs X0.stack → B.get? b = some o) ∧ sI.heap.UpToSlots s'.heap ∧ HandSPX.FlyingZ B X0.stack a (Zc cls d) s'.heap ∧ H a = none ∧ s'.os = sI.os ∧ AllBare s'.gens ∧ E cls d H := by
  obtain ⟨pins, σ, H, s, I, c⟩ := h
  have x := XE.of_call (W := fun cls d _ H => E cls d H) I (fun _ _ _ h => h) c
  obtain ⟨a0, B0, H0, cls0, d0, rfl, fl0, _⟩ := c
  obtain ⟨a, B, sI, pinsA, σA, H', cls, d, ea, IA, nb, up, sky, na, os, ag, hE⟩ := x
  obtain rfl := Value.ref.inj ea
  refine ⟨_, B, sI, pinsA, σA, H', cls, d, rfl, IA, nb, up, ?_, na, os, ag, hE⟩
  obtain ⟨_, _, _, oe0, vs0, T0, oT0, ts0, g0, _, d0', t0, _, _, gT0, dT0, f0⟩ := fl0
  rcases sky with ⟨_, _, _, oe, vs, g, _, dd, t⟩ | fl | ⟨_, _, _, oe, vs, T, oT, ts, g, _, dd, t, _, _, gT, dT, f⟩
  · rw [g0] at g
    obtain rfl := Option.some.inj g
    rw [d0'] at dd
    injection dd with dd
    subst dd
    rw [t0] at t
    cases t
  · exact fl
  · rw [g0] at g
    obtain rfl := Option.some.inj g
    rw [d0'] at dd
    injection dd with dd
    subst dd
    rw [t0] at t
    obtain rfl := Value.ref.inj (Option.some.inj t)
    rw [gT0] at gT
    obtain rfl := Option.some.inj gT
    rw [dT0] at dT
    injection dT with dT
    subst dT
    rw [f0] at f
    cases f
/-- how the block's exception goes on in the def -/
theorem out_raise {X : Cx} {s3 : Shared} {H3 : Hp} {scope : Scope} {ce : Env} {fp : List Addr} {pins : List (Addr × Obj)} {σ : L2.St} {L : Addr} (hs : X.stack = X.env :: X.outer) (hf : X.env.frame = some L) (hL : L = X.env.locals) (hcf : ce.frame = X.env.frame) (cL : ce.locals = s3.heap.objs.size) (I3 : Inv X pins σ H3 s3)
    (f3 : ∀ b ∈ fp, FpOk X pins H3 b ∧ b < s3.heap.objs.size) (tk : Takes X (fun cls d _ H => E cls d H)) (h : OutE (X.blk s3 H3 scope ce fp) E u s') : notedBy (model X.prog X.w) X.A ce (CompFails (model X.prog X.w) X.A X.xe ce) u s' := by
  obtain ⟨a, B, sI, pinsA, σA, H', cls, d, rfl, IA, nb, up, fl, na, os, ag, hE⟩ := out_flies h
  have fl : HandSPX.FlyingZ B X.stack a (Zc cls d) s'.heap := fl
  have nb : ∀ b o, sI.heap.get? b = some o → b ∉ frs X.stack → B.get? b = some o := nb
  have fC : H' ce.locals = none := IA.free
  obtain ⟨m, hn, _⟩ := IA.loc
  have hn : sI.heap.Ns ce.locals m := hn
  have hn1 : s'.heap.Ns ce.locals m := Heap.Ns.upToSlots hn up
  have IX : Inv X pins σ H' sI := I3.call' (ch := fp) IA.os IA.base IA.hok IA.bare fun b hb => ⟨(f3 b hb).1.2.2.2.1, (f3 b hb).1.2.1, (f3 b hb).1.2.2.2.2.1, (f3 b hb).1.2.2.2.2.2⟩
  have fpC : FpOk X pins H' ce.locals := I3.fpOk (Nat.le_of_eq cL.symm) fC
  -- the ground without the block
  obtain ⟨B2, b1, b2⟩ := restrict B fun b => !decide (b = ce.locals)
  have sub : ∀ b o, B2.get? b = some o → b ≠ ce.locals ∧ B.get? b = some o := fun b o e => by
    by_cases z : b = ce.locals
    · rw [b2 b (by rw [decide_eq_true z]; rfl)] at e
      cases e
    · rw [b1 b (by rw [decide_eq_false z]; rfl)] at e
      exact ⟨z, e⟩
  have sub0 : ∀ b, B.get? b = none → B2.get? b = none := fun b e => by
    cases q : B2.get? b with
    | none => rfl
    | some o =>
      rw [(sub b o q).2] at e
      cases e
  have fl2 : HandSPX.FlyingZ B2 (X.env :: X.outer) a (Zc cls d) s'.heap := by
    rw [hs] at fl
    obtain ⟨k1, k2, k3, oe, vs, T, oT, ts, g1, g2, g3, g4, g5, g6⟩ := fl
    refine ⟨fun b o e => k1 b o (sub b o e).2, sub0 _ k2, funFrames_none k3 fun L hL => sub0 _ ?_, oe, vs, T, oT, ts, g1, g2, g3, g4, sub0 _ g5, g6⟩
    exact (k3.mem hL).1
  have hfr : X.A.frames = some (X.env :: X.outer) := by rw [I3.ok.frames, hs]
  show wpAny _ _ (noteFrame (.ref a) ce) _ _ s'
  rw [noteFrame_env _ hcf]
  refine HandSPX.looks_onZ Zc.steady hfr hf fl2 fun h1 hH up1 => ?_
  have hn2 : h1.Ns ce.locals m := Heap.Ns.upToSlots hn1 up1
  refine ⟨m, hn2, fun h2 m2 hm2 hs2 => ?_⟩
  obtain ⟨k1, k2, k3, oe, vs, T, oT, ts, g1, g2, g3, g4, g5, g6, g7, g8, g9⟩ := hH
  obtain ⟨oC, es, ep, gC, dC, _⟩ := hn2
  have ne1 : a ≠ ce.locals := fun z => by
    rw [z, gC] at g1
    obtain rfl := Option.some.inj g1
    rw [dC] at g3
    cases g3
  have ne2 : T ≠ ce.locals := fun z => by
    rw [z, gC] at g7
    obtain rfl := Option.some.inj g7
    rw [dC] at g8
    cases g8
  have st2 : B2.StaysIn h2 := fun b o e => (hs2.2 b (sub b o e).1).trans (k1 b o e)
  have ff2 : h2.FunFrames B2 (X.env :: X.outer) := Heap.FunFrames.sameBut hs2 hm2 k3
  have e2 : h2.get? a = some oe := (hs2.2 a ne1).trans g1
  have t2 : HandSPX.TracedZ h2 B2 a (Zc cls d) (rawInt L) := ⟨oe, vs, T, oT, ts, e2, g2, g3, g4, g5, g6, (hs2.2 T ne2).trans g7, g8, g9⟩
  unfold PySem.passOn
  refine wpAny_bind (wpAny_field e2 g3 g4 ?_)
  rw [if_neg (show ¬ ((Value.ref T == Value.none) = true) from by simp)]
  rw [hcf, hf]
  refine wpAny_bind (HandSPX.setFlight_anyZ st2 ff2 t2 fun h3 j1 j2 j3 j4 => ?_)
  refine wpAny_throw ?_
  -- the state without the block
  obtain ⟨G, c1, c2⟩ := restrict sI.heap fun b => !decide (b = ce.locals)
  have og : ∀ b o, G.get? b = some o → b ≠ ce.locals ∧ sI.heap.get? b = some o := fun b o e => by
    by_cases z : b = ce.locals
    · rw [c2 b (by rw [decide_eq_true z]; rfl)] at e
      cases e
    · rw [c1 b (by rw [decide_eq_false z]; rfl)] at e
      exact ⟨z, e⟩
  obtain ⟨p0, p1, p2, p3, p4, p5⟩ := fpC
  have IG : Inv X pins σ H' { sI with heap := G, toks := sI.toks } := IX.turned (fun b o hb e => (c1 b (by rw [decide_eq_false hb]; rfl)).trans e) p0 p1 p3 p4 p5
  refine tk _ _ ⟨a, B2, { sI with heap := G, toks := sI.toks }, pins, σ, H', cls, d, rfl, IG, fun b o e hb => ?_, fun b o e hd => ?_, .inr (.inr ?_), na, os, ag, hE⟩
  · obtain ⟨z, e⟩ := og b o e
    rw [b1 b (by rw [decide_eq_false z]; rfl)]
    exact nb b o e hb
  · obtain ⟨z, e⟩ := og b o e
    obtain ⟨sl1, e1⟩ := up b o e hd
    obtain ⟨sl2, e2⟩ := up1 b _ e1 hd
    have e3 := (hs2.2 b z).trans e2
    obtain ⟨sl4, e4⟩ := j4 b _ e3 hd
    exact ⟨sl4, e4⟩
  · rw [hs, ← hL]
    exact ⟨j1, k2, j2, j3⟩
end
end K14

namespace K14
open PySem PySem.Spec PyProof.Rows L2
/-! ### a comprehension whose element may raise by a call -/
section
variable {X : Cx}
theorem pe_lcR {elt tg iter : Expr} {scope : Scope} {own : List (Str × Nat)} {pos : Pos} {wi : TI} {g : TG} {te : TE} {E : XK} (hc : X.calm = true) (hN : X.N.Nodup) (hst : X.stack = X.env :: X.outer) (hfr : X.env.frame = some X.env.locals) (tk : Takes X (fun cls d _ H => E cls d H)) (hi : PI X tg iter wi) (ok : BlkOk X.N X.env.scope scope own)
    (hg : ∀ (s : Shared) (H : Hp) (C : Addr) (cl : List (Str × Addr)) (fp : List Addr), PG (X.blk s H scope (compEnvC scope cl C X.env) fp) tg g)
    (he : ∀ (s : Shared) (H : Hp) (C : Addr) (cl : List (Str × Addr)) (fp : List Addr), PE ((X.blk s H scope (compEnvC scope cl C X.env) fp).wish (OutE (X.blk s H scope (compEnvC scope cl C X.env) fp) E)) elt te) (hs : ∀ x, foldedSetIterable iter X.env x = pure x := by intro _; rfl) :
    PE X (.ListComp elt [⟨tg, iter, [], 0⟩] scope pos) (tLc wi g tYes te (own.map (·.2))) := by
  refine ⟨fun pins s σ H Q I h => ?_⟩
  rw [eval_ListComp]
  have hfree : ∀ y ∈ scope.names, y.2 = .free → ∃ c, X.env.cells.lookup y.1 = some c := fun y hy e => (ok.free y hy e).elim (fun k => I.ok.has _ (.inl k)) fun k => I.ok.has _ (.inr k)
  refine comprehension_at (M := model X.prog X.w) (use := none) rfl hs (closure_ok hfree) ok.kind (fun y hy e => by rw [ok.uniq y hy, e]) (thn (hi.run pins s σ H _ I h) fun xv s1 hx => thn hx fun itv s2 h2 => ?_)
  obtain ⟨it, fp, tn, J, H2, rfl, I2, T, st2, f2, q⟩ := h2
  refine wpAny_newObj_type (newEnv_comp ?_) (by show 0 ≤ sizeLine; decide)
  have hDn : H2 s2.heap.objs.size = none := I2.hok.fresh (Nat.le_refl _)
  obtain ⟨W, ⟨m0, w0⟩, turn⟩ := q _ hDn
  -- the new list at D
  have I3 : Inv X pins σ (upd H2 s2.heap.objs.size (.lst [])) { s2 with heap := s2.heap.push { cls := .type "list", data := .seq ([] : List Value).toArray } } :=
    I2.laid (t' := s2.toks) (fun b o e => Heap.get?_push_of_some _ e) (Nat.le_refl _) ⟨Nat.zero_le _, [], 0, .nil, Heap.get?_push_size _ rfl⟩
  have low : ∀ b ∈ fp, b < s2.heap.objs.size := fun b hb => let ⟨o, e, _⟩ := T.obj _ _ st2 b hb; Heap.lt_size e
  have f3 : ∀ b ∈ fp, FpOk X pins (upd H2 s2.heap.objs.size (.lst [])) b ∧ b < ({ s2 with heap := s2.heap.push { cls := .type "list", data := .seq ([] : List Value).toArray } } : Shared).heap.objs.size := fun b hb => by
    have hlt := low b hb
    refine ⟨⟨?_, (f2 b hb).2⟩, by rw [Heap.size_push]; exact Nat.lt_succ_of_lt hlt⟩
    rw [upd_ne (Nat.ne_of_lt hlt)]
    exact (f2 b hb).1
  have st3 : tn 0 (s2.heap.push { cls := .type "list", data := .seq ([] : List Value).toArray }) := T.keep _ _ _ st2 fun b _ o e => Heap.get?_push_of_some _ e
  generalize hs3 : ({ s2 with heap := s2.heap.push { cls := .type "list", data := .seq ([] : List Value).toArray } } : Shared) = s3 at I3 f3
  have st3 : tn 0 s3.heap := by rw [← hs3]; exact st3
  have I4 := block_start I3 ok hN f3
  have pg := hg s3 (upd H2 s2.heap.objs.size (.lst [])) s3.heap.objs.size (cellsFrom (s3.heap.objs.size + 1) scope.names (cloFrom X.env.cells scope.names [])) fp
  have pe := he s3 (upd H2 s2.heap.objs.size (.lst [])) s3.heap.objs.size (cellsFrom (s3.heap.objs.size + 1) scope.names (cloFrom X.env.cells scope.names [])) fp
  have goal : codeAny (model X.prog X.w) X.A (.compStart (.ListComp elt [⟨tg, iter, [], 0⟩] scope pos) 0 (.ref it) (.ref s2.heap.objs.size) (compEnvC scope (cellsFrom (s3.heap.objs.size + 1) scope.names (cloFrom X.env.cells scope.names [])) s3.heap.objs.size X.env))
      (compEnds (model X.prog X.w) X.A X.xe none (EP X pins σ Q) (.ref s2.heap.objs.size) (compEnvC scope (cellsFrom (s3.heap.objs.size + 1) scope.names (cloFrom X.env.cells scope.names [])) s3.heap.objs.size X.env)) { s3 with heap := pushCells (s3.heap.push { cls := .type "dict", data := .dict #[] }) scope.names } := by
    have cL : (compEnvC scope (cellsFrom (s3.heap.objs.size + 1) scope.names (cloFrom X.env.cells scope.names [])) s3.heap.objs.size X.env).locals = s3.heap.objs.size := rfl
    have cF : (compEnvC scope (cellsFrom (s3.heap.objs.size + 1) scope.names (cloFrom X.env.cells scope.names [])) s3.heap.objs.size X.env).frame = X.env.frame := rfl
    generalize compEnvC scope (cellsFrom (s3.heap.objs.size + 1) scope.names (cloFrom X.env.cells scope.names [])) s3.heap.objs.size X.env = ce at I4 pg pe cL cF ⊢
    generalize upd H2 s2.heap.objs.size (.lst []) = H3 at I3 I4 pg pe w0 f3
    have nfp : ∀ b ∈ fp, H3 b = none := fun b hb => (f3 b hb).1.1
    have st4 : tn 0 ({ s3 with heap := pushCells (s3.heap.push { cls := .type "dict", data := .dict #[] }) scope.names } : Shared).heap := T.keep _ _ _ st3 fun b _ o e => pushCells_keeps _ _ _ _ (Heap.get?_push_of_some _ e)
    generalize ({ s3 with heap := pushCells (s3.heap.push { cls := .type "dict", data := .dict #[] }) scope.names } : Shared) = s4 at I4 st4 ⊢
    generalize s2.heap.objs.size = D at turn hDn w0 ⊢
    have still : ∀ {σ' : L2.St} {H' : Hp} {s' : Shared}, Inv (X.blk s3 H3 scope ce fp) [] σ' H' s' → (∀ b ∈ fp, H' b = none) → ∀ b ∈ fp, FpOk (X.blk s3 H3 scope ce fp) [] H' b := fun {σ' H' s'} I' hn b hb =>
      ⟨hn b hb, (I'.ok.exf b hb).1, I'.ok.exfs b hb, .inl hb, fun x c e => (I'.ok.exf b hb).2 x c e, fun p hp => nomatch (show p ∈ ([] : List (Addr × Obj)) from hp)⟩
    have loop : codeAny (model X.prog X.w) X.A (.compLoop (.ListComp elt [⟨tg, iter, [], 0⟩] scope pos) 0 (.ref it) (.ref D) ce) (compEnds (model X.prog X.w) X.A X.xe none (EP X pins σ Q) (.ref D) ce) s4 := by
      refine compLoop_any (fun n s' => ∃ i H', Inv (X.blk s3 H3 scope ce fp) [] (wipe σ (own.map (·.2))) H' s' ∧ tn i s'.heap ∧ (∀ b ∈ fp, H' b = none) ∧ W i n H') ?_ m0 ⟨0, H3, I4, st4, nfp, w0⟩
      rintro n s5 ⟨i, H5, I5, st5, n5, w5⟩
      rcases turn i n H5 w5 with ⟨stop, qq⟩ | ⟨go, Nx, hNx, step⟩
      · refine thnF (T.done (X.blk s3 H3 scope ce fp) rfl rfl rfl hc i [] s5 _ H5 (fun _ _ => False) I5 (still I5 n5) st5 stop) fun r s6 ⟨hr, I6⟩ => ?_
        subst hr
        have I7 : Inv X pins σ H5 s6 := I3.call' (ch := fp) I6.os I6.base I6.hok I6.bare fun b hb => ⟨(f3 b hb).1.2.2.2.1, (f3 b hb).1.2.1, (f3 b hb).1.2.2.2.2.1, (f3 b hb).1.2.2.2.2.2⟩
        obtain ⟨m, hn, _⟩ := I6.loc
        obtain ⟨p0, p1, p2, p3, p4, p5⟩ : FpOk X pins H5 ce.locals := I3.fpOk (Nat.le_of_eq cL.symm) I6.free
        exact ⟨m, hn, fun h'' sb => ⟨.ref D, H5, I7.turned (t' := s6.toks) (fun b o hb e => (sb.2 b hb).trans e) p0 p1 p3 p4 p5, rfl, qq⟩⟩
      · refine thnF (T.item (X.blk s3 H3 scope ce fp) rfl rfl rfl hc i [] s5 _ H5 (fun _ _ => False) I5 (still I5 n5) st5 go) fun r s6 ⟨u, hr, h6⟩ => ?_
        subst hr
        refine thnF h6 fun _ s7 ⟨x, H7, I7, r7, y7, st7, n7⟩ => ?_
        refine thnF (pg.run _ s7 _ H7 x u _ (I7.pinned (still I7 n7) (T.obj _ _ st7)) r7 (step x H7 y7)) fun _ s8 ⟨σ8, H8, I8, hw8, q8⟩ => ?_
        refine thnF ((pts_nil (X := X.blk s3 H3 scope ce fp)).run _ s8 σ8 H8 _ I8 q8) fun b s9 ⟨H9, I9, q9⟩ => ?_
        have fin : ∀ {s' : Shared} {H' : Hp}, Inv (X.blk s3 H3 scope ce fp) ([] ++ pinsAt fp s7.heap) σ8 H' s' → Nx H' → ∃ m, m < n ∧ ∃ i H', Inv (X.blk s3 H3 scope ce fp) [] (wipe σ (own.map (·.2))) H' s' ∧ tn i s'.heap ∧ (∀ b ∈ fp, H' b = none) ∧ W i m H' := fun {s' H'} I' nx => by
          obtain ⟨m', hm, w'⟩ := hNx H' nx
          have held : ∀ b ∈ fp, ∀ o, s7.heap.get? b = some o → s'.heap.get? b = some o ∧ H' b = none := fun b hb o e =>
            ⟨(I'.pin (b, o) (List.mem_append_right _ (List.mem_append_right _ (mem_pinsAt hb e)))).1, (I'.pin (b, o) (List.mem_append_right _ (List.mem_append_right _ (mem_pinsAt hb e)))).2.1⟩
          refine ⟨m', hm, i + 1, H', (I'.unpinned (pins := [])).weak (by rw [← hw8, wipe_length]) (fun j v e => ?_), T.keep _ _ _ st7 fun b hb o e => (held b hb o e).1, fun b hb => ?_, w'⟩
          · rw [← hw8] at e
            exact (wipe_some e).1
          · obtain ⟨o, e, _⟩ := T.obj _ _ st7 b hb
            exact (held b hb o e).2
        cases b with
        | false =>
          simp only [Bool.false_eq_true, if_false] at q9 ⊢
          exact fin I9 q9
        | true =>
          simp only [if_true] at q9 ⊢
          refine wpAny_mono (pe.run _ s9 σ8 H9 _ (I9.wish _) q9) (fun z s10 ⟨yv, H10, I10, r10, acc, hD10, hz10, nx⟩ => ?_) (fun e s' hx => out_raise hst hfr rfl cF cL I3 f3 tk hx)
          exact app_ok (X := X.blk s3 H3 scope ce fp) I10.unwish hD10 hz10 r10 fun s11 I11 => fin I11 nx
    exact codeAny_compStart_list loop (T.self X.A 0 _ _ _ st4 loop)
  exact goal
end
end K14

namespace K14
open PySem PySem.Spec PyProof.Rows L2
/-- a new album with these places, of new pictures -/
def NewAs (CA C : Addr) (H : Hp) (Q : VK) (pss : PSS) : Prop := ∀ cs, NewA CA C H Q cs pss
theorem NewAs.same {CA C : Addr} {H H1 : Hp} {Q : VK} {pss : PSS} (h : NewAs CA C H Q pss) (s : Same H H1) : NewAs CA C H1 Q pss := fun cs => (h cs).same s
theorem map_mk {K : PySem.W.Frag} {C CA CB CF CT D : Addr} {ds : List Addr} {pss : PSS} {f : List (Int × Int) → List (Int × Int)} {k : Nat} {H H' : Hp} {Q : VK} {E : XK} (s : Same H H') (hD : H' D = some (.lst (ds.map V.ref))) (hp : Pics H' C ds (pss.map f)) (hk : ∀ ps ∈ pss, (f ps).length = k) (hne : pss ≠ []) (h8 : pss.length ≤ 8) (n : NewAs CA C H Q (pss.map f)) : MkA K C CA CB CF CT (.ref D) H' Q E := by
  have ee : alike (pss.map f) = true := Eqn.alike (k := k) fun qs hq => by
    obtain ⟨ps, hps, rfl⟩ := List.mem_map.mp hq
    exact hk ps hps
  refine .inr ⟨D, ds, _, rfl, .inl hD, hp, fun z => ?_, by rw [List.length_map]; omega, fun z => ?_, fun _ z => ?_, fun _ _ => (n ds).same s⟩
  · have := hp.len
    rw [z, List.length_map] at this
    exact hne (List.length_eq_zero_iff.mp this.symm)
  · rw [ee] at z
    cases z
  · rw [List.length_map] at z
    exact absurd z (by omega)
theorem map_step {C D x : Addr} {H0 H H2 : Hp} {ds : List Addr} {pss : PSS} {f : List (Int × Int) → List (Int × Int)} {i : Nat} {ps : List (Int × Int)} (hD : H0 D = none) (s1 : Same H0 H) (gD : H D = some (.lst (ds.map V.ref))) (hp : Pics H C ds ((pss.take i).map f)) (h8 : pss.length ≤ 8) (e : pss[i]? = some ps) (s2 : Same H H2) (pf : PicF H2 C x (f ps)) :
    ∃ acc, H2 D = some (.lst acc) ∧ acc.length < sizeLine ∧ Same H0 (upd H2 D (.lst (acc ++ [V.ref x]))) ∧ ∃ ds' : List Addr, (upd H2 D (.lst (acc ++ [V.ref x]))) D = some (.lst (ds'.map V.ref)) ∧ Pics (upd H2 D (.lst (acc ++ [V.ref x]))) C ds' ((pss.take (i + 1)).map f) := by
  have g2 := s2 _ _ gD
  refine ⟨_, g2, ?_, fun b o eb => ?_, ds ++ [x], by rw [upd_same, List.map_append]; rfl, ?_⟩
  · rw [List.length_map, hp.len, List.length_map]
    exact small1000 (Nat.le_trans (List.length_take_le' _ _) (by omega))
  · rw [upd_ne (ne_of_none eb hD)]
    exact s2 _ _ (s1 _ _ eb)
  · rw [take_more e, List.map_append]
    exact paired_snoc ((hp.same s2).updl g2) (pf.updl g2)
section
variable {P : Program} {w : World} {K : PySem.W.Frag} {mg : Str → Option Value} {base : Heap} {C CA CB CP CF CT CN CW : Addr}
/-! ### Album.in_order -/
def spIA (K : PySem.W.Frag) (C CA CP CW CF : Addr) : Sp := fun vs H Q E => ∃ (a : Addr) (v : V) (cs : List Addr) (pss : PSS) (k : Nat), vs = [.ref a, v] ∧ AlbF H CA C a cs pss ∧ Eqn k pss ∧ (∀ ps ∈ pss, OkP ps) ∧ pss ≠ [] ∧ pss.length ≤ 8 ∧
  ((∃ x, WJ K H k v (some x) ∧ RzV CP "value" x H E) ∨ (∃ c ns, v = .ref c ∧ PinL H c ns k ∧ (ns.Nodup → k ≤ ns.length → ns.length ≤ 7 ∧ NewAs CA C H Q (pss.map fun ps => pick ps ns)) ∧ (¬ (ns.Nodup ∧ k ≤ ns.length) → (ns.Nodup → ns.length < k → RzV CF "part" (.str "pins") H E) ∧ ∀ j, TwN ns j → RzV CW "value" (.int (j : Nat)) H E)))
abbrev sIA : Stmt := inClass (top 50) 9
abbrev nIA : List Str := ["self", "pins", "picture"]
theorem scIA : FnScope nIA ["self", "pins"] (defScope sIA) := ⟨rfl, rfl, rfl, by decide +kernel, rfl, by decide +kernel, by decide +kernel⟩
theorem nd_no {ns : List Nat} (nd : ns.Nodup) {j : Nat} (h : TwN ns j) : False := by
  obtain ⟨i, h1, h2, _⟩ := h
  have hm : j ∈ ns.drop i := List.mem_of_getElem? (i := 0) (by rw [List.getElem?_drop, Nat.add_zero]; exact h1)
  rw [← List.take_append_drop i ns, List.nodup_append] at nd
  exact absurd rfl (nd.2.2 j h2 j hm)
theorem ok_ia {f : Addr} {fd : FuncData} (F : Fun K "in_order" "Album.in_order" sIA f fd) (T : PicT K C) (TA : AlbT K CA) (mA : mg "Album" = some (.ref CA)) (IA : ∃ (fI : Addr) (fd : FuncData), Mk K CA fI ∧ FnOk P w K mg base (L2.CX P w) 4 fI fd ["self", "pictures"] (spAI K C CA CB CF CT) ∧ Binds K fd ["self", "pictures"] []) (PO : Po P w K mg base C CP CW CF CN CT) :
    FnOk P w K mg base (L2.CX P w) 9 f fd ["self", "pins"] (spIA K C CA CP CW CF) := by
  obtain ⟨fi, fdi, Mi, Gi, bi, _⟩ := PO.io
  have cA := TA.pc.cls
  have cl := T.pc.cls
  have nd := scIA.nd
  refine F.okX scIA (fun vs H Q E h => ?_) (fun cdv A outer s H vs Q E hr h => ?_)
  · obtain ⟨a, v, cs, pss, k, rfl, _⟩ := h
    rfl
  · obtain ⟨a, v, cs, pss, k, rfl, al, he, hok, hne, h8, h⟩ := h
    obtain ⟨dx, t, u, rs, ha, ht, pa, _⟩ := id al
    refine ⟨_, pss_one (ps_ret (pe_mkA (E := E) K mA IA (hr.mono (by decide)) (fun pins σ => passAt (takes_of rfl rfl rfl rfl) σ pins) rfl (pa_cons ((pe_lcR (E := E) (own := [("picture", 2)]) (g := gName 2) rfl nd rfl rfl (takes_of rfl rfl rfl rfl) (pi_tup (pe_fld (pv 0) rfl)) (blkOk_by (N := nIA) (sc := defScope sIA) (by decide +kernel)) (fun _ _ _ _ _ => (pg_name (i := 2) nd rfl (Or.inl rfl))) (fun _ _ _ _ _ => pe_meth (E := E) (pv 2) cl Mi Gi (hr.mono (by decide)) bi .nil out_passes (pa_cons (pv 1) pa_nil)))) pa_nil))), ?_⟩
    refine ⟨_, rfl, a, CA, dx, _, .ref t, rfl, ha, cA, TA.n2, rfl, t, rfl, ⟨_, SqT.of ht⟩, fun D hD => ?_⟩
    rcases h with ⟨x, j, r⟩ | ⟨c, ns, rfl, pl, hgo, hbad⟩
    · refine lc_tup (K := K) (a := t) (xs := cs.map V.ref) (fun i H' => i = 0 ∧ Same H H') ⟨rfl, same_new hD⟩ (fun i H' _ p => SqT.of (p.2 _ _ ht)) (fun i x H' hx p => ?_) (fun H' p => ?_)
      · obtain ⟨rfl, s⟩ := p
        obtain ⟨c1, ps, _, rfl, eps, pf⟩ := pa.mem hx
        have hm := List.mem_of_getElem? eps
        have lk := he ps hm
        have pf1 := pf.same s
        refine ⟨rfl, yes_of ⟨_, rfl, meth_in pf1 (fun _ _ _ => rfl) ⟨_, rfl, .mk ?_⟩⟩⟩
        exact ⟨c1, v, ps, rfl, pf1, hok ps hm, .inl ⟨x, by rw [lk]; exact j.same s, r.same s⟩⟩
      · have z := p.1
        rw [List.length_map, pa.len] at z
        exact absurd (List.length_eq_zero_iff.mp z) hne
    by_cases g : ns.Nodup ∧ k ≤ ns.length
    · obtain ⟨n7, nw0⟩ := hgo g.1 g.2
      refine lc_tup (K := K) (a := t) (xs := cs.map V.ref) (fun i H' => Same H H' ∧ ∃ ds : List Addr, H' D = some (.lst (ds.map V.ref)) ∧ Pics H' C ds ((pss.take i).map (fun ps => pick ps ns))) ⟨same_new hD, [], upd_same, .nil⟩ (fun i H' _ p => SqT.of (p.1 _ _ ht)) (fun i x H' hx p => ?_) (fun H' p => ?_)
      · obtain ⟨s, ds, gD, hp⟩ := p
        obtain ⟨c1, ps, _, rfl, eps, pf⟩ := pa.mem hx
        have hm := List.mem_of_getElem? eps
        have lk := he ps hm
        have pf1 := pf.same s
        refine ⟨rfl, yes_of ⟨_, rfl, meth_in pf1 (fun _ _ _ => rfl) ⟨_, rfl, .mk ?_⟩⟩⟩
        have nw : NewP C ((fun ps => pick ps ns) ps) H' (fun y H4 => ∃ acc, H4 D = some (.lst acc) ∧ acc.length < sizeLine ∧ Same H (upd H4 D (.lst (acc ++ [y]))) ∧ ∃ ds : List Addr, (upd H4 D (.lst (acc ++ [y]))) D = some (.lst (ds.map V.ref)) ∧ Pics (upd H4 D (.lst (acc ++ [y]))) C ds ((pss.take (i + 1)).map (fun ps => pick ps ns))) := fun x H2 s2 _ pf2 => map_step hD s gD hp h8 eps s2 pf2
        exact ⟨c1, .ref c, ps, rfl, pf1, hok ps hm, .inr ⟨c, ns, rfl, by rw [lk]; exact pl.same s, fun _ _ => ⟨n7, nw⟩, fun _ l => absurd l (by rw [lk]; omega), fun j t => (nd_no g.1 t).elim⟩⟩
      · obtain ⟨s, ds, gD, hp⟩ := p
        rw [List.length_map, pa.len, List.take_length] at hp
        exact ⟨.ref D, rfl, map_mk s gD hp (k := ns.length) (fun ps _ => pick_len ps ns) hne h8 (nw0)⟩
    · obtain ⟨hb1, hb2⟩ := hbad g
      refine lc_tup (K := K) (a := t) (xs := cs.map V.ref) (fun i H' => i = 0 ∧ Same H H') ⟨rfl, same_new hD⟩ (fun i H' _ p => SqT.of (p.2 _ _ ht)) (fun i x H' hx p => ?_) (fun H' p => ?_)
      · obtain ⟨rfl, s⟩ := p
        obtain ⟨c1, ps, _, rfl, eps, pf⟩ := pa.mem hx
        have hm := List.mem_of_getElem? eps
        have lk := he ps hm
        have pf1 := pf.same s
        refine ⟨rfl, yes_of ⟨_, rfl, meth_in pf1 (fun _ _ _ => rfl) ⟨_, rfl, .mk ?_⟩⟩⟩
        exact ⟨c1, .ref c, ps, rfl, pf1, hok ps hm, .inr ⟨c, ns, rfl, by rw [lk]; exact pl.same s, fun n l => absurd ⟨n, by rw [← lk]; exact l⟩ g, fun n l => (hb1 n (by rw [← lk]; exact l)).same s, fun j t => (hb2 j t).same s⟩⟩
      · have z := p.1
        rw [List.length_map, pa.len] at z
        exact absurd (List.length_eq_zero_iff.mp z) hne
/-! ### Album.without_pin -/
def spWpA (K : PySem.W.Frag) (C CA CP CF : Addr) : Sp := fun vs H Q E => ∃ (a : Addr) (v : V) (tv : Bool) (cs : List Addr) (pss : PSS) (k : Nat), vs = [.ref a, v] ∧ AlbF H CA C a cs pss ∧ Eqn k pss ∧ (∀ ps ∈ pss, OkP ps) ∧ pss ≠ [] ∧ pss.length ≤ 8 ∧ Kd K H v tv ∧
  (pinOk k v = false → RzV CP "value" v H E) ∧ ∀ n : Nat, v = .int n → n < k → (k = 4 → RzV CF "part" (.str "pins") H E) ∧ (4 < k → NewAs CA C H Q (pss.map fun ps => ps.take n ++ ps.drop (n + 1)))
abbrev sWpA : Stmt := inClass (top 50) 10
abbrev nWpA : List Str := ["self", "pin", "picture"]
theorem scWpA : FnScope nWpA ["self", "pin"] (defScope sWpA) := ⟨rfl, rfl, rfl, by decide +kernel, rfl, by decide +kernel, by decide +kernel⟩
theorem ok_wpA {f : Addr} {fd : FuncData} (F : Fun K "without_pin" "Album.without_pin" sWpA f fd) (T : PicT K C) (TA : AlbT K CA) (mA : mg "Album" = some (.ref CA)) (IA : ∃ (fI : Addr) (fd : FuncData), Mk K CA fI ∧ FnOk P w K mg base (L2.CX P w) 4 fI fd ["self", "pictures"] (spAI K C CA CB CF CT) ∧ Binds K fd ["self", "pictures"] []) (PO : Po P w K mg base C CP CW CF CN CT) :
    FnOk P w K mg base (L2.CX P w) 9 f fd ["self", "pin"] (spWpA K C CA CP CF) := by
  obtain ⟨fi, fdi, Mi, Gi, bi, _⟩ := PO.wo
  have cA := TA.pc.cls
  have cl := T.pc.cls
  have nd := scWpA.nd
  refine F.okX scWpA (fun vs H Q E h => ?_) (fun cdv A outer s H vs Q E hr h => ?_)
  · obtain ⟨a, v, tv, cs, pss, k, rfl, _⟩ := h
    rfl
  · obtain ⟨a, v, tv, cs, pss, k, rfl, al, he, hok, hne, h8, kv, hbad, hgo⟩ := h
    obtain ⟨dx, t, u, rs, ha, ht, pa, _⟩ := id al
    refine ⟨_, pss_one (ps_ret (pe_mkA (E := E) K mA IA (hr.mono (by decide)) (fun pins σ => passAt (takes_of rfl rfl rfl rfl) σ pins) rfl (pa_cons ((pe_lcR (E := E) (own := [("picture", 2)]) (g := gName 2) rfl nd rfl rfl (takes_of rfl rfl rfl rfl) (pi_tup (pe_fld (pv 0) rfl)) (blkOk_by (N := nWpA) (sc := defScope sWpA) (by decide +kernel)) (fun _ _ _ _ _ => (pg_name (i := 2) nd rfl (Or.inl rfl))) (fun _ _ _ _ _ => pe_meth (E := E) (pv 2) cl Mi Gi (hr.mono (by decide)) bi .nil out_passes (pa_cons (pv 1) pa_nil)))) pa_nil))), ?_⟩
    refine ⟨_, rfl, a, CA, dx, _, .ref t, rfl, ha, cA, TA.n2, rfl, t, rfl, ⟨_, SqT.of ht⟩, fun D hD => ?_⟩
    cases eo : pinOk k v with
    | false =>
      refine lc_tup (K := K) (a := t) (xs := cs.map V.ref) (fun i H' => i = 0 ∧ Same H H') ⟨rfl, same_new hD⟩ (fun i H' _ p => SqT.of (p.2 _ _ ht)) (fun i x H' hx p => ?_) (fun H' p => ?_)
      · obtain ⟨rfl, s⟩ := p
        obtain ⟨c1, ps, _, rfl, eps, pf⟩ := pa.mem hx
        have hm := List.mem_of_getElem? eps
        have lk := he ps hm
        have pf1 := pf.same s
        refine ⟨rfl, yes_of ⟨_, rfl, meth_in pf1 (fun _ _ _ => rfl) ⟨_, rfl, .mk ?_⟩⟩⟩
        refine ⟨c1, v, tv, ps, rfl, pf1, hok ps hm, kv.same s, fun _ => (hbad eo).same s, fun n ev hn => ?_⟩
        subst ev
        rw [pinOk_nat, ← lk, decide_eq_true hn] at eo
        cases eo
      · have z := p.1
        rw [List.length_map, pa.len] at z
        exact absurd (List.length_eq_zero_iff.mp z) hne
    | true =>
      obtain ⟨n, rfl, hn⟩ := pin_of eo
      obtain ⟨h4, h5⟩ := hgo n rfl hn
      have same_n : ∀ {m : Nat}, V.int (n : Nat) = V.int (m : Nat) → n = m := fun z => by
        have := V.int.inj z
        omega
      by_cases e4 : k = 4
      · refine lc_tup (K := K) (a := t) (xs := cs.map V.ref) (fun i H' => i = 0 ∧ Same H H') ⟨rfl, same_new hD⟩ (fun i H' _ p => SqT.of (p.2 _ _ ht)) (fun i x H' hx p => ?_) (fun H' p => ?_)
        · obtain ⟨rfl, s⟩ := p
          obtain ⟨c1, ps, _, rfl, eps, pf⟩ := pa.mem hx
          have hm := List.mem_of_getElem? eps
          have lk := he ps hm
          have pf1 := pf.same s
          refine ⟨rfl, yes_of ⟨_, rfl, meth_in pf1 (fun _ _ _ => rfl) ⟨_, rfl, .mk ?_⟩⟩⟩
          refine ⟨c1, _, tv, ps, rfl, pf1, hok ps hm, kv.same s, fun z => ?_, fun m ev _ => ⟨fun _ => (h4 e4).same s, fun l => absurd l (by omega)⟩⟩
          rw [lk, eo] at z
          cases z
        · have z := p.1
          rw [List.length_map, pa.len] at z
          exact absurd (List.length_eq_zero_iff.mp z) hne
      · refine lc_tup (K := K) (a := t) (xs := cs.map V.ref) (fun i H' => Same H H' ∧ ∃ ds : List Addr, H' D = some (.lst (ds.map V.ref)) ∧ Pics H' C ds ((pss.take i).map (fun ps => ps.take n ++ ps.drop (n + 1)))) ⟨same_new hD, [], upd_same, .nil⟩ (fun i H' _ p => SqT.of (p.1 _ _ ht)) (fun i x H' hx p => ?_) (fun H' p => ?_)
        · obtain ⟨s, ds, gD, hp⟩ := p
          obtain ⟨c1, ps, _, rfl, eps, pf⟩ := pa.mem hx
          have hm := List.mem_of_getElem? eps
          have lk := he ps hm
          have pf1 := pf.same s
          refine ⟨rfl, yes_of ⟨_, rfl, meth_in pf1 (fun _ _ _ => rfl) ⟨_, rfl, .mk ?_⟩⟩⟩
          have nw : NewP C ((fun ps => ps.take n ++ ps.drop (n + 1)) ps) H' (fun y H4 => ∃ acc, H4 D = some (.lst acc) ∧ acc.length < sizeLine ∧ Same H (upd H4 D (.lst (acc ++ [y]))) ∧ ∃ ds : List Addr, (upd H4 D (.lst (acc ++ [y]))) D = some (.lst (ds.map V.ref)) ∧ Pics (upd H4 D (.lst (acc ++ [y]))) C ds ((pss.take (i + 1)).map (fun ps => ps.take n ++ ps.drop (n + 1)))) := fun x H2 s2 _ pf2 => map_step hD s gD hp h8 eps s2 pf2
          refine ⟨c1, _, tv, ps, rfl, pf1, hok ps hm, kv.same s, fun z => ?_, fun m ev _ => ⟨fun z => absurd (lk.symm.trans z) e4, fun _ => ?_⟩⟩
          · rw [lk, eo] at z
            cases z
          · obtain rfl := same_n ev
            exact nw
        · obtain ⟨s, ds, gD, hp⟩ := p
          rw [List.length_map, pa.len, List.take_length] at hp
          exact ⟨.ref D, rfl, map_mk s gD hp (k := k - 1) (fun ps hps => by
            have := he ps hps
            rw [List.length_append, List.length_take, List.length_drop]
            omega) hne h8 (h5 (by
            obtain ⟨ps, hps⟩ := List.exists_mem_of_ne_nil _ hne
            have := (hok ps hps).1
            have := he ps hps
            omega))⟩
end
end K14

namespace K14
open PySem PySem.Spec PyProof.Rows L2
/-- a tuple at a and a list at b, walked side by side -/
def ItzM (K : PySem.W.Frag) (a b : Addr) : It :=
  ⟨fun i H => ∃ (xs ys : List V) (x y : V), (SqT K H a xs ∧ xs[i]? = some x) ∧ SqL K H b ys ∧ ys[i]? = some y,
    fun i H v H' => ∃ T x y, v = .ref T ∧ (H T = none ∧ H' = upd H T (.tup [x, y])) ∧ (∀ l, SqT K H a l → l[i]? = some x) ∧ ∀ l, SqL K H b l → l[i]? = some y,
    fun i H => ∃ xs ys : List V, (SqT K H a xs ∧ SqL K H b ys) ∧ i = xs.length ∧ i = ys.length⟩
def ZMst (z TI TO i1 i2 a b : Addr) (i : Nat) (h : Heap) : Prop := IsZip h z TI TO .none ∧ IsPair h TI (.ref i1) (.ref i2) ∧ (∃ x y, IsPair h TO x y) ∧ h.IsTupleIter i1 a i ∧ h.IsListIter i2 b i
theorem sep_of {z TI TO i1 i2 a b : Addr} (D : ZipApart z TI TO i1 i2 a b) : ZipSep2 z TI TO i1 i2 [i1, a] [i2, b] where
  TIz := D.TIz
  TOz := D.TOz
  TITO := D.TITO
  TIi1 := D.TIi1
  mem1 := by simp
  zf1 := by simp [D.i1z.symm, D.l1z.symm]
  Tf1 := by simp [D.TOi1, D.l1TO.symm]
  TIi2 := D.TIi2
  mem2 := by simp
  zf2 := by simp [D.i2z.symm, D.l2z.symm]
  Tf2 := by simp [D.TOi2, D.l2TO.symm]
  sep1_2 := by simp [D.i12, D.l2i1.symm]
  sep2_1 := by simp [D.i12.symm, D.l1i2.symm]
theorem turn_zipM {P : Program} {w : World} {K : PySem.W.Frag} {elts : List Expr} {kk : Nat} {tpos : Pos} {a b z TI TO i1 i2 : Addr} (D : ZipApart z TI TO i1 i2 a b) :
    Turn P w K (.Tuple elts kk tpos) (ItzM K a b) [z, TI, TO, i1, i2] z (ZMst z TI TO i1 i2 a b) where
  mem := List.mem_cons_self
  obj := fun i h st c hc => by
    obtain ⟨u1, u2, ⟨x, y, u3⟩, ⟨o1, e1, _, d1⟩, ⟨o2, e2, _, d2⟩⟩ := st
    simp only [List.mem_cons, List.not_mem_nil, or_false] at hc
    rcases hc with q | q | q | q | q <;> subst q
    · exact ⟨_, u1, fun v k => by cases k⟩
    · exact ⟨_, u2, fun v k => by cases k⟩
    · exact ⟨_, u3, fun v k => by cases k⟩
    · exact ⟨o1, e1, fun v k => by rw [d1] at k; cases k⟩
    · exact ⟨o2, e2, fun v k => by rw [d2] at k; cases k⟩
  keep := fun i h h' st kp => by
    obtain ⟨u1, u2, ⟨x, y, u3⟩, u4, u5⟩ := st
    have at_ : ∀ c, c ∈ [z, TI, TO, i1, i2] → ∀ o, h.get? c = some o → h'.get? c = some o := kp
    exact ⟨at_ z (by simp) _ u1, at_ TI (by simp) _ u2, ⟨x, y, at_ TO (by simp) _ u3⟩, u4.at fun o => at_ i1 (by simp) o, u5.at fun o => at_ i2 (by simp) o⟩
  item := by
    intro X e1 e2 e3 hc i pins s σ H E I hf st go
    subst e1 e2 e3
    obtain ⟨u1, u2, ⟨x0, y0, u3⟩, u4, u5⟩ := st
    obtain ⟨xs, ys, x, y, ⟨qx, hx⟩, qy, hy⟩ := go
    obtain ⟨us, rx, px, _⟩ := I.tuple qx
    obtain ⟨ws, ry, py, _⟩ := I.list qy
    obtain ⟨u, hu, ru⟩ := rx.get hx
    obtain ⟨v, hv, rv⟩ := ry.get hy
    have hd : X.A.handled = none := I.ok.hd hc
    have ui : us.toArray[i]? = some u := by rw [List.getElem?_toArray]; exact hu
    have wi : ws.toArray[i]? = some v := by rw [List.getElem?_toArray]; exact hv
    have li : i < us.toArray.size := by
      rcases Nat.lt_or_ge i us.toArray.size with q | q
      · exact q
      · rw [Array.getElem?_eq_none q] at ui
        cases ui
    have lj : i < ws.toArray.size := by
      rcases Nat.lt_or_ge i ws.toArray.size with q | q
      · exact q
      · rw [Array.getElem?_eq_none q] at wi
        cases wi
    have zlt := Heap.lt_size u1
    refine wpAny_pyNext_zipD2_item (sep_of D) (Draws.tuple (A := X.A.in1) hd i1 a D.l1i1 us.toArray) (Draws.list (A := X.A.in1) hd i2 b D.l2i2 ws.toArray) u1 u2 u3 ⟨u4, px⟩ ⟨u5, py.isList⟩ li lj fun y1 y2 h1 tk g1 g2 w1 w2 w3 w4 w5 w6 w7 => ?_
    rw [ui] at g1
    rw [wi] at g2
    cases g1
    cases g2
    refine ⟨_, rfl, wpAny_letOwnedTupleGo_zip (s := { s with heap := h1, toks := tk }) w1 fun h2 w8 sb => ?_⟩
    have w9 : h2.get? s.heap.objs.size = some { cls := .type "tuple", data := .seq #[u, v] } := (sb.2 _ (Nat.ne_of_gt zlt)).trans w5
    have old : ∀ c o, c ∉ [z, TI, TO, i1, i2] → s.heap.get? c = some o → h2.get? c = some o := fun c o nb q => by
      simp only [List.mem_cons, List.not_mem_nil, or_false, not_or] at nb
      exact (sb.2 c nb.1).trans (w7 c o nb.1 nb.2.2.1 nb.2.2.2.1 nb.2.2.2.2 q)
    have I1 : Inv X pins σ (upd H s.heap.objs.size (.tup [x, y])) { s with heap := h2, toks := tk } :=
      I.turnedNew (t' := tk) (ch := [z, TI, TO, i1, i2]) old hf (Nat.le_refl _) (show ObjOk X.prog X.w (upd H s.heap.objs.size (.tup [x, y])) h2 s.heap.objs.size (.tup [x, y]) from ⟨by show 2 ≤ sizeLine; decide, [u, v], .cons ru (.cons rv .nil), ⟨_, w9, rfl, _, rfl⟩⟩)
    refine ⟨.ref s.heap.objs.size, _, I1, rfl, ⟨_, x, y, rfl, ⟨I.hok.fresh (Nat.le_refl _), rfl⟩, fun l hl => by rw [I.tuple_inj hl qx]; exact hx, fun l hl => by rw [I.list_inj hl qy]; exact hy⟩, ⟨w8, ?_, ⟨u, v, ?_⟩, ?_, ?_⟩, fun c hcm => ?_⟩
    · exact (sb.2 _ D.TIz).trans (w7 _ _ D.TIz D.TITO D.TIi1 D.TIi2 u2)
    · exact (sb.2 _ D.TOz).trans w2
    · exact w3.1.at fun o q => (sb.2 _ D.i1z).trans q
    · exact w4.1.at fun o q => (sb.2 _ D.i2z).trans q
    · have lt : c < s.heap.objs.size := by
        simp only [List.mem_cons, List.not_mem_nil, or_false] at hcm
        rcases hcm with q | q | q | q | q <;> subst q
        · exact zlt
        · exact Heap.lt_size u2
        · exact Heap.lt_size u3
        · obtain ⟨_, k, _⟩ := u4
          exact Heap.lt_size k
        · obtain ⟨_, k, _⟩ := u5
          exact Heap.lt_size k
      rw [upd_ne (Nat.ne_of_lt lt)]
      exact (hf c hcm).1
  done := by
    intro X e1 e2 e3 hc i pins s σ H E I hf st stop
    subst e1 e2 e3
    obtain ⟨u1, u2, ⟨x0, y0, u3⟩, u4, u5⟩ := st
    obtain ⟨xs, ys, ⟨qx, qy⟩, l1, l2⟩ := stop
    obtain ⟨us, rx, px, _⟩ := I.tuple qx
    obtain ⟨ws, ry, py, _⟩ := I.list qy
    have hd : X.A.handled = none := I.ok.hd hc
    have k1 := rx.length
    have k2 := ry.length
    refine wpAny_pyNext_zipD2_end (sep_of D) (Draws.tuple (A := X.A.in1) hd i1 a D.l1i1 us.toArray) (Draws.list (A := X.A.in1) hd i2 b D.l2i2 ws.toArray) u1 u2 u3 ⟨u4, px⟩ ⟨u5, py.isList⟩ (by rw [List.size_toArray]; omega) (by rw [List.size_toArray]; omega) (.inl (by rw [List.size_toArray]; omega)) fun h1 tk kp => ⟨rfl, I.turnedL (t' := tk) (ch := [z, TI, TO, i1, i2]) (fun c o nb q => ?_) hf⟩
    simp only [List.mem_cons, List.not_mem_nil, or_false, not_or] at nb
    exact kp c o nb.1 nb.2.2.1 nb.2.2.2.1 nb.2.2.2.2 q
  self := fun A i s Q E st h => wpAny_pyIter_zip st.1 h
def iZipM (K : PySem.W.Frag) (ta : TA) : TI := fun σ H R => ta σ H fun vs H1 => ∃ a b xs ys, vs = [.ref a, .ref b] ∧ (SqT K H1 a xs ∧ SqL K H1 b ys) ∧ R (ItzM K a b) H1
theorem pi_zipM {X : Cx} {e e2 : Expr} {ta : TA} {p pos tpos : Pos} {elts : List Expr} {kk : Nat} (hg : Gl X "zip") (hm : X.mg "zip" = none) (ha : PA X [e, e2] ta)
    (h1 : starEach [e, e2] X.env = (false, eval e X.env) :: starEach [e2] X.env := by rfl) (h2 : (backTo pos (starEach [e2] X.env)).any (·.1) = false := by rfl) : PI X (.Tuple elts kk tpos) (.Call (.Name "zip" p) [e, e2] [] pos) (iZipM X.K ta) := by
  refine ⟨fun pins s σ H R I h => ?_⟩
  refine Call_ (ld_blt I hg hm boot_zip (callWith_type1 (thn (ha.run pos pins s σ H _ I h) fun us s1 ⟨vs, H1, I1, r1, q1⟩ => ?_) h1 h2))
  obtain ⟨a, b, xs, ys, ex, ⟨qx, qy⟩, q⟩ := q1
  subst ex
  obtain ⟨u1, u2, rfl, ra, rb⟩ := vals2 r1
  obtain rfl : u1 = Value.ref a := ra
  obtain rfl : u2 = Value.ref b := rb
  obtain ⟨us, _, px, _⟩ := I1.tuple qx
  obtain ⟨ws, _, py, _⟩ := I1.list qy
  have lta : a < s1.heap.objs.size := by
    obtain ⟨o, ho, _⟩ := id px
    exact Heap.lt_size ho
  refine zip_begins2 (begins_tuple a us.toArray) (begins_list b ws.toArray) px py.isList fun h' w1 w2 w3 w4 w5 w6 w7 => wpAny_pyIter_zip w1 ?_
  refine ⟨s1.heap.objs.size + 4, [s1.heap.objs.size + 4, s1.heap.objs.size + 2, s1.heap.objs.size + 3, s1.heap.objs.size, s1.heap.objs.size + 1], _, _, H1, rfl, I1.kept (t' := s1.toks) w7, turn_zipM (PySem.W.ktu_apart s1.heap.objs.size a b lta py.lt), ⟨w1, w2, ⟨_, _, w3⟩, ⟨_, w4, rfl, rfl⟩, ⟨_, w5, rfl, rfl⟩⟩, fun c hcm => ?_, q⟩
  have le : s1.heap.objs.size ≤ c := by
    simp only [List.mem_cons, List.not_mem_nil, or_false] at hcm
    rcases hcm with k | k | k | k | k <;> rw [k]
    · exact Nat.le_add_right _ _
    · exact Nat.le_add_right _ _
    · exact Nat.le_add_right _ _
    · exact Nat.le_refl _
    · exact Nat.le_add_right _ _
  exact I1.fpOk le (I1.hok.fresh le)
/-- the walk of both, as long as one another -/
theorem walk_zipM {K : PySem.W.Frag} {a b : Addr} {xs ys : List V} (hl : xs.length = ys.length) : Walk (ItzM K a b) xs.length (fun H => SqT K H a xs ∧ SqL K H b ys) (YPair (fun i => xs[i]?) (fun i => ys[i]?)) := by
  refine ⟨fun i _ hi k => ⟨xs, ys, xs[i], ys[i]'(by omega), ⟨k.1, List.getElem?_eq_getElem hi⟩, k.2, List.getElem?_eq_getElem _⟩, fun _ k => ⟨xs, ys, k, rfl, hl⟩, fun i H v H' _ k y => ?_⟩
  obtain ⟨T, x, z, g1, ⟨g2, g3⟩, g4, g5⟩ := y
  exact ⟨T, x, z, g1, g2, g3, g4 xs k.1, g5 ys k.2⟩
theorem walk_zipT {K : PySem.W.Frag} {a b : Addr} {xs ys : List V} (hl : xs.length = ys.length) : Walk (RZ.ItzT K a b) xs.length (fun H => SqT K H a xs ∧ SqT K H b ys) (YPair (fun i => xs[i]?) (fun i => ys[i]?)) := by
  refine ⟨fun i _ hi k => ⟨xs, ys, xs[i], ys[i]'(by omega), k.1, k.2, List.getElem?_eq_getElem hi, List.getElem?_eq_getElem _⟩, fun _ k => ⟨xs, ys, k.1, k.2, .inl (Nat.le_refl _)⟩, fun i H v H' _ k y => ?_⟩
  obtain ⟨T, x, z, g1, g2, g3, g4, g5⟩ := y
  exact ⟨T, x, z, g1, g2, g3, g4 xs k.1, g5 ys k.2⟩
end K14

namespace K14
open PySem PySem.Spec PyProof.Rows L2
/-- a list of two numbers -/
def Lr (H : Hp) (b : Addr) (q : Int × Int) : Prop := H b = some (.lst [.int q.1, .int q.2])
theorem Lr.pla {H : Hp} {bs : List Addr} {qs : List (Int × Int)} (h : Paired (Lr H) bs qs) : Paired (PlA H) (bs.map V.ref) qs := by
  induction h with
  | nil => exact .nil
  | cons a _ ih => exact .cons ⟨_, rfl, .inl a⟩ ih
def zipP (pss : PSS) (qs : List (Int × Int)) : PSS := List.zipWith (fun ps q => ps ++ [q]) pss qs
theorem zipP_len {pss : PSS} {qs : List (Int × Int)} (h : qs.length = pss.length) : (zipP pss qs).length = pss.length := by
  unfold zipP
  rw [List.length_zipWith, h, Nat.min_self]
theorem zipP_at {pss : PSS} {qs : List (Int × Int)} {i : Nat} {ps : List (Int × Int)} {q : Int × Int} (h1 : pss[i]? = some ps) (h2 : qs[i]? = some q) : (zipP pss qs)[i]? = some (ps ++ [q]) := by
  unfold zipP
  rw [List.getElem?_zipWith, h1, h2]
theorem zipP_eqn {k : Nat} {pss : PSS} {qs : List (Int × Int)} (h : Eqn k pss) : ∀ rs ∈ zipP pss qs, rs.length = k + 1 := fun rs hr => by
  obtain ⟨i, hi⟩ := List.mem_iff_getElem?.mp hr
  unfold zipP at hi
  rw [List.getElem?_zipWith] at hi
  cases e1 : pss[i]? with
  | none => rw [e1] at hi; cases hi
  | some ps =>
    cases e2 : qs[i]? with
    | none => rw [e1, e2] at hi; cases hi
    | some q =>
      rw [e1, e2] at hi
      rw [← Option.some.inj hi, List.length_append, h ps (List.mem_of_getElem? e1)]
      rfl
section
variable {P : Program} {w : World} {K : PySem.W.Frag} {mg : Str → Option Value} {base : Heap} {C CA CB CP CQ CF CT CN CW : Addr}
/-- places that are one for each picture -/
inductive PlJ (H : Hp) : V → List (Int × Int) → Prop
  | ll {b : Addr} {bs : List Addr} {qs : List (Int × Int)} (hb : H b = some (.lst (bs.map V.ref))) (hk : Paired (Lr H) bs qs) : PlJ H (.ref b) qs
  | lt {b : Addr} {bs : List Addr} {qs : List (Int × Int)} (hb : H b = some (.lst (bs.map V.ref))) (hk : Paired (Pr H) bs qs) : PlJ H (.ref b) qs
  | tt {b : Addr} {bs : List Addr} {qs : List (Int × Int)} (hb : H b = some (.tup (bs.map V.ref))) (hk : Paired (Pr H) bs qs) : PlJ H (.ref b) qs
/-! ### Album.with_pin -/
def spWq (K : PySem.W.Frag) (C CA CQ CF CT : Addr) : Sp := fun vs H Q E => ∃ (a : Addr) (v : V) (cs : List Addr) (pss : PSS) (k : Nat), vs = [.ref a, v] ∧ AlbF H CA C a cs pss ∧ Eqn k pss ∧ (∀ ps ∈ pss, OkP ps) ∧ pss ≠ [] ∧ pss.length ≤ 8 ∧
  ((∃ o, RowsV K H v o ∧ rowsB o = false ∧ RzV CQ "part" (.str "places") H E) ∨ (∃ qs, PlJ H v qs ∧ InB G9 qs ∧ qs.length ≤ 100 ∧ (qs.length ≠ pss.length → RzV CF "part" (.str "pictures") H E) ∧
    (qs.length = pss.length → (k = 7 → RzF CT full7 H E) ∧ (k < 7 → NewAs CA C H Q (zipP pss qs)))))
abbrev sWq : Stmt := inClass (top 50) 11
abbrev nWq : List Str := ["self", "places", "picture", "x", "y"]
theorem scWq : FnScope nWq ["self", "places"] (defScope sWq) := ⟨rfl, rfl, rfl, by decide +kernel, rfl, by decide +kernel, by decide +kernel⟩
theorem ok_wq {f : Addr} {fd : FuncData} (F : Fun K "with_pin" "Album.with_pin" sWq f fd) (B : Bn mg) (hzip : mg "zip" = none) (T : PicT K C) (TA : AlbT K CA) (mA : mg "Album" = some (.ref CA)) (IA : ∃ (fI : Addr) (fd : FuncData), Mk K CA fI ∧ FnOk P w K mg base (L2.CX P w) 4 fI fd ["self", "pictures"] (spAI K C CA CB CF CT) ∧ Binds K fd ["self", "pictures"] []) (PO : Po P w K mg base C CP CW CF CN CT)
    (M1 : ErM P w K mg base "BadPicture" "part" CQ) (M2 : ErM P w K mg base "Misfit" "part" CF) (C1 : Callee P w K mg base CX0 4 "are_rows" ["value", "size"] (spRows K)) :
    FnOk P w K mg base (L2.CX P w) 9 f fd ["self", "places"] (spWq K C CA CQ CF CT) := by
  obtain ⟨fi, fdi, Mi, Gi, bi, _⟩ := PO.wp
  obtain ⟨f1, fd1, m1, k1, b1, G1⟩ := C1
  obtain ⟨fE1, fdE1, T1, GE1, bE1⟩ := M1
  obtain ⟨fE2, fdE2, T2, GE2, bE2⟩ := M2
  have cA := TA.pc.cls
  have cl := T.pc.cls
  have nd := scWq.nd
  refine F.okX scWq (fun vs H Q E h => ?_) (fun cdv A outer s H vs Q E hr h => ?_)
  · obtain ⟨a, v, cs, pss, k, rfl, _⟩ := h
    rfl
  · obtain ⟨a, v, cs, pss, k, rfl, al, he, hok, hne, h8, h⟩ := h
    obtain ⟨dx, t, u, rs, ha, ht, pa, _⟩ := id al
    rcases h with ⟨o, ro, ho, r⟩ | ⟨qs, pj, inb, h100, hmis, hgo⟩
    · refine ⟨_, pss_cons (ps_if (pt_not (pt_val (pe_call G1 (hr.mono (by decide)) rfl m1 k1 b1 .nil pass0 (pa_cons (pv 1) (pa_cons (pe_int) pa_nil))))) (pss_one (ps_raise rfl (takes_of rfl rfl rfl rfl) (pmk_oex T1.oex T1.iC T1.tI GE1 (hr.mono (by decide)) bE1 .nil pass0 rfl T1.mgC (pa_cons (pe_str) pa_nil)))) pss_nil) pss_never, ?_⟩
      refine ⟨_, rfl, v, o, rfl, ro, fun H1 s1 => ⟨_, rfl, ?_⟩⟩
      rw [ho]
      refine iteT ⟨by show 1 ≤ 1000; decide, fun e he => ?_⟩
      exact ⟨e, _, rfl, T1.oex, T1.noF, upd_same, fun dx hdx ne => ⟨rfl, dx, _, upd_same, by rw [upd_ne ne]; exact upd_same, by rw [upd_ne ne] at hdx; exact hdx, raisedV (r.same s1) Same.me he hdx ne⟩⟩
    have all1 : rowsB (some (qs.map fun _ => true)) = true := by
      show (qs.map fun _ => true).all id = true
      rw [List.all_map]
      exact List.all_eq_true.mpr fun _ _ => rfl
    cases pj with
    | @ll b bs _ hb hk =>
      have lb : bs.length = qs.length := Paired.length hk
      refine ⟨_, (pss_cons (ps_if (pt_not (pt_val (pe_call G1 (hr.mono (by decide)) rfl m1 k1 b1 .nil pass0 (pa_cons (pv 1) (pa_cons (pe_int) pa_nil))))) (pss_one (ps_raise rfl (takes_of rfl rfl rfl rfl) (pmk_oex T1.oex T1.iC T1.tI GE1 (hr.mono (by decide)) bE1 .nil pass0 rfl T1.mgC (pa_cons (pe_str) pa_nil)))) pss_nil) (pss_cons (ps_if (pt_cmpR op_ne ((pe_callB call_len_seq (by rfl) B.len PySem.boot_len (pa_cons (pv 1) pa_nil))) ((pe_callB call_len_seq (by rfl) B.len PySem.boot_len (pa_cons (pe_fld (pv 0) rfl) pa_nil))) (nomark _)) (pss_one (ps_raise rfl (takes_of rfl rfl rfl rfl) (pmk_oex T2.oex T2.iC T2.tI GE2 (hr.mono (by decide)) bE2 .nil pass0 rfl T2.mgC (pa_cons (pe_str) pa_nil)))) pss_nil) (pss_one (ps_ret (pe_mkA (E := E) K mA IA (hr.mono (by decide)) (fun pins σ => passAt (takes_of rfl rfl rfl rfl) σ pins) rfl (pa_cons ((pe_lcR (E := E) (own := [("picture", 2), ("x", 3), ("y", 4)]) (g := gTup K 2 (gCons (gName 2) (gCons (gLst K 2 (gCons (gName 3) (gCons (gName 4) gNil))) gNil))) rfl nd rfl rfl (takes_of rfl rfl rfl rfl) (pi_zipM rfl hzip (pa_cons (pe_fld (pv 0) rfl) (pa_cons (pv 1) pa_nil))) (blkOk_by (N := nWq) (sc := defScope sWq) (by decide +kernel)) (fun _ _ _ _ _ => pg_tup rfl (pgs_cons ((pg_name (i := 2) nd rfl (Or.inl rfl))) (pgs_cons (pg_lst rfl (pgs_cons ((pg_name (i := 3) nd rfl (Or.inl rfl))) (pgs_cons ((pg_name (i := 4) nd rfl (Or.inl rfl))) pgs_nil))) pgs_nil))) (fun _ _ _ _ _ => pe_meth (E := E) (pv 2) cl Mi Gi (hr.mono (by decide)) bi .nil out_passes (pa_cons (pv 3) (pa_cons (pv 4) pa_nil))))) pa_nil)))))), ?_⟩
      refine ⟨_, rfl, .ref b, _, rfl, .seq (.inl hb) (pl_rows (Lr.pla hk) inb) (by rw [List.length_map, lb]; exact h100), fun H1 s1 => ⟨_, rfl, ?_⟩⟩
      rw [all1]
      have ha1 := s1 _ _ ha
      have ht1 := s1 _ _ ht
      have hb1 := s1 _ _ hb
      refine iteF ⟨_, rfl, b, _, rfl, .inl (SqL.of hb1), _, rfl, a, CA, dx, _, .ref t, rfl, ha1, cA, TA.n2, rfl, t, _, rfl, .inr (SqT.of ht1), rfl, _, rfl, ?_⟩
      rw [List.length_map, List.length_map, lb, pa.len]
      by_cases el : qs.length = pss.length
      · rw [decide_eq_true (show V.int ((qs.length : Nat) : Int) = V.int ((pss.length : Nat) : Int) by rw [el])]
        obtain ⟨g7, gl⟩ := hgo el
        have lz : (cs.map V.ref).length = (bs.map V.ref).length := by rw [List.length_map, List.length_map, lb, pa.len, el]
        refine iteF ⟨_, rfl, a, CA, dx, _, .ref t, rfl, ha1, cA, TA.n2, rfl, _, rfl, t, b, _, _, rfl, ⟨SqT.of ht1, SqL.of hb1⟩, fun D hD => ?_⟩
        have item : ∀ {i : Nat} {x y : V} {H' : Hp}, (cs.map V.ref)[i]? = some x → (bs.map V.ref)[i]? = some y → Same H1 H' → ∃ c ps b' q, x = .ref c ∧ y = .ref b' ∧ pss[i]? = some ps ∧ qs[i]? = some q ∧ PicF H' C c ps ∧ Lr H' b' q := fun {i x y H'} hx hy s => by
          obtain ⟨c, ps, _, rfl, eps, pf⟩ := pa.mem hx
          rw [List.getElem?_map] at hy
          cases eb : bs[i]? with
          | none => rw [eb] at hy; cases hy
          | some b' =>
            rw [eb] at hy
            obtain ⟨q, eq, r⟩ := paired_get hk eb
            exact ⟨c, ps, b', q, rfl, (Option.some.inj hy).symm, eps, eq, (pf.same s1).same s, s _ _ (s1 _ _ r)⟩
        by_cases e7 : k = 7
        · refine lc_it (walk_zipM (K := K) (a := t) (b := b) lz) (fun i H' => i = 0 ∧ Same H1 H') ⟨rfl, same_new hD⟩ (fun i H' _ p => ⟨SqT.of (p.2 _ _ ht1), SqL.of (p.2 _ _ hb1)⟩) (fun i z H' H2 hi p y => ?_) (fun H' p => ?_)
          · obtain ⟨rfl, s⟩ := p
            obtain ⟨T', x, y', rfl, nT, rfl, ex, ey⟩ := y
            have s2 : Same H1 (upd H' T' (.tup [x, y'])) := s.trans (same_new nT)
            obtain ⟨c1, ps, b', q, rfl, rfl, eps, eq, pf, hr'⟩ := item ex ey s2
            have hm := List.mem_of_getElem? eps
            have lk := he ps hm
            obtain ⟨i1, i2, i3, i4⟩ := inb q (List.mem_of_getElem? eq)
            refine ⟨T', _, rfl, SqT.of upd_same, rfl, _, _, rfl, _, _, rfl, b', _, rfl, SqL.of hr', rfl, _, _, rfl, _, _, rfl, rfl, rfl, ?_⟩
            refine ⟨rfl, yes_of ⟨_, rfl, meth_in pf (fun _ _ _ => rfl) ⟨_, rfl, _, rfl, .mk ?_⟩⟩⟩
            refine ⟨c1, _, _, false, false, ps, rfl, pf, hok ps hm, .int _, .int _, fun z => ?_, fun _ z => ?_, fun i j _ _ _ _ => ⟨fun _ => (g7 e7).same (s1.trans s2), fun l => absurd l (by omega)⟩⟩
            · rw [inB_of i1 i2] at z
              cases z
            · rw [inB_of i3 i4] at z
              cases z
          · have z := p.1
            rw [List.length_map, pa.len] at z
            exact absurd (List.length_eq_zero_iff.mp z) hne
        · have k7 : k < 7 := by
            obtain ⟨ps, hps⟩ := List.exists_mem_of_ne_nil _ hne
            have := (hok ps hps).2.1
            have := he ps hps
            omega
          have lr := zipP_len el
          refine lc_it (walk_zipM (K := K) (a := t) (b := b) lz) (fun i H' => Same H1 H' ∧ ∃ ds : List Addr, H' D = some (.lst (ds.map V.ref)) ∧ Pics H' C ds (((zipP pss qs).take i).map id)) ⟨same_new hD, [], upd_same, .nil⟩ (fun i H' _ p => ⟨SqT.of (p.1 _ _ ht1), SqL.of (p.1 _ _ hb1)⟩) (fun i z H' H2 hi p y => ?_) (fun H' p => ?_)
          · obtain ⟨s, ds, gD, hp⟩ := p
            obtain ⟨T', x, y', rfl, nT, rfl, ex, ey⟩ := y
            have sT := same_new (o := .tup [x, y']) nT
            have s2 : Same H1 (upd H' T' (.tup [x, y'])) := s.trans sT
            obtain ⟨c1, ps, b', q, rfl, rfl, eps, eq, pf, hr'⟩ := item ex ey s2
            have hm := List.mem_of_getElem? eps
            have lk := he ps hm
            obtain ⟨i1, i2, i3, i4⟩ := inb q (List.mem_of_getElem? eq)
            refine ⟨T', _, rfl, SqT.of upd_same, rfl, _, _, rfl, _, _, rfl, b', _, rfl, SqL.of hr', rfl, _, _, rfl, _, _, rfl, rfl, rfl, ?_⟩
            refine ⟨rfl, yes_of ⟨_, rfl, meth_in pf (fun _ _ _ => rfl) ⟨_, rfl, _, rfl, .mk ?_⟩⟩⟩
            refine ⟨c1, _, _, false, false, ps, rfl, pf, hok ps hm, .int _, .int _, fun z => ?_, fun _ z => ?_, fun i' j' e1 e2 _ _ => ⟨fun z => absurd (lk.symm.trans z) e7, fun _ x' H3 s3 _ pf3 => ?_⟩⟩
            · rw [inB_of i1 i2] at z
              cases z
            · rw [inB_of i3 i4] at z
              cases z
            · obtain rfl := V.int.inj e1
              obtain rfl := V.int.inj e2
              exact map_step (f := id) (pss := zipP pss qs) hD s gD hp (by rw [lr]; exact h8) (zipP_at eps eq) (sT.trans s3) pf3
          · obtain ⟨s, ds, gD, hp⟩ := p
            rw [List.length_map, pa.len, ← lr, List.take_length] at hp
            have nw := gl k7
            refine ⟨.ref D, rfl, map_mk (f := id) (k := k + 1) (s1.trans s) gD hp (zipP_eqn he) (fun z => ?_) (by rw [lr]; exact h8) ?_⟩
            · rw [z] at lr
              exact hne (List.length_eq_zero_iff.mp lr.symm)
            · rw [List.map_id]
              exact nw
      · rw [decide_eq_false (show ¬ V.int ((qs.length : Nat) : Int) = V.int ((pss.length : Nat) : Int) from fun z => el (by have := V.int.inj z; omega))]
        refine iteT ⟨by show 1 ≤ 1000; decide, fun e he => ?_⟩
        exact ⟨e, _, rfl, T2.oex, T2.noF, upd_same, fun dx hdx ne => ⟨rfl, dx, _, upd_same, by rw [upd_ne ne]; exact upd_same, by rw [upd_ne ne] at hdx; exact hdx, raisedV ((hmis el).same s1) Same.me he hdx ne⟩⟩
    | @lt b bs _ hb hk =>
      have lb : bs.length = qs.length := Paired.length hk
      refine ⟨_, (pss_cons (ps_if (pt_not (pt_val (pe_call G1 (hr.mono (by decide)) rfl m1 k1 b1 .nil pass0 (pa_cons (pv 1) (pa_cons (pe_int) pa_nil))))) (pss_one (ps_raise rfl (takes_of rfl rfl rfl rfl) (pmk_oex T1.oex T1.iC T1.tI GE1 (hr.mono (by decide)) bE1 .nil pass0 rfl T1.mgC (pa_cons (pe_str) pa_nil)))) pss_nil) (pss_cons (ps_if (pt_cmpR op_ne ((pe_callB call_len_seq (by rfl) B.len PySem.boot_len (pa_cons (pv 1) pa_nil))) ((pe_callB call_len_seq (by rfl) B.len PySem.boot_len (pa_cons (pe_fld (pv 0) rfl) pa_nil))) (nomark _)) (pss_one (ps_raise rfl (takes_of rfl rfl rfl rfl) (pmk_oex T2.oex T2.iC T2.tI GE2 (hr.mono (by decide)) bE2 .nil pass0 rfl T2.mgC (pa_cons (pe_str) pa_nil)))) pss_nil) (pss_one (ps_ret (pe_mkA (E := E) K mA IA (hr.mono (by decide)) (fun pins σ => passAt (takes_of rfl rfl rfl rfl) σ pins) rfl (pa_cons ((pe_lcR (E := E) (own := [("picture", 2), ("x", 3), ("y", 4)]) (g := gTup K 2 (gCons (gName 2) (gCons (gTup K 2 (gCons (gName 3) (gCons (gName 4) gNil))) gNil))) rfl nd rfl rfl (takes_of rfl rfl rfl rfl) (pi_zipM rfl hzip (pa_cons (pe_fld (pv 0) rfl) (pa_cons (pv 1) pa_nil))) (blkOk_by (N := nWq) (sc := defScope sWq) (by decide +kernel)) (fun _ _ _ _ _ => pg_tup rfl (pgs_cons ((pg_name (i := 2) nd rfl (Or.inl rfl))) (pgs_cons (pg_tup rfl (pgs_cons ((pg_name (i := 3) nd rfl (Or.inl rfl))) (pgs_cons ((pg_name (i := 4) nd rfl (Or.inl rfl))) pgs_nil))) pgs_nil))) (fun _ _ _ _ _ => pe_meth (E := E) (pv 2) cl Mi Gi (hr.mono (by decide)) bi .nil out_passes (pa_cons (pv 3) (pa_cons (pv 4) pa_nil))))) pa_nil)))))), ?_⟩
      refine ⟨_, rfl, .ref b, _, rfl, .seq (.inl hb) (pl_rows (pla_prs hk) inb) (by rw [List.length_map, lb]; exact h100), fun H1 s1 => ⟨_, rfl, ?_⟩⟩
      rw [all1]
      have ha1 := s1 _ _ ha
      have ht1 := s1 _ _ ht
      have hb1 := s1 _ _ hb
      refine iteF ⟨_, rfl, b, _, rfl, .inl (SqL.of hb1), _, rfl, a, CA, dx, _, .ref t, rfl, ha1, cA, TA.n2, rfl, t, _, rfl, .inr (SqT.of ht1), rfl, _, rfl, ?_⟩
      rw [List.length_map, List.length_map, lb, pa.len]
      by_cases el : qs.length = pss.length
      · rw [decide_eq_true (show V.int ((qs.length : Nat) : Int) = V.int ((pss.length : Nat) : Int) by rw [el])]
        obtain ⟨g7, gl⟩ := hgo el
        have lz : (cs.map V.ref).length = (bs.map V.ref).length := by rw [List.length_map, List.length_map, lb, pa.len, el]
        refine iteF ⟨_, rfl, a, CA, dx, _, .ref t, rfl, ha1, cA, TA.n2, rfl, _, rfl, t, b, _, _, rfl, ⟨SqT.of ht1, SqL.of hb1⟩, fun D hD => ?_⟩
        have item : ∀ {i : Nat} {x y : V} {H' : Hp}, (cs.map V.ref)[i]? = some x → (bs.map V.ref)[i]? = some y → Same H1 H' → ∃ c ps b' q, x = .ref c ∧ y = .ref b' ∧ pss[i]? = some ps ∧ qs[i]? = some q ∧ PicF H' C c ps ∧ Pr H' b' q := fun {i x y H'} hx hy s => by
          obtain ⟨c, ps, _, rfl, eps, pf⟩ := pa.mem hx
          rw [List.getElem?_map] at hy
          cases eb : bs[i]? with
          | none => rw [eb] at hy; cases hy
          | some b' =>
            rw [eb] at hy
            obtain ⟨q, eq, r⟩ := paired_get hk eb
            exact ⟨c, ps, b', q, rfl, (Option.some.inj hy).symm, eps, eq, (pf.same s1).same s, s _ _ (s1 _ _ r)⟩
        by_cases e7 : k = 7
        · refine lc_it (walk_zipM (K := K) (a := t) (b := b) lz) (fun i H' => i = 0 ∧ Same H1 H') ⟨rfl, same_new hD⟩ (fun i H' _ p => ⟨SqT.of (p.2 _ _ ht1), SqL.of (p.2 _ _ hb1)⟩) (fun i z H' H2 hi p y => ?_) (fun H' p => ?_)
          · obtain ⟨rfl, s⟩ := p
            obtain ⟨T', x, y', rfl, nT, rfl, ex, ey⟩ := y
            have s2 : Same H1 (upd H' T' (.tup [x, y'])) := s.trans (same_new nT)
            obtain ⟨c1, ps, b', q, rfl, rfl, eps, eq, pf, hr'⟩ := item ex ey s2
            have hm := List.mem_of_getElem? eps
            have lk := he ps hm
            obtain ⟨i1, i2, i3, i4⟩ := inb q (List.mem_of_getElem? eq)
            refine ⟨T', _, rfl, SqT.of upd_same, rfl, _, _, rfl, _, _, rfl, b', _, rfl, SqT.of hr', rfl, _, _, rfl, _, _, rfl, rfl, rfl, ?_⟩
            refine ⟨rfl, yes_of ⟨_, rfl, meth_in pf (fun _ _ _ => rfl) ⟨_, rfl, _, rfl, .mk ?_⟩⟩⟩
            refine ⟨c1, _, _, false, false, ps, rfl, pf, hok ps hm, .int _, .int _, fun z => ?_, fun _ z => ?_, fun i j _ _ _ _ => ⟨fun _ => (g7 e7).same (s1.trans s2), fun l => absurd l (by omega)⟩⟩
            · rw [inB_of i1 i2] at z
              cases z
            · rw [inB_of i3 i4] at z
              cases z
          · have z := p.1
            rw [List.length_map, pa.len] at z
            exact absurd (List.length_eq_zero_iff.mp z) hne
        · have k7 : k < 7 := by
            obtain ⟨ps, hps⟩ := List.exists_mem_of_ne_nil _ hne
            have := (hok ps hps).2.1
            have := he ps hps
            omega
          have lr := zipP_len el
          refine lc_it (walk_zipM (K := K) (a := t) (b := b) lz) (fun i H' => Same H1 H' ∧ ∃ ds : List Addr, H' D = some (.lst (ds.map V.ref)) ∧ Pics H' C ds (((zipP pss qs).take i).map id)) ⟨same_new hD, [], upd_same, .nil⟩ (fun i H' _ p => ⟨SqT.of (p.1 _ _ ht1), SqL.of (p.1 _ _ hb1)⟩) (fun i z H' H2 hi p y => ?_) (fun H' p => ?_)
          · obtain ⟨s, ds, gD, hp⟩ := p
            obtain ⟨T', x, y', rfl, nT, rfl, ex, ey⟩ := y
            have sT := same_new (o := .tup [x, y']) nT
            have s2 : Same H1 (upd H' T' (.tup [x, y'])) := s.trans sT
            obtain ⟨c1, ps, b', q, rfl, rfl, eps, eq, pf, hr'⟩ := item ex ey s2
            have hm := List.mem_of_getElem? eps
            have lk := he ps hm
            obtain ⟨i1, i2, i3, i4⟩ := inb q (List.mem_of_getElem? eq)
            refine ⟨T', _, rfl, SqT.of upd_same, rfl, _, _, rfl, _, _, rfl, b', _, rfl, SqT.of hr', rfl, _, _, rfl, _, _, rfl, rfl, rfl, ?_⟩
            refine ⟨rfl, yes_of ⟨_, rfl, meth_in pf (fun _ _ _ => rfl) ⟨_, rfl, _, rfl, .mk ?_⟩⟩⟩
            refine ⟨c1, _, _, false, false, ps, rfl, pf, hok ps hm, .int _, .int _, fun z => ?_, fun _ z => ?_, fun i' j' e1 e2 _ _ => ⟨fun z => absurd (lk.symm.trans z) e7, fun _ x' H3 s3 _ pf3 => ?_⟩⟩
            · rw [inB_of i1 i2] at z
              cases z
            · rw [inB_of i3 i4] at z
              cases z
            · obtain rfl := V.int.inj e1
              obtain rfl := V.int.inj e2
              exact map_step (f := id) (pss := zipP pss qs) hD s gD hp (by rw [lr]; exact h8) (zipP_at eps eq) (sT.trans s3) pf3
          · obtain ⟨s, ds, gD, hp⟩ := p
            rw [List.length_map, pa.len, ← lr, List.take_length] at hp
            have nw := gl k7
            refine ⟨.ref D, rfl, map_mk (f := id) (k := k + 1) (s1.trans s) gD hp (zipP_eqn he) (fun z => ?_) (by rw [lr]; exact h8) ?_⟩
            · rw [z] at lr
              exact hne (List.length_eq_zero_iff.mp lr.symm)
            · rw [List.map_id]
              exact nw
      · rw [decide_eq_false (show ¬ V.int ((qs.length : Nat) : Int) = V.int ((pss.length : Nat) : Int) from fun z => el (by have := V.int.inj z; omega))]
        refine iteT ⟨by show 1 ≤ 1000; decide, fun e he => ?_⟩
        exact ⟨e, _, rfl, T2.oex, T2.noF, upd_same, fun dx hdx ne => ⟨rfl, dx, _, upd_same, by rw [upd_ne ne]; exact upd_same, by rw [upd_ne ne] at hdx; exact hdx, raisedV ((hmis el).same s1) Same.me he hdx ne⟩⟩
    | @tt b bs _ hb hk =>
      have lb : bs.length = qs.length := Paired.length hk
      refine ⟨_, (pss_cons (ps_if (pt_not (pt_val (pe_call G1 (hr.mono (by decide)) rfl m1 k1 b1 .nil pass0 (pa_cons (pv 1) (pa_cons (pe_int) pa_nil))))) (pss_one (ps_raise rfl (takes_of rfl rfl rfl rfl) (pmk_oex T1.oex T1.iC T1.tI GE1 (hr.mono (by decide)) bE1 .nil pass0 rfl T1.mgC (pa_cons (pe_str) pa_nil)))) pss_nil) (pss_cons (ps_if (pt_cmpR op_ne ((pe_callB call_len_seq (by rfl) B.len PySem.boot_len (pa_cons (pv 1) pa_nil))) ((pe_callB call_len_seq (by rfl) B.len PySem.boot_len (pa_cons (pe_fld (pv 0) rfl) pa_nil))) (nomark _)) (pss_one (ps_raise rfl (takes_of rfl rfl rfl rfl) (pmk_oex T2.oex T2.iC T2.tI GE2 (hr.mono (by decide)) bE2 .nil pass0 rfl T2.mgC (pa_cons (pe_str) pa_nil)))) pss_nil) (pss_one (ps_ret (pe_mkA (E := E) K mA IA (hr.mono (by decide)) (fun pins σ => passAt (takes_of rfl rfl rfl rfl) σ pins) rfl (pa_cons ((pe_lcR (E := E) (own := [("picture", 2), ("x", 3), ("y", 4)]) (g := gTup K 2 (gCons (gName 2) (gCons (gTup K 2 (gCons (gName 3) (gCons (gName 4) gNil))) gNil))) rfl nd rfl rfl (takes_of rfl rfl rfl rfl) (RZ.pi_zipA rfl hzip (pa_cons (pe_fld (pv 0) rfl) (pa_cons (pv 1) pa_nil))) (blkOk_by (N := nWq) (sc := defScope sWq) (by decide +kernel)) (fun _ _ _ _ _ => pg_tup rfl (pgs_cons ((pg_name (i := 2) nd rfl (Or.inl rfl))) (pgs_cons (pg_tup rfl (pgs_cons ((pg_name (i := 3) nd rfl (Or.inl rfl))) (pgs_cons ((pg_name (i := 4) nd rfl (Or.inl rfl))) pgs_nil))) pgs_nil))) (fun _ _ _ _ _ => pe_meth (E := E) (pv 2) cl Mi Gi (hr.mono (by decide)) bi .nil out_passes (pa_cons (pv 3) (pa_cons (pv 4) pa_nil))))) pa_nil)))))), ?_⟩
      refine ⟨_, rfl, .ref b, _, rfl, .seq (.inr hb) (pl_rows (pla_prs hk) inb) (by rw [List.length_map, lb]; exact h100), fun H1 s1 => ⟨_, rfl, ?_⟩⟩
      rw [all1]
      have ha1 := s1 _ _ ha
      have ht1 := s1 _ _ ht
      have hb1 := s1 _ _ hb
      refine iteF ⟨_, rfl, b, _, rfl, .inr (SqT.of hb1), _, rfl, a, CA, dx, _, .ref t, rfl, ha1, cA, TA.n2, rfl, t, _, rfl, .inr (SqT.of ht1), rfl, _, rfl, ?_⟩
      rw [List.length_map, List.length_map, lb, pa.len]
      by_cases el : qs.length = pss.length
      · rw [decide_eq_true (show V.int ((qs.length : Nat) : Int) = V.int ((pss.length : Nat) : Int) by rw [el])]
        obtain ⟨g7, gl⟩ := hgo el
        have lz : (cs.map V.ref).length = (bs.map V.ref).length := by rw [List.length_map, List.length_map, lb, pa.len, el]
        refine iteF ⟨_, rfl, a, CA, dx, _, .ref t, rfl, ha1, cA, TA.n2, rfl, _, rfl, t, b, _, _, rfl, .inr ⟨SqT.of ht1, SqT.of hb1, fun D hD => ?_⟩⟩
        have item : ∀ {i : Nat} {x y : V} {H' : Hp}, (cs.map V.ref)[i]? = some x → (bs.map V.ref)[i]? = some y → Same H1 H' → ∃ c ps b' q, x = .ref c ∧ y = .ref b' ∧ pss[i]? = some ps ∧ qs[i]? = some q ∧ PicF H' C c ps ∧ Pr H' b' q := fun {i x y H'} hx hy s => by
          obtain ⟨c, ps, _, rfl, eps, pf⟩ := pa.mem hx
          rw [List.getElem?_map] at hy
          cases eb : bs[i]? with
          | none => rw [eb] at hy; cases hy
          | some b' =>
            rw [eb] at hy
            obtain ⟨q, eq, r⟩ := paired_get hk eb
            exact ⟨c, ps, b', q, rfl, (Option.some.inj hy).symm, eps, eq, (pf.same s1).same s, s _ _ (s1 _ _ r)⟩
        by_cases e7 : k = 7
        · refine lc_it (walk_zipT (K := K) (a := t) (b := b) lz) (fun i H' => i = 0 ∧ Same H1 H') ⟨rfl, same_new hD⟩ (fun i H' _ p => ⟨SqT.of (p.2 _ _ ht1), SqT.of (p.2 _ _ hb1)⟩) (fun i z H' H2 hi p y => ?_) (fun H' p => ?_)
          · obtain ⟨rfl, s⟩ := p
            obtain ⟨T', x, y', rfl, nT, rfl, ex, ey⟩ := y
            have s2 : Same H1 (upd H' T' (.tup [x, y'])) := s.trans (same_new nT)
            obtain ⟨c1, ps, b', q, rfl, rfl, eps, eq, pf, hr'⟩ := item ex ey s2
            have hm := List.mem_of_getElem? eps
            have lk := he ps hm
            obtain ⟨i1, i2, i3, i4⟩ := inb q (List.mem_of_getElem? eq)
            refine ⟨T', _, rfl, SqT.of upd_same, rfl, _, _, rfl, _, _, rfl, b', _, rfl, SqT.of hr', rfl, _, _, rfl, _, _, rfl, rfl, rfl, ?_⟩
            refine ⟨rfl, yes_of ⟨_, rfl, meth_in pf (fun _ _ _ => rfl) ⟨_, rfl, _, rfl, .mk ?_⟩⟩⟩
            refine ⟨c1, _, _, false, false, ps, rfl, pf, hok ps hm, .int _, .int _, fun z => ?_, fun _ z => ?_, fun i j _ _ _ _ => ⟨fun _ => (g7 e7).same (s1.trans s2), fun l => absurd l (by omega)⟩⟩
            · rw [inB_of i1 i2] at z
              cases z
            · rw [inB_of i3 i4] at z
              cases z
          · have z := p.1
            rw [List.length_map, pa.len] at z
            exact absurd (List.length_eq_zero_iff.mp z) hne
        · have k7 : k < 7 := by
            obtain ⟨ps, hps⟩ := List.exists_mem_of_ne_nil _ hne
            have := (hok ps hps).2.1
            have := he ps hps
            omega
          have lr := zipP_len el
          refine lc_it (walk_zipT (K := K) (a := t) (b := b) lz) (fun i H' => Same H1 H' ∧ ∃ ds : List Addr, H' D = some (.lst (ds.map V.ref)) ∧ Pics H' C ds (((zipP pss qs).take i).map id)) ⟨same_new hD, [], upd_same, .nil⟩ (fun i H' _ p => ⟨SqT.of (p.1 _ _ ht1), SqT.of (p.1 _ _ hb1)⟩) (fun i z H' H2 hi p y => ?_) (fun H' p => ?_)
          · obtain ⟨s, ds, gD, hp⟩ := p
            obtain ⟨T', x, y', rfl, nT, rfl, ex, ey⟩ := y
            have sT := same_new (o := .tup [x, y']) nT
            have s2 : Same H1 (upd H' T' (.tup [x, y'])) := s.trans sT
            obtain ⟨c1, ps, b', q, rfl, rfl, eps, eq, pf, hr'⟩ := item ex ey s2
            have hm := List.mem_of_getElem? eps
            have lk := he ps hm
            obtain ⟨i1, i2, i3, i4⟩ := inb q (List.mem_of_getElem? eq)
            refine ⟨T', _, rfl, SqT.of upd_same, rfl, _, _, rfl, _, _, rfl, b', _, rfl, SqT.of hr', rfl, _, _, rfl, _, _, rfl, rfl, rfl, ?_⟩
            refine ⟨rfl, yes_of ⟨_, rfl, meth_in pf (fun _ _ _ => rfl) ⟨_, rfl, _, rfl, .mk ?_⟩⟩⟩
            refine ⟨c1, _, _, false, false, ps, rfl, pf, hok ps hm, .int _, .int _, fun z => ?_, fun _ z => ?_, fun i' j' e1 e2 _ _ => ⟨fun z => absurd (lk.symm.trans z) e7, fun _ x' H3 s3 _ pf3 => ?_⟩⟩
            · rw [inB_of i1 i2] at z
              cases z
            · rw [inB_of i3 i4] at z
              cases z
            · obtain rfl := V.int.inj e1
              obtain rfl := V.int.inj e2
              exact map_step (f := id) (pss := zipP pss qs) hD s gD hp (by rw [lr]; exact h8) (zipP_at eps eq) (sT.trans s3) pf3
          · obtain ⟨s, ds, gD, hp⟩ := p
            rw [List.length_map, pa.len, ← lr, List.take_length] at hp
            have nw := gl k7
            refine ⟨.ref D, rfl, map_mk (f := id) (k := k + 1) (s1.trans s) gD hp (zipP_eqn he) (fun z => ?_) (by rw [lr]; exact h8) ?_⟩
            · rw [z] at lr
              exact hne (List.length_eq_zero_iff.mp lr.symm)
            · rw [List.map_id]
              exact nw
      · rw [decide_eq_false (show ¬ V.int ((qs.length : Nat) : Int) = V.int ((pss.length : Nat) : Int) from fun z => el (by have := V.int.inj z; omega))]
        refine iteT ⟨by show 1 ≤ 1000; decide, fun e he => ?_⟩
        exact ⟨e, _, rfl, T2.oex, T2.noF, upd_same, fun dx hdx ne => ⟨rfl, dx, _, upd_same, by rw [upd_ne ne]; exact upd_same, by rw [upd_ne ne] at hdx; exact hdx, raisedV ((hmis el).same s1) Same.me he hdx ne⟩⟩
end
end K14

namespace K14
open PySem PySem.Spec PyProof.Rows L2
/-! ### lists of lists of places as data -/
def enL (ps : List (Int × Int)) : PyData := .list (ps.map en)
theorem enL_lay : ∀ pss : PSS, PyData.canLayAll0 (pss.map enL) = true
  | [] => rfl
  | ps :: pss => by
    show (PyData.canLayAll0 (ps.map en) && PyData.canLayAll0 (pss.map enL)) = true
    rw [enc_lay, enL_lay pss]
    rfl
theorem enL_depth : ∀ pss : PSS, PyData.depthAll (pss.map enL) ≤ 2
  | [] => by decide
  | ps :: pss => by
    show max (PyData.depthAll (ps.map en) + 1) (PyData.depthAll (pss.map enL)) ≤ 2
    have h := enL_depth pss
    have h2 := enc_depth ps
    omega
theorem enL_shaped (pss : PSS) : SeqAt.shaped (.list (pss.map enL)) = true := by
  show (PyData.canLayAll0 (pss.map enL) && decide (PyData.depthAll (pss.map enL) + 1 ≤ 64)) = true
  rw [enL_lay, Bool.true_and, decide_eq_true_iff]
  have := enL_depth pss
  omega
theorem enL_eqv : ∀ pss qss : PSS, PyData.eqvAll (pss.map enL) (qss.map enL) = decide (pss = qss)
  | [], [] => rfl
  | [], _ :: _ => rfl
  | _ :: _, [] => rfl
  | p :: ps, q :: qs => by
    show (PyData.eqvAll (p.map en) (q.map en) && PyData.eqvAll (ps.map enL) (qs.map enL)) = _
    rw [enc_eqv, enL_eqv ps qs, Bool.eq_iff_iff, Bool.and_eq_true, decide_eq_true_iff, decide_eq_true_iff, decide_eq_true_iff, List.cons.injEq]
theorem toldsD {K : PySem.W.Frag} {H : Hp} {as : List Addr} {pss : PSS} (h : Paired (LPx H) as pss) : DpAll K H (as.map V.ref) (pss.map enL) := by
  induction h with
  | nil => exact .nil
  | cons a _ ih =>
    obtain ⟨ts, lp⟩ := a
    exact .cons lp.dp ih
theorem Told.dp {K : PySem.W.Frag} {H : Hp} {D : Addr} {as : List Addr} {pss : PSS} (h : Told H D as pss) : Dp K H (.ref D) (.list (pss.map enL)) := .lst (SqL.of h.1) (toldsD h.2)
def enR (xs : List Int) : PyData := .tuple (xs.map PyData.int)
theorem ints_lay : ∀ xs : List Int, PyData.canLayAll0 (xs.map PyData.int) = true
  | [] => rfl
  | x :: xs => by
    show (PyData.canLay0 (.int x) && PyData.canLayAll0 (xs.map PyData.int)) = true
    rw [ints_lay xs]
    rfl
theorem ints_depth : ∀ xs : List Int, PyData.depthAll (xs.map PyData.int) = 0
  | [] => rfl
  | x :: xs => by
    show max 0 (PyData.depthAll (xs.map PyData.int)) = 0
    rw [ints_depth xs]
    rfl
theorem rows_lay : ∀ rs : List (List Int), PyData.canLayAll0 (rs.map enR) = true
  | [] => rfl
  | r :: rs => by
    show (PyData.canLayAll0 (r.map PyData.int) && PyData.canLayAll0 (rs.map enR)) = true
    rw [ints_lay, rows_lay rs]
    rfl
theorem rows_depth : ∀ rs : List (List Int), PyData.depthAll (rs.map enR) ≤ 1
  | [] => by decide
  | r :: rs => by
    show max (PyData.depthAll (r.map PyData.int) + 1) (PyData.depthAll (rs.map enR)) ≤ 1
    have h := rows_depth rs
    rw [ints_depth]
    omega
theorem rows_shaped (rs : List (List Int)) : SeqAt.shaped (.list (rs.map enR)) = true := by
  show (PyData.canLayAll0 (rs.map enR) && decide (PyData.depthAll (rs.map enR) + 1 ≤ 64)) = true
  rw [rows_lay, Bool.true_and, decide_eq_true_iff]
  have := rows_depth rs
  omega
theorem rowsD {K : PySem.W.Frag} {H : Hp} {rs : List Addr} {xss : List (List Int)} (h : Paired (RowT H) rs xss) : DpAll K H (rs.map V.ref) (xss.map enR) := by
  induction h with
  | nil => exact .nil
  | @cons r xs _ _ a _ ih =>
    have a : H r = some (.tup (xs.map V.int)) := a
    exact .cons (.tup (SqT.of a) (dp_ints xs)) ih
theorem it_at2 {k : Nat} (hk : k < 2) (p : Int × Int) : atI [V.int p.1, V.int p.2] ((k : Nat) : Int) = some (.int (it k p)) := by
  match k, hk with
  | 0, _ => rfl
  | 1, _ => rfl
section
variable {P : Program} {w : World} {K : PySem.W.Frag} {mg : Str → Option Value} {base : Heap} {C CA CB CF CT : Addr}
/-! ### _law_has -/
def spHas (CA C : Addr) : Sp := fun vs H Q _ => ∃ (a D : Addr) (cs as : List Addr) (pss : PSS), vs = [.ref a, .ref D] ∧ AlbF H CA C a cs pss ∧ Told H D as pss ∧ (∀ ps ∈ pss, OkP ps) ∧ pss ≠ [] ∧ pss.length ≤ 8 ∧ ∀ H', Same H H' → Q (.bl true) H'
abbrev sHas : Stmt := top 59
abbrev nHas : List Str := ["_law_album", "_law_told", "_law_rows", "_law_places_here", "_law_side", "_law_picture", "_law_place"]
theorem scHas : FnScope nHas ["_law_album", "_law_told"] (defScope sHas) := ⟨rfl, rfl, rfl, by decide +kernel, rfl, by decide +kernel, by decide +kernel⟩
abbrev scHP : Scope := { kind := .function, names := [(".0", .local), ("_law_picture", .local)], isGenerator := false, isCoroutine := false }
theorem ok_has {f : Addr} {fd : FuncData} (F : Fun K "_law_has" "_law_has" sHas f fd) (B : Bn mg) (T : PicT K C) (TA : Ac P w K mg base C CA CB CF CT) : FnOk P w K mg base CX0 4 f fd ["_law_album", "_law_told"] (spHas CA C) := by
  obtain ⟨fL, fdL, GL, hsL, hfL, bL⟩ := TA.len
  have cA := TA.t.pc.cls
  have cP := T.pc.cls
  have nd := scHas.nd
  refine F.ok scHas (fun vs H Q E h => ?_) (fun cdv A outer s H vs Q E hr h => ?_)
  · obtain ⟨a, D, cs, as, pss, rfl, _⟩ := h
    rfl
  · obtain ⟨a, D, cs, as, pss, rfl, al, td, hok, hne, h8, q⟩ := h
    refine ⟨_, (pss_cons (ps_if (PW.pt (pw_or (pt_not (pt_val (pe_callB (r := rIsi K) call_isi (by rfl) B.isinstance boot_isinstance (pa_cons (pv 0) (pa_cons (pe_glob (v := .ref CA) rfl TA.mgC rfl) pa_nil))))) (pw_or (pt_not (pt_val (pe_callB (r := rIsi K) call_isi (by rfl) B.isinstance boot_isinstance (pa_cons (pe_fld (pv 0) rfl) (pa_cons (pe_bltn (v := .ty "tuple") (by rfl) B.tuple (by decide +kernel) rfl) pa_nil))))) (pw_or1 (pt_not (pt_val (pe_callB (r := rIsi K) call_isi (by rfl) B.isinstance boot_isinstance (pa_cons (pe_fld (pv 0) rfl) (pa_cons (pe_bltn (v := .ty "tuple") (by rfl) B.tuple (by decide +kernel) rfl) pa_nil))))))))) (pss_one (ps_ret pe_bl)) pss_nil) (pss_cons (ps_if (PW.pt (pw_or ((pt_cmpR (op_neD hr.units) ((pe_lc (own := [("_law_picture", 5)]) (g := gName 5) (tt := tYes) rfl nd (pi_tup (pe_fld (pv 0) rfl)) (blkOk_by (N := nHas) (sc := defScope sHas) (by decide +kernel)) (fun _ _ _ _ _ => (pg_name (i := 5) nd rfl (Or.inl rfl))) (fun _ _ _ _ _ => pts_nil) (fun _ _ _ _ _ => pe_lc (own := [("_law_place", 6)]) (g := gName 6) (tt := tYes) rfl nd (pi_tupK K (pe_fldK K (pv 5) rfl)) (blkOk_by (N := nHas) (sc := scHP) (by decide +kernel)) (fun _ _ _ _ _ => (pg_name (i := 6) nd rfl (Or.inl rfl))) (fun _ _ _ _ _ => pts_nil) (fun _ _ _ _ _ => (pe_callTy (T := "tuple") (r := rTu K) call_tuK (by rfl) B.tuple (by decide +kernel) (pa_cons (pv 6) pa_nil)))))) (pv 1) (nomark _))) (pw_or ((pt_cmpR op_ne (pe_callB (call_lenI GL hsL hfL bL (hr.mono (by decide))) (by rfl) B.len PySem.boot_len (pa_cons (pv 0) pa_nil)) ((pe_callB call_len_seq (by rfl) B.len PySem.boot_len (pa_cons (pv 1) pa_nil))) (nomark _))) (pw_or1 ((pt_cmpR op_ne (pe_fld (pv 0) rfl) ((pe_callB call_len_seq (by rfl) B.len PySem.boot_len (pa_cons ((pe_ix ix_list (pv 1) (pe_int) (fun _ _ => rfl))) pa_nil))) (nomark _))))))) (pss_one (ps_ret pe_bl)) pss_nil) (pss_cons ((ps_set (i := 2) nd rfl (Or.inl rfl) (pe_lst pa_nil))) (pss_cons (ps_for PassesOwn.never rfl (pi_list (pv 1)) (pg_name (i := 3) nd rfl (Or.inr rfl)) (pss_one (ps_for PassesOwn.never rfl (pi_tup (pe_tup (pa_cons (pe_int) (pa_cons (pe_int) pa_nil)))) (pg_name (i := 4) nd rfl (Or.inr rfl)) (pss_one (ps_expr (pe_bm PySem.F.plainAttrs_list PySem.F.slot_list_append PySem.F.type_list_append mt_append (pv 2) (pa_cons ((pe_callTy (T := "tuple") (r := rTu K) call_tuK (by rfl) B.tuple (by decide +kernel) (pa_cons ((pe_lc (own := [("_law_place", 6)]) (g := gName 6) (tt := tYes) rfl nd (pi_list (pe_slice sl_list (pv 3) (po_some pe_int) po_none)) (blkOk_by (N := nHas) (sc := defScope sHas) (by decide +kernel)) (fun _ _ _ _ _ => (pg_name (i := 6) nd rfl (Or.inl rfl))) (fun _ _ _ _ _ => pts_nil) (fun _ _ _ _ _ => pe_op op_sub (pe_ix (r := rIxT K) ix_tupK (pv 6) (pv 4) (fun _ _ => rfl)) (pe_ix (r := rIxT K) ix_tupK ((pe_ix (r := rIxL K) ix_listK (pv 3) (pe_int) (fun _ _ => rfl))) (pv 4) (fun _ _ => rfl))))) pa_nil))) pa_nil))))))) (pss_one (ps_ret (pe_cmpR (op_eqD hr.units) ((pe_callTy (T := "list") (r := rLi K) call_liK (by rfl) B.list (by decide +kernel) (pa_cons (pe_fld (pv 0) rfl) pa_nil))) (pv 2) (nomark _)))))))), ?_⟩
    obtain ⟨dx, t, u, rs, ha, ht, pa, hu, hr0⟩ := id al
    have tyT : ∀ {H' : Hp} {b : Addr} {xs : List V}, H' b = some (.tup xs) → TyX K H' (.ref b) (.type "tuple") := fun e => .base (.tup e)
    have kitT : PySem.W.kitOne K (.type "tuple") (.type "tuple") = some true := kit_ty (by decide +kernel : kitB _ _ = some true)
    refine ⟨_, rfl, _, _, _, _, true, rfl, .own _, al.ty TA.t, kit_self, _, rfl, iteF ?_⟩
    refine ⟨_, rfl, a, CA, dx, _, .ref t, rfl, ha, cA, TA.t.n2, rfl, _, _, _, _, true, rfl, .ty _, tyT ht, kitT, _, rfl, iteF ?_⟩
    refine ⟨_, rfl, a, CA, dx, _, .ref u, rfl, ha, cA, TA.t.n3, rfl, _, _, _, _, true, rfl, .ty _, tyT hu, kitT, _, rfl, iteF ?_⟩
    refine ⟨_, rfl, a, CA, dx, _, .ref t, rfl, ha, cA, TA.t.n2, rfl, t, rfl, ⟨_, SqT.of ht⟩, fun R hR => ?_⟩
    refine lc_tup (K := K) (a := t) (xs := cs.map V.ref) (fun i H' => Same H H' ∧ ∃ bs : List Addr, H' R = some (.lst (bs.map V.ref)) ∧ Paired (LPx H') bs (pss.take i) ∧ R ∉ bs) ⟨same_new hR, [], upd_same, .nil, List.not_mem_nil⟩ (fun i H' _ p => SqT.of (p.1 _ _ ht)) (fun i x H' hx p => ?_) (fun H1 p => ?_)
    · obtain ⟨s1, bs, gR, lps, nm⟩ := p
      obtain ⟨c, ps, _, rfl, eps, pf⟩ := pa.mem hx
      obtain ⟨dc, tc, uc, hc, ⟨ts, htc, pr⟩, _⟩ := pf.same s1
      have l7 := (hok ps (List.mem_of_getElem? eps)).2.1
      have lt : ts.length = ps.length := Paired.length pr
      refine ⟨rfl, yes_of ?_⟩
      refine ⟨_, rfl, c, C, dc, _, .ref tc, rfl, hc, cP, T.n1, rfl, tc, rfl, ⟨_, SqT.of htc⟩, fun R2 hR2 => ?_⟩
      have nR : R2 ≠ R := (ne_of_none gR hR2).symm
      refine lc_tup (K := K) (a := tc) (xs := ts.map V.ref) (fun j => At H' R2 ((ts.take j).map V.ref)) ⟨same_new hR2, upd_same⟩ (fun j H2 _ p => SqT.of (p.1 _ _ htc)) (fun j y H2 hy p => ?_) (fun H2 p => ?_)
      · rw [List.getElem?_map] at hy
        cases eg : ts[j]? with
        | none => rw [eg] at hy; cases hy
        | some g =>
          rw [eg] at hy
          obtain rfl := (Option.some.inj hy).symm
          obtain ⟨q', _, hg⟩ := paired_get pr eg
          have hg : H' g = some (.tup [.int q'.1, .int q'.2]) := hg
          refine ⟨rfl, yes_of ?_⟩
          refine ⟨_, rfl, g, _, rfl, .inr ⟨SqT.of (p.1 _ _ hg), _, p.2, ?_, p.step hR2 Same.me ?_⟩⟩
          · rw [List.length_map]
            exact small1000 (Nat.le_trans (List.length_take_le' _ _) (by omega))
          · rw [take_more eg, List.map_append]
            rfl
      · rw [List.length_map, List.take_length] at p
        have g2 := p.1 _ _ gR
        refine ⟨_, g2, ?_, fun b o e => ?_, bs ++ [R2], by rw [upd_same, List.map_append]; rfl, ?_, fun hm => ?_⟩
        · rw [List.length_map, Paired.length lps]
          exact small1000 (Nat.le_trans (List.length_take_le' _ _) (by omega))
        · rw [upd_ne (ne_of_none e hR)]
          exact p.1 _ _ (s1 _ _ e)
        · rw [take_more eps]
          exact paired_snoc (lpx_upd nm g2 (paired_mono lps fun _ _ z => z.same p.1)) ⟨ts, by rw [upd_ne nR]; exact p.2, prs_upd g2 (paired_mono pr fun _ _ z => p.1 _ _ z)⟩
        · rcases List.mem_append.mp hm with z | z
          · exact nm z
          · exact nR (List.mem_singleton.mp z).symm
    · obtain ⟨s1, bs, gR, lps, _⟩ := p
      rw [List.length_map, pa.len, List.take_length] at lps
      have td1 := td.same s1
      have al1 := al.same s1
      have tdR : Told H1 R bs pss := ⟨gR, lps⟩
      refine ⟨_, rfl, _, _, tdR.dp, td1.dp, enL_shaped pss, enL_shaped pss, _, rfl, ?_⟩
      have e1 : PyData.eqv (.list (pss.map enL)) (.list (pss.map enL)) = true := (enL_eqv pss pss).trans (decide_eq_true rfl)
      rw [e1]
      refine iteF ?_
      obtain ⟨p0, pz, rfl⟩ : ∃ p0 pz, pss = p0 :: pz := by
        cases pss with
        | nil => exact absurd rfl hne
        | cons a b => exact ⟨a, b, rfl⟩
      refine ⟨_, rfl, a, dx, _, rfl, s1 _ _ ha, a, cs, _, rfl, al1, (p0 :: pz).length, rfl, by omega, _, rfl, D, _, rfl, .inl (SqL.of td1.1), rfl, _, rfl, ?_⟩
      rw [List.length_map, td.len, decide_eq_true rfl]
      refine iteF ?_
      obtain ⟨a0, ea0, ts0, lp0⟩ := td1.at (i := 0) (ps := p0) rfl
      refine ⟨_, rfl, a, CA, dx, _, .int (p0.length : Nat), rfl, s1 _ _ ha, cA, TA.t.n1, rfl, _, rfl, D, _, 0, .ref a0, rfl, rfl, SqL.of td1.1, atI_nat (j := 0) ea0, a0, _, rfl, .inl (SqL.of lp0.1), rfl, _, rfl, ?_⟩
      rw [List.length_map, lp0.len, decide_eq_true rfl]
      refine iteF ⟨Nat.zero_le _, fun R2 hR2 => ?_⟩
      have s2 := s1.trans (same_new (o := .lst []) hR2)
      have hR20 := s1.free hR2
      have g2 : upd H1 R2 (.lst []) R2 = some (.lst []) := upd_same
      generalize upd H1 R2 (.lst []) = H2 at s2 g2 ⊢
      refine ⟨_, rfl, D, rfl, ⟨_, SqL.of (s2 _ _ td.1)⟩, ?_⟩
      refine for_list (K := K) (a := D) (xs := as.map V.ref) (fun i σ H' => Same H H' ∧ (∃ rs : List Addr, H' R2 = some (.lst (rs.map V.ref)) ∧ Paired (RowT H') rs (rowsOf ((p0 :: pz).take i))) ∧ ∃ c3 c4, σ = [some (.ref a), some (.ref D), some (.ref R2), c3, c4, none, none]) ⟨s2, ⟨[], g2, .nil⟩, _, _, rfl⟩ (fun i σ H' _ p => SqL.of (p.1 _ _ td.1)) (fun i x σ H' hx p => ?_) (fun σ H3 p => ?_)
      · obtain ⟨s3, ⟨rs, gR2, rt⟩, c3, c4, rfl⟩ := p
        obtain ⟨ai, ps, _, rfl, eps, ts, lp⟩ := td.mem hx
        have okps := hok ps (List.mem_of_getElem? eps)
        have lt : ts.length = ps.length := lp.len
        obtain ⟨q0, qz, rfl⟩ : ∃ q0 qz, ps = q0 :: qz := by
          cases ps with
          | nil => exact absurd okps.1 (by decide)
          | cons a b => exact ⟨a, b, rfl⟩
        obtain ⟨t0, e0, h0⟩ := paired_of lp.2 (i := 0) (y := q0) rfl
        have h0 : H t0 = some (.tup [.int q0.1, .int q0.2]) := h0
        refine ⟨by show 2 ≤ sizeLine; decide, fun tt ntt => ?_⟩
        have sT := same_new (o := .tup [V.int 0, V.int 1]) ntt
        have gT : upd H' tt (.tup [V.int 0, V.int 1]) tt = some (.tup [V.int 0, V.int 1]) := upd_same
        have gR3 := sT _ _ gR2
        have rt3 : Paired (RowT (upd H' tt (.tup [V.int 0, V.int 1]))) rs (rowsOf ((p0 :: pz).take i)) := paired_mono rt fun _ _ z => sT _ _ z
        have s4 := s3.trans sT
        generalize upd H' tt (.tup [V.int 0, V.int 1]) = H4 at gT gR3 rt3 s4 ⊢
        refine ⟨tt, rfl, ⟨_, SqT.of gT⟩, ?_⟩
        refine for_tup (K := K) (a := tt) (xs := [V.int 0, V.int 1]) (fun j σ H' => Same H H' ∧ H' tt = some (.tup [V.int 0, V.int 1]) ∧ (∃ rs : List Addr, H' R2 = some (.lst (rs.map V.ref)) ∧ Paired (RowT H') rs (rowsOf ((p0 :: pz).take i) ++ [sk 0 (q0 :: qz), sk 1 (q0 :: qz)].take j)) ∧ ∃ c4, σ = [some (.ref a), some (.ref D), some (.ref R2), some (.ref ai), c4, none, none]) ⟨s4, gT, ⟨rs, gR3, by rw [List.take_zero, List.append_nil]; exact rt3⟩, _, rfl⟩ (fun j σ H' _ p => SqT.of p.2.1) (fun j x σ H' hj p => ?_) (fun σ H' p => ?_)
        · obtain ⟨s5, gT5, ⟨rs, gR5, rt5⟩, c4, rfl⟩ := p
          obtain ⟨hj2, rfl⟩ : j < 2 ∧ x = .int (j : Nat) := by
            match j, hj with
            | 0, hj => exact ⟨by decide, (Option.some.inj hj).symm⟩
            | 1, hj => exact ⟨by decide, (Option.some.inj hj).symm⟩
          have lp5 := lp.same s5
          refine ⟨_, rfl, .inl ⟨rfl, _, SqL.of gR5⟩, ?_⟩
          refine ⟨_, rfl, 1, rfl, ai, _, rfl, SqL.of lp5.1, fun p1 hp1 => ?_⟩
          rw [cut1 (by rw [List.length_map, lt]; show 1 ≤ qz.length + 1; omega)]
          have s6' := same_new (o := .lst ((ts.map V.ref).drop 1)) hp1
          have g6 : upd H' p1 (.lst ((ts.map V.ref).drop 1)) p1 = some (.lst ((ts.map V.ref).drop 1)) := upd_same
          generalize upd H' p1 (.lst ((ts.map V.ref).drop 1)) = H6 at s6' g6 ⊢
          have s6 := s5.trans s6'
          refine ⟨p1, rfl, ⟨_, SqL.of g6⟩, fun D2 hD2 => ?_⟩
          refine lc_list (K := K) (a := p1) (xs := (ts.map V.ref).drop 1) (fun i => At H6 D2 (((sk j (q0 :: qz)).take i).map V.int)) ⟨same_new hD2, upd_same⟩ (fun i H' _ p => SqL.of (p.1 _ _ g6)) (fun m x H7 hx p => ?_) (fun H7 p => ?_)
          · rw [List.getElem?_drop, List.getElem?_map] at hx
            cases etz : ts[1 + m]? with
            | none => rw [etz] at hx; cases hx
            | some tz =>
              rw [etz] at hx
              obtain rfl := (Option.some.inj hx).symm
              obtain ⟨z, ez, hz⟩ := paired_get lp.2 etz
              have hz : H tz = some (.tup [.int z.1, .int z.2]) := hz
              have ez : qz[m]? = some z := by
                rw [Nat.add_comm] at ez
                exact ez
              have s7 := s6.trans p.1
              refine ⟨rfl, yes_of ?_⟩
              refine ⟨_, rfl, _, rfl, tz, _, _, _, rfl, rfl, SqT.of (s7 _ _ hz), it_at2 hj2 z, _, rfl, ai, _, 0, .ref t0, rfl, rfl, SqL.of (s7 _ _ lp.1), atI_nat (j := 0) (by rw [List.getElem?_map, e0]; rfl), _, rfl, t0, _, _, _, rfl, rfl, SqT.of (s7 _ _ h0), it_at2 hj2 q0, _, _, rfl, rfl, _, p.2, ?_, p.step hD2 Same.me ?_⟩
              · rw [List.length_map]
                refine small1000 (Nat.le_trans (List.length_take_le' _ _) ?_)
                rw [sk_len]
                have := okps.2.1
                omega
              · have es : (sk j (q0 :: qz))[m]? = some (it j z - it j q0) := by
                  show (List.map _ qz)[m]? = _
                  rw [List.getElem?_map, ez]
                  rfl
                rw [take_more es, List.map_append]
                rfl
          · have el : ((ts.map V.ref).drop 1).length = (sk j (q0 :: qz)).length := by
              rw [List.length_drop, List.length_map, sk_len, lt]
            rw [el, List.take_length] at p
            refine ⟨D2, _, rfl, .inl ⟨SqL.of p.2, fun r nr => ?_⟩⟩
            have s8 := same_new (o := .tup ((sk j (q0 :: qz)).map V.int)) nr
            have g8 : upd H7 r (.tup ((sk j (q0 :: qz)).map V.int)) r = some (.tup ((sk j (q0 :: qz)).map V.int)) := upd_same
            generalize upd H7 r (.tup ((sk j (q0 :: qz)).map V.int)) = H8 at s8 g8 ⊢
            have s68 := s6'.trans (p.1.trans s8)
            have gR8 := s68 _ _ gR5
            have lrs : rs.length ≤ 200 := by
              rw [Paired.length rt5, List.length_append, rowsOf_len]
              have := List.length_take_le' i (p0 :: pz)
              have := List.length_take_le' j [sk 0 (q0 :: qz), sk 1 (q0 :: qz)]
              have z : [sk 0 (q0 :: qz), sk 1 (q0 :: qz)].length = 2 := rfl
              omega
            have ej : [sk 0 (q0 :: qz), sk 1 (q0 :: qz)][j]? = some (sk j (q0 :: qz)) := by
              match j, hj2 with
              | 0, _ => rfl
              | 1, _ => rfl
            refine ⟨R2, _, _, rfl, rfl, gR8, by rw [List.length_map]; exact small1000 (by omega), fun b o e => ?_, ?_, ⟨rs ++ [r], by rw [upd_same, List.map_append]; rfl, ?_⟩, _, rfl⟩
            · rw [upd_ne (ne_of_none e hR20)]
              exact s68 _ _ (s5 _ _ e)
            · rw [upd_ne (L2.ne_of gT5 gR5 (by intro z; cases z))]
              exact s68 _ _ gT5
            · rw [take_more ej, ← List.append_assoc]
              exact paired_snoc (paired_mono rt5 fun _ _ z => RowT.updl (s68 _ _ z) gR8) (RowT.updl g8 gR8)
        · obtain ⟨s5, _, ⟨rs, gR5, rt5⟩, c4, rfl⟩ := p
          refine ⟨s5, ⟨rs, gR5, ?_⟩, _, _, rfl⟩
          rw [rowsOf_take eps]
          exact rt5
      · obtain ⟨s3, ⟨rs', gR2, rt⟩, c3, c4, rfl⟩ := p
        rw [List.length_map, td.len, List.take_length] at rt
        refine ⟨_, rfl, a, CA, dx, _, .ref u, rfl, s3 _ _ ha, cA, TA.t.n3, rfl, u, _, rfl, .inr (SqT.of (s3 _ _ hu)), fun l nl => ?_⟩
        have sl := same_new (o := .lst (rs.map V.ref)) nl
        have gl : upd H3 l (.lst (rs.map V.ref)) l = some (.lst (rs.map V.ref)) := upd_same
        generalize upd H3 l (.lst (rs.map V.ref)) = H4 at sl gl ⊢
        have dl : Dp K H4 (.ref l) (.list ((rowsOf (p0 :: pz)).map enR)) := .lst (SqL.of gl) (rowsD (paired_mono hr0 fun _ _ z => sl _ _ (s3 _ _ z)))
        have dr : Dp K H4 (.ref R2) (.list ((rowsOf (p0 :: pz)).map enR)) := .lst (SqL.of (sl _ _ gR2)) (rowsD (paired_mono rt fun _ _ z => sl _ _ z))
        refine ⟨_, rfl, _, _, dl, dr, rows_shaped _, rows_shaped _, ?_⟩
        have e2 : PyData.eqv (.list ((rowsOf (p0 :: pz)).map enR)) (.list ((rowsOf (p0 :: pz)).map enR)) = true := SeqAt.eqv_refl _ (rows_lay _)
        rw [e2]
        exact q _ (s3.trans sl)
end
end K14

namespace K14
open PySem PySem.Spec PyProof.Rows L2
/-! ### str(x) by an own __str__, whatever it promises -/
def rStrI (C : Addr) (sp : Sp) : List V → Hp → VK → Prop := fun xs H Q => ∃ (a dx : Addr) (fs : List (Str × V)), xs = [.ref a] ∧ H a = some (.ins C dx fs) ∧ sp [.ref a] H (fun r H' => ∃ z : Str, r = .str z ∧ Q (.str z) H') (fun _ _ _ => False)
section
variable {X : Cx} {C fS : Addr} {fd : FuncData} {sp : Sp} {k : Nat}
theorem call_strI (G : FnOk X.prog X.w X.K X.mg X.base CX0 k fS fd ["self"] sp) (hs : PySem.W.findIn X.K (.ref C) "__str__" = some (some (.ref fS))) (hf : PySem.W.isFn X.K (.ref fS) = true) (hb : Binds X.K fd ["self"] []) (hr : Room (k + 2) X.A) : CallR X (.type "str") (rStrI C sp) := by
  intro pins s σ H xs us Q I r h
  obtain ⟨a, dx, fs, rfl, ha, h⟩ := h
  obtain ⟨u, rfl, ru⟩ := vals1 r
  obtain rfl : u = Value.ref a := ru
  obtain ⟨ob, od, J⟩ := ins_inst I ha
  have hu : X.A.in1.in1.units < cLine := by
    have := hr.un
    show X.A.units + 1 + 1 < cLine
    omega
  refine PySem.W.kso_call hu I.kIn J hs hf (wpAny_mono (run_at (A := X.A.in1.in1) (vs := [.ref a]) (us := [.ref a]) G hr.in1.in1 rfl hb I (.cons rfl .nil) h) (fun r s' hq => ?_) fun _ _ z => z)
  obtain ⟨v, H', I', rv, z, ev, q'⟩ := hq
  subst ev
  obtain ⟨t, rfl⟩ := rv
  exact ⟨.str z, H', I', ⟨t, rfl⟩, q'⟩
end
theorem pe_revLK {X : Cx} {e : Expr} {te : TE} {k : Nat} {p1 p2 p3 pos : Pos} (K : PySem.W.Frag) (he : PE X e te) (h : X.K = K := by rfl) : PE X (.Subscript e (.Slice none none (some (.UnaryOp .USub (.Constant (.int 1) k p1) p2)) p3) pos) (tRevL K te) := by
  subst h
  exact pe_revL he
theorem paired_rev {α β : Type} {R : α → β → Prop} {xs : List α} {ys : List β} (h : Paired R xs ys) : Paired R xs.reverse ys.reverse := by
  induction h with
  | nil => exact .nil
  | cons a _ ih =>
    rw [List.reverse_cons, List.reverse_cons]
    exact paired_snoc ih a
theorem cut_m1 {xs : List V} : cutV xs none (some (-1)) = xs.take (xs.length - 1) := by
  unfold cutV
  have e : HT.sIx xs.length xs.length (some (-1)) = xs.length - 1 := by
    unfold HT.sIx
    simp
    omega
  rw [e]
  rfl
theorem cut_t1 {xs : List V} (h : 1 ≤ xs.length) : cutV xs none (some 1) = xs.take 1 := cut_to (k := 1) h
/-- told anew: a list of these -/
theorem Told.mk' {H H' : Hp} {R : Addr} {as : List Addr} {pss : PSS} (s : Same H H') (g : H' R = some (.lst (as.map V.ref))) (h : Paired (LPx H) as pss) : Told H' R as pss := ⟨g, paired_mono h fun _ _ z => z.same s⟩
theorem Tok.sub {k : Nat} {pss qss : PSS} (h : Tok k pss) (s : ∀ q ∈ qss, q ∈ pss) : Tok k qss := fun q hq => h q (s q hq)
theorem Tok.eqn {k : Nat} {pss : PSS} (h : Tok k pss) : Eqn k pss := fun ps hp => (h ps hp).1
theorem Tok.ok {k : Nat} {pss : PSS} (h : Tok k pss) : ∀ ps ∈ pss, OkP ps := fun ps hp => (h ps hp).2
/-- an album, and no more than it holds, in a list that grows -/
theorem AlbF.updl {H : Hp} {CA C a l : Addr} {o : HO} {xs : List V} {cs : List Addr} {pss : PSS} (h : AlbF H CA C a cs pss) (hl : H l = some (.lst xs)) : AlbF (upd H l o) CA C a cs pss := by
  obtain ⟨dx, t, u, rs, e, et, p, eu, r⟩ := h
  have nt : ∀ {b : Addr} {ys : List V}, H b = some (.tup ys) → upd H l o b = some (.tup ys) := fun e => by
    rw [upd_ne (L2.ne_of e hl (by intro z; cases z))]
    exact e
  exact ⟨dx, t, u, rs, by rw [upd_ne (L2.ne_of e hl (by intro z; cases z))]; exact e, nt et, p.updl hl, nt eu, paired_mono r fun _ _ z => nt z⟩
theorem AlbF.sb {H H' : Hp} {CA C a p : Addr} {n : Nat} {cs : List Addr} {pss : PSS} (h : AlbF H CA C a cs pss) (v : Lens H p n) (s : SB p H H') : AlbF H' CA C a cs pss := by
  obtain ⟨c, x, y, e0⟩ := v.at
  obtain ⟨dx, t, u, rs, e, et, pp, eu, r⟩ := h
  exact ⟨dx, t, u, rs, s.1 _ _ (L2.ne_of e e0 (by intro z; cases z)) e, s.1 _ _ (v.not_tup et) et, pp.sb v s, s.1 _ _ (v.not_tup eu) eu, paired_mono r fun _ _ z => s.1 _ _ (v.not_tup z) z⟩
/-- what is not refused -/
theorem mkA_of {K : PySem.W.Frag} {C CA CB CF CT b : Addr} {cs : List Addr} {pss : PSS} {k : Nat} {H : Hp} {Q : VK} {E : XK} (hs : Sq H b (cs.map V.ref)) (hp : Pics H C cs pss) (he : Eqn k pss) (hne : pss ≠ []) (h8 : pss.length ≤ 8) (n : NewA CA C H Q cs pss) : MkA K C CA CB CF CT (.ref b) H Q E := by
  have ee := he.alike
  refine .inr ⟨b, cs, pss, rfl, hs, hp, fun z => ?_, by omega, fun z => ?_, fun _ z => absurd z (by omega), fun _ _ => n⟩
  · have := hp.len
    rw [z] at this
    exact hne (List.length_eq_zero_iff.mp this.symm)
  · rw [ee] at z
    cases z
/-- == and != of albums, by their places -/
theorem eqA_in {K : PySem.W.Frag} {CA C : Addr} {H : Hp} {Q : VK} {a b : Addr} {cs ds : List Addr} {pss qss : PSS} (T : AlbT K CA) (h : AlbF H CA C a cs pss) (g : AlbF H CA C b ds qss) (q : Q (.bl (decide (pss = qss))) H) : rEqI K CA (spEqA K CA C) (.ref a) (.ref b) H Q := by
  obtain ⟨dx, t, u, rs, e, _⟩ := id h
  exact ⟨a, dx, _, _, rfl, e, g.ty T, by simp [PySem.W.notFirst], a, .ref b, cs, pss, _, rfl, h, .inr ⟨b, ds, qss, rfl, g, rfl⟩, _, rfl, q⟩
theorem neA_in {K : PySem.W.Frag} {CA C : Addr} {H : Hp} {Q : VK} {a b : Addr} {cs ds : List Addr} {pss qss : PSS} (T : AlbT K CA) (h : AlbF H CA C a cs pss) (g : AlbF H CA C b ds qss) (q : Q (.bl (!decide (pss = qss))) H) : rNeI K CA (spEqA K CA C) (.ref a) (.ref b) H Q := by
  obtain ⟨dx, t, u, rs, e, _⟩ := id h
  exact ⟨a, dx, _, _, rfl, e, g.ty T, by simp [PySem.W.notFirst], a, .ref b, cs, pss, _, rfl, h, .inr ⟨b, ds, qss, rfl, g, rfl⟩, _, rfl, q⟩
/-- a value that is no album -/
def NoA (K : PySem.W.Frag) (CA : Addr) (H : Hp) (y : V) : Prop := ∃ u, PySem.W.kitOne K u (.ref CA) = some false ∧ PySem.W.notFirst K CA u = true ∧ TyX K H y u
theorem eqA_no {K : PySem.W.Frag} {CA C : Addr} {H : Hp} {Q : VK} {a : Addr} {y : V} {cs : List Addr} {pss : PSS} (h : AlbF H CA C a cs pss) (n : NoA K CA H y) (q : Q (.bl false) H) : rEqI K CA (spEqA K CA C) (.ref a) y H Q := by
  obtain ⟨dx, t, u, rs, e, _⟩ := id h
  obtain ⟨v, n1, n2, n3⟩ := n
  exact ⟨a, dx, _, _, rfl, e, n3, n2, a, y, cs, pss, false, rfl, h, .inl ⟨rfl, v, n1, n2, n3⟩, _, rfl, q⟩
theorem neA_no {K : PySem.W.Frag} {CA C : Addr} {H : Hp} {Q : VK} {a : Addr} {y : V} {cs : List Addr} {pss : PSS} (h : AlbF H CA C a cs pss) (n : NoA K CA H y) (q : Q (.bl true) H) : rNeI K CA (spEqA K CA C) (.ref a) y H Q := by
  obtain ⟨dx, t, u, rs, e, _⟩ := id h
  obtain ⟨v, n1, n2, n3⟩ := n
  exact ⟨a, dx, _, _, rfl, e, n3, n2, a, y, cs, pss, false, rfl, h, .inl ⟨rfl, v, n1, n2, n3⟩, _, rfl, q⟩
end K14

namespace K14
open PySem PySem.Spec PyProof.Rows L2
theorem tIf_key {tA : TT} {ta tb : TE} {σ : L2.St} {H : Hp} {Q : VK} (G : V → Hp → Prop) (h : ∀ Q : VK, (∀ v H', G v H' → Q v H') → tIf tA ta tb σ H Q) (k : ∀ v H', G v H' → Q v H') : tIf tA ta tb σ H Q := h Q k
section
variable {P : Program} {w : World} {K : PySem.W.Frag} {mg : Str → Option Value} {base : Heap} {C CA CB CC CF CT : Addr}
/-- told lists of as many pins, one to eight -/
def Oth (k : Nat) (H : Hp) (v : V) : Prop := ∃ R as qss, v = .ref R ∧ Told H R as qss ∧ Tok k qss ∧ qss ≠ [] ∧ qss.length ≤ 8
theorem Oth.same {k : Nat} {H H' : Hp} {v : V} (h : Oth k H v) (s : Same H H') : Oth k H' v := let ⟨R, as, qss, e, td, t⟩ := h; ⟨R, as, qss, e, td.same s, t⟩
/-! ### _law_made_right -/
def spMR : Sp := fun vs H Q _ => ∃ (x : V) (D : Addr) (as : List Addr) (pss : PSS) (k : Nat), vs = [x, .ref D] ∧ Told H D as pss ∧ Tok k pss ∧ pss ≠ [] ∧ pss.length ≤ 8 ∧ ∀ H', Same H H' → Q (.bl true) H'
abbrev sMR : Stmt := top 61
abbrev nMR : List Str := ["_law_lens_here", "_law_told", "_law_passed", "_law_album", "_law_others", "_law_other", "_law_places_here"]
theorem scMR : FnScope nMR ["_law_lens_here", "_law_told"] (defScope sMR) := ⟨rfl, rfl, rfl, by decide +kernel, rfl, by decide +kernel, by decide +kernel⟩
theorem ok_mr {f : Addr} {fd : FuncData} (F : Fun K "_law_made_right" "_law_made_right" sMR f fd) (B : Bn mg) (T : Pc P w K mg base C CC) (TA : Ac P w K mg base C CA CB CF CT) (C1 : Callee P w K mg base CX0 8 "_law_made" ["_law_told"] (spMade C)) (C2 : Callee P w K mg base CX0 4 "_law_has" ["_law_album", "_law_told"] (spHas CA C)) : FnOk P w K mg base CX0 9 f fd ["_law_lens_here", "_law_told"] spMR := by
  obtain ⟨f1, fd1, m1, k1, b1, G1⟩ := C1
  obtain ⟨f2, fd2, m2, k2, b2, G2⟩ := C2
  obtain ⟨fQ, fdQ, GQ, hsQ, hfQ, bQ⟩ := TA.eq
  obtain ⟨fS, fdS, GS, hsS, hfS, bS⟩ := TA.st
  have IA : ∃ (fI : Addr) (fd : FuncData), Mk K CA fI ∧ FnOk P w K mg base (L2.CX P w) 4 fI fd ["self", "pictures"] (spAI K C CA CB CF CT) ∧ Binds K fd ["self", "pictures"] [] := let ⟨a, b, c, d, e, _⟩ := TA.ini; ⟨a, b, c, d, e⟩
  have cA := TA.t.pc.cls
  have nd := scMR.nd
  refine F.ok scMR (fun vs H Q E h => ?_) (fun cdv A outer s H vs Q E hr h => ?_)
  · obtain ⟨x, D, as, pss, k, rfl, _⟩ := h
    rfl
  · obtain ⟨x, D, as, pss, k, rfl, td, tk, hne, h8, q⟩ := h
    refine ⟨_, (pss_cons ((ps_set (i := 2) nd rfl (Or.inl rfl) ((pe_call G1 (hr.mono (by decide)) rfl m1 k1 b1 .nil pass0 (pa_cons (pv 1) pa_nil))))) (pss_cons ((ps_set (i := 3) nd rfl (Or.inr rfl) ((pe_mkA (E := E0) K TA.mgC IA (hr.mono (by decide)) passL rfl (pa_cons (pv 2) pa_nil))))) (pss_cons (ps_expr (pe_bm PySem.F.plainAttrs_list PySem.F.slot_list_append PySem.F.type_list_append mt_append (pv 2) (pa_cons ((pe_ix ix_list (pv 2) (pe_int) (fun _ _ => rfl))) pa_nil))) (pss_cons (ps_if (PW.pt (pw_or (pt_not (pt_val (pe_call G2 (hr.mono (by decide)) rfl m2 k2 b2 .nil pass0 (pa_cons (pv 3) (pa_cons (pv 1) pa_nil))))) (pw_or1 (pt_cmpR (op_neI GQ hsQ hfQ bQ TA.n.ne TA.t.pc.hm (hr.mono (by decide))) (pv 3) (pe_mkAK (E := E0) K TA (hr.mono (by decide)) passL rfl (pk_cons (pe_callTy (T := "tuple") (r := rTu K) call_tuK (by rfl) B.tuple (by decide +kernel) (pa_cons ((pe_call G1 (hr.mono (by decide)) rfl m1 k1 b1 .nil pass0 (pa_cons (pv 1) pa_nil))) pa_nil)) pk_nil)) (nomark _))))) (pss_one (ps_ret pe_bl)) pss_nil) (pss_cons ((ps_set (i := 4) nd rfl (Or.inl rfl) (pe_lst (pa_cons (pe_op op_cat (pe_slice sl_list (pv 1) (po_some pe_int) po_none) (pe_slice sl_list (pv 1) po_none (po_some pe_int))) (pa_cons (pe_revL (pv 1)) (pa_cons (pe_ifExp (pt_cmpR op_gt (pe_callB call_len_seq (by rfl) B.len PySem.boot_len (pa_cons (pv 1) pa_nil)) pe_int (nomark _)) (pe_slice sl_list (pv 1) po_none (po_some (pe_un un_neg pe_int))) (pe_op op_cat (pv 1) (pv 1))) (pa_cons ((pe_lc (own := [("_law_places_here", 6)]) (g := gName 6) (tt := tYes) rfl nd (pi_list (pv 1)) (blkOk_by (N := nMR) (sc := defScope sMR) (by decide +kernel)) (fun _ _ _ _ _ => (pg_name (i := 6) nd rfl (Or.inl rfl))) (fun _ _ _ _ _ => pts_nil) (fun _ _ _ _ _ => pe_revLK K (pv 6)))) pa_nil))))))) (pss_cons (ps_for PassesOwn.never rfl (pi_list (pv 4)) (pg_name (i := 5) nd rfl (Or.inl rfl)) (pss_one (ps_if (PW.pt (pw_or ((pt_cmpR op_ne (pe_cmpR (op_eqI GQ hsQ hfQ bQ (hr.mono (by decide))) (pv 3) (pe_mkA (E := E0) K TA.mgC IA (hr.mono (by decide)) passL rfl (pa_cons ((pe_call G1 (hr.mono (by decide)) rfl m1 k1 b1 .nil pass0 (pa_cons (pv 5) pa_nil))) pa_nil)) (nomark _)) ((pe_cmpR (op_eqD hr.units) (pv 5) (pv 1) (nomark _))) (nomark _))) (pw_or1 ((pt_cmpR op_ne (pe_cmpR (op_neI GQ hsQ hfQ bQ TA.n.ne TA.t.pc.hm (hr.mono (by decide))) (pv 3) (pe_mkA (E := E0) K TA.mgC IA (hr.mono (by decide)) passL rfl (pa_cons ((pe_call G1 (hr.mono (by decide)) rfl m1 k1 b1 .nil pass0 (pa_cons (pv 5) pa_nil))) pa_nil)) (nomark _)) (pe_cmpR (op_neD hr.units) (pv 5) (pv 1) (nomark _)) (nomark _)))))) (pss_one (ps_ret pe_bl)) pss_nil))) (pss_one (ps_ret (pe_cmpR (op_eqD hr.units) (pe_lc (own := [("_law_other", 5)]) (g := gName 5) rfl nd (pi_tup (pe_tup (pa_cons (pe_non) (pa_cons (pv 1) (pa_cons (pe_fld (pv 3) rfl) (pa_cons (pe_callTy (T := "str") (call_strI GS hsS hfS bS (hr.mono (by decide))) (by rfl) B.str (by decide +kernel) (pa_cons (pv 3) pa_nil)) (pa_cons ((pe_ix ix_tup (pe_fld (pv 3) rfl) (pe_int) (fun _ _ => rfl))) pa_nil))))))) (blkOk_by (N := nMR) (sc := defScope sMR) (by decide +kernel)) (fun _ _ _ _ _ => (pg_name (i := 5) nd rfl (Or.inl rfl)))
          (fun _ _ _ _ _ => pts_one (PW.pt (pw_or (pt_cmpR (r := rEqI K CA (spEqA K CA C)) (op_eqI GQ hsQ hfQ bQ (hr.mono (by decide))) (pv 3) (pv 5) (nomark _)) (pw_or1 (pt_not (pt_cmpR (r := rNeI K CA (spEqA K CA C)) (op_neI GQ hsQ hfQ bQ TA.n.ne TA.t.pc.hm (hr.mono (by decide))) (pv 3) (pv 5) (nomark _))))))) (fun _ _ _ _ _ => pv 5)) (pe_lst pa_nil) (nomark _)))))))))), ?_⟩
    obtain ⟨p0, pz, rfl⟩ : ∃ p0 pz, pss = p0 :: pz := by
      cases pss with
      | nil => exact absurd rfl hne
      | cons a b => exact ⟨a, b, rfl⟩
    refine ⟨_, rfl, D, as, _, rfl, td, tk.ok, Nat.le_trans h8 (by decide), fun H1 R cs s1 nR pl => ?_⟩
    refine ⟨_, rfl, .ref R, rfl, mkA_of (.inl pl.1) pl.2 tk.eqn hne h8 fun A2 H2 s2 nA al => ?_⟩
    have g2 := s2 _ _ pl.1
    have s12 := s1.trans s2
    obtain ⟨c0, cz, rfl⟩ : ∃ c0 cz, cs = c0 :: cz := by
      cases cs with
      | nil => exact absurd pl.2.len (by intro z; cases z)
      | cons a b => exact ⟨a, b, rfl⟩
    refine ⟨_, rfl, .inl ⟨rfl, _, SqL.of g2⟩, _, rfl, R, _, 0, .ref c0, rfl, rfl, SqL.of g2, atI_nat (j := 0) rfl, R, _, _, rfl, rfl, g2, ?_, ?_⟩
    · rw [List.length_map, pl.2.len]
      exact small1000 (by omega)
    have s3 : Same H (upd H2 R (.lst ((c0 :: cz).map V.ref ++ [V.ref c0]))) := fun b o e => by
      rw [upd_ne (ne_of_none e nR)]
      exact s12 _ _ e
    have al3 := al.updl (o := .lst ((c0 :: cz).map V.ref ++ [V.ref c0])) g2
    generalize upd H2 R (.lst ((c0 :: cz).map V.ref ++ [V.ref c0])) = H3 at s3 al3 ⊢
    refine ⟨_, rfl, _, rfl, A2, D, _, as, _, rfl, al3, td.same s3, tk.ok, hne, h8, fun H4 s4 => ⟨_, rfl, iteF ?_⟩⟩
    have s04 := s3.trans s4
    refine ⟨_, rfl, _, rfl, D, as, _, rfl, td.same s04, tk.ok, Nat.le_trans h8 (by decide), fun H5 R2 cs2 s5 nR2 pl2 => ⟨R2, _, rfl, .inl ⟨SqL.of pl2.1, fun t2 nt2 => ?_⟩⟩⟩
    have st := same_new (o := .tup (cs2.map V.ref)) nt2
    have gt : upd H5 t2 (.tup (cs2.map V.ref)) t2 = some (.tup (cs2.map V.ref)) := upd_same
    have pc2 := pl2.2.same st
    have s05 := (s04.trans s5).trans st
    have al5 := ((al3.same s4).same s5).same st
    generalize upd H5 t2 (.tup (cs2.map V.ref)) = H6 at gt pc2 s05 al5 ⊢
    refine ⟨.ref t2, rfl, mkA_of (.inr gt) pc2 tk.eqn hne h8 fun A3 H7 s7 nA3 al7 => ?_⟩
    have al4 := al5.same s7
    have s07 := s05.trans s7
    refine neA_in TA.t al4 al7 ⟨_, rfl, ?_⟩
    rw [show (!decide ((p0 :: pz) = (p0 :: pz))) = false by simp]
    refine iteF ?_
    have td7 := td.same s07
    have la := td.len
    have ll : (as.map V.ref).length = (p0 :: pz).length := by rw [List.length_map, la]
    have l1 : 1 ≤ (as.map V.ref).length := by rw [ll]; show 1 ≤ pz.length + 1; omega
    -- told[1:] + told[:1]
    refine ⟨_, rfl, 1, rfl, D, _, rfl, SqL.of td7.1, fun c1 n1 => ?_⟩
    rw [cut1 l1]
    have u1 := same_new (o := .lst ((as.map V.ref).drop 1)) n1
    have v1 : upd H7 c1 (.lst ((as.map V.ref).drop 1)) c1 = some (.lst ((as.map V.ref).drop 1)) := upd_same
    generalize upd H7 c1 (.lst ((as.map V.ref).drop 1)) = H8 at u1 v1 ⊢
    refine ⟨_, rfl, 1, rfl, D, _, rfl, SqL.of (u1 _ _ td7.1), fun c2 n2 => ?_⟩
    rw [cut_t1 l1]
    have u2 := same_new (o := .lst ((as.map V.ref).take 1)) n2
    have v2 : upd H8 c2 (.lst ((as.map V.ref).take 1)) c2 = some (.lst ((as.map V.ref).take 1)) := upd_same
    generalize upd H8 c2 (.lst ((as.map V.ref).take 1)) = H9 at u2 v2 ⊢
    refine ⟨c1, c2, _, _, rfl, rfl, u2 _ _ v1, v2, ?_, fun p1 np1 => ?_⟩
    · rw [List.length_drop, List.length_take, ll]
      exact Nat.le_of_lt (small1000 (by omega))
    have u3 := same_new (o := .lst ((as.map V.ref).drop 1 ++ (as.map V.ref).take 1)) np1
    have v3 : upd H9 p1 (.lst ((as.map V.ref).drop 1 ++ (as.map V.ref).take 1)) p1 = some (.lst ((as.drop 1 ++ as.take 1).map V.ref)) := by
      rw [upd_same, List.map_append, List.map_drop, List.map_take]
    generalize upd H9 p1 (.lst ((as.map V.ref).drop 1 ++ (as.map V.ref).take 1)) = H10 at u3 v3 ⊢
    have s010 := s07.trans (u1.trans (u2.trans u3))
    have o1 : Oth k H10 (.ref p1) := ⟨p1, _, (p0 :: pz).drop 1 ++ (p0 :: pz).take 1, rfl, Told.mk' s010 v3 (paired_app (paired_take td.2 1).2 (paired_take td.2 1).1), tk.sub (fun q hq => (List.mem_append.mp hq).elim List.mem_of_mem_drop List.mem_of_mem_take), by simp, by simp at h8 ⊢; omega⟩
    -- told[::-1]
    refine ⟨_, rfl, D, _, rfl, SqL.of (s010 _ _ td.1), fun p2 np2 => ?_⟩
    have u4 := same_new (o := .lst (as.map V.ref).reverse) np2
    have v4 : upd H10 p2 (.lst (as.map V.ref).reverse) p2 = some (.lst (as.reverse.map V.ref)) := by
      rw [upd_same, List.map_reverse]
    generalize upd H10 p2 (.lst (as.map V.ref).reverse) = H11 at u4 v4 ⊢
    have s011 := s010.trans u4
    have o2 : Oth k H11 (.ref p2) := ⟨p2, _, (p0 :: pz).reverse, rfl, Told.mk' s011 v4 (paired_rev td.2), tk.sub (fun q hq => List.mem_reverse.mp hq), by simp, by rw [List.length_reverse]; exact h8⟩
    -- told[:-1], or twice
    refine tIf_key (fun v H' => Same H11 H' ∧ Oth k H' v) (fun Q hQ => ?_) (fun x3 H12 hG => ?_)
    · refine ⟨_, rfl, D, _, rfl, .inl (SqL.of (s011 _ _ td.1)), _, _, rfl, rfl, _, rfl, ?_⟩
      rw [ll]
      by_cases hl : 1 < (p0 :: pz).length
      · rw [decide_eq_true (show (1 : Int) < (((p0 :: pz).length : Nat) : Int) by omega)]
        refine iteT ⟨_, rfl, _, rfl, -1, rfl, D, _, rfl, SqL.of (s011 _ _ td.1), fun p3 np3 => ?_⟩
        rw [cut_m1]
        have u5 := same_new (o := .lst ((as.map V.ref).take ((as.map V.ref).length - 1))) np3
        have v5 : upd H11 p3 (.lst ((as.map V.ref).take ((as.map V.ref).length - 1))) p3 = some (.lst ((as.take ((p0 :: pz).length - 1)).map V.ref)) := by
          rw [upd_same, ll, List.map_take]
        refine hQ _ _ ⟨u5, p3, _, (p0 :: pz).take ((p0 :: pz).length - 1), rfl, Told.mk' (s011.trans u5) v5 (paired_take td.2 _).1, tk.sub (fun q hq => List.mem_of_mem_take hq), fun z => ?_, Nat.le_trans (List.length_take_le' _ _) h8⟩
        have := congrArg List.length z
        rw [List.length_take] at this
        have z0 : ([] : PSS).length = 0 := rfl
        omega
      · rw [decide_eq_false (show ¬ (1 : Int) < (((p0 :: pz).length : Nat) : Int) by omega)]
        refine iteF ⟨_, rfl, _, rfl, D, D, _, _, rfl, rfl, s011 _ _ td.1, s011 _ _ td.1, by rw [ll]; exact Nat.le_of_lt (small1000 (by omega)), fun p3 np3 => ?_⟩
        have u5 := same_new (o := .lst (as.map V.ref ++ as.map V.ref)) np3
        have v5 : upd H11 p3 (.lst (as.map V.ref ++ as.map V.ref)) p3 = some (.lst ((as ++ as).map V.ref)) := by
          rw [upd_same, List.map_append]
        exact hQ _ _ ⟨u5, p3, _, (p0 :: pz) ++ (p0 :: pz), rfl, Told.mk' (s011.trans u5) v5 (paired_app td.2 td.2), tk.sub (fun q hq => (List.mem_append.mp hq).elim id id), by simp, by rw [List.length_append]; omega⟩
    obtain ⟨u5, o3⟩ := hG
    have s012 := s011.trans u5
    -- each turned about
    refine ⟨_, rfl, D, rfl, ⟨_, SqL.of (s012 _ _ td.1)⟩, fun p4 np4 => ?_⟩
    refine lc_list (K := K) (a := D) (xs := as.map V.ref) (fun i H' => Same H12 H' ∧ ∃ bs : List Addr, H' p4 = some (.lst (bs.map V.ref)) ∧ Paired (LPx H') bs (((p0 :: pz).take i).map List.reverse) ∧ p4 ∉ bs) ⟨same_new np4, [], upd_same, .nil, List.not_mem_nil⟩ (fun i H' _ p => SqL.of (p.1 _ _ (s012 _ _ td.1))) (fun i y H' hx p => ?_) (fun H13 p => ?_)
    · obtain ⟨w1, bs, gp, lps, nm⟩ := p
      obtain ⟨ai, ps, _, rfl, eps, ts, lp⟩ := td.mem hx
      have lp1 := lp.same (s012.trans w1)
      refine ⟨rfl, yes_of ?_⟩
      refine ⟨_, rfl, ai, _, rfl, SqL.of lp1.1, fun g ng => ?_⟩
      have w2 := same_new (o := .lst (ts.map V.ref).reverse) ng
      have ngp : g ≠ p4 := (ne_of_none gp ng).symm
      have gg : upd H' g (.lst (ts.map V.ref).reverse) g = some (.lst (ts.reverse.map V.ref)) := by
        rw [upd_same, List.map_reverse]
      have pr : Paired (Pr (upd H' g (.lst (ts.map V.ref).reverse))) ts.reverse ps.reverse := paired_rev (paired_mono lp1.2 fun _ _ z => w2 _ _ z)
      have gp2 := w2 _ _ gp
      have lps2 : Paired (LPx (upd H' g (.lst (ts.map V.ref).reverse))) bs (((p0 :: pz).take i).map List.reverse) := paired_mono lps fun _ _ z => z.same w2
      generalize upd H' g (.lst (ts.map V.ref).reverse) = H14 at w2 gg pr gp2 lps2 ⊢
      refine ⟨_, gp2, ?_, fun b o e => ?_, bs ++ [g], by rw [upd_same, List.map_append]; rfl, ?_, fun hm => ?_⟩
      · rw [List.length_map, Paired.length lps, List.length_map]
        exact small1000 (Nat.le_trans (List.length_take_le' _ _) (by omega))
      · rw [upd_ne (ne_of_none e np4)]
        exact w2 _ _ (w1 _ _ e)
      · rw [take_more eps, List.map_append]
        exact paired_snoc (lpx_upd nm gp2 lps2) ⟨_, by rw [upd_ne ngp]; exact gg, prs_upd gp2 pr⟩
      · rcases List.mem_append.mp hm with z | z
        · exact nm z
        · exact ngp (List.mem_singleton.mp z).symm
    obtain ⟨w1, bs, gp, lps, _⟩ := p
    rw [List.length_map, la, List.take_length] at lps
    have s013 := s012.trans w1
    have o4 : Oth k H13 (.ref p4) := ⟨p4, bs, _, rfl, ⟨gp, lps⟩, (fun qs hq => by
      obtain ⟨ps, hps, rfl⟩ := List.mem_map.mp hq
      obtain ⟨e1, e2, e3, e4⟩ := tk ps hps
      exact ⟨by rw [List.length_reverse]; exact e1, by rw [List.length_reverse]; exact e2, by rw [List.length_reverse]; exact e3, fun z hz => e4 z (List.mem_reverse.mp hz)⟩), by simp, by rw [List.length_map]; exact h8⟩
    refine ⟨by show 4 ≤ sizeLine; decide, fun l nl => ?_⟩
    have w2 := same_new (o := .lst [V.ref p1, V.ref p2, x3, V.ref p4]) nl
    have gl : upd H13 l (.lst [V.ref p1, V.ref p2, x3, V.ref p4]) l = some (.lst [V.ref p1, V.ref p2, x3, V.ref p4]) := upd_same
    generalize upd H13 l (.lst [V.ref p1, V.ref p2, x3, V.ref p4]) = H14 at w2 gl ⊢
    have s014 := s013.trans w2
    have al14 := al4.same (((u1.trans (u2.trans u3)).trans u4).trans (u5.trans (w1.trans w2)))
    have oth : ∀ v ∈ [V.ref p1, V.ref p2, x3, V.ref p4], Oth k H14 v := fun v hv => by
      simp only [List.mem_cons, List.not_mem_nil, or_false] at hv
      rcases hv with rfl | rfl | rfl | rfl
      · exact (((o1.same u4).same u5).same w1).same w2
      · exact ((o2.same u5).same w1).same w2
      · exact (o3.same w1).same w2
      · exact o4.same w2
    refine ⟨_, rfl, l, rfl, ⟨_, SqL.of gl⟩, ?_⟩
    refine for_list (K := K) (a := l) (xs := [V.ref p1, V.ref p2, x3, V.ref p4]) (fun i σ H' => Same H14 H' ∧ ∃ c5, σ = [some x, some (.ref D), some (.ref R), some (.ref A2), some (.ref l), c5, none]) ⟨Same.me, _, rfl⟩ (fun i σ H' _ p => SqL.of (p.1 _ _ gl)) (fun i y σ H' hy p => ?_) (fun σ H15 p => ?_)
    · obtain ⟨w3, c5, rfl⟩ := p
      obtain ⟨R3, bs3, qss, rfl, tdq, tkq, hq1, hq8⟩ := (oth y (List.mem_of_getElem? hy)).same w3
      refine ⟨_, rfl, _, rfl, R3, bs3, _, rfl, tdq, tkq.ok, Nat.le_trans hq8 (by decide), fun Ha R4 cs4 sa nR4 pl4 => ?_⟩
      refine ⟨.ref R4, rfl, mkA_of (.inl pl4.1) pl4.2 tkq.eqn hq1 hq8 fun A4 Hb sb nA4 alq => ?_⟩
      have sab := sa.trans sb
      have albh := (al14.same w3).same sab
      refine eqA_in TA.t albh alq ?_
      have tdb := td.same (s014.trans (w3.trans sab))
      refine ⟨_, rfl, _, rfl, _, _, (tdq.same sab).dp, tdb.dp, enL_shaped _, enL_shaped _, ?_⟩
      have e1 : PyData.eqv (.list (qss.map enL)) (.list ((p0 :: pz).map enL)) = decide ((p0 :: pz) = qss) := by
        refine (enL_eqv qss (p0 :: pz)).trans ?_
        rw [Bool.eq_iff_iff, decide_eq_true_iff, decide_eq_true_iff]
        exact eq_comm
      rw [e1]
      refine ⟨rfl, _, rfl, ?_⟩
      generalize decide ((p0 :: pz) = qss) = d1
      rw [show (!decide (V.bl d1 = V.bl d1)) = false by simp]
      refine iteF ⟨_, rfl, _, rfl, R3, bs3, _, rfl, tdq.same sab, tkq.ok, Nat.le_trans hq8 (by decide), fun Hc R5 cs5 sc nR5 pl5 => ?_⟩
      refine ⟨.ref R5, rfl, mkA_of (.inl pl5.1) pl5.2 tkq.eqn hq1 hq8 fun A5 Hd sd nA5 alq5 => ?_⟩
      have scd := sc.trans sd
      refine neA_in TA.t (albh.same scd) alq5 ?_
      refine ⟨_, rfl, _, rfl, _, _, (tdq.same (sab.trans scd)).dp, (tdb.same scd).dp, enL_shaped _, enL_shaped _, ?_⟩
      rw [e1]
      refine ⟨rfl, _, rfl, ?_⟩
      generalize decide ((p0 :: pz) = qss) = d2
      rw [show (!decide (V.bl (!d2) = V.bl (!d2))) = false by simp]
      exact iteF ⟨w3.trans (sab.trans scd), _, rfl⟩
    · obtain ⟨w3, c5, rfl⟩ := p
      have al15 := al14.same w3
      have s015 := s014.trans w3
      obtain ⟨dx, t, u, rs, ha, ht, pa, _⟩ := id al15
      refine ⟨_, rfl, _, rfl, A2, CA, dx, _, .ref t, rfl, ha, cA, TA.t.n2, rfl, _, rfl, A2, dx, _, rfl, ha, A2, _, _, rfl, al15, tk.ok, h8, fun z H16 s16 => ⟨z, rfl, ?_⟩⟩
      refine ⟨_, rfl, A2, CA, dx, _, .ref t, rfl, s16 _ _ ha, cA, TA.t.n2, rfl, t, _, 0, .ref c0, rfl, rfl, SqT.of (s16 _ _ ht), atI_nat (j := 0) rfl, ?_⟩
      refine ⟨by show 5 ≤ sizeLine; decide, fun t5 nt5 => ?_⟩
      have s17 := same_new (o := .tup [V.non, V.ref D, V.ref t, V.str z, V.ref c0]) nt5
      have g5 : upd H16 t5 (.tup [V.non, V.ref D, V.ref t, V.str z, V.ref c0]) t5 = some (.tup [V.non, V.ref D, V.ref t, V.str z, V.ref c0]) := upd_same
      generalize upd H16 t5 (.tup [V.non, V.ref D, V.ref t, V.str z, V.ref c0]) = H17 at s17 g5 ⊢
      have s157 := s16.trans s17
      have al17 := al15.same s157
      have pc0 : PicF H17 C c0 p0 := by
        cases pa with
        | cons a _ => exact a.same s157
      have np : ∀ {y : V} {ty : String}, (∀ H', Same H17 H' → Np H' y ty) → ∀ H', Same H17 H' → NoA K CA H' y := fun {y ty} n H' s' => ⟨_, (TA.n.of (n H' s')).1, (TA.n.of (n H' s')).2, (n H' s').ty⟩
      have no : ∀ y ∈ [V.non, V.ref D, V.ref t, V.str z, V.ref c0], ∀ H', Same H17 H' → NoA K CA H' y := fun y hy => by
        simp only [List.mem_cons, List.not_mem_nil, or_false] at hy
        rcases hy with rfl | rfl | rfl | rfl | rfl
        · exact np fun H' _ => .non
        · exact np fun H' s' => .lst (s' _ _ (s157 _ _ (s015 _ _ td.1)))
        · exact np fun H' s' => .tup (s' _ _ (s157 _ _ ht))
        · exact np fun H' _ => .str z
        · exact fun H' s' => ⟨_, TA.np.1, TA.np.2, (pc0.same s').ty T.t⟩
      refine ⟨t5, rfl, ⟨_, SqT.of g5⟩, fun Dn hDn => ?_⟩
      refine lc_tup (K := K) (a := t5) (xs := [V.non, V.ref D, V.ref t, V.str z, V.ref c0]) (fun i => At H17 Dn []) ⟨same_new hDn, upd_same⟩ (fun i H' _ p => SqT.of (p.1 _ _ g5)) (fun i y H' hy p => ?_) (fun H18 p => ?_)
      · have ny := no y (List.mem_of_getElem? hy) H' p.1
        refine ⟨rfl, ?_⟩
        refine ⟨_, rfl, _, rfl, eqA_no (al17.same p.1) ny ⟨_, rfl, iteF ?_⟩⟩
        exact ⟨_, rfl, _, rfl, neA_no (al17.same p.1) ny ⟨_, rfl, p⟩⟩
      · refine ⟨Nat.zero_le _, fun e ne => ?_⟩
        have s19 := same_new (o := .lst []) ne
        refine ⟨.list [], .list [], .lst (SqL.of (s19 _ _ p.2)) .nil, .lst (SqL.of upd_same) .nil, by decide, by decide, ?_⟩
        exact q _ (s015.trans (s157.trans (p.1.trans s19)))
end
end K14

namespace K14
open PySem PySem.Spec PyProof.Rows L2
/-- a method of one argument, as its callers see it -/
def Me (P : Program) (w : World) (K : PySem.W.Frag) (mg : Str → Option Value) (base : Heap) (CA : Addr) (k : Nat) (m : String) (x : Str) (sp : Sp) : Prop :=
  ∃ (f : Addr) (fd : FuncData), Meth K CA m f ∧ FnOk P w K mg base (L2.CX P w) k f fd ["self", x] (Bx sp) ∧ Binds K fd ["self", x] [] ∧ KBn K fd ["self", x] 1 [x] (fun us ws => us ++ ws) (fun vs zs => vs ++ zs)
/-- the methods of albums -/
structure Ao (P : Program) (w : World) (K : PySem.W.Frag) (mg : Str → Option Value) (base : Heap) (C CA CB CE CP CQ CW CF CT : Addr) : Prop where
  wi : Me P w K mg base CA 6 "with_picture" "picture" (spWi K C CA CE CF CT)
  jo : Me P w K mg base CA 6 "joined" "other" (spJo K C CA CB CF CT)
  pk : Me P w K mg base CA 6 "picked" "numbers" (spPk K C CA CB CQ CW)
  wt : Me P w K mg base CA 6 "without" "numbers" (spWt K C CA CB CQ CW)
  ia : Me P w K mg base CA 9 "in_order" "pins" (spIA K C CA CP CW CF)
  wo : Me P w K mg base CA 9 "without_pin" "pin" (spWpA K C CA CP CF)
  wq : Me P w K mg base CA 9 "with_pin" "places" (spWq K C CA CE CF CT)
theorem meth_inA {H : Hp} {CA C a : Addr} {m : Str} {cs : List Addr} {pss : PSS} {R : Prop} (al : AlbF H CA C a cs pss) (hm : ∀ n t u : V, List.lookup m [("pins", n), ("pictures", t), ("rows", u)] = none) (r : R) : ∃ a' dx fs, V.ref a = .ref a' ∧ H a' = some (.ins CA dx fs) ∧ fs.lookup m = none ∧ R := by
  obtain ⟨dx, t, u, rs, ha, _⟩ := al
  exact ⟨a, dx, _, rfl, ha, hm _ _ _, r⟩
section
variable {K : PySem.W.Frag} {C CA CB CE CP CQ CW CF CT : Addr} {H : Hp} {Q : VK} {E : XK} {a b c : Addr} {cs ds : List Addr} {pss qss : PSS} {ps : List (Int × Int)} {ns : List Nat} {k : Nat}
theorem ares_of (he : Eqn k pss) (h8 : pss.length ≤ 8) (n : NewA CA C H Q cs pss) : ARes C CA CF CT cs pss H Q E := ⟨(fun z => by
  rw [he.alike] at z
  cases z), fun _ l => absurd l (by omega), fun _ _ => n⟩
theorem AlbF.ne (al : AlbF H CA C a cs pss) (h : pss ≠ []) : cs ≠ [] := by
  obtain ⟨dx, t, u, rs, ha, _, pa, _⟩ := al
  rintro rfl
  exact h (List.length_eq_zero_iff.mp pa.len.symm)
theorem AlbF.pics (al : AlbF H CA C a cs pss) : Pics H C cs pss := let ⟨_, _, _, _, _, _, pa, _⟩ := al; pa
theorem Eqn.app (h : Eqn k pss) (g : Eqn k qss) : Eqn k (pss ++ qss) := fun ps hp => (List.mem_append.mp hp).elim (h ps) (g ps)
theorem jo_in (al : AlbF H CA C a cs pss) (bl : AlbF H CA C b ds qss) (he : Eqn k pss) (ge : Eqn k qss) (hn : pss ≠ []) (gn : qss ≠ []) (h8 : pss.length + qss.length ≤ 8) (n : NewA CA C H Q (cs ++ ds) (pss ++ qss)) : Bx (spJo K C CA CB CF CT) [.ref a, .ref b] H Q E :=
  .mk ⟨a, .ref b, cs, pss, rfl, al, al.ne hn, by omega, .inr ⟨b, ds, qss, rfl, bl, bl.ne gn, by omega, ares_of (he.app ge) (by rw [List.length_append]; exact h8) n⟩⟩
theorem wi_in (al : AlbF H CA C a cs pss) (pf : PicF H C c ps) (he : Eqn k pss) (hk : ps.length = k) (hn : pss ≠ []) (h8 : pss.length < 8) (n : NewA CA C H Q (cs ++ [c]) (pss ++ [ps])) : Bx (spWi K C CA CE CF CT) [.ref a, .ref c] H Q E :=
  .mk ⟨a, .ref c, cs, pss, rfl, al, al.ne hn, by omega, .inr ⟨c, ps, rfl, pf, ares_of (he.app fun q hq => by rw [List.mem_singleton.mp hq]; exact hk) (by rw [List.length_append]; show pss.length + 1 ≤ 8; omega) n⟩⟩
theorem pk_in (al : AlbF H CA C a cs pss) (he : Eqn k pss) (h8 : pss.length ≤ 8) (pl : PinL H c ns pss.length) (nd : ns.Nodup) (hn : ns ≠ []) (l8 : ns.length ≤ 8) (n : NewA CA C H Q (pickA cs ns) (pickS pss ns)) : Bx (spPk K C CA CB CQ CW) [.ref a, .ref c] H Q E :=
  .mk ⟨a, .ref c, cs, pss, k, rfl, al, he, h8, .inr ⟨c, ns, rfl, pl, fun _ => ⟨fun z => absurd z hn, fun _ => ⟨l8, n⟩⟩, fun j t => (nd_no nd t).elim⟩⟩
theorem wt_in (al : AlbF H CA C a cs pss) (he : Eqn k pss) (h8 : pss.length ≤ 8) (pl : PinL H c ns pss.length) (nd : ns.Nodup) (hn : restN pss.length ns ≠ []) (n : NewA CA C H Q (pickA cs (restN pss.length ns)) (pickS pss (restN pss.length ns))) : Bx (spWt K C CA CB CQ CW) [.ref a, .ref c] H Q E :=
  .mk ⟨a, .ref c, cs, pss, k, rfl, al, he, h8, .inr ⟨c, ns, rfl, pl, fun _ => ⟨fun z => absurd z hn, fun _ => n⟩, fun j t => (nd_no nd t).elim⟩⟩
end
/-! ### numbers picked twice over -/
theorem restN_nil (k : Nat) : restN k [] = List.range k := by
  unfold restN
  rw [List.filter_eq_self]
  intro n _
  simp
theorem pickS_range (pss : PSS) : pickS pss (List.range pss.length) = pss := by
  unfold pickS
  refine List.ext_getElem (by rw [List.length_map, List.length_range]) fun i h1 h2 => ?_
  rw [List.getElem_map, List.getElem_range, List.getD_eq_getElem?_getD, List.getElem?_eq_getElem h2]
  rfl
theorem restN_nodup (k : Nat) (ns : List Nat) : (restN k ns).Nodup := (List.nodup_range).sublist List.filter_sublist
theorem restN_rev (k : Nat) (ns : List Nat) : restN k ns.reverse = restN k ns := by
  unfold restN
  congr 1
  funext n
  congr 1
  rw [Bool.eq_iff_iff, decide_eq_true_iff, decide_eq_true_iff, List.mem_reverse]
theorem nV_rev (ns : List Nat) : (nV ns).reverse = nV ns.reverse := by
  unfold nV
  rw [List.map_reverse, List.map_reverse]
/-- some of the told lists, by their numbers -/
theorem pick_told {H : Hp} {as : List Addr} {pss : PSS} (h : Paired (LPx H) as pss) : ∀ {ns : List Nat}, (∀ n ∈ ns, n < pss.length) → Paired (LPx H) (pickA as ns) (pickS pss ns)
  | [], _ => .nil
  | n :: ns, l => by
    have hn := l n List.mem_cons_self
    refine .cons ?_ (pick_told h fun m hm => l m (List.mem_cons_of_mem _ hm))
    have hc : n < as.length := by rw [Paired.length h]; exact hn
    show LPx H (as.getD n 0) (pss.getD n [])
    rw [getD_at 0 hc, getD_at [] hn]
    obtain ⟨ps, e, r⟩ := paired_get h (List.getElem?_eq_getElem hc)
    rw [List.getElem?_eq_getElem hn] at e
    rw [Option.some.inj e]
    exact r
theorem pickS_mem {pss : PSS} {ns : List Nat} (l : ∀ n ∈ ns, n < pss.length) : ∀ q ∈ pickS pss ns, q ∈ pss := fun q hq => by
  obtain ⟨n, hn, rfl⟩ := List.mem_map.mp hq
  rw [getD_at [] (l n hn)]
  exact List.getElem_mem _
end K14

namespace K14
open PySem PySem.Spec PyProof.Rows L2
section
variable {P : Program} {w : World} {K : PySem.W.Frag} {mg : Str → Option Value} {base : Heap} {C CA CB CC CE CP CQ CW CF CT : Addr}
/-! ### _law_changed_right -/
def spCR : Sp := fun vs H Q _ => ∃ (p D : Addr) (n k : Nat) (as : List Addr) (pss : PSS), vs = [.ref p, .ref D] ∧ Lens H p n ∧ n + 300 < 60000 ∧ Told H D as pss ∧ Tok k pss ∧ 4 ≤ k ∧ k ≤ 7 ∧ pss ≠ [] ∧ pss.length ≤ 8 ∧ ∀ H', SB p H H' → Lens H' p (n + 150) → Q (.bl true) H'
abbrev sCR : Stmt := top 62
abbrev nCR : List Str := ["_law_lens_here", "_law_told", "_law_album", "_law_pins", "_law_many", "_law_more", "_law_some_here", "_law_left", "_law_less", "_law_number"]
theorem scCR : FnScope nCR ["_law_lens_here", "_law_told"] (defScope sCR) := ⟨rfl, rfl, rfl, by decide +kernel, rfl, by decide +kernel, by decide +kernel⟩
theorem ok_cr {f : Addr} {fd : FuncData} (F : Fun K "_law_changed_right" "_law_changed_right" sCR f fd) (B : Bn mg) (T : Pc P w K mg base C CC) (TA : Ac P w K mg base C CA CB CF CT) (O : Ao P w K mg base C CA CB CE CP CQ CW CF CT) (C1 : Callee P w K mg base CX0 8 "_law_made" ["_law_told"] (spMade C)) (C2 : Callee P w K mg base CX0 4 "_law_all" ["_law_lens_here", "_law_pins", "_law_many"] spAll) (C3 : Callee P w K mg base CX0 1 "_law_shot" ["_law_lens_here", "_law_many"] spShot) (C4 : Callee P w K mg base CX0 4 "_law_has" ["_law_album", "_law_told"] (spHas CA C)) (C5 : Callee P w K mg base CX0 2 "_law_some" ["_law_lens_here", "_law_many"] spSome) : FnOk P w K mg base CX0 9 f fd ["_law_lens_here", "_law_told"] spCR := by
  obtain ⟨f1, fd1, m1, k1, b1, G1⟩ := C1
  obtain ⟨f2, fd2, m2, k2, b2, G2⟩ := C2
  obtain ⟨f3, fd3, m3, k3, b3, G3⟩ := C3
  obtain ⟨f4, fd4, m4, k4, b4, G4⟩ := C4
  obtain ⟨f5, fd5, m5, k5, b5, G5⟩ := C5
  obtain ⟨fQ, fdQ, GQ, hsQ, hfQ, bQ⟩ := TA.eq
  obtain ⟨fj, fdj, Mj, Gj, bj, kj⟩ := O.jo
  obtain ⟨fi, fdi, Mi, Gi, bi, ki⟩ := O.wi
  obtain ⟨fp, fdp, Mp, Gp, bp, kp⟩ := O.pk
  obtain ⟨fw, fdw, Mw, Gw, bw, kw⟩ := O.wt
  have IA : ∃ (fI : Addr) (fd : FuncData), Mk K CA fI ∧ FnOk P w K mg base (L2.CX P w) 4 fI fd ["self", "pictures"] (spAI K C CA CB CF CT) ∧ Binds K fd ["self", "pictures"] [] := let ⟨a, b, c, d, e, _⟩ := TA.ini; ⟨a, b, c, d, e⟩
  have cA := TA.t.pc.cls
  have nd := scCR.nd
  refine F.ok scCR (fun vs H Q E h => ?_) (fun cdv A outer s H vs Q E hr h => ?_)
  · obtain ⟨p, D, n, k, as, pss, rfl, _⟩ := h
    rfl
  · obtain ⟨p, D, n, k, as, pss, rfl, hv, hn, td, tk, k4', k7, hne, h8, q⟩ := h
    refine ⟨_, (pss_cons (ps_par3 (i := 2) (j := 3) (l := 4) rfl nd rfl rfl rfl (by decide) (by decide) (by decide) rfl rfl rfl (pa_cons ((pe_mkA (E := E0) K TA.mgC IA (hr.mono (by decide)) passL rfl (pa_cons ((pe_call G1 (hr.mono (by decide)) rfl m1 k1 b1 .nil pass0 (pa_cons (pv 1) pa_nil))) pa_nil))) (pa_cons ((pe_callB call_len_seq (by rfl) B.len PySem.boot_len (pa_cons ((pe_ix ix_list (pv 1) (pe_int) (fun _ _ => rfl))) pa_nil))) (pa_cons ((pe_callB call_len_seq (by rfl) B.len PySem.boot_len (pa_cons (pv 1) pa_nil))) pa_nil))) (by rfl)) (pss_cons ((ps_set (i := 5) nd rfl (Or.inl rfl) (pe_ifExp (pt_cmpR op_lt (pv 4) pe_int (nomark _)) (pe_call G2 (hr.mono (by decide)) rfl m2 k2 b2 .nil pass0 (pa_cons (pv 0) (pa_cons (pv 3) (pa_cons (pe_op op_add pe_int (pe_call G3 (hr.mono (by decide)) rfl m3 k3 b3 .nil pass0 (pa_cons (pv 0) (pa_cons (pe_op op_sub pe_int (pv 4)) pa_nil)))) pa_nil)))) (pe_lst pa_nil)))) (pss_cons (ps_if (pt_cmpR (op_neD hr.units) (pv 5) (pe_lst pa_nil) (nomark _)) (pss_cons (ps_if (pt_not (pt_val (pe_call G4 (hr.mono (by decide)) rfl m4 k4 b4 .nil pass0 (pa_cons ((pe_meth (E := E0) (pv 2) cA Mj Gj (hr.mono (by decide)) bj .nil passL (pa_cons ((pe_mkA (E := E0) K TA.mgC IA (hr.mono (by decide)) passL rfl (pa_cons ((pe_call G1 (hr.mono (by decide)) rfl m1 k1 b1 .nil pass0 (pa_cons (pv 5) pa_nil))) pa_nil))) pa_nil))) (pa_cons (pe_op op_cat (pv 1) (pv 5)) pa_nil))))) (pss_one (ps_ret pe_bl)) pss_nil) (pss_cons (ps_if (pt_not (pt_val (pe_call G4 (hr.mono (by decide)) rfl m4 k4 b4 .nil pass0 (pa_cons ((pe_meth (E := E0) (pv 2) cA Mi Gi (hr.mono (by decide)) bi .nil passL (pa_cons ((pe_mkP (E := E0) T (hr.mono (by decide)) passL rfl (pa_cons ((pe_ix ix_list (pv 5) (pe_int) (fun _ _ => rfl))) pa_nil))) pa_nil))) (pa_cons (pe_op op_cat (pv 1) (pe_slice sl_list (pv 5) po_none (po_some pe_int))) pa_nil))))) (pss_one (ps_ret pe_bl)) pss_nil) (pss_one (ps_if (pt_cmpR (op_neI GQ hsQ hfQ bQ TA.n.ne TA.t.pc.hm (hr.mono (by decide))) (pe_methK0 (E := E0) (pv 2) cA Mj Gj (hr.mono (by decide)) kj passL (pk_cons ((pe_mkA (E := E0) K TA.mgC IA (hr.mono (by decide)) passL rfl (pa_cons ((pe_call G1 (hr.mono (by decide)) rfl m1 k1 b1 .nil pass0 (pa_cons ((pe_slice sl_list (pv 5) po_none (po_some pe_int))) pa_nil))) pa_nil))) pk_nil)) (pe_methK0 (E := E0) (pv 2) cA Mi Gi (hr.mono (by decide)) ki passL (pk_cons ((pe_mkP (E := E0) T (hr.mono (by decide)) passL rfl (pa_cons ((pe_ix ix_list (pv 5) (pe_int) (fun _ _ => rfl))) pa_nil))) pk_nil)) (nomark _)) (pss_one (ps_ret pe_bl)) pss_nil)))) pss_nil) (pss_cons ((ps_set (i := 6) nd rfl (Or.inr rfl) ((pe_call G5 (hr.mono (by decide)) rfl m5 k5 b5 .nil pass0 (pa_cons (pv 0) (pa_cons (pv 4) pa_nil)))))) (pss_cons (ps_if (PW.pt (pw_or (pt_not (pt_val (pe_call G4 (hr.mono (by decide)) rfl m4 k4 b4 .nil pass0 (pa_cons ((pe_meth (E := E0) (pv 2) cA Mp Gp (hr.mono (by decide)) bp .nil passL (pa_cons (pv 6) pa_nil))) (pa_cons ((pe_lc (own := [("_law_number", 9)]) (g := gName 9) (tt := tYes) rfl nd (pi_list (pv 6)) (blkOk_by (N := nCR) (sc := defScope sCR) (by decide +kernel)) (fun _ _ _ _ _ => (pg_name (i := 9) nd rfl (Or.inl rfl))) (fun _ _ _ _ _ => pts_nil) (fun _ _ _ _ _ => (pe_ix (r := rIxL K) ix_listK (pv 1) (pv 9) (fun _ _ => rfl))))) pa_nil))))) (pw_or1 (pt_cmpR (op_neI GQ hsQ hfQ bQ TA.n.ne TA.t.pc.hm (hr.mono (by decide))) (pe_methK0 (E := E0) (pv 2) cA Mp Gp (hr.mono (by decide)) kp passL (pk_cons ((pe_callTy (T := "tuple") (r := rTu K) call_tuK (by rfl) B.tuple (by decide +kernel) (pa_cons (pv 6) pa_nil))) pk_nil)) (pe_meth (E := E0) (pv 2) cA Mp Gp (hr.mono (by decide)) bp .nil passL (pa_cons (pv 6) pa_nil)) (nomark _))))) (pss_one (ps_ret pe_bl)) pss_nil) (pss_cons (ps_setLc (i := 7) (own := [("_law_number", 9)]) (g := gName 9) rfl nd rfl rfl (sw_true rfl rfl rfl (by decide +kernel)) (pi_range1 rfl B.range (pa_cons (pv 4) pa_nil)) (blkOk_by (N := nCR) (sc := defScope sCR) (by decide +kernel)) (fun _ _ _ _ _ => (pg_name (i := 9) nd rfl (Or.inl rfl))) (fun _ _ _ _ _ => pts_one (pt_cmpR (r := rIn K true) op_notIn_seq (pv 9) (pv 6) rfl)) (fun _ _ _ _ _ => pv 9)) (pss_cons (ps_if (pt_cmpR (op_neD hr.units) (pv 7) (pe_lst pa_nil) (nomark _)) (pss_cons ((ps_set (i := 8) nd rfl (Or.inl rfl) ((pe_meth (E := E0) (pv 2) cA Mw Gw (hr.mono (by decide)) bw .nil passL (pa_cons (pv 6) pa_nil))))) (pss_one (ps_if (PW.pt (pw_or (pt_not (pt_val (pe_call G4 (hr.mono (by decide)) rfl m4 k4 b4 .nil pass0 (pa_cons (pv 8) (pa_cons ((pe_lc (own := [("_law_number", 9)]) (g := gName 9) (tt := tYes) rfl nd (pi_list (pv 7)) (blkOk_by (N := nCR) (sc := defScope sCR) (by decide +kernel)) (fun _ _ _ _ _ => (pg_name (i := 9) nd rfl (Or.inl rfl))) (fun _ _ _ _ _ => pts_nil) (fun _ _ _ _ _ => (pe_ix (r := rIxL K) ix_listK (pv 1) (pv 9) (fun _ _ => rfl))))) pa_nil))))) (pw_or1 (pt_cmpR (op_neI GQ hsQ hfQ bQ TA.n.ne TA.t.pc.hm (hr.mono (by decide))) (pe_methK0 (E := E0) (pv 2) cA Mw Gw (hr.mono (by decide)) kw passL (pk_cons (pe_revL (pv 6)) pk_nil)) (pe_meth (E := E0) (pv 2) cA Mp Gp (hr.mono (by decide)) bp .nil passL (pa_cons (pv 7) pa_nil)) (nomark _))))) (pss_one (ps_ret pe_bl)) pss_nil))) pss_nil) (pss_one (ps_ret (pe_and (pe_cmpR (op_eqI GQ hsQ hfQ bQ (hr.mono (by decide))) (pe_meth (E := E0) (pv 2) cA Mw Gw (hr.mono (by decide)) bw .nil passL (pa_cons (pe_lst pa_nil) pa_nil)) (pv 2) (nomark _)) (pe_and (pe_cmpR (op_eqI GQ hsQ hfQ bQ (hr.mono (by decide))) (pe_meth (E := E0) (pv 2) cA Mw Gw (hr.mono (by decide)) bw .nil passL (pa_cons (pe_tup pa_nil) pa_nil)) (pe_meth (E := E0) (pv 2) cA Mp Gp (hr.mono (by decide)) bp .nil passL (pa_cons ((pe_listRg rfl (by rfl) B.list (prg_1 rfl B.range (pv 4)))) pa_nil)) (nomark _)) (pe_one ((pe_call G4 (hr.mono (by decide)) rfl m4 k4 b4 .nil pass0 (pa_cons (pv 2) (pa_cons (pv 1) pa_nil)))))))))))))))), ?_⟩
    obtain ⟨p0, pz, rfl⟩ : ∃ p0 pz, pss = p0 :: pz := by
      cases pss with
      | nil => exact absurd rfl hne
      | cons a b => exact ⟨a, b, rfl⟩
    have la := td.len
    have lk := (tk p0 List.mem_cons_self).1
    refine ⟨_, rfl, D, as, _, rfl, td, tk.ok, Nat.le_trans h8 (by decide), fun H1 R cs s1 nR pl => ?_⟩
    refine ⟨.ref R, rfl, mkA_of (.inl pl.1) pl.2 tk.eqn hne h8 fun A2 H2 s2 nA al => ?_⟩
    have s12 := s1.trans s2
    have td2 := td.same s12
    have v2 := hv.same s12
    obtain ⟨a0, ea0, ts0, lp0⟩ := td2.at (i := 0) (ps := p0) rfl
    refine ⟨_, rfl, D, _, 0, .ref a0, rfl, rfl, SqL.of td2.1, atI_nat (j := 0) ea0, a0, _, rfl, .inl (SqL.of lp0.1), ?_⟩
    rw [List.length_map, lp0.len, lk]
    refine ⟨_, rfl, D, _, rfl, .inl (SqL.of td2.1), ?_⟩
    rw [List.length_map, la]
    refine ⟨_, _, _, rfl, ?_⟩
    -- more of them
    dsimp only [gName, tSeq, tAsg]
    refine tIf_key (fun v H' => SB p H H' ∧ Lens H' p (n + 132) ∧ AlbF H' CA C A2 cs (p0 :: pz) ∧ Told H' D as (p0 :: pz) ∧ ∃ M am mss, v = .ref M ∧ Told H' M am mss ∧ Tok k mss ∧ (p0 :: pz).length + mss.length ≤ 8) (fun Q hQ => ?_) (fun x5 H3 hG => ?_)
    · refine ⟨_, rfl, _, _, rfl, rfl, _, rfl, ?_⟩
      by_cases hl : (p0 :: pz).length < 8
      · rw [decide_eq_true (show (((p0 :: pz).length : Nat) : Int) < 8 by omega)]
        refine iteT ⟨_, rfl, _, rfl, _, rfl, _, rfl, _, _, rfl, rfl, p, _, n, rfl, v2, by omega, by omega, by omega, fun Ha d sa va d0 d1 => ⟨_, _, rfl, rfl, ?_⟩⟩
        obtain ⟨d, rfl⟩ := Int.eq_ofNat_of_zero_le d0
        refine ⟨p, n + 1, k, 1 + d, rfl, va, by omega, k4', k7, by omega, by omega, fun Hb M am mss sb vb nM tdm lm tkm => ?_⟩
        have sab : SB p H2 Hb := sa.trans sb
        exact hQ _ _ ⟨(SB.of s12).trans sab, vb.le (by omega), al.sb v2 sab, td2.sb v2 sab, M, am, mss, rfl, tdm, tkm, by omega⟩
      · rw [decide_eq_false (show ¬ (((p0 :: pz).length : Nat) : Int) < 8 by omega)]
        refine iteF ⟨Nat.zero_le _, fun M nM => ?_⟩
        have sM := same_new (o := .lst []) nM
        exact hQ _ _ ⟨SB.of (s12.trans sM), (v2.same sM).le (by omega), al.same sM, td2.same sM, M, [], [], rfl, ⟨upd_same, .nil⟩, (fun _ h => absurd h List.not_mem_nil), h8⟩
    obtain ⟨s03, v3, al3, td3, M, am, mss, rfl, tdm, tkm, l8⟩ := hG
    refine if_join (P := fun σ' H' => Same H3 H' ∧ σ' = [some (.ref p), some (.ref D), some (.ref A2), some (.int k), some (.int ((p0 :: pz).length : Nat)), some (.ref M), none, none, none, none]) (fun σ' H4 h4 => ?_) (fun rest => ?_)
    · obtain ⟨w0, rfl⟩ := h4
      have pos : 1 ≤ (p0 :: pz).length := Nat.succ_le_succ (Nat.zero_le _)
      refine ⟨_, rfl, _, rfl, p, _, (p0 :: pz).length, rfl, v3.same w0, by omega, pos, h8, fun H5 S ns s5 v5 nS a0 gS l1 l2 ndn lt => ?_⟩
      have s05 : SB p H H5 := (s03.trans (SB.of w0)).trans s5
      have al5 := (al3.same w0).sb (v3.same w0) s5
      have td5 := (td3.same w0).sb (v3.same w0) s5
      have hns : ns ≠ [] := by
        rintro rfl
        exact absurd l1 (by decide)
      have ns8 : ns.length ≤ 8 := Nat.le_trans l2 h8
      have pin : ∀ {H' : Hp} {c : Addr} {ms : List Nat}, Sq H' c (nV ms) → ms.length ≤ 100 → (∀ i ∈ ms, i < (p0 :: pz).length) → PinL H' c ms (p0 :: pz).length := fun a b c => ⟨a, b, c⟩
      refine ⟨_, rfl, meth_inA al5 (fun _ _ _ => rfl) ⟨_, rfl, pk_in al5 tk.eqn h8 (pin (.inl gS) (by omega) lt) ndn hns ns8 fun A6 H6 s6 nA6 al6 => ?_⟩⟩
      have gS6 := s6 _ _ gS
      have td6 := td5.same s6
      refine ⟨_, rfl, S, rfl, ⟨_, SqL.of gS6⟩, fun D2 hD2 => ?_⟩
      refine lc_list (K := K) (a := S) (xs := nV ns) (fun i => At H6 D2 (((pickA as ns).take i).map V.ref)) ⟨same_new hD2, upd_same⟩ (fun i H' _ p => SqL.of (p.1 _ _ gS6)) (fun i x H' hx p => ?_) (fun H7 p7 => ?_)
      · obtain ⟨m, em, rfl⟩ := nV_get hx
        have hm : m < (p0 :: pz).length := lt m (List.mem_of_getElem? em)
        have eg : (pickA as ns)[i]? = some (as.getD m 0) := by
          unfold pickA
          rw [List.getElem?_map, em]
          rfl
        refine ⟨rfl, yes_of ?_⟩
        refine ⟨_, rfl, _, rfl, D, _, _, .ref (as.getD m 0), rfl, rfl, SqL.of (p.1 _ _ td6.1), ?_, _, p.2, ?_, p.step hD2 Same.me ?_⟩
        · refine atI_nat ?_
          have hc : m < as.length := by rw [la]; exact hm
          rw [List.getElem?_map, List.getD_eq_getElem?_getD, List.getElem?_eq_getElem hc]
          rfl
        · rw [List.length_map]
          exact small1000 (Nat.le_trans (List.length_take_le' _ _) (by rw [pickA_len]; omega))
        · rw [take_more eg, List.map_append]
          rfl
      have el : (nV ns).length = (pickA as ns).length := by rw [nV_len, pickA_len]
      rw [el, List.take_length] at p7
      have ok6 : Tok k (pickS (p0 :: pz) ns) := tk.sub (pickS_mem lt)
      have ne6 : pickS (p0 :: pz) ns ≠ [] := fun z => hns (List.map_eq_nil_iff.mp z)
      refine ⟨A6, D2, _, _, _, rfl, al6.same p7.1, ⟨p7.2, pick_told (td6.same p7.1).2 lt⟩, ok6.ok, ne6, by rw [pickS_len]; exact ns8, fun H8 s8 => ⟨_, rfl, iteF ?_⟩⟩
      have t8 := s6.trans (p7.1.trans s8)
      refine ⟨_, rfl, meth_inA (al5.same t8) (fun _ _ _ => rfl) ⟨_, rfl, S, _, rfl, .inl ⟨SqL.of (t8 _ _ gS), fun tt ntt => ?_⟩⟩⟩
      have w1 := same_new (o := .tup (nV ns)) ntt
      have gt : upd H8 tt (.tup (nV ns)) tt = some (.tup (nV ns)) := upd_same
      generalize upd H8 tt (.tup (nV ns)) = H9 at w1 gt ⊢
      have t9 := t8.trans w1
      refine ⟨rfl, pk_in (al5.same t9) tk.eqn h8 (pin (.inr gt) (by omega) lt) ndn hns ns8 fun A7 H10 s10 nA7 al7 => ?_⟩
      have t10 := t9.trans s10
      refine ⟨_, rfl, meth_inA (al5.same t10) (fun _ _ _ => rfl) ⟨_, rfl, pk_in (al5.same t10) tk.eqn h8 (pin (.inl (t10 _ _ gS)) (by omega) lt) ndn hns ns8 fun A8 H11 s11 nA8 al8 => ?_⟩⟩
      have t11 := t10.trans s11
      refine neA_in TA.t (al7.same s11) al8 ⟨_, rfl, ?_⟩
      rw [show (!decide (pickS (p0 :: pz) ns = pickS (p0 :: pz) ns)) = false by simp]
      refine iteF ?_
      -- what is left
      refine ⟨_, rfl, ((p0 :: pz).length : Int), rfl, by omega, by omega, fun L nL => ?_⟩
      rw [Int.toNat_natCast]
      refine lc_range (lo := 0) (n := (p0 :: pz).length) (fun i => At H11 L (nV (restN i ns))) ⟨same_new nL, upd_same⟩ (fun i H' hi p => ?_) (fun H12 p12 => ?_)
      · have ez : (0 : Int) + (i : Int) = ((i : Nat) : Int) := Int.zero_add _
        refine ⟨rfl, ?_⟩
        refine ⟨_, rfl, _, rfl, S, nV ns, rfl, .inl (SqL.of (p.1 _ _ (t11 _ _ gS))), rfl, flat_nV ns, _, rfl, ?_⟩
        show if (!inV (V.int ((0 : Int) + (i : Int))) (nV ns)) = true then _ else _
        rw [ez, inV_nV]
        have hs := restN_succ i ns
        by_cases hm : i ∈ ns
        · rw [decide_eq_true hm] at hs ⊢
          show At H11 L (nV (restN (i + 1) ns)) H'
          rw [hs]
          exact p
        · rw [decide_eq_false hm] at hs ⊢
          have hs : restN (i + 1) ns = restN i ns ++ [i] := hs
          refine ⟨_, rfl, _, p.2, ?_, p.step nL Same.me ?_⟩
          · rw [nV_len]
            exact small1000 (Nat.le_trans (restN_len _ _) (by omega))
          · rw [hs, nV_snoc]
      have t12 := t11.trans p12.1
      have gL := p12.2
      have al12 := al5.same t12
      have td12 := td5.same t12
      have gS12 := t12 _ _ gS
      have nrest : (restN (p0 :: pz).length ns).length ≤ 8 := Nat.le_trans (restN_len _ _) h8
      dsimp only [gName]
      refine if_join (P := fun σ' H' => Same H12 H' ∧ ∃ c8, σ' = [some (.ref p), some (.ref D), some (.ref A2), some (.int k), some (.int ((p0 :: pz).length : Nat)), some (.ref M), some (.ref S), some (.ref L), c8, none]) (fun σ' H13 h13 => ?_) (fun rest => ?_)
      · obtain ⟨w2, c8, rfl⟩ := h13
        have al13 := al12.same w2
        have e0 : restN (p0 :: pz).length [] = List.range (p0 :: pz).length := restN_nil _
        have e1 : pickS (p0 :: pz) (restN (p0 :: pz).length []) = p0 :: pz := by rw [e0, pickS_range]
        have ne0 : restN (p0 :: pz).length [] ≠ [] := fun z => by
          rw [z] at e1
          cases e1
        refine ⟨_, rfl, meth_inA al13 (fun _ _ _ => rfl) ⟨Nat.zero_le _, fun e ne => ?_⟩⟩
        have w3 := same_new (o := .lst []) ne
        refine wt_in (ns := []) (al13.same w3) tk.eqn h8 (pin (.inl upd_same) (by decide) (fun _ h => absurd h List.not_mem_nil)) List.nodup_nil ne0 fun A9 H14 s14 nA9 al9 => ?_
        have w4 := w3.trans s14
        refine ⟨_, rfl, eqA_in TA.t al9 (al13.same w4) ?_⟩
        rw [e1, decide_eq_true rfl]
        refine ⟨_, rfl, iteT ?_⟩
        refine ⟨_, rfl, meth_inA (al13.same w4) (fun _ _ _ => rfl) ⟨by show 0 ≤ sizeLine; decide, fun t5 nt5 => ?_⟩⟩
        have w5 := same_new (o := .tup []) nt5
        refine wt_in (ns := []) ((al13.same w4).same w5) tk.eqn h8 (pin (.inr upd_same) (by decide) (fun _ h => absurd h List.not_mem_nil)) List.nodup_nil ne0 fun A10 H15 s15 nA10 al10 => ?_
        have w6 := w4.trans (w5.trans s15)
        refine ⟨_, rfl, meth_inA (al13.same w6) (fun _ _ _ => rfl) ⟨_, rfl, ((p0 :: pz).length : Int), rfl, RgOk.of_le (by decide) (by omega) (by decide) (by omega), fun L2 nL2 => ?_⟩⟩
        rw [rg_nV]
        have w7 := same_new (o := .lst (nV (List.range (p0 :: pz).length))) nL2
        refine pk_in ((al13.same w6).same w7) tk.eqn h8 (pin (.inl upd_same) (by rw [List.length_range]; omega) (fun i hi => List.mem_range.mp hi)) List.nodup_range (fun z => by rw [← e0] at z; exact ne0 z) (by rw [List.length_range]; exact h8) fun A11 H16 s16 nA11 al11 => ?_
        have w8 := w7.trans s16
        refine eqA_in TA.t (al10.same w8) al11 ?_
        rw [e1, pickS_range, decide_eq_true rfl]
        refine ⟨_, rfl, iteT ?_⟩
        have w9 := w6.trans w8
        have whole : Same H5 H16 := t12.trans (w2.trans w9)
        exact ⟨_, rfl, _, rfl, A2, D, _, _, _, rfl, al13.same w9, td5.same whole, tk.ok, hne, h8, fun H17 s17 => q _ (s05.trans (SB.of (whole.trans s17))) ((v5.same (whole.trans s17)).le (by omega))⟩
      · refine ⟨_, rfl, Nat.zero_le _, fun e ne => ?_⟩
        have w3 := same_new (o := .lst []) ne
        have ge : upd H12 e (.lst []) e = some (.lst []) := upd_same
        generalize upd H12 e (.lst []) = H13 at w3 ge ⊢
        have gL3 := w3 _ _ gL
        refine ⟨.list (((restN (p0 :: pz).length ns).map fun n => ((n : Nat) : Int)).map PyData.int), .list [], .lst (SqL.of gL3) (dp_ints _), .lst (SqL.of ge) .nil, PySem.W.ke_shaped_ints _, by decide, _, rfl, ?_⟩
        by_cases hz : restN (p0 :: pz).length ns = []
        · have e0 : (!PyData.eqv (.list (((restN (p0 :: pz).length ns).map fun n => ((n : Nat) : Int)).map PyData.int)) (.list [])) = false := by
            rw [hz]
            rfl
          rw [e0]
          exact iteF (rest _ _ ⟨w3, _, rfl⟩)
        · have e0 : (!PyData.eqv (.list (((restN (p0 :: pz).length ns).map fun n => ((n : Nat) : Int)).map PyData.int)) (.list [])) = true := by
            cases q : restN (p0 :: pz).length ns with
            | nil => exact absurd q hz
            | cons => rfl
          rw [e0]
          have okR : Tok k (pickS (p0 :: pz) (restN (p0 :: pz).length ns)) := tk.sub (pickS_mem restN_lt)
          have neR : pickS (p0 :: pz) (restN (p0 :: pz).length ns) ≠ [] := fun z => hz (List.map_eq_nil_iff.mp z)
          refine iteT ⟨_, rfl, meth_inA (al12.same w3) (fun _ _ _ => rfl) ⟨_, rfl, wt_in (al12.same w3) tk.eqn h8 (pin (.inl (w3 _ _ gS12)) (by omega) lt) ndn hz fun A9 H14 s14 nA9 al9 => ?_⟩⟩
          have t14 := w3.trans s14
          have gL14 := t14 _ _ gL
          have td14 := td12.same t14
          refine ⟨_, rfl, _, rfl, L, rfl, ⟨_, SqL.of gL14⟩, fun D3 hD3 => ?_⟩
          refine lc_list (K := K) (a := L) (xs := nV (restN (p0 :: pz).length ns)) (fun i => At H14 D3 (((pickA as (restN (p0 :: pz).length ns)).take i).map V.ref)) ⟨same_new hD3, upd_same⟩ (fun i H' _ p => SqL.of (p.1 _ _ gL14)) (fun i x H' hx p => ?_) (fun H15 p15 => ?_)
          · obtain ⟨m, em, rfl⟩ := nV_get hx
            have hm : m < (p0 :: pz).length := restN_lt m (List.mem_of_getElem? em)
            have eg : (pickA as (restN (p0 :: pz).length ns))[i]? = some (as.getD m 0) := by
              unfold pickA
              rw [List.getElem?_map, em]
              rfl
            refine ⟨rfl, yes_of ?_⟩
            refine ⟨_, rfl, _, rfl, D, _, _, .ref (as.getD m 0), rfl, rfl, SqL.of (p.1 _ _ td14.1), ?_, _, p.2, ?_, p.step hD3 Same.me ?_⟩
            · refine atI_nat ?_
              have hc : m < as.length := by rw [la]; exact hm
              rw [List.getElem?_map, List.getD_eq_getElem?_getD, List.getElem?_eq_getElem hc]
              rfl
            · rw [List.length_map]
              exact small1000 (Nat.le_trans (List.length_take_le' _ _) (by rw [pickA_len]; omega))
            · rw [take_more eg, List.map_append]
              rfl
          have el2 : (nV (restN (p0 :: pz).length ns)).length = (pickA as (restN (p0 :: pz).length ns)).length := by rw [nV_len, pickA_len]
          rw [el2, List.take_length] at p15
          refine ⟨A9, D3, _, _, _, rfl, al9.same p15.1, ⟨p15.2, pick_told (td14.same p15.1).2 restN_lt⟩, okR.ok, neR, by rw [pickS_len]; exact nrest, fun H16 s16 => ⟨_, rfl, iteF ?_⟩⟩
          have t16 := t14.trans (p15.1.trans s16)
          refine ⟨_, rfl, meth_inA (al12.same t16) (fun _ _ _ => rfl) ⟨_, rfl, S, _, rfl, SqL.of (t16 _ _ gS12), fun R5 nR5 => ?_⟩⟩
          have w5 := same_new (o := .lst (nV ns).reverse) nR5
          have gR5 : upd H16 R5 (.lst (nV ns).reverse) R5 = some (.lst (nV ns.reverse)) := by rw [upd_same, nV_rev]
          generalize upd H16 R5 (.lst (nV ns).reverse) = H17 at w5 gR5 ⊢
          have t17 := t16.trans w5
          refine ⟨rfl, wt_in (ns := ns.reverse) (al12.same t17) tk.eqn h8 (pin (.inl gR5) (by rw [List.length_reverse]; omega) fun i hi => lt i (List.mem_reverse.mp hi)) ((List.reverse_perm ns).nodup_iff.mpr ndn) (by rw [restN_rev]; exact hz) fun A10 H18 s18 nA10 al10 => ?_⟩
          have t18 := t17.trans s18
          rw [restN_rev] at al10
          refine ⟨_, rfl, meth_inA (al12.same t18) (fun _ _ _ => rfl) ⟨_, rfl, pk_in (al12.same t18) tk.eqn h8 (pin (.inl (t18 _ _ gL)) (by omega) restN_lt) (restN_nodup _ _) hz nrest fun A11 H19 s19 nA11 al11 => ?_⟩⟩
          refine neA_in TA.t (al10.same s19) al11 ⟨_, rfl, ?_⟩
          rw [show (!decide (pickS (p0 :: pz) (restN (p0 :: pz).length ns) = pickS (p0 :: pz) (restN (p0 :: pz).length ns))) = false by simp]
          exact iteF (rest _ _ ⟨t18.trans s19, _, rfl⟩)
    · refine ⟨_, rfl, Nat.zero_le _, fun e ne => ?_⟩
      have w1 := same_new (o := .lst []) ne
      have ge : upd H3 e (.lst []) e = some (.lst []) := upd_same
      generalize upd H3 e (.lst []) = H4 at w1 ge ⊢
      refine ⟨.list (mss.map enL), .list [], (tdm.same w1).dp, .lst (SqL.of ge) .nil, enL_shaped mss, by decide, _, rfl, ?_⟩
      cases mss with
      | nil => exact iteF (rest _ _ ⟨w1, rfl⟩)
      | cons m0 mz =>
        have hq : (m0 :: mz) ≠ [] := fun z => nomatch z
        have hq8 : (m0 :: mz).length ≤ 8 := by omega
        have hm0 := tkm m0 List.mem_cons_self
        have both : Tok k ((p0 :: pz) ++ (m0 :: mz)) := fun q hq => (List.mem_append.mp hq).elim (tk q) (tkm q)
        refine iteT ?_
        -- joined
        refine ⟨_, rfl, meth_inA (al3.same w1) (fun _ _ _ => rfl) ⟨_, rfl, M, am, _, rfl, tdm.same w1, tkm.ok, Nat.le_trans hq8 (by decide), fun Ha R2 cs2 sa nR2 pl2 => ?_⟩⟩
        refine ⟨.ref R2, rfl, mkA_of (.inl pl2.1) pl2.2 tkm.eqn hq hq8 fun A3 Hb sb nA3 alm => ?_⟩
        have t1 := w1.trans (sa.trans sb)
        refine jo_in (al3.same t1) alm tk.eqn tkm.eqn hne hq l8 fun A4 Hc sc nA4 alj => ?_
        have t2 := t1.trans sc
        refine ⟨_, rfl, _, rfl, D, M, _, _, rfl, rfl, t2 _ _ td3.1, t2 _ _ tdm.1, by rw [List.length_map, List.length_map, la, tdm.len]; exact Nat.le_of_lt (small1000 (by omega)), fun l nl => ?_⟩
        have w2 := same_new (o := .lst (as.map V.ref ++ am.map V.ref)) nl
        have gl : upd Hc l (.lst (as.map V.ref ++ am.map V.ref)) l = some (.lst ((as ++ am).map V.ref)) := by rw [upd_same, List.map_append]
        generalize upd Hc l (.lst (as.map V.ref ++ am.map V.ref)) = Hd at w2 gl ⊢
        have t3 := t2.trans w2
        refine ⟨A4, l, _, _, _, rfl, alj.same w2, Told.mk' t3 gl (paired_app td3.2 tdm.2), both.ok, by simp, by rw [List.length_append]; exact l8, fun He se => ⟨_, rfl, iteF ?_⟩⟩
        have t4 := t3.trans se
        -- with_picture
        obtain ⟨b0, eb0, rs0, lm0⟩ := (tdm.same t4).at (i := 0) (ps := m0) rfl
        refine ⟨_, rfl, meth_inA (al3.same t4) (fun _ _ _ => rfl) ⟨_, rfl, M, _, 0, .ref b0, rfl, rfl, SqL.of (t4 _ _ tdm.1), atI_nat (j := 0) eb0, .ref b0, rfl, .inl ⟨m0, lm0.pls, hm0.2, fun c1 Hf sf nc1 pf1 => ?_⟩⟩⟩
        have t5 := t4.trans sf
        refine wi_in (al3.same t5) pf1 tk.eqn hm0.1 hne (by have : 1 ≤ (m0 :: mz).length := Nat.succ_le_succ (Nat.zero_le _); omega) fun A5 Hg sg nA5 alw => ?_
        have t6 := t5.trans sg
        have l1m : 1 ≤ (am.map V.ref).length := by rw [List.length_map, tdm.len]; exact Nat.succ_le_succ (Nat.zero_le _)
        refine ⟨_, rfl, _, rfl, 1, rfl, M, _, rfl, SqL.of (t6 _ _ tdm.1), fun c2 nc2 => ?_⟩
        rw [cut_t1 l1m]
        have one : Tok k [m0] := tkm.sub fun q hq => by rw [List.mem_singleton.mp hq]; exact List.mem_cons_self
        have both1 : Tok k ((p0 :: pz) ++ [m0]) := fun q hq => (List.mem_append.mp hq).elim (tk q) (one q)
        have l81 : ((p0 :: pz) ++ [m0]).length ≤ 8 := by
          rw [List.length_append]
          have : 1 ≤ (m0 :: mz).length := Nat.succ_le_succ (Nat.zero_le _)
          show (p0 :: pz).length + 1 ≤ 8
          omega
        have pr1 : ∀ {H' : Hp}, Same H3 H' → Paired (LPx H') (am.take 1) [m0] := fun s' => (paired_take (tdm.same s').2 1).1
        have w3 := same_new (o := .lst ((am.map V.ref).take 1)) nc2
        have gc2 : upd Hg c2 (.lst ((am.map V.ref).take 1)) c2 = some (.lst ((am.take 1).map V.ref)) := by rw [upd_same, List.map_take]
        generalize upd Hg c2 (.lst ((am.map V.ref).take 1)) = Hh at w3 gc2 ⊢
        have t7 := t6.trans w3
        refine ⟨D, c2, _, _, rfl, rfl, t7 _ _ td3.1, gc2, by rw [List.length_map, List.length_map, la, List.length_take]; exact Nat.le_of_lt (small1000 (by omega)), fun l2 nl2 => ?_⟩
        have w4 := same_new (o := .lst (as.map V.ref ++ (am.take 1).map V.ref)) nl2
        have gl2 : upd Hh l2 (.lst (as.map V.ref ++ (am.take 1).map V.ref)) l2 = some (.lst ((as ++ am.take 1).map V.ref)) := by rw [upd_same, List.map_append]
        generalize upd Hh l2 (.lst (as.map V.ref ++ (am.take 1).map V.ref)) = Hi at w4 gl2 ⊢
        have t8 := t7.trans w4
        refine ⟨A5, l2, _, _, _, rfl, alw.same (w3.trans w4), ⟨gl2, paired_app (td3.same t8).2 (pr1 t8)⟩, both1.ok, by simp, l81, fun Hj sj => ⟨_, rfl, iteF ?_⟩⟩
        have t9 := t8.trans sj
        -- both ways alike
        refine ⟨_, rfl, meth_inA (al3.same t9) (fun _ _ _ => rfl) ⟨_, rfl, 1, rfl, M, _, rfl, SqL.of (t9 _ _ tdm.1), fun c3 nc3 => ?_⟩⟩
        rw [cut_t1 l1m]
        have w5 := same_new (o := .lst ((am.map V.ref).take 1)) nc3
        have gc3 : upd Hj c3 (.lst ((am.map V.ref).take 1)) c3 = some (.lst ((am.take 1).map V.ref)) := by rw [upd_same, List.map_take]
        generalize upd Hj c3 (.lst ((am.map V.ref).take 1)) = Hk at w5 gc3 ⊢
        have t10 := t9.trans w5
        refine ⟨c3, am.take 1, [m0], rfl, ⟨gc3, pr1 t10⟩, one.ok, (by show 1 ≤ 100; decide), fun Hl R3 cs3 sl nR3 pl3 => ?_⟩
        refine ⟨.ref R3, rfl, mkA_of (.inl pl3.1) pl3.2 one.eqn (by simp) (by show 1 ≤ 8; decide) fun A6 Hm sm nA6 alo => ?_⟩
        have t11 := t10.trans (sl.trans sm)
        refine ⟨rfl, jo_in (al3.same t11) alo tk.eqn one.eqn hne (by simp) (by rw [← List.length_append]; exact l81) fun A7 Hn sn nA7 alj2 => ?_⟩
        have t12 := t11.trans sn
        obtain ⟨b1, eb1, rs1, lm1⟩ := (tdm.same t12).at (i := 0) (ps := m0) rfl
        refine ⟨_, rfl, meth_inA (al3.same t12) (fun _ _ _ => rfl) ⟨_, rfl, M, _, 0, .ref b1, rfl, rfl, SqL.of (t12 _ _ tdm.1), atI_nat (j := 0) eb1, .ref b1, rfl, .inl ⟨m0, lm1.pls, hm0.2, fun c4 Ho so nc4 pf4 => ?_⟩⟩⟩
        have t13 := t12.trans so
        refine ⟨rfl, wi_in (al3.same t13) pf4 tk.eqn hm0.1 hne (by have := l81; rw [List.length_append] at this; exact this) fun A8 Hp' sp nA8 alw2 => ?_⟩
        refine neA_in TA.t (alj2.same (so.trans sp)) alw2 ⟨_, rfl, ?_⟩
        rw [show (!decide ((p0 :: pz) ++ [m0] = (p0 :: pz) ++ [m0])) = false by simp]
        exact iteF (rest _ _ ⟨t13.trans sp, rfl⟩)
end
end K14

namespace K14
open PySem PySem.Spec PyProof.Rows L2
section
variable {K : PySem.W.Frag} {C CA CB CE CP CQ CW CF CT : Addr} {H : Hp} {Q : VK} {E : XK} {a c : Addr} {v : V} {cs : List Addr} {pss : PSS} {ns : List Nat} {qs : List (Int × Int)} {k : Nat}
theorem ia_in (al : AlbF H CA C a cs pss) (tk : Tok k pss) (hn : pss ≠ []) (h8 : pss.length ≤ 8) (k7 : k ≤ 7) (o : OrdN ns k) (hs : Sq H c (nV ns)) (n : NewAs CA C H Q (pss.map fun ps => pick ps ns)) : Bx (spIA K C CA CP CW CF) [.ref a, .ref c] H Q E :=
  .mk ⟨a, .ref c, cs, pss, k, rfl, al, tk.eqn, tk.ok, hn, h8, .inr ⟨c, ns, rfl, ⟨hs, by rw [o.len]; omega, o.lt⟩, fun _ _ => ⟨by rw [o.len]; exact k7, n⟩, fun z => absurd ⟨o.nd, Nat.le_of_eq o.len.symm⟩ z⟩⟩
theorem wo_inA {m : Nat} (al : AlbF H CA C a cs pss) (tk : Tok k pss) (hn : pss ≠ []) (h8 : pss.length ≤ 8) (hm : m < k) (h4 : 4 < k) (n : NewAs CA C H Q (pss.map fun ps => ps.take m ++ ps.drop (m + 1))) : Bx (spWpA K C CA CP CF) [.ref a, .int m] H Q E := by
  refine .mk ⟨a, .int m, false, cs, pss, k, rfl, al, tk.eqn, tk.ok, hn, h8, .int _, fun z => ?_, fun j e _ => ?_⟩
  · rw [pinOk_nat, decide_eq_true hm] at z
    cases z
  · have e2 : m = j := by
      have := V.int.inj e
      omega
    subst e2
    exact ⟨fun z => absurd z (by omega), fun _ => n⟩
theorem wq_in (al : AlbF H CA C a cs pss) (tk : Tok k pss) (hn : pss ≠ []) (h8 : pss.length ≤ 8) (k7 : k < 7) (pj : PlJ H v qs) (ib : InB G9 qs) (el : qs.length = pss.length) (n : NewAs CA C H Q (zipP pss qs)) : Bx (spWq K C CA CE CF CT) [.ref a, v] H Q E :=
  .mk ⟨a, v, cs, pss, k, rfl, al, tk.eqn, tk.ok, hn, h8, .inr ⟨qs, pj, ib, by omega, fun z => absurd el z, fun _ => ⟨fun z => absurd z (by omega), fun _ => n⟩⟩⟩
end
theorem told_step {H0 H H2 : Hp} {D g : Addr} {bs : List Addr} {pss : PSS} {f : List (Int × Int) → List (Int × Int)} {i : Nat} {ps : List (Int × Int)} (hD : H0 D = none) (s1 : Same H0 H) (gD : H D = some (.lst (bs.map V.ref))) (lps : Paired (LPx H) bs ((pss.take i).map f)) (nm : D ∉ bs) (h8 : pss.length ≤ 8) (e : pss[i]? = some ps) (s2 : Same H H2) (ng : g ≠ D) (r : LPx H2 g (f ps)) :
    ∃ acc, H2 D = some (.lst acc) ∧ acc.length < sizeLine ∧ Same H0 (upd H2 D (.lst (acc ++ [V.ref g]))) ∧ ∃ bs' : List Addr, (upd H2 D (.lst (acc ++ [V.ref g]))) D = some (.lst (bs'.map V.ref)) ∧ Paired (LPx (upd H2 D (.lst (acc ++ [V.ref g])))) bs' ((pss.take (i + 1)).map f) ∧ D ∉ bs' := by
  have g2 := s2 _ _ gD
  refine ⟨_, g2, ?_, fun b o eb => ?_, bs ++ [g], by rw [upd_same, List.map_append]; rfl, ?_, fun hm => ?_⟩
  · rw [List.length_map, Paired.length lps, List.length_map]
    exact small1000 (Nat.le_trans (List.length_take_le' _ _) (by omega))
  · rw [upd_ne (ne_of_none eb hD)]
    exact s2 _ _ (s1 _ _ eb)
  · rw [take_more e, List.map_append]
    exact paired_snoc (lpx_upd nm g2 (paired_mono lps fun _ _ z => z.same s2)) (r.upd ng g2)
  · rcases List.mem_append.mp hm with z | z
    · exact nm z
    · exact ng (List.mem_singleton.mp z).symm
theorem zip_back {k : Nat} : ∀ {pss : PSS} {qs : List (Int × Int)}, Eqn k pss → qs.length = pss.length → ((zipP pss qs).map fun ps => ps.take k ++ ps.drop (k + 1)) = pss
  | [], [], _, _ => rfl
  | [], _ :: _, _, h => nomatch h
  | _ :: _, [], _, h => nomatch h
  | ps :: pss, q :: qs, he, h => by
    have e0 : ps.length = k := he ps List.mem_cons_self
    have ih := zip_back (pss := pss) (qs := qs) (fun p hp => he p (List.mem_cons_of_mem _ hp)) (Nat.succ.inj h)
    show ((ps ++ [q]).take k ++ (ps ++ [q]).drop (k + 1)) :: _ = _
    have e1 : (ps ++ [q]).take k = ps := by rw [← e0, List.take_left']; rfl
    have e2 : (ps ++ [q]).drop (k + 1) = [] := List.drop_eq_nil_of_le (by rw [List.length_append, e0]; exact Nat.le_refl _)
    rw [e1, e2, List.append_nil]
    exact congrArg _ ih
theorem Lr.upd {H : Hp} {b D : Addr} {q : Int × Int} {o : HO} (h : Lr H b q) (n : b ≠ D) : Lr (upd H D o) b q := by
  unfold Lr at h ⊢
  rw [upd_ne n]
  exact h
theorem lrs_upd {H : Hp} {D : Addr} {o : HO} {bs : List Addr} {qs : List (Int × Int)} (nm : D ∉ bs) (h : Paired (Lr H) bs qs) : Paired (Lr (L2.upd H D o)) bs qs := by
  induction h with
  | nil => exact .nil
  | @cons b q bs qs r _ ih => exact .cons (r.upd fun e => nm (e ▸ List.mem_cons_self)) (ih fun z => nm (List.mem_cons_of_mem _ z))
theorem tok_map {k k' : Nat} {pss : PSS} {f : List (Int × Int) → List (Int × Int)} (h : Tok k pss) (i : ∀ ps, ps ∈ pss → ps.length = k → OkP ps → (f ps).length = k' ∧ OkP (f ps)) : Tok k' (pss.map f) := fun q hq => by
  obtain ⟨ps, hp, rfl⟩ := List.mem_map.mp hq
  exact i ps hp (h ps hp).1 (h ps hp).2
section
variable {P : Program} {w : World} {K : PySem.W.Frag} {mg : Str → Option Value} {base : Heap} {C CA CB CC CE CP CQ CW CF CT : Addr}
/-! ### _law_pins_right -/
def spPR : Sp := fun vs H Q _ => ∃ (p D : Addr) (n k : Nat) (as : List Addr) (pss : PSS), vs = [.ref p, .ref D] ∧ Lens H p n ∧ n + 300 < 60000 ∧ Told H D as pss ∧ Tok k pss ∧ 4 ≤ k ∧ k ≤ 7 ∧ pss ≠ [] ∧ pss.length ≤ 8 ∧ ∀ H', SB p H H' → Lens H' p (n + 30) → Q (.bl true) H'
abbrev sPR : Stmt := top 64
abbrev nPR : List Str := ["_law_lens_here", "_law_told", "_law_album", "_law_pins", "_law_at", "_law_order_here", "_law_turned", "_law_less", "_law_put", "_law_more", "_law_places_here", "_law_pin", "_law_place"]
theorem scPR : FnScope nPR ["_law_lens_here", "_law_told"] (defScope sPR) := ⟨rfl, rfl, rfl, by decide +kernel, rfl, by decide +kernel, by decide +kernel⟩
abbrev scPO : Scope := { kind := .function, names := [(".0", .local), ("_law_places_here", .cell), ("_law_order_here", .cell)], isGenerator := false, isCoroutine := false }
theorem ok_pr {f : Addr} {fd : FuncData} (F : Fun K "_law_pins_right" "_law_pins_right" sPR f fd) (B : Bn mg) (hzip : mg "zip" = none) (T : Pc P w K mg base C CC) (TA : Ac P w K mg base C CA CB CF CT) (O : Ao P w K mg base C CA CB CE CP CQ CW CF CT) (C1 : Callee P w K mg base CX0 8 "_law_made" ["_law_told"] (spMade C)) (C2 : Callee P w K mg base CX0 2 "_law_order" ["_law_lens_here", "_law_many"] spOrd) (C3 : Callee P w K mg base CX0 1 "_law_shot" ["_law_lens_here", "_law_many"] spShot) (C4 : Callee P w K mg base CX0 4 "_law_has" ["_law_album", "_law_told"] (spHas CA C)) (C5 : Callee P w K mg base CX0 2 "_law_pick" ["_law_lens_here", "_law_some_here"] spPick) : FnOk P w K mg base CX0 10 f fd ["_law_lens_here", "_law_told"] spPR := by
  obtain ⟨f1, fd1, m1, k1, b1, G1⟩ := C1
  obtain ⟨f2, fd2, m2, k2, b2, G2⟩ := C2
  obtain ⟨f3, fd3, m3, k3, b3, G3⟩ := C3
  obtain ⟨f4, fd4, m4, k4, b4, G4⟩ := C4
  obtain ⟨f5, fd5, m5, k5, b5, G5⟩ := C5
  obtain ⟨fQ, fdQ, GQ, hsQ, hfQ, bQ⟩ := TA.eq
  obtain ⟨fi, fdi, Mi, Gi, bi, ki⟩ := O.ia
  obtain ⟨fo, fdo, Mo, Go, bo, ko⟩ := O.wo
  obtain ⟨fq, fdq, Mq, Gq, bq, kq⟩ := O.wq
  have IA : ∃ (fI : Addr) (fd : FuncData), Mk K CA fI ∧ FnOk P w K mg base (L2.CX P w) 4 fI fd ["self", "pictures"] (spAI K C CA CB CF CT) ∧ Binds K fd ["self", "pictures"] [] := let ⟨a, b, c, d, e, _⟩ := TA.ini; ⟨a, b, c, d, e⟩
  have cA := TA.t.pc.cls
  have nd := scPR.nd
  refine F.ok scPR (fun vs H Q E h => ?_) (fun cdv A outer s H vs Q E hr h => ?_)
  · obtain ⟨p, D, n, k, as, pss, rfl, _⟩ := h
    rfl
  · obtain ⟨p, D, n, k, as, pss, rfl, hv, hn, td, tk, k4', k7, hne, h8, q⟩ := h
    refine ⟨_, (pss_cons (ps_par (i := 2) (j := 3) rfl nd rfl rfl (by decide) rfl rfl (pa_cons ((pe_mkA (E := E0) K TA.mgC IA (hr.mono (by decide)) passL rfl (pa_cons ((pe_call G1 (hr.mono (by decide)) rfl m1 k1 b1 .nil pass0 (pa_cons (pv 1) pa_nil))) pa_nil))) (pa_cons ((pe_callB call_len_seq (by rfl) B.len PySem.boot_len (pa_cons ((pe_ix ix_list (pv 1) (pe_int) (fun _ _ => rfl))) pa_nil))) pa_nil)) (by rfl)) (pss_cons (ps_asg (pe_tup (pa_cons ((pe_call G3 (hr.mono (by decide)) rfl m3 k3 b3 .nil pass0 (pa_cons (pv 0) (pa_cons (pv 3) pa_nil)))) (pa_cons ((pe_call G2 (hr.mono (by decide)) rfl m2 k2 b2 .nil pass0 (pa_cons (pv 0) (pa_cons (pv 3) pa_nil)))) pa_nil))) (pg_tup rfl (pgs_cons ((pg_name (i := 4) nd rfl (Or.inr rfl))) (pgs_cons ((pg_name (i := 5) nd rfl (Or.inr rfl))) pgs_nil)))) (pss_cons ((ps_set (i := 6) nd rfl (Or.inl rfl) ((pe_meth (E := E0) (pv 2) cA Mi Gi (hr.mono (by decide)) bi .nil passL (pa_cons (pv 5) pa_nil))))) (pss_cons (ps_if (PW.pt (pw_or (pt_not (pt_val (pe_call G4 (hr.mono (by decide)) rfl m4 k4 b4 .nil pass0 (pa_cons (pv 6) (pa_cons (pe_lc (own := [("_law_places_here", 10)]) (g := gName 10) (tt := tYes) rfl nd (pi_list (pv 1)) (blkOk_by (N := nPR) (sc := defScope sPR) (by decide +kernel)) (fun _ _ _ _ _ => (pg_name (i := 10) nd rfl (Or.inr rfl))) (fun _ _ _ _ _ => pts_nil) (fun _ _ _ _ _ => pe_lc (own := [("_law_pin", 11)]) (g := gName 11) (tt := tYes) rfl nd (pi_listK K (pv 5)) (blkOk_by (N := nPR) (sc := scPO) (by decide +kernel)) (fun _ _ _ _ _ => (pg_name (i := 11) nd rfl (Or.inl rfl))) (fun _ _ _ _ _ => pts_nil) (fun _ _ _ _ _ => (pe_ix (r := rIxL K) ix_listK (pv 10) (pv 11) (fun _ _ => rfl))))) pa_nil))))) (pw_or1 (pt_cmpR (op_neI GQ hsQ hfQ bQ TA.n.ne TA.t.pc.hm (hr.mono (by decide))) (pe_methK0 (E := E0) (pv 2) cA Mi Gi (hr.mono (by decide)) ki passL (pk_cons ((pe_callTy (T := "tuple") (r := rTu K) call_tuK (by rfl) B.tuple (by decide +kernel) (pa_cons (pv 5) pa_nil))) pk_nil)) (pv 6) (nomark _))))) (pss_one (ps_ret pe_bl)) pss_nil) (pss_cons (ps_if (pt_cmpR op_gt (pv 3) pe_int (nomark _)) (pss_cons ((ps_set (i := 7) nd rfl (Or.inl rfl) ((pe_meth (E := E0) (pv 2) cA Mo Go (hr.mono (by decide)) bo .nil passL (pa_cons (pv 4) pa_nil))))) (pss_one (ps_if (PW.pt (pw_or (pt_not (pt_val (pe_call G4 (hr.mono (by decide)) rfl m4 k4 b4 .nil pass0 (pa_cons (pv 7) (pa_cons ((pe_lc (own := [("_law_places_here", 10)]) (g := gName 10) (tt := tYes) rfl nd (pi_list (pv 1)) (blkOk_by (N := nPR) (sc := defScope sPR) (by decide +kernel)) (fun _ _ _ _ _ => (pg_name (i := 10) nd rfl (Or.inl rfl))) (fun _ _ _ _ _ => pts_nil) (fun _ _ _ _ _ => pe_op op_cat (pe_slice (r := rSlL K) sl_listK (pv 10) (po_none) (po_some (pv 4))) (pe_slice (r := rSlL K) sl_listK (pv 10) (po_some (pe_op op_add (pv 4) pe_int)) (po_none))))) pa_nil))))) (pw_or1 (pt_cmpR (op_neI GQ hsQ hfQ bQ TA.n.ne TA.t.pc.hm (hr.mono (by decide))) (pe_methK0 (E := E0) (pv 2) cA Mo Go (hr.mono (by decide)) ko passL (pk_cons (pv 4) pk_nil)) (pv 7) (nomark _))))) (pss_one (ps_ret pe_bl)) pss_nil))) pss_nil) (pss_cons (ps_if (pt_cmpR op_lt (pv 3) pe_int (nomark _)) (pss_cons ((ps_setLc (i := 8) (own := [("_law_places_here", 10)]) (g := gName 10) (tt := tYes) rfl nd rfl rfl (sw_true rfl rfl rfl (by decide +kernel)) (pi_list (pv 1)) (blkOk_by (N := nPR) (sc := defScope sPR) (by decide +kernel)) (fun _ _ _ _ _ => (pg_name (i := 10) nd rfl (Or.inl rfl))) (fun _ _ _ _ _ => pts_nil) (fun _ _ _ _ _ => pe_tup (pa_cons (pe_op op_sub (pe_call G3 (hr.mono (by decide)) rfl m3 k3 b3 .nil pass0 (pa_cons (pv 0) (pa_cons (pe_int) pa_nil))) pe_int) (pa_cons ((pe_call G5 (hr.mono (by decide)) rfl m5 k5 b5 .nil pass0 (pa_cons (pv 0) (pa_cons (pe_lst (pa_cons (pe_int) (pa_cons (pe_op op_pow pe_int pe_int) (pa_cons (pe_un un_neg (pe_op op_pow pe_int pe_int)) pa_nil)))) pa_nil)))) pa_nil))))) (pss_cons ((ps_set (i := 9) nd rfl (Or.inl rfl) ((pe_meth (E := E0) (pv 2) cA Mq Gq (hr.mono (by decide)) bq .nil passL (pa_cons ((pe_lc (own := [("_law_place", 12)]) (g := gName 12) (tt := tYes) rfl nd (pi_list (pv 8)) (blkOk_by (N := nPR) (sc := defScope sPR) (by decide +kernel)) (fun _ _ _ _ _ => (pg_name (i := 12) nd rfl (Or.inl rfl))) (fun _ _ _ _ _ => pts_nil) (fun _ _ _ _ _ => (pe_callTy (T := "list") (r := rLi K) call_liK (by rfl) B.list (by decide +kernel) (pa_cons (pv 12) pa_nil))))) pa_nil))))) (pss_cons (ps_if (pt_not (pt_val (pe_call G4 (hr.mono (by decide)) rfl m4 k4 b4 .nil pass0 (pa_cons (pv 9) (pa_cons (pe_lc (own := [("_law_places_here", 10), ("_law_place", 12)]) (g := gTup K 2 (gCons (gName 10) (gCons (gName 12) gNil))) (tt := tYes) rfl nd (pi_zip rfl hzip (pa_cons (pv 1) (pa_cons (pv 8) pa_nil))) (blkOk_by (N := nPR) (sc := defScope sPR) (by decide +kernel)) (fun _ _ _ _ _ => pg_tup rfl (pgs_cons ((pg_name (i := 10) nd rfl (Or.inl rfl))) (pgs_cons ((pg_name (i := 12) nd rfl (Or.inl rfl))) pgs_nil))) (fun _ _ _ _ _ => pts_nil) (fun _ _ _ _ _ => pe_op op_cat (pv 10) (pe_lst (pa_cons (pv 12) pa_nil)))) pa_nil))))) (pss_one (ps_ret pe_bl)) pss_nil) (pss_one (ps_if (PW.pt (pw_or (pt_cmpR (op_neI GQ hsQ hfQ bQ TA.n.ne TA.t.pc.hm (hr.mono (by decide))) (pe_methK0 (E := E0) (pv 2) cA Mq Gq (hr.mono (by decide)) kq passL (pk_cons ((pe_callTy (T := "tuple") (r := rTu K) call_tuK (by rfl) B.tuple (by decide +kernel) (pa_cons (pv 8) pa_nil))) pk_nil)) (pv 9) (nomark _)) (pw_or1 (pt_cmpR (op_neI GQ hsQ hfQ bQ TA.n.ne TA.t.pc.hm (hr.mono (by decide))) (pe_meth (E := E0) (pv 9) cA Mo Go (hr.mono (by decide)) bo .nil passL (pa_cons (pv 3) pa_nil)) (pv 2) (nomark _))))) (pss_one (ps_ret pe_bl)) pss_nil))))) pss_nil) (pss_one (ps_ret (pe_call G4 (hr.mono (by decide)) rfl m4 k4 b4 .nil pass0 (pa_cons (pv 2) (pa_cons (pv 1) pa_nil))))))))))), ?_⟩
    obtain ⟨p0, pz, rfl⟩ : ∃ p0 pz, pss = p0 :: pz := by
      cases pss with
      | nil => exact absurd rfl hne
      | cons a b => exact ⟨a, b, rfl⟩
    have la := td.len
    have lk := (tk p0 List.mem_cons_self).1
    refine ⟨_, rfl, D, as, _, rfl, td, tk.ok, Nat.le_trans h8 (by decide), fun H1 R cs s1 nR pl => ?_⟩
    refine ⟨.ref R, rfl, mkA_of (.inl pl.1) pl.2 tk.eqn hne h8 fun A2 H2 s2 nA al => ?_⟩
    have s12 := s1.trans s2
    have td2 := td.same s12
    have v2 := hv.same s12
    obtain ⟨a0, ea0, ts0, lp0⟩ := td2.at (i := 0) (ps := p0) rfl
    refine ⟨_, rfl, D, _, 0, .ref a0, rfl, rfl, SqL.of td2.1, atI_nat (j := 0) ea0, a0, _, rfl, .inl (SqL.of lp0.1), ?_⟩
    rw [List.length_map, lp0.len, lk]
    refine ⟨_, _, rfl, ?_⟩
    refine ⟨_, rfl, _, rfl, p, k, n, rfl, v2, by omega, by omega, by omega, fun H3 d s3 v3 d0 d1 => ?_⟩
    obtain ⟨d, rfl⟩ := Int.eq_ofNat_of_zero_le d0
    refine ⟨_, rfl, _, rfl, p, n + 1, k, rfl, v3, by omega, k7, fun H4 O1 ns s4 v4 nO a0' gO pm => ?_⟩
    have od := ord_perm pm
    have s34 := s3.trans s4
    have al4 := al.sb v2 s34
    have td4 := td2.sb v2 s34
    have s04 := (SB.of s12).trans s34
    refine ⟨by show 2 ≤ sizeLine; decide, fun t5 nt5 => ?_⟩
    have w5 := same_new (o := .tup [V.int (d : Nat), V.ref O1]) nt5
    refine ⟨t5, _, rfl, SqT.of upd_same, rfl, _, _, rfl, _, _, rfl, rfl, ?_⟩
    have al5 := al4.same w5
    have td5 := td4.same w5
    have v5 := v4.same w5
    have gO5 := w5 _ _ gO
    have s05 := s04.trans (SB.of w5)
    generalize upd H4 t5 (.tup [V.int (d : Nat), V.ref O1]) = H5 at w5 al5 td5 v5 gO5 s05 ⊢
    refine ⟨_, rfl, meth_inA al5 (fun _ _ _ => rfl) ⟨_, rfl, ia_in al5 tk hne h8 k7 od (.inl gO5) fun ds6 A6 H6 s6 nA6 al6 => ?_⟩⟩
    have td6 := td5.same s6
    have gO6 := s6 _ _ gO5
    have tkp : Tok k ((p0 :: pz).map fun ps => pick ps ns) := tok_map tk fun ps _ e ok => ⟨by rw [pick_len, od.len], ord_ok (by rw [e]; exact od) ok⟩
    refine ⟨_, rfl, _, rfl, D, rfl, ⟨_, SqL.of td6.1⟩, fun D2 hD2 => ?_⟩
    refine lc_list (K := K) (a := D) (xs := as.map V.ref) (fun i H' => Same H6 H' ∧ ∃ bs : List Addr, H' D2 = some (.lst (bs.map V.ref)) ∧ Paired (LPx H') bs (((p0 :: pz).take i).map fun ps => pick ps ns) ∧ D2 ∉ bs) ⟨same_new hD2, [], upd_same, .nil, List.not_mem_nil⟩ (fun i H' _ p => SqL.of (p.1 _ _ td6.1)) (fun i x H' hx p => ?_) (fun H7 p7 => ?_)
    · obtain ⟨w1, bs, gD, lps, nm⟩ := p
      obtain ⟨ai, ps, _, rfl, eps, ts, lp⟩ := td6.mem hx
      have lp1 := lp.same w1
      have lps1 := (tk ps (List.mem_of_getElem? eps)).1
      refine ⟨rfl, yes_of ?_⟩
      refine ⟨_, rfl, O1, rfl, ⟨_, SqL.of (w1 _ _ gO6)⟩, fun R2 hR2 => ?_⟩
      refine lc_list (K := K) (a := O1) (xs := nV ns) (fun j => At H' R2 (((tsel ts ns).take j).map V.ref)) ⟨same_new hR2, upd_same⟩ (fun j H2 _ p => SqL.of (p.1 _ _ (w1 _ _ gO6))) (fun j y H2 hy p => ?_) (fun H2 p => ?_)
      · obtain ⟨m, em, rfl⟩ := nV_get hy
        have hm : m < ts.length := by
          rw [lp1.len, lps1]
          exact od.lt m (List.mem_of_getElem? em)
        have eg : (tsel ts ns)[j]? = some (ts.getD m 0) := by
          unfold tsel
          rw [List.getElem?_map, em]
          rfl
        refine ⟨rfl, yes_of ?_⟩
        refine ⟨_, rfl, _, rfl, ai, _, _, .ref (ts.getD m 0), rfl, rfl, SqL.of (p.1 _ _ lp1.1), ?_, _, p.2, ?_, p.step hR2 Same.me ?_⟩
        · refine atI_nat ?_
          rw [List.getElem?_map, List.getD_eq_getElem?_getD, List.getElem?_eq_getElem hm]
          rfl
        · rw [List.length_map]
          exact small1000 (Nat.le_trans (List.length_take_le' _ _) (by unfold tsel; rw [List.length_map, od.len]; omega))
        · rw [take_more eg, List.map_append]
          rfl
      · have el : (nV ns).length = (tsel ts ns).length := by
          unfold tsel
          rw [nV_len, List.length_map]
        rw [el, List.take_length] at p
        exact told_step (f := fun ps => pick ps ns) hD2 w1 gD lps nm h8 eps p.1 (ne_of_none gD hR2).symm ⟨_, p.2, pick_prs lp1.2 (by rw [lps1]; exact od.lt) fun g q z => p.1 _ _ z⟩
    obtain ⟨w7, bs7, gD7, lps7, _⟩ := p7
    rw [List.length_map, la, List.take_length] at lps7
    refine ⟨A6, D2, _, _, _, rfl, al6.same w7, ⟨gD7, lps7⟩, tkp.ok, by simp, by rw [List.length_map]; exact h8, fun H8 s8 => ⟨_, rfl, iteF ?_⟩⟩
    have t8 := s6.trans (w7.trans s8)
    refine ⟨_, rfl, meth_inA (al5.same t8) (fun _ _ _ => rfl) ⟨_, rfl, O1, _, rfl, .inl ⟨SqL.of (t8 _ _ gO5), fun tt ntt => ?_⟩⟩⟩
    have w9 := same_new (o := .tup (nV ns)) ntt
    have gt : upd H8 tt (.tup (nV ns)) tt = some (.tup (nV ns)) := upd_same
    generalize upd H8 tt (.tup (nV ns)) = H9 at w9 gt ⊢
    have t9 := t8.trans w9
    refine ⟨rfl, ia_in (al5.same t9) tk hne h8 k7 od (.inr gt) fun ds10 A10 H10 s10 nA10 al10 => ?_⟩
    have t10 := t9.trans s10
    refine ⟨_, rfl, neA_in TA.t al10 (((al6.same w7).same s8).same (w9.trans s10)) ⟨_, rfl, ?_⟩⟩
    rw [show (!decide (((p0 :: pz).map fun ps => pick ps ns) = (p0 :: pz).map fun ps => pick ps ns)) = false by simp]
    refine iteF ?_
    have al10 := al5.same t10
    have td10 := td5.same t10
    have v10 := v5.same t10
    rw [tNext_eq]
    dsimp only
    refine if_join (P := fun σ' H' => Same H10 H' ∧ ∃ c7, σ' = [some (.ref p), some (.ref D), some (.ref A2), some (.int k), some (.int (d : Nat)), some (.ref O1), some (.ref A6), c7, none, none, none, none, none]) (fun σ' H11 h11 => ?_) (fun rest => ?_)
    · obtain ⟨w11, c7, rfl⟩ := h11
      have al11 := al10.same w11
      have td11 := td10.same w11
      have v11 := v10.same w11
      have s011 := s05.trans (SB.of (t10.trans w11))
      have eG : G9 = 1000000000 := rfl
      refine if_join (P := fun σ' H' => SB p H11 H' ∧ Lens H' p (n + 30) ∧ AlbF H' CA C A2 cs (p0 :: pz) ∧ Told H' D as (p0 :: pz) ∧ ∃ c8 c9, σ' = [some (.ref p), some (.ref D), some (.ref A2), some (.int k), some (.int (d : Nat)), some (.ref O1), some (.ref A6), c7, c8, c9, none, none, none]) (fun σ' H12 h12 => ?_) (fun rest => ?_)
      · obtain ⟨s12', v12, al12, td12, c8, c9, rfl⟩ := h12
        exact ⟨_, rfl, _, rfl, A2, D, _, _, _, rfl, al12, td12, tk.ok, hne, h8, fun H13 s13 => q _ ((s011.trans s12').trans (SB.of s13)) (v12.same s13)⟩
      · refine ⟨_, rfl, _, _, rfl, rfl, _, rfl, ?_⟩
        by_cases h7 : k < 7
        · rw [decide_eq_true (show (k : Int) < 7 by omega)]
          refine iteT ⟨_, rfl, D, rfl, ⟨_, SqL.of td11.1⟩, fun D3 hD3 => ?_⟩
          have nD3 := v11.not_none hD3
          refine lc_list (K := K) (a := D) (xs := as.map V.ref) (fun i H' => SB p H11 H' ∧ Lens H' p (n + 1 + k + 2 * i) ∧ ∃ ts qs, qs.length = i ∧ LP H' D3 ts qs ∧ InB G9 qs) (let ⟨a, b, ts, qs, c, d, e⟩ := gw_nil (B := G9) (n := n + 1 + k) (m := 2) v11 hD3; ⟨a, b, ts, qs, c, d, e⟩) (fun i H' _ p => SqL.of (td11.sb v11 p.1).1) (fun i x H' hx p' => ?_) (fun H12 p12 => ?_)
          · obtain ⟨s, v, ts, qs, l', lp, b9⟩ := p'
            have hi : i < (p0 :: pz).length := by
              have := (List.getElem?_eq_some_iff.mp hx).1
              rw [List.length_map, la] at this
              exact this
            refine ⟨rfl, yes_of ?_⟩
            refine ⟨_, rfl, p, 9, _, rfl, v, by omega, by decide, by decide, fun Ha x1 sa va x0 x9 => ⟨_, _, rfl, rfl, ?_⟩⟩
            have e9 : (10 : Int) ^ (Int.toNat 9) = 1000000000 := by decide
            refine ⟨_, rfl, _, _, rfl, rfl, ⟨by decide, by decide, by decide⟩, _, _, rfl, rfl, ⟨by decide, by decide, by decide⟩, _, rfl, by show 3 ≤ sizeLine; decide, fun l nl => ?_⟩
            have sl := same_new (o := .lst [V.int 0, V.int ((10 : Int) ^ (Int.toNat 9)), V.int (-((10 : Int) ^ (Int.toNat 9)))]) nl
            refine ⟨p, l, _, _, rfl, va.same sl, by omega, upd_same, va.not_none nl, by show 0 < 3; decide, by show 3 ≤ 1000; decide, fun Hb y sb vb hy => ?_⟩
            obtain ⟨b, rfl, b1, b2⟩ : ∃ b : Int, y = .int b ∧ -1000000000 ≤ b ∧ b ≤ 1000000000 := by
              simp only [List.mem_cons, List.not_mem_nil, or_false] at hy
              rcases hy with rfl | rfl | rfl
              · exact ⟨0, rfl, by decide, by decide⟩
              · exact ⟨_, rfl, by rw [e9]; decide, by rw [e9]; decide⟩
              · exact ⟨_, rfl, by rw [e9]; decide, by rw [e9]; decide⟩
            refine ⟨by show 2 ≤ sizeLine; decide, fun g ng => ?_⟩
            have sg := same_new (o := .tup [V.int (x1 - 4), V.int b]) ng
            have lpg := lp.sb v nD3 ((sa.trans (SB.of sl)).trans (sb.trans (SB.of sg)))
            have sab : SB p H11 (upd Hb g (.tup [V.int (x1 - 4), V.int b])) := s.trans ((sa.trans (SB.of sl)).trans (sb.trans (SB.of sg)))
            exact ⟨_, lpg.1, by rw [List.length_map, lpg.len, l']; exact small1000 (by omega), sab.upd v11 hD3, ((vb.same sg).upd v11 sab hD3).le (by omega), ts ++ [g], qs ++ [(x1 - 4, b)], by rw [List.length_append, l']; rfl, lpg.snoc (q := (x1 - 4, b)) upd_same, b9.snoc (by omega) (by omega) (by omega) (by omega)⟩
          obtain ⟨s12', v12, ts, qs, lq, lp, b9⟩ := p12
          rw [List.length_map, la] at lq v12
          have al12 := al11.sb v11 s12'
          have td12 := td11.sb v11 s12'
          refine ⟨_, rfl, meth_inA al12 (fun _ _ _ => rfl) ⟨_, rfl, D3, rfl, ⟨_, SqL.of lp.1⟩, fun D4 hD4 => ?_⟩⟩
          refine lc_list (K := K) (a := D3) (xs := ts.map V.ref) (fun i H' => Same H12 H' ∧ ∃ bs : List Addr, H' D4 = some (.lst (bs.map V.ref)) ∧ Paired (Lr H') bs (qs.take i) ∧ D4 ∉ bs) ⟨same_new hD4, [], upd_same, .nil, List.not_mem_nil⟩ (fun i H' _ p => SqL.of (p.1 _ _ lp.1)) (fun i x H' hx p => ?_) (fun H13 p13 => ?_)
          · obtain ⟨w1, bs, gD, lrs, nm⟩ := p
            rw [List.getElem?_map] at hx
            cases eg : ts[i]? with
            | none => rw [eg] at hx; cases hx
            | some g =>
              rw [eg] at hx
              obtain rfl := (Option.some.inj hx).symm
              obtain ⟨q', eq', hg⟩ := paired_get lp.2 eg
              have hg : H12 g = some (.tup [.int q'.1, .int q'.2]) := hg
              refine ⟨rfl, yes_of ?_⟩
              refine ⟨_, rfl, g, _, rfl, .inr (SqT.of (w1 _ _ hg)), fun l nl => ?_⟩
              have w2 := same_new (o := .lst [V.int q'.1, V.int q'.2]) nl
              have g2 := w2 _ _ gD
              have nl' : l ≠ D4 := (ne_of_none gD nl).symm
              have hl : Lr (upd H' l (.lst [V.int q'.1, V.int q'.2])) l q' := upd_same
              have lrs2 : Paired (Lr (upd H' l (.lst [V.int q'.1, V.int q'.2]))) bs (qs.take i) := paired_mono lrs fun _ _ z => w2 _ _ z
              refine ⟨_, g2, ?_, fun b o e => ?_, bs ++ [l], by rw [upd_same, List.map_append]; rfl, ?_, fun hm => ?_⟩
              · rw [List.length_map, Paired.length lrs]
                exact small1000 (Nat.le_trans (List.length_take_le' _ _) (by omega))
              · rw [upd_ne (ne_of_none e hD4)]
                exact w2 _ _ (w1 _ _ e)
              · rw [take_more eq']
                exact paired_snoc (lrs_upd nm lrs2) (hl.upd nl')
              · rcases List.mem_append.mp hm with z | z
                · exact nm z
                · exact nl' (List.mem_singleton.mp z).symm
          obtain ⟨w13, bs13, gD13, lr13, _⟩ := p13
          rw [List.length_map, lp.len, List.take_length] at lr13
          refine wq_in (al12.same w13) tk hne h8 h7 (.ll gD13 lr13) b9 lq fun ds14 A14 H14 s14 nA14 al14 => ?_
          have t14 := w13.trans s14
          have td14 := td12.same t14
          have lp14 := lp.same t14
          have lz := zipP_len (pss := p0 :: pz) lq
          have tkz : Tok (k + 1) (zipP (p0 :: pz) qs) := fun rs hr => by
            refine ⟨zipP_eqn tk.eqn rs hr, ?_⟩
            obtain ⟨i, hi⟩ := List.mem_iff_getElem?.mp hr
            unfold zipP at hi
            rw [List.getElem?_zipWith] at hi
            cases e1 : (p0 :: pz)[i]? with
            | none => rw [e1] at hi; cases hi
            | some ps =>
              cases e2 : qs[i]? with
              | none => rw [e1, e2] at hi; cases hi
              | some q' =>
                rw [e1, e2] at hi
                have e3 := Option.some.inj hi
                subst e3
                obtain ⟨j1, j2⟩ := tk ps (List.mem_of_getElem? e1)
                refine ⟨by rw [List.length_append]; show 4 ≤ ps.length + 1; omega, by rw [List.length_append]; show ps.length + 1 ≤ 7; omega, fun q'' hq => ?_⟩
                rcases List.mem_append.mp hq with z | z
                · exact j2.2.2 q'' z
                · rw [List.mem_singleton.mp z]
                  exact b9 _ (List.mem_of_getElem? e2)
          have nez : zipP (p0 :: pz) qs ≠ [] := fun z => by
            rw [z] at lz
            cases lz
          have h8z : (zipP (p0 :: pz) qs).length ≤ 8 := by rw [lz]; exact h8
          refine ⟨_, rfl, _, rfl, _, rfl, D, D3, _, _, rfl, SqL.of td14.1, SqL.of lp14.1, fun D5 hD5 => ?_⟩
          refine lc_it (walk_zip (K := K) (a := D) (b := D3) (xs := as.map V.ref) (ys := ts.map V.ref) (n := (p0 :: pz).length) (by rw [List.length_map, List.length_map, la, lp.len, lq, Nat.min_self])) (fun i H' => Same H14 H' ∧ ∃ bs : List Addr, H' D5 = some (.lst (bs.map V.ref)) ∧ Paired (LPx H') bs (((zipP (p0 :: pz) qs).take i).map id) ∧ D5 ∉ bs) ⟨same_new hD5, [], upd_same, .nil, List.not_mem_nil⟩ (fun i H' _ p => ⟨SqL.of (p.1 _ _ td14.1), SqL.of (p.1 _ _ lp14.1)⟩) (fun i z H' H2 hi p y => ?_) (fun H15 p15 => ?_)
          · obtain ⟨w1, bs, gD, lps, nm⟩ := p
            obtain ⟨T', x', y', rfl, nT, rfl, ex, ey⟩ := y
            obtain ⟨ai, ps, _, rfl, eps, ts', lpi⟩ := td14.mem ex
            dsimp only at ey
            rw [List.getElem?_map] at ey
            cases eg : ts[i]? with
            | none => rw [eg] at ey; cases ey
            | some g =>
              rw [eg] at ey
              obtain rfl := (Option.some.inj ey).symm
              obtain ⟨q', eq', hg⟩ := paired_get lp14.2 eg
              have wT := same_new (o := .tup [V.ref ai, V.ref g]) nT
              refine ⟨T', _, rfl, SqT.of upd_same, rfl, _, _, rfl, _, _, rfl, rfl, ?_⟩
              refine ⟨rfl, yes_of ?_⟩
              have gDT := wT _ _ gD
              generalize upd H' T' (.tup [V.ref ai, V.ref g]) = Ha at wT gDT ⊢
              refine ⟨_, rfl, _, rfl, by show 1 ≤ sizeLine; decide, fun l nl => ?_⟩
              have wl := same_new (o := .lst [V.ref g]) nl
              have gl : upd Ha l (.lst [V.ref g]) l = some (.lst ([g].map V.ref)) := upd_same
              have gDl := wl _ _ gDT
              generalize upd Ha l (.lst [V.ref g]) = Hb at wl gl gDl ⊢
              have lpb := lpi.same (w1.trans (wT.trans wl))
              have okp := (tk ps (List.mem_of_getElem? eps)).2
              refine ⟨ai, l, _, _, rfl, rfl, lpb.1, gl, by rw [List.length_map, lpb.len]; have := okp.2.1; exact Nat.le_of_lt (small1000 (by show ps.length + 1 ≤ 1000; omega)), fun r nr => ?_⟩
              have wr := same_new (o := .lst (ts'.map V.ref ++ [g].map V.ref)) nr
              have gr : upd Hb r (.lst (ts'.map V.ref ++ [g].map V.ref)) r = some (.lst ((ts' ++ [g]).map V.ref)) := by rw [upd_same, List.map_append]
              have nrD : r ≠ D5 := (ne_of_none gDl nr).symm
              generalize upd Hb r (.lst (ts'.map V.ref ++ [g].map V.ref)) = Hc at wr gr ⊢
              have wall := wT.trans (wl.trans wr)
              exact told_step (f := id) (pss := zipP (p0 :: pz) qs) hD5 w1 gD lps nm h8z (zipP_at eps eq') wall nrD ⟨_, gr, paired_snoc (paired_mono lpb.2 fun _ _ z => wr _ _ z) (wall _ _ (w1 _ _ hg))⟩
          obtain ⟨w15, bs15, gD15, lps15, _⟩ := p15
          rw [← lz, List.take_length, List.map_id] at lps15
          refine ⟨A14, D5, _, _, _, rfl, al14.same w15, ⟨gD15, lps15⟩, tkz.ok, nez, h8z, fun H16 s16 => ⟨_, rfl, iteF ?_⟩⟩
          have t16 := t14.trans (w15.trans s16)
          have al16 := (al14.same w15).same s16
          refine ⟨_, rfl, meth_inA (al12.same t16) (fun _ _ _ => rfl) ⟨_, rfl, D3, _, rfl, .inl ⟨SqL.of (t16 _ _ lp.1), fun tt ntt => ?_⟩⟩⟩
          have w17 := same_new (o := .tup (ts.map V.ref)) ntt
          have gt17 : upd H16 tt (.tup (ts.map V.ref)) tt = some (.tup (ts.map V.ref)) := upd_same
          generalize upd H16 tt (.tup (ts.map V.ref)) = H17 at w17 gt17 ⊢
          have t17 := t16.trans w17
          refine ⟨rfl, wq_in (al12.same t17) tk hne h8 h7 (.tt gt17 (paired_mono lp.2 fun _ _ z => t17 _ _ z)) b9 lq fun ds18 A18 H18 s18 nA18 al18 => ?_⟩
          have t18 := t17.trans s18
          have al18' := al16.same (w17.trans s18)
          refine ⟨_, rfl, neA_in TA.t al18 al18' ⟨_, rfl, ?_⟩⟩
          rw [show (!decide (zipP (p0 :: pz) qs = zipP (p0 :: pz) qs)) = false by simp]
          refine iteF ⟨_, rfl, meth_inA al18' (fun _ _ _ => rfl) ⟨_, rfl, wo_inA (m := k) (k := k + 1) al18' tkz nez h8z (Nat.lt_succ_self k) (by omega) fun ds19 A19 H19 s19 nA19 al19 => ?_⟩⟩
          have t19 := t18.trans s19
          rw [zip_back tk.eqn lq] at al19
          refine ⟨_, rfl, neA_in TA.t al19 (al12.same t19) ⟨_, rfl, ?_⟩⟩
          rw [show (!decide ((p0 :: pz) = (p0 :: pz))) = false by simp]
          exact iteF (rest _ _ ⟨s12'.trans (SB.of t19), (v12.same t19).le (by omega), al12.same t19, td12.same t19, _, _, rfl⟩)
        · rw [decide_eq_false (show ¬ (k : Int) < 7 by omega)]
          exact iteF (rest _ _ ⟨SB.refl _ _, v11.le (by omega), al11, td11, _, _, rfl⟩)
    · refine ⟨_, rfl, _, _, rfl, rfl, _, rfl, ?_⟩
      by_cases h4 : 4 < k
      · rw [decide_eq_true (show (4 : Int) < (k : Int) by omega)]
        have hd : d < k := by omega
        have tkd : Tok (k - 1) ((p0 :: pz).map fun ps => ps.take d ++ ps.drop (d + 1)) := tok_map tk fun ps _ e ok => ⟨by rw [List.length_append, List.length_take, List.length_drop]; omega, by rw [List.length_append, List.length_take, List.length_drop]; omega, by rw [List.length_append, List.length_take, List.length_drop]; omega, fun q hq => ok.2.2 q ((List.mem_append.mp hq).elim List.mem_of_mem_take List.mem_of_mem_drop)⟩
        refine iteT ⟨_, rfl, meth_inA al10 (fun _ _ _ => rfl) ⟨_, rfl, wo_inA (m := d) al10 tk hne h8 hd h4 fun ds12 A12 H12 s12' nA12 al12 => ?_⟩⟩
        have td12 := td10.same s12'
        refine ⟨_, rfl, _, rfl, D, rfl, ⟨_, SqL.of td12.1⟩, fun D3 hD3 => ?_⟩
        refine lc_list (K := K) (a := D) (xs := as.map V.ref) (fun i H' => Same H12 H' ∧ ∃ bs : List Addr, H' D3 = some (.lst (bs.map V.ref)) ∧ Paired (LPx H') bs (((p0 :: pz).take i).map fun ps => ps.take d ++ ps.drop (d + 1)) ∧ D3 ∉ bs) ⟨same_new hD3, [], upd_same, .nil, List.not_mem_nil⟩ (fun i H' _ p => SqL.of (p.1 _ _ td12.1)) (fun i x H' hx p => ?_) (fun H13 p13 => ?_)
        · obtain ⟨w1, bs, gD, lps, nm⟩ := p
          obtain ⟨ai, ps, _, rfl, eps, ts, lp⟩ := td12.mem hx
          have lp1 := lp.same w1
          have lps1 := (tk ps (List.mem_of_getElem? eps)).1
          have lts : (ts.map V.ref).length = k := by rw [List.length_map, lp1.len, lps1]
          refine ⟨rfl, yes_of ?_⟩
          refine ⟨_, rfl, _, rfl, _, rfl, ai, _, rfl, SqL.of lp1.1, fun c1 nc1 => ?_⟩
          rw [cut_to (by rw [lts]; omega)]
          have u1 := same_new (o := .lst ((ts.map V.ref).take d)) nc1
          have g1 : upd H' c1 (.lst ((ts.map V.ref).take d)) c1 = some (.lst ((ts.map V.ref).take d)) := upd_same
          generalize upd H' c1 (.lst ((ts.map V.ref).take d)) = Ha at u1 g1 ⊢
          refine ⟨_, rfl, _, rfl, _, _, rfl, rfl, _, rfl, ai, _, rfl, SqL.of (u1 _ _ lp1.1), fun c2 nc2 => ?_⟩
          have ec : cutV (ts.map V.ref) (some ((d : Int) + 1)) none = (ts.map V.ref).drop (d + 1) := cut_from (k := d + 1) (by rw [lts]; omega)
          rw [ec]
          have u2 := same_new (o := .lst ((ts.map V.ref).drop (d + 1))) nc2
          have g2 : upd Ha c2 (.lst ((ts.map V.ref).drop (d + 1))) c2 = some (.lst ((ts.map V.ref).drop (d + 1))) := upd_same
          generalize upd Ha c2 (.lst ((ts.map V.ref).drop (d + 1))) = Hb at u2 g2 ⊢
          refine ⟨c1, c2, _, _, rfl, rfl, u2 _ _ g1, g2, by rw [List.length_take, List.length_drop, lts]; exact Nat.le_of_lt (small1000 (by omega)), fun g ng => ?_⟩
          have u3 := same_new (o := .lst ((ts.map V.ref).take d ++ (ts.map V.ref).drop (d + 1))) ng
          have g3 : upd Hb g (.lst ((ts.map V.ref).take d ++ (ts.map V.ref).drop (d + 1))) g = some (.lst ((ts.take d ++ ts.drop (d + 1)).map V.ref)) := by rw [upd_same, List.map_append, List.map_take, List.map_drop]
          have gDb := u2 _ _ (u1 _ _ gD)
          generalize upd Hb g (.lst ((ts.map V.ref).take d ++ (ts.map V.ref).drop (d + 1))) = Hc at u3 g3 ⊢
          have u03 := u1.trans (u2.trans u3)
          exact told_step (f := fun ps => ps.take d ++ ps.drop (d + 1)) hD3 w1 gD lps nm h8 eps u03 (ne_of_none gDb ng).symm ⟨_, g3, paired_mono (paired_app (paired_take lp1.2 d).1 (paired_take lp1.2 (d + 1)).2) fun _ _ z => u03 _ _ z⟩
        obtain ⟨w13, bs13, gD13, lps13, _⟩ := p13
        rw [List.length_map, la, List.take_length] at lps13
        refine ⟨A12, D3, _, _, _, rfl, al12.same w13, ⟨gD13, lps13⟩, tkd.ok, by simp, by rw [List.length_map]; exact h8, fun H14 s14 => ⟨_, rfl, iteF ?_⟩⟩
        have t14 := s12'.trans (w13.trans s14)
        refine ⟨_, rfl, meth_inA (al10.same t14) (fun _ _ _ => rfl) ⟨_, rfl, rfl, wo_inA (m := d) (al10.same t14) tk hne h8 hd h4 fun ds15 A15 H15 s15 nA15 al15 => ?_⟩⟩
        refine ⟨_, rfl, neA_in TA.t al15 (((al12.same w13).same s14).same s15) ⟨_, rfl, ?_⟩⟩
        rw [show (!decide (((p0 :: pz).map fun ps => ps.take d ++ ps.drop (d + 1)) = (p0 :: pz).map fun ps => ps.take d ++ ps.drop (d + 1))) = false by simp]
        exact iteF (rest _ _ ⟨t14.trans s15, _, rfl⟩)
      · rw [decide_eq_false (show ¬ (4 : Int) < (k : Int) by omega)]
        exact iteF (rest _ _ ⟨Same.me, _, rfl⟩)
end
end K14

namespace GG
open PySem PySem.Spec PyProof.Rows L2 LamX NdefX
/-! ### a lambda with parameters, kept as a value -/
/-- f is the lambda of F's words, its body e -/
def LamO (f : Addr) (F : NF) (e : Expr) : HO := .ext fun h => ∃ u v : Value, h.get? f = some (PySem.W.kla_obj "<lambda>" F.qual F.params e F.scope F.cl u F.c v)
theorem lamO_at {P : Program} {w : World} {H : Hp} {h : Heap} {f : Addr} {F : NF} {e : Expr} (hok : HOk P w H h) (z : H f = some (LamO f F e)) : ∃ u v : Value, h.get? f = some (PySem.W.kla_obj "<lambda>" F.qual F.params e F.scope F.cl u F.c v) := (hok f _ z).1
theorem lamO_no {f : Addr} {F : NF} {e : Expr} {o : HO} (h : ∀ φ, o ≠ .ext φ) : LamO f F e ≠ o := fun z => h _ z.symm
/-- the words of such a lambda -/
abbrev lamF (X : Cx) (ar : Arguments) (sc : Scope) (c' : Addr) : NF := ⟨"<lambda>", X.env.qual ++ "<lambda>", ar, [], sc, cloFrom X.env.cells sc.names [], c'⟩
abbrev tbUp (H : Hp) (P c' : Addr) (ps : Array Value) (z : Pos) (q : Str) : Hp := upd (upd H P (.tbl (ps ++ #[rawInt z.line, rawInt z.col, .ref c']))) c' (CodeO c' q)
section
variable {T : List (Addr × Str)} {H : Hp} {P c' : Addr} {q : Str} {ps : Array Value} {z : Pos}
theorem ext_more (hP : H P = some (.tbl ps)) (nC : H c' = none) : ExtN H (tbUp H P c' ps z q) := fun b o e n => by
  have n1 : b ≠ c' := ne_of_none e nC
  have n2 : b ≠ P := fun y => n ps (by rw [y, hP] at e; exact (Option.some.inj e).symm)
  show upd (upd H P _) c' _ b = _
  rw [upd_ne n1, upd_ne n2, e]
theorem tabs_more (hT : Tabs T H) (hP : H P = some (.tbl ps)) (nC : H c' = none) (hu : ∀ p ∈ T, p.1 = P → p.2 = q) : Tabs T (tbUp H P c' ps z q) := by
  intro p hp
  have st := ext_more (z := z) (q := q) hP nC
  have nPc : P ≠ c' := ne_of_none hP nC
  obtain ⟨qs, g1, g2, g3⟩ := hT p hp
  by_cases y : p.1 = P
  · rw [y, hP] at g1
    cases g1
    have eL : (ps ++ #[rawInt z.line, rawInt z.col, Value.ref c']).toList = ps.toList ++ [rawInt z.line, rawInt z.col, Value.ref c'] := by simp
    refine ⟨_, by rw [y]; exact (upd_ne nPc).trans upd_same, by rw [eL]; exact PySem.TriplesOk_snoc _ _ _ _ g2, fun pos cv hcv => ?_⟩
    rw [eL] at hcv
    refine (among_app _ g2 hcv).elim (fun k => ?_) fun k => ⟨c', k, by rw [hu p hp y]; exact upd_same⟩
    obtain ⟨c0, e1, e2⟩ := g3 pos cv k
    exact ⟨c0, e1, st _ _ e2 codeO_ne⟩
  · refine ⟨qs, (upd_ne (ne_of_none g1 nC)).trans ((upd_ne y).trans g1), g2, fun pos cv hcv => ?_⟩
    obtain ⟨c0, e1, e2⟩ := g3 pos cv hcv
    exact ⟨c0, e1, st _ _ e2 codeO_ne⟩
end
section
variable {X : Cx} {pins : List (Addr × Obj)} {σ : L2.St} {H : Hp} {s : Shared}
/-- a lambda's object is laid behind all else -/
theorem inv_lam {F : NF} {e : Expr} {h : Heap} {t : Nat} {u v : Value} (I : Inv X pins σ H { s with heap := h, toks := t }) :
    Inv X pins σ (upd H h.objs.size (LamO h.objs.size F e)) { s with heap := h.push (PySem.W.kla_obj "<lambda>" F.qual F.params e F.scope F.cl u F.c v), toks := t } := by
  refine I.laid (a := h.objs.size) (fun b o z => Heap.get?_push_of_some _ z) (Nat.le_refl _) ?_
  have k : (h.push (PySem.W.kla_obj "<lambda>" F.qual F.params e F.scope F.cl u F.c v)).get? h.objs.size = some (PySem.W.kla_obj "<lambda>" F.qual F.params e F.scope F.cl u F.c v) := Heap.get?_push_size _ rfl
  exact ⟨⟨u, v, k⟩, ⟨_, k⟩, fun h1 h2 ⟨x, y, z⟩ st => ⟨x, y, st _ z⟩⟩
/-- the reading of a lambda that is kept -/
def tLamV (T : List (Addr × Str)) (mk : Addr → NF) (e : Expr) : TE := fun _ H Q => Tabs T H ∧ ∀ (f c' : Addr) (H1 : Hp), ExtN H H1 → Tabs T H1 → H f = none → H1 f = some (LamO f (mk c') e) → H1 c' = some (CodeO c' (mk c').qual) → Q (.ref f) H1
theorem pe_lamv {T : List (Addr × Str)} {c P : Addr} {ar : Arguments} {e : Expr} {sc : Scope} {z : Pos} (TB : TabB X.base X.mg c P) (hcode : X.env.code = .ref c) (hm : (P, X.env.qual ++ "<lambda>") ∈ T) (hu : ∀ p ∈ T, p.1 = P → p.2 = X.env.qual ++ "<lambda>")
    (hdef : defaultsOf ar X.env = ([], [])) (hfree : ∀ y ∈ sc.names, y.2 = .free → X.env.scope.names.lookup y.1 = some .cell ∨ X.env.scope.names.lookup y.1 = some .free) : PE X (.Lambda ar e sc z) (tLamV T (lamF X ar sc) e) := by
  refine ⟨fun pins s σ H Q I h => PySem.W.kla_eval hdef ?_⟩
  obtain ⟨hT, h⟩ := h
  have hf : ∀ y ∈ sc.names, y.2 = .free → ∃ c, X.env.cells.lookup y.1 = some c := fun y hy k => (hfree y hy k).elim (fun z => I.ok.has _ (.inl z)) fun z => I.ok.has _ (.inr z)
  obtain ⟨ps, hP, ht, ha⟩ := hT _ hm
  have bP : s.heap.BuiltinsAt X.mg P := TB.bm.keeps I.bk
  have gP : s.heap.get? P = some { cls := .none, data := .fields ps } := I.hok P _ hP
  cases hc : codeAmong z ps.toList with
  | some cv =>
    obtain ⟨c', k, hco⟩ := ha z cv hc
    subst k
    refine PySem.W.kla_makeFunctionHit (ps := ps) (mg := X.mg) (P := P) (c := c) (closure_ok hf) I.ok.glob (I.mod.glob.keeps I.bk) hcode (TB.code.keeps I.bk) gP ht hc bP fun v h' t hx hsz => ?_
    have I1 : Inv X pins σ H { s with heap := h', toks := t } := I.kept hx
    have nF : H h'.objs.size = none := I1.hok.fresh (Nat.le_refl _)
    have sm : ∀ b o, H b = some o → upd H h'.objs.size (LamO h'.objs.size (lamF X ar sc c') e) b = some o := fun b o k => by
      rw [upd_ne (ne_of_none k nF)]
      exact k
    exact ⟨.ref h'.objs.size, _, inv_lam (F := lamF X ar sc c') I1, rfl, h _ c' _ (ExtN.of sm) (hT.ext sm) nF upd_same (sm _ _ hco)⟩
  | none =>
    refine PySem.W.kla_makeFunction (ps := ps) (mg := X.mg) (P := P) (c := c) (closure_ok hf) I.ok.glob (I.mod.glob.keeps I.bk) hcode (TB.code.keeps I.bk) gP ht hc TB.gP bP fun c' v h' t hx hge hlt hrec htb => ?_
    obtain ⟨c2, oc, vs, tq, k, hoc, hd, hv⟩ := hrec
    cases k
    have I1 := inv_table (h' := h') (t' := t) (more := #[rawInt z.line, rawInt z.col, .ref c']) I hP (fun b o hb k => hx b o hb k) htb hge ⟨oc, vs, tq, hoc, hd, hv⟩
    have nC : H c' = none := I.hok.fresh hge
    have nF := I1.hok.fresh (a := h'.objs.size) (Nat.le_refl _)
    have sm : ∀ b o, tbUp H P c' ps z (X.env.qual ++ "<lambda>") b = some o → upd (tbUp H P c' ps z (X.env.qual ++ "<lambda>")) h'.objs.size (LamO h'.objs.size (lamF X ar sc c') e) b = some o := fun b o k => by
      rw [upd_ne (ne_of_none k nF)]
      exact k
    refine ⟨.ref h'.objs.size, _, inv_lam (F := lamF X ar sc c') I1, rfl, h _ c' _ ((ext_more hP nC).trans (ExtN.of sm)) ((tabs_more hT hP nC hu).ext sm) (I.hok.fresh (Nat.le_trans hge (Nat.le_of_lt hlt))) upd_same (sm _ _ upd_same)⟩
end
/-! ### it is called -/
theorem cells_un {cl : List (Str × Addr)} {fr : List Str} {ws : List (Option V)} {h h' : Heap} {H H' : Hp} {fs : List Addr} (C : CellsAt cl fr ws h H) (u : Un fs [] H H' h h') : CellsAt cl fr ws h' H' := by
  have kp : ∀ {c : Addr} {v : Option Value}, H c = none → h.IsCell c v → h'.IsCell c v ∧ H' c = none := fun {c v} n ⟨o, ho, hd⟩ => by
    obtain ⟨sl, k⟩ := u.any ho n (by simp)
    exact ⟨⟨_, k, hd⟩, u.free c o ho n (by simp)⟩
  refine ⟨C.len, fun y c e => ?_, C.inj, fun i y e => ?_⟩
  · obtain ⟨n, v, z⟩ := C.all y c e
    exact ⟨(kp n z).2, v, (kp n z).1⟩
  · obtain ⟨c, hc, hv⟩ := C.has i y e
    refine ⟨c, hc, fun v ev => ?_⟩
    obtain ⟨u, r, z⟩ := hv v ev
    exact ⟨u, r, (kp (C.all y c hc).1 z).1⟩
section
variable {CX : CXT} {P : Program} {w : World} {K : PySem.W.Frag} {mg : Str → Option Value} {base : Heap} {N ps fr : List Str} {F : NF} {e : Expr} {f : Addr} {tb : TE} {k : Nat} {A : Around} {outer : List Env} {s : Shared} {H : Hp} {us : List Value} {vs : List V} {ws : List (Option V)} {Q : VK} {E : XK}
theorem run_lam (S : NScope N ps fr F.scope) (hb : ∀ (u v : Value) (us : List Value), us.length = ps.length → bindArgs (PySem.W.kla_fn "<lambda>" F.qual F.params e F.scope F.cl u (.ref F.c) v) ⟨us, []⟩ = pure (ps.zip us)) (hr : Room (k + 1) A) (e0 : Env0 P w K mg base A outer s H)
    (hf : H f = some (LamO f F e)) (hc : H F.c = some (CodeO F.c F.qual)) (C : CellsAt F.cl fr ws s.heap H) (r : Vals vs us) (hl : vs.length = ps.length) (hbody : Room k (A.deeper (envF F f s.heap.objs.size)) → PE (ncx CX P w K mg base N F f A outer s H E) e tb) (q : tb (startF N vs ws) H Q) :
    codeAny (model P w) A (.call (.ref f) ⟨us, []⟩) (CR CX outer P w H s Q E) s := by
  obtain ⟨u, v, ho⟩ := lamO_at e0.hok hf
  have lim : s.heap.NoLimit := e0.mod.nolimit.keeps fun b o z => (e0.bs b o z).1
  refine PySem.W.kla_callFunE hr.depth ho rfl S.co S.gen rfl (codeO_at e0.hok hc) ?_
  rw [hb u v us (by rw [← r.length]; exact hl)]
  refine wpAny_pure (wpAny_newFunctionEnv S.nocell (fun ⟨n, _⟩ hy => S.par n (List.of_mem_zip hy).1) (fun h₁ hns hsb => ⟨lim.fresh _ hsb, ?_⟩) S.kind)
  have I : Inv (ncx CX P w K mg base N F f A outer s H E) [] (startF N vs ws) H { s with heap := h₁, toks := s.toks + (ps.zip us).length } := inv_startN S hr.hd e0 hl r C hns fun b o z => hsb.extBut b o (Nat.ne_of_lt (Heap.lt_size z)) (Heap.get?_push_of_some _ z)
  show codeAny (model P w) A (.expr e (envF F f s.heap.objs.size)) _ _
  refine PySem.W.kla_codeExpr (wpAny_mono ((hbody (hr.deeper _)).run [] _ _ H Q I q) (fun x s' hq => ?_) fun x s' hq => hq)
  obtain ⟨y, H', J, rv, q'⟩ := hq
  exact ⟨y, H', J.os, J.bare, J.base, J.hok, rv, q'⟩
end
/-- x(..), x a name that holds one of such lambdas; ws: what each has captured -/
def tCallV {ι : Type} (mk : ι → Addr → NF) (e : ι → Expr) (i : Nat) (N : ι → List Str) (n : Nat) (ws : List (Option V)) (tb : ι → TE) (t : TA) : TE := fun σ H Q => ∃ (b : ι) (f c' : Addr), σ[i]? = some (some (.ref f)) ∧ H f = some (LamO f (mk b c') (e b)) ∧ t σ H fun vs H1 => vs.length = n ∧ H1 f = some (LamO f (mk b c') (e b)) ∧ H1 (mk b c').c = some (CodeO (mk b c').c (mk b c').qual) ∧ tb b (startF (N b) vs ws) H1 Q
section
variable {ι : Type} {X : Cx} {CX : CXT} {mk : ι → Addr → NF} {e : ι → Expr} {cl : List (Str × Addr)} {N ps : ι → List Str} {fr : List Str} {i k m : Nat} {ws : List (Option V)} {x : Str} {E : XK} {t : TA} {tb : ι → TE} {a : Expr} {as : List Expr} {p pos : Pos}
theorem lamAt {pins : List (Addr × Obj)} {σ : L2.St} {H : Hp} {s : Shared} {f : Addr} {F : NF} {e : Expr} (I : Inv X pins σ H s) (z : H f = some (LamO f F e)) : PySem.W.FnAt f s.heap := by
  obtain ⟨u, v, ho⟩ := lamO_at I.hok z
  exact ⟨_, _, _, _, ho⟩
theorem pe_callv (C0 : CellsAt cl fr ws X.s_0.heap X.H_0) (hex : X.ex = []) (hcl : ∀ b c', (mk b c').cl = cl) (hm : ∀ b, (ps b).length = m) (S : ∀ b c', NScope (N b) (ps b) fr (mk b c').scope)
    (hb : ∀ (b : ι) (c' : Addr) (u v : Value) (us : List Value), us.length = (ps b).length → bindArgs (PySem.W.kla_fn "<lambda>" (mk b c').qual (mk b c').params (e b) (mk b c').scope (mk b c').cl u (.ref (mk b c').c) v) ⟨us, []⟩ = pure ((ps b).zip us)) (hr : Room (k + 1) X.A) (hx : Passes CX X E) (hN : X.N[i]? = some x) (hv : Vis X.env.scope x) (ha : PA X (a :: as) t)
    (hbody : ∀ (b : ι) (c' f : Addr) (s : Shared) (H : Hp), Room k (X.A.deeper (envF (mk b c') f s.heap.objs.size)) → PE (ncx CX X.prog X.w X.K X.mg X.base (N b) (mk b c') f X.A X.stack s H E) (e b) (tb b))
    (hd : (x == ("__debug__" : Str)) = false := by decide) (hcd : (x == ("__classdict__" : Str)) = false := by decide)
    (he : starEach (a :: as) X.env = (false, eval a X.env) :: starEach as X.env := by rfl) (hpl : (backTo pos (starEach as X.env)).any (·.1) = false := by rfl) :
    PE X (.Call (.Name x p) (a :: as) [] pos) (tCallV mk e i N m ws tb t) := by
  refine ⟨fun pins s σ H Q I h => ?_⟩
  obtain ⟨b, f, c', hs, hf, ht⟩ := h
  refine wpAny_Call_Name_kw (thn ((pe_var (i := i) (pos := p) hN hv hd hcd).run pins s σ H (fun v H1 => v = .ref f ∧ H1 = H) I ⟨.ref f, hs, rfl, rfl⟩) fun u s1 ⟨v, H1, I1, r1, ev, eH⟩ => ?_)
  subst ev
  rw [eH] at I1
  cases (show u = Value.ref f from r1)
  refine PySem.W.callWith_F (first := []) (lamAt I1 hf) (thn (ha.run pos pins s1 σ H _ I1 ht) fun us s2 ⟨vs, H2, I2, r, hl, h1, h2, q⟩ => ⟨lamAt I2 h1, ?_⟩) he hpl
  have un : Un X.fs [] X.H_0 H2 X.s_0.heap s2.heap := by
    have := I2.base
    rw [hex] at this
    exact this
  have C2 : CellsAt (mk b c').cl fr ws s2.heap H2 := by
    rw [hcl]
    exact cells_un C0 un
  refine wpAny_call (codeAny_mono (run_lam (N := N b) (ps := ps b) (S b c') (hb b c') hr I2.env0 h1 h2 C2 r (hl.trans (hm b).symm) (fun hr2 => hbody b c' f s2 H2 hr2) q) fun y s' hq => ?_)
  match y, hq with
  | .error er, hq => exact hx pins σ H2 s2 er s' I2 hq
  | .ok (.ret u), hq => exact I2.after hq
  | .ok .next, hq => exact False.elim hq
  | .ok .brk, hq => exact False.elim hq
  | .ok .cont, hq => exact False.elim hq
end
/-! ### a lambda without parameters that calls it, handed to a def -/
section
variable {X : Cx} {pins : List (Addr × Obj)} {σ : L2.St} {H : Hp} {s : Shared}
theorem act_v {CXg : CXT} {Eg : XK} {Ng : List Str} {qg : Str} {sg : Scope} {g f c' : Addr} {cdg pm ctv : Value} {ar : Arguments} {e : Expr} {sc : Scope} {k i : Nat} {x : Str} {pn : List (Addr × Obj)} {xe : Value → Shared → Prop} {W : WX} {E : XK} {tb : TE} {p1 p2 : Pos} {cl : List (Str × Addr)} {fr : List Str} {ws : List (Option V)}
    (C0 : CellsAt cl fr ws s.heap H) (I : Inv X pins σ H s) (L : LamS X.env.scope sc) (hf : s.heap.get? f = some (PySem.W.kla_obj "<lambda>" (X.env.qual ++ "<lambda>") ar e sc (cloFrom X.env.cells sc.names []) pm c' ctv)) (hfn : H f = none) (hfr : f ∉ frs X.stack)
    (hbind : bindArgs (PySem.W.kla_fn "<lambda>" (X.env.qual ++ "<lambda>") ar e sc (cloFrom X.env.cells sc.names []) pm (.ref c') ctv) ⟨[], []⟩ = pure [])
    (tk : Takes ((cxOf CXg X.prog X.w X.K X.mg X.base Ng qg sg g cdg X.A X.stack s H Eg).tr pn xe) W) (hW : ∀ cls d σ' H', E cls d H' → W cls d σ' H') (hr : Room (k + 1) (X.A.deeper (envOfC qg sg s.heap.objs.size g cdg)))
    (hbody : ∀ (A : Around) (outer : List Env) (s : Shared) (H : Hp), CellsAt cl fr ws s.heap H → Room k (A.deeper (lamEnv X sc s.heap.objs.size f c')) → PE (lamCx X A outer s H E sc f c') e tb)
    (hN : Ng[i]? = some x) (hv : Vis sg x) (hd : (x == ("__debug__" : Str)) = false) (hcd : (x == ("__classdict__" : Str)) = false) :
    PE ((cxOf CXg X.prog X.w X.K X.mg X.base Ng qg sg g cdg X.A X.stack s H Eg).tr pn xe) (.Call (.Name x p1) [] [] p2) (fun τ HZ Q => τ[i]? = some (some (.ref f)) ∧ HZ c' = some (CodeO c' (X.env.qual ++ "<lambda>")) ∧ tb σ HZ Q) := by
  refine ⟨fun pz sz τ HZ Q IZ ⟨hs, hc, ht⟩ => ?_⟩
  refine wpAny_Call_Name_kw (thn ((pe_var (i := i) (pos := p1) hN hv hd hcd).run pz sz τ HZ (fun v H1 => v = .ref f ∧ H1 = HZ) IZ ⟨.ref f, hs, rfl, rfl⟩) fun u s1 ⟨v, H1, I1, r1, ev, eH⟩ => ?_)
  subst ev
  rw [eH] at I1
  cases (show u = Value.ref f from r1)
  have un : Un (frs X.stack) [] H HZ s.heap s1.heap := I1.base
  have of1 := un.keep f _ hf hfn hfr (fun z => nomatch z)
  have hx : Passes (L2.CX X.prog X.w) ((cxOf CXg X.prog X.w X.K X.mg X.base Ng qg sg g cdg X.A X.stack s H Eg).tr pn xe) E := passes_call tk hW
  refine PySem.W.callWith_F0 ⟨_, _, _, _, of1⟩ (wpAny_call (codeAny_mono (R := CR (L2.CX X.prog X.w) (envOfC qg sg s.heap.objs.size g cdg :: X.stack) X.prog X.w HZ s1 Q E) ?_ fun y s' hq => ?_))
  · refine PySem.W.kla_callFunE hr.depth of1 rfl L.co L.gen rfl (codeO_at I1.hok hc) ?_
    show wpAny _ _ (bindArgs _ ⟨[], []⟩) _ _ _
    rw [hbind]
    refine wpAny_pure (wpAny_newFunctionEnv (fun y hy => (L.own y hy).2) (fun y hy => absurd hy (by simp)) (fun h₁ hns hsb => ⟨I1.nolimit.fresh _ hsb, ?_⟩) L.kind)
    have J : Inv (lamCx X (X.A.deeper (envOfC qg sg s.heap.objs.size g cdg)) (envOfC qg sg s.heap.objs.size g cdg :: X.stack) s1 HZ E sc f c') [] σ HZ { s1 with heap := h₁, toks := s1.toks + ([] : List (Str × Value)).length } :=
      lam_start2 I L I1.env0 hr.hd un hns fun b o z => hsb.extBut b o (Nat.ne_of_lt (Heap.lt_size z)) (Heap.get?_push_of_some _ z)
    show codeAny _ _ (.expr e (lamEnv X sc s1.heap.objs.size f c')) _ _
    refine PySem.W.kla_codeExpr (wpAny_mono ((hbody _ _ s1 HZ (cells_un C0 un) (hr.deeper _)).run [] _ _ HZ Q J ht) (fun v s' hq => ?_) fun v s' hq => hq)
    obtain ⟨y, H', J', rv, q⟩ := hq
    exact ⟨y, H', J'.os, J'.bare, J'.base, J'.hok, rv, q⟩
  · match y, hq with
    | .error er, hq => exact hx pz τ HZ s1 er s' I1 hq
    | .ok (.ret u), hq => exact I1.after hq
    | .ok .next, hq => exact False.elim hq
    | .ok .brk, hq => exact False.elim hq
    | .ok .cont, hq => exact False.elim hq
/-- x(lambda: e), e asks what such a lambda has captured -/
theorem pe_lamcallv {T : List (Addr × Str)} {TT : (XK → Hp → VK → Prop) → Hp → VK → Prop} {x a : Str} {g c P : Addr} {k : Nat} {pg : Arguments} {bg : List Stmt} {sg : Scope} {dV kV doc pm cdv ct oc : Value} {an od : Option Addr} {osl : Array (Option Value)} {Ng : List Str}
    {ar : Arguments} {e : Expr} {sc : Scope} {t : List (Option V) → XK → TE} {p lpos pos : Pos} {cl : List (Str × Addr)} {fr : List Str} {js : List Nat} (cp : X.Ok → Caps X cl fr js) (hg : Gl X x) (hm : X.mg x = some (.ref g)) (hk : PySem.W.keepIn X.K (.ref g) = true)
    (lk : X.K.lookup g = some ⟨oc, od, .func (PySem.W.fnOf x x pg bg sg dV kV doc pm an cdv ct), osl⟩) (hcg : PySem.W.codeIn X.K cdv x = true) (hb : L2.Binds X.K (PySem.W.fnOf x x pg bg sg dV kV doc pm an cdv ct) [a] []) (Sg : FnScope Ng [a] sg) (hNg : Ng[0]? = some a) (hva : Vis sg a)
    (hG : GivesTo X Ng x sg g cdv bg a (X.env.qual ++ "<lambda>") TT) (TB : TabB X.base X.mg c P) (hcode : X.env.code = .ref c) (hmT : (P, X.env.qual ++ "<lambda>") ∈ T) (hu : ∀ p ∈ T, p.1 = P → p.2 = X.env.qual ++ "<lambda>") (hr : Room (k + 2) X.A) (L : LamS X.env.scope sc) (hdef : defaultsOf ar X.env = ([], []))
    (hbind : ∀ (q : Str) (cl : List (Str × Addr)) (pm cv ctv : Value), bindArgs (PySem.W.kla_fn "<lambda>" q ar e sc cl pm cv ctv) ⟨[], []⟩ = pure [])
    (hbody : ∀ (ws : List (Option V)) (A : Around) (outer : List Env) (s : Shared) (H : Hp) (E : XK) (f c' : Addr), CellsAt cl fr ws s.heap H → Room k (A.deeper (lamEnv X sc s.heap.objs.size f c')) → PE (lamCx X A outer s H E sc f c') e (t ws E))
    (hdb : (x == ("__debug__" : Str)) = false := by decide) (hd : (a == ("__debug__" : Str)) = false := by decide) (hcd : (a == ("__classdict__" : Str)) = false := by decide) :
    PE X (.Call (.Name x p) [.Lambda ar e sc lpos] [] pos) (fun σ => tLam T TT (fun E => t (js.map (slotAt σ)) E) σ) := by
  refine ⟨fun pins s σ H Q I h => ?_⟩
  obtain ⟨hT, h⟩ := h
  refine wpAny_Call_Name_kw (ld_glob I hg hm ?_ hdb)
  refine PySem.W.callWith_K (h₀ := X.base) I.ok.mod.kin hk ?_ (by rfl) (by rfl)
  show wpAny _ _ (spliced ((false, eval (.Lambda ar e sc lpos) X.env) :: backTo pos (starEach [] X.env))) _ _ s
  refine Calls.spliced_cons (lam_make2 I TB hcode hmT hu hT hdef (L.has I.ok) fun f c' pm' ctv H1 s' I1 eN T1 hf hfn hfr hco => Calls.spliced_nil ⟨I1.kIn, ?_⟩)
  refine wpAny_call (codeAny_mono (R := CR C8.CX0 X.stack X.prog X.w H1 s' Q C8.E0) ?_ fun r s2 hq => ?_)
  · refine run_ofS (N := Ng) (ps := [a]) (us := [.ref f]) (vs := [.ref f]) lk hcg Sg hr I1.env0 (hb s' [.ref f] I1.kIn rfl) (.cons rfl .nil) rfl fun hr' => ?_
    obtain ⟨t', ht', hq'⟩ := hG f c' s' H1 Q (fun E H' Q' => t (js.map (slotAt σ)) E σ H' Q') (fun W pn xe E p1 p2 tk hW => act_v (i := 0) (cells_of I1 (cp I1.ok)) I1 L hf hfn hfr (hbind _ _ _ _ _) tk hW hr' (fun A outer s H hC hr2 => hbody _ A outer s H E f c' hC hr2) hNg hva hd hcd) hco (h H1 eN T1)
    exact ⟨t', ht'.nox, hq'⟩
  · match r, hq with
    | .error er, hq => exact (show False from hq).elim
    | .ok (.ret u), hq => exact I1.after hq
    | .ok .next, hq => exact False.elim hq
    | .ok .brk, hq => exact False.elim hq
    | .ok .cont, hq => exact False.elim hq
end
end GG

namespace K14
open PySem PySem.Spec PyProof.Rows L2
/-! ### what an asking comes to -/
structure SeT (K : PySem.W.Frag) (CS CB CE CQ CP CW CF CT : Addr) : Prop where
  sub : ∀ C ∈ [CB, CE, CQ, CP, CW, CF, CT], PySem.W.exmOne K (.ref C) (.ref CS) = some true ∧ ExcC K C ∧ XfC K C
  fCB : PySem.W.findIn K (.ref CB) "part" = some none
  fCE : PySem.W.findIn K (.ref CE) "part" = some none
  fCQ : PySem.W.findIn K (.ref CQ) "value" = some none
  fCP : PySem.W.findIn K (.ref CP) "value" = some none
  fCW : PySem.W.findIn K (.ref CW) "value" = some none
  fCF : PySem.W.findIn K (.ref CF) "part" = some none
  w1 : PySem.W.findIn K (.ref CT) "what" = some none
  w2 : PySem.W.findIn K (.ref CT) "most" = some none
  p0CB : PySem.W.kitAny K (.ref CB) [.ref CB, .ref CE] = some true
  p0CE : PySem.W.kitAny K (.ref CE) [.ref CB, .ref CE] = some true
  p0CQ : PySem.W.kitAny K (.ref CQ) [.ref CB, .ref CE] = some false
  p0CP : PySem.W.kitAny K (.ref CP) [.ref CB, .ref CE] = some false
  p0CW : PySem.W.kitAny K (.ref CW) [.ref CB, .ref CE] = some false
  p0CF : PySem.W.kitAny K (.ref CF) [.ref CB, .ref CE] = some false
  p0CT : PySem.W.kitAny K (.ref CT) [.ref CB, .ref CE] = some false
  p0N0 : PySem.W.kitAny K (.type "NoneType") [.ref CB, .ref CE] = some false
  q0 : PySem.W.kitOne K (.ref CE) (.ref CB) = some false
  p1CQ : PySem.W.kitAny K (.ref CQ) [.ref CQ, .ref CP] = some true
  p1CP : PySem.W.kitAny K (.ref CP) [.ref CQ, .ref CP] = some true
  p1CW : PySem.W.kitAny K (.ref CW) [.ref CQ, .ref CP] = some false
  p1CF : PySem.W.kitAny K (.ref CF) [.ref CQ, .ref CP] = some false
  p1CT : PySem.W.kitAny K (.ref CT) [.ref CQ, .ref CP] = some false
  p1N0 : PySem.W.kitAny K (.type "NoneType") [.ref CQ, .ref CP] = some false
  q1 : PySem.W.kitOne K (.ref CP) (.ref CQ) = some false
  p2CW : PySem.W.kitAny K (.ref CW) [.ref CW, .ref CF] = some true
  p2CF : PySem.W.kitAny K (.ref CF) [.ref CW, .ref CF] = some true
  p2CT : PySem.W.kitAny K (.ref CT) [.ref CW, .ref CF] = some false
  p2N0 : PySem.W.kitAny K (.type "NoneType") [.ref CW, .ref CF] = some false
  q2 : PySem.W.kitOne K (.ref CF) (.ref CW) = some false
  t0 : PySem.W.kitOne K (.type "NoneType") (.ref CT) = some false
structure SeM (mg : Str → Option Value) (CS CB CE CQ CP CW CF CT : Addr) : Prop where
  S : mg "SeenError" = some (.ref CS)
  mCB : mg "BadAlbum" = some (.ref CB)
  mCE : mg "BadPicture" = some (.ref CE)
  mCQ : mg "NoPicture" = some (.ref CQ)
  mCP : mg "NoPin" = some (.ref CP)
  mCW : mg "Twice" = some (.ref CW)
  mCF : mg "Misfit" = some (.ref CF)
  mCT : mg "TooMany" = some (.ref CT)
def EHd (K : PySem.W.Frag) (CB CE CQ CP CW CF CT : Addr) (Q : VK) : XK := fun cls d H' =>
  (∃ dd z, cls = .ref CB ∧ d = some dd ∧ H' dd = some (.xd [(("part" : Str), .str z)]) ∧ ∀ H'' t, Same H' H'' → H' t = none → H'' t = some (.tup [.str "album", .str z]) → Q (.ref t) H'') ∨
  (∃ dd z, cls = .ref CE ∧ d = some dd ∧ H' dd = some (.xd [(("part" : Str), .str z)]) ∧ ∀ H'' t, Same H' H'' → H' t = none → H'' t = some (.tup [.str "picture", .str z]) → Q (.ref t) H'') ∨
  (∃ dd v D, cls = .ref CQ ∧ d = some dd ∧ H' dd = some (.xd [(("value" : Str), v)]) ∧ Sh K H' v D ∧ ∀ H'' t, Same H' H'' → H' t = none → H'' t = some (.tup [.str "none", .str D.shown]) → Q (.ref t) H'') ∨
  (∃ dd v D, cls = .ref CP ∧ d = some dd ∧ H' dd = some (.xd [(("value" : Str), v)]) ∧ Sh K H' v D ∧ ∀ H'' t, Same H' H'' → H' t = none → H'' t = some (.tup [.str "pin", .str D.shown]) → Q (.ref t) H'') ∨
  (∃ dd v D, cls = .ref CW ∧ d = some dd ∧ H' dd = some (.xd [(("value" : Str), v)]) ∧ Sh K H' v D ∧ ∀ H'' t, Same H' H'' → H' t = none → H'' t = some (.tup [.str "twice", .str D.shown]) → Q (.ref t) H'') ∨
  (∃ dd z, cls = .ref CF ∧ d = some dd ∧ H' dd = some (.xd [(("part" : Str), .str z)]) ∧ ∀ H'' t, Same H' H'' → H' t = none → H'' t = some (.tup [.str "misfit", .str z]) → Q (.ref t) H'') ∨
  (∃ dd z n, cls = .ref CT ∧ d = some dd ∧ H' dd = some (.xd [(("most" : Str), .int n), (("what" : Str), .str z)]) ∧ ∀ H'' t, Same H' H'' → H' t = none → H'' t = some (.tup [.str z, .int n]) → Q (.ref t) H'')
/-- what is wished of an asking that gives anything -/
def NHd (Q N : VK) : Prop := ∀ v H', (∀ H'', Same H' H'' → Q .non H'') → N v H'
def THeard (K : PySem.W.Frag) (CB CE CQ CP CW CF CT : Addr) : (XK → Hp → VK → Prop) → Hp → VK → Prop := fun tl H Q => ∀ (H1 : Hp), Same H H1 → ∀ N : VK, NHd Q N → tl (EHd K CB CE CQ CP CW CF CT Q) H1 N
theorem set_one {σ : L2.St} {x : Option V} {y : V} (h : σ.length = 3) : (((σ.set 2 x).set 1 (some y)).set 2 none)[1]? = some (some y) := by
  match σ, h with
  | [a, b, c], _ => rfl
/-! ### _law_heard -/
abbrev sHd : Stmt := top 65
abbrev nHd : List Str := ["_law_ask", "_law_caught", "error"]
theorem scHd : FnScope nHd ["_law_ask"] (defScope sHd) := ⟨rfl, rfl, rfl, by decide +kernel, rfl, by decide +kernel, by decide +kernel⟩
theorem heard_gives {X : Cx} {CS CB CE CQ CP CW CF CT g : Addr} {cdg : Value} {q : Str} (sh : GG.Shy X.A) (hu : X.A.units + 60 < cLine) (B : Bn X.mg) (hrep : X.mg "repr" = none) (S : SeT X.K CS CB CE CQ CP CW CF CT) (M : SeM X.mg CS CB CE CQ CP CW CF CT) : LamX.GivesTo X nHd "_law_heard" (defScope sHd) g cdg (defBody sHd) "_law_ask" q (THeard X.K CB CE CQ CP CW CF CT) := by
  intro f c' s H Q tl act hc h
  have nd := scHd.nd
  have h0 := h
  have crep : CallR (cxOf C8.CX0 X.prog X.w X.K X.mg X.base nHd "_law_heard" (defScope sHd) g cdg X.A X.stack s H C8.E0).nox (.builtin "repr") (GG.rRep X.K) := GG.call_repr (X := (cxOf C8.CX0 X.prog X.w X.K X.mg X.base nHd "_law_heard" (defScope sHd) g cdg X.A X.stack s H C8.E0).nox) sh (by show X.A.units + 3 + 40 < cLine; omega)
  refine ⟨_, (pss_cons ((ps_set (i := 1) nd rfl (Or.inl rfl) (pe_non))) (pss_cons (ps_try_keep (i := 2) (j := 1) (c := .ref CS) (tb := fun W D σ H => ∃ Ech : XK, (∀ cls d σ' H', Ech cls d H' → W cls d σ' H') ∧ σ[0]? = some (some (.ref f)) ∧ H c' = some (LamX.CodeO c' q) ∧ tl Ech H (fun v H' => D.nx σ H'))
      rfl rfl rfl nd rfl rfl rfl (Or.inl rfl) (Or.inr rfl) ⟨rfl, by decide, Or.inl M.S⟩ (by show 2 < 3; decide) (by decide) (by decide) (fun W pn xe tk _ => ⟨fun pins s' σ H' D I h' => ?_⟩)) (pss_cons (ps_if (pt_val (pe_callB (r := rCauT X.K) call_cauT (by rfl) B.isinstance boot_isinstance (pa_cons (pv 1) (pa_cons (pe_tup (pa_cons (pe_glob (v := .ref CB) rfl M.mCB rfl) (pa_cons (pe_glob (v := .ref CE) rfl M.mCE rfl) pa_nil))) pa_nil)))) (pss_one (ps_ret (pe_tup (pa_cons (pe_ifExp (pt_val (pe_callB (r := rCau X.K) call_cau (by rfl) B.isinstance boot_isinstance (pa_cons (pv 1) (pa_cons (pe_glob (v := .ref CB) rfl M.mCB rfl) pa_nil)))) pe_str pe_str) (pa_cons (pe_hg (pv 1)) pa_nil))))) pss_nil) (pss_cons (ps_if (pt_val (pe_callB (r := rCauT X.K) call_cauT (by rfl) B.isinstance boot_isinstance (pa_cons (pv 1) (pa_cons (pe_tup (pa_cons (pe_glob (v := .ref CQ) rfl M.mCQ rfl) (pa_cons (pe_glob (v := .ref CP) rfl M.mCP rfl) pa_nil))) pa_nil)))) (pss_one (ps_ret (pe_tup (pa_cons (pe_ifExp (pt_val (pe_callB (r := rCau X.K) call_cau (by rfl) B.isinstance boot_isinstance (pa_cons (pv 1) (pa_cons (pe_glob (v := .ref CQ) rfl M.mCQ rfl) pa_nil)))) pe_str pe_str) (pa_cons (pe_callB crep (by rfl) hrep PyProof.Rows.boot_repr (pa_cons (pe_hg (pv 1)) pa_nil)) pa_nil))))) pss_nil) (pss_cons (ps_if (pt_val (pe_callB (r := rCauT X.K) call_cauT (by rfl) B.isinstance boot_isinstance (pa_cons (pv 1) (pa_cons (pe_tup (pa_cons (pe_glob (v := .ref CW) rfl M.mCW rfl) (pa_cons (pe_glob (v := .ref CF) rfl M.mCF rfl) pa_nil))) pa_nil)))) (pss_one (ps_ret (pe_ifExp (pt_val (pe_callB (r := rCau X.K) call_cau (by rfl) B.isinstance boot_isinstance (pa_cons (pv 1) (pa_cons (pe_glob (v := .ref CW) rfl M.mCW rfl) pa_nil)))) (pe_tup (pa_cons (pe_str) (pa_cons (pe_callB crep (by rfl) hrep PyProof.Rows.boot_repr (pa_cons (pe_hg (pv 1)) pa_nil)) pa_nil))) (pe_tup (pa_cons (pe_str) (pa_cons (pe_hg (pv 1)) pa_nil)))))) pss_nil) (pss_one (ps_ret (pe_ifExp (pt_val (pe_callB (r := rCau X.K) call_cau (by rfl) B.isinstance boot_isinstance (pa_cons (pv 1) (pa_cons (pe_glob (v := .ref CT) rfl M.mCT rfl) pa_nil)))) (pe_tup (pa_cons (pe_hg (pv 1)) (pa_cons (pe_hg (pv 1)) pa_nil))) (pe_ifExp (pt_cmpR op_isN (pv 1) pe_non (nomark _)) pe_non (pe_tup (pa_cons (pe_str) pa_nil))))))))))), ?_⟩
  · obtain ⟨Ech, hW, h1, h2, h3⟩ := h'
    exact (pss_one (ps_expr (act W pn xe Ech _ _ tk hW))).run pins s' σ H' D I ⟨h1, h2, h3⟩
  · refine ⟨EHd X.K CB CE CQ CP CW CF CT Q, ?_, rfl, hc, h0 H Same.me _ (fun v H' use => ?_)⟩
    · have keep : ∀ {C dd a : Addr} {fs : List (Str × V)} {H' : Hp}, H' dd = some (.xd fs) → H' a = none → Kept C fs a (upd H' a (Held (.ref C) (some dd) a)) ∧ Same H' (upd H' a (Held (.ref C) (some dd) a)) := fun {C dd a fs H'} hd ha => ⟨⟨dd, upd_same, by rw [upd_ne (ne_of_none hd ha)]; exact hd⟩, same_new ha⟩
      have pair : ∀ {A B : Addr} {t : Addr} {H1 H2 : Hp}, H1 t = none → H2 = upd H1 t (.tup [V.ref A, V.ref B]) → H2 t = some (.tup ([A, B].map V.ref)) ∧ Same H1 H2 := fun {A B t H1 H2} n e => by
        subst e
        exact ⟨upd_same, same_new n⟩
      rintro cls d σ' H' (⟨dd, z, rfl, rfl, hd, use⟩ | ⟨dd, z, rfl, rfl, hd, use⟩ | ⟨dd, v, D, rfl, rfl, hd, sw, use⟩ | ⟨dd, v, D, rfl, rfl, hd, sw, use⟩ | ⟨dd, v, D, rfl, rfl, hd, sw, use⟩ | ⟨dd, z, rfl, rfl, hd, use⟩ | ⟨dd, z, n, rfl, rfl, hd, use⟩)
      · obtain ⟨su, ex, xf⟩ := S.sub CB (by simp)
        refine ⟨su, fun a ha hl => ?_⟩
        have hl : σ'.length = 3 := hl
        obtain ⟨k, s1⟩ := keep (C := CB) hd ha
        generalize upd H' a (Held (.ref CB) (some dd) a) = H0 at k s1 ⊢
        refine ⟨_, set_one hl, by show 2 ≤ sizeLine; decide, fun t0 n0 => ?_⟩
        obtain ⟨g0, u0⟩ := pair (A := CB) (B := CE) n0 rfl
        have k : Kept CB _ a _ := let ⟨x, y, z⟩ := k; ⟨x, u0 _ _ y, u0 _ _ z⟩
        generalize upd H0 t0 (.tup [V.ref CB, V.ref CE]) = H1 at g0 u0 k ⊢
        have s1 := s1.trans u0
        refine ⟨_, t0, [CB, CE], _, true, rfl, g0, .ex k ex, S.p0CB, _, rfl, iteT ?_⟩
        refine ⟨_, set_one hl, _, CB, _, true, rfl, .ex k ex, kit_self, _, rfl, iteT ?_⟩
        refine ⟨_, set_one hl, a, CB, _, _, rfl, k, xf, S.fCB, rfl, by show 2 ≤ sizeLine; decide, fun t nt => ?_⟩
        exact use _ t (s1.trans (same_new nt)) (s1.free nt) upd_same
      · obtain ⟨su, ex, xf⟩ := S.sub CE (by simp)
        refine ⟨su, fun a ha hl => ?_⟩
        have hl : σ'.length = 3 := hl
        obtain ⟨k, s1⟩ := keep (C := CE) hd ha
        generalize upd H' a (Held (.ref CE) (some dd) a) = H0 at k s1 ⊢
        refine ⟨_, set_one hl, by show 2 ≤ sizeLine; decide, fun t0 n0 => ?_⟩
        obtain ⟨g0, u0⟩ := pair (A := CB) (B := CE) n0 rfl
        have k : Kept CE _ a _ := let ⟨x, y, z⟩ := k; ⟨x, u0 _ _ y, u0 _ _ z⟩
        generalize upd H0 t0 (.tup [V.ref CB, V.ref CE]) = H1 at g0 u0 k ⊢
        have s1 := s1.trans u0
        refine ⟨_, t0, [CB, CE], _, true, rfl, g0, .ex k ex, S.p0CE, _, rfl, iteT ?_⟩
        refine ⟨_, set_one hl, _, CB, _, false, rfl, .ex k ex, S.q0, _, rfl, iteF ?_⟩
        refine ⟨_, set_one hl, a, CE, _, _, rfl, k, xf, S.fCE, rfl, by show 2 ≤ sizeLine; decide, fun t nt => ?_⟩
        exact use _ t (s1.trans (same_new nt)) (s1.free nt) upd_same
      · obtain ⟨su, ex, xf⟩ := S.sub CQ (by simp)
        refine ⟨su, fun a ha hl => ?_⟩
        have hl : σ'.length = 3 := hl
        obtain ⟨k, s1⟩ := keep (C := CQ) hd ha
        generalize upd H' a (Held (.ref CQ) (some dd) a) = H0 at k s1 ⊢
        refine ⟨_, set_one hl, by show 2 ≤ sizeLine; decide, fun t0 n0 => ?_⟩
        obtain ⟨g0, u0⟩ := pair (A := CB) (B := CE) n0 rfl
        have k : Kept CQ _ a _ := let ⟨x, y, z⟩ := k; ⟨x, u0 _ _ y, u0 _ _ z⟩
        generalize upd H0 t0 (.tup [V.ref CB, V.ref CE]) = H1 at g0 u0 k ⊢
        have s1 := s1.trans u0
        refine ⟨_, t0, [CB, CE], _, false, rfl, g0, .ex k ex, S.p0CQ, _, rfl, iteF ?_⟩
        refine ⟨_, set_one hl, by show 2 ≤ sizeLine; decide, fun t1 n1 => ?_⟩
        obtain ⟨g1, u1⟩ := pair (A := CQ) (B := CP) n1 rfl
        have k : Kept CQ _ a _ := let ⟨x, y, z⟩ := k; ⟨x, u1 _ _ y, u1 _ _ z⟩
        generalize upd H1 t1 (.tup [V.ref CQ, V.ref CP]) = H2 at g1 u1 k ⊢
        have s1 := s1.trans u1
        refine ⟨_, t1, [CQ, CP], _, true, rfl, g1, .ex k ex, S.p1CQ, _, rfl, iteT ?_⟩
        refine ⟨_, set_one hl, _, CQ, _, true, rfl, .ex k ex, kit_self, _, rfl, iteT ?_⟩
        refine ⟨_, set_one hl, a, CQ, _, _, rfl, k, xf, S.fCQ, rfl, _, _, rfl, sw.2.2.2 _ s1, sw.1, sw.2.1, sw.2.2.1, by show 2 ≤ sizeLine; decide, fun t nt => ?_⟩
        exact use _ t (s1.trans (same_new nt)) (s1.free nt) upd_same
      · obtain ⟨su, ex, xf⟩ := S.sub CP (by simp)
        refine ⟨su, fun a ha hl => ?_⟩
        have hl : σ'.length = 3 := hl
        obtain ⟨k, s1⟩ := keep (C := CP) hd ha
        generalize upd H' a (Held (.ref CP) (some dd) a) = H0 at k s1 ⊢
        refine ⟨_, set_one hl, by show 2 ≤ sizeLine; decide, fun t0 n0 => ?_⟩
        obtain ⟨g0, u0⟩ := pair (A := CB) (B := CE) n0 rfl
        have k : Kept CP _ a _ := let ⟨x, y, z⟩ := k; ⟨x, u0 _ _ y, u0 _ _ z⟩
        generalize upd H0 t0 (.tup [V.ref CB, V.ref CE]) = H1 at g0 u0 k ⊢
        have s1 := s1.trans u0
        refine ⟨_, t0, [CB, CE], _, false, rfl, g0, .ex k ex, S.p0CP, _, rfl, iteF ?_⟩
        refine ⟨_, set_one hl, by show 2 ≤ sizeLine; decide, fun t1 n1 => ?_⟩
        obtain ⟨g1, u1⟩ := pair (A := CQ) (B := CP) n1 rfl
        have k : Kept CP _ a _ := let ⟨x, y, z⟩ := k; ⟨x, u1 _ _ y, u1 _ _ z⟩
        generalize upd H1 t1 (.tup [V.ref CQ, V.ref CP]) = H2 at g1 u1 k ⊢
        have s1 := s1.trans u1
        refine ⟨_, t1, [CQ, CP], _, true, rfl, g1, .ex k ex, S.p1CP, _, rfl, iteT ?_⟩
        refine ⟨_, set_one hl, _, CQ, _, false, rfl, .ex k ex, S.q1, _, rfl, iteF ?_⟩
        refine ⟨_, set_one hl, a, CP, _, _, rfl, k, xf, S.fCP, rfl, _, _, rfl, sw.2.2.2 _ s1, sw.1, sw.2.1, sw.2.2.1, by show 2 ≤ sizeLine; decide, fun t nt => ?_⟩
        exact use _ t (s1.trans (same_new nt)) (s1.free nt) upd_same
      · obtain ⟨su, ex, xf⟩ := S.sub CW (by simp)
        refine ⟨su, fun a ha hl => ?_⟩
        have hl : σ'.length = 3 := hl
        obtain ⟨k, s1⟩ := keep (C := CW) hd ha
        generalize upd H' a (Held (.ref CW) (some dd) a) = H0 at k s1 ⊢
        refine ⟨_, set_one hl, by show 2 ≤ sizeLine; decide, fun t0 n0 => ?_⟩
        obtain ⟨g0, u0⟩ := pair (A := CB) (B := CE) n0 rfl
        have k : Kept CW _ a _ := let ⟨x, y, z⟩ := k; ⟨x, u0 _ _ y, u0 _ _ z⟩
        generalize upd H0 t0 (.tup [V.ref CB, V.ref CE]) = H1 at g0 u0 k ⊢
        have s1 := s1.trans u0
        refine ⟨_, t0, [CB, CE], _, false, rfl, g0, .ex k ex, S.p0CW, _, rfl, iteF ?_⟩
        refine ⟨_, set_one hl, by show 2 ≤ sizeLine; decide, fun t1 n1 => ?_⟩
        obtain ⟨g1, u1⟩ := pair (A := CQ) (B := CP) n1 rfl
        have k : Kept CW _ a _ := let ⟨x, y, z⟩ := k; ⟨x, u1 _ _ y, u1 _ _ z⟩
        generalize upd H1 t1 (.tup [V.ref CQ, V.ref CP]) = H2 at g1 u1 k ⊢
        have s1 := s1.trans u1
        refine ⟨_, t1, [CQ, CP], _, false, rfl, g1, .ex k ex, S.p1CW, _, rfl, iteF ?_⟩
        refine ⟨_, set_one hl, by show 2 ≤ sizeLine; decide, fun t2 n2 => ?_⟩
        obtain ⟨g2, u2⟩ := pair (A := CW) (B := CF) n2 rfl
        have k : Kept CW _ a _ := let ⟨x, y, z⟩ := k; ⟨x, u2 _ _ y, u2 _ _ z⟩
        generalize upd H2 t2 (.tup [V.ref CW, V.ref CF]) = H3 at g2 u2 k ⊢
        have s1 := s1.trans u2
        refine ⟨_, t2, [CW, CF], _, true, rfl, g2, .ex k ex, S.p2CW, _, rfl, iteT ?_⟩
        refine ⟨_, set_one hl, _, CW, _, true, rfl, .ex k ex, kit_self, _, rfl, iteT ?_⟩
        refine ⟨_, set_one hl, a, CW, _, _, rfl, k, xf, S.fCW, rfl, _, _, rfl, sw.2.2.2 _ s1, sw.1, sw.2.1, sw.2.2.1, by show 2 ≤ sizeLine; decide, fun t nt => ?_⟩
        exact use _ t (s1.trans (same_new nt)) (s1.free nt) upd_same
      · obtain ⟨su, ex, xf⟩ := S.sub CF (by simp)
        refine ⟨su, fun a ha hl => ?_⟩
        have hl : σ'.length = 3 := hl
        obtain ⟨k, s1⟩ := keep (C := CF) hd ha
        generalize upd H' a (Held (.ref CF) (some dd) a) = H0 at k s1 ⊢
        refine ⟨_, set_one hl, by show 2 ≤ sizeLine; decide, fun t0 n0 => ?_⟩
        obtain ⟨g0, u0⟩ := pair (A := CB) (B := CE) n0 rfl
        have k : Kept CF _ a _ := let ⟨x, y, z⟩ := k; ⟨x, u0 _ _ y, u0 _ _ z⟩
        generalize upd H0 t0 (.tup [V.ref CB, V.ref CE]) = H1 at g0 u0 k ⊢
        have s1 := s1.trans u0
        refine ⟨_, t0, [CB, CE], _, false, rfl, g0, .ex k ex, S.p0CF, _, rfl, iteF ?_⟩
        refine ⟨_, set_one hl, by show 2 ≤ sizeLine; decide, fun t1 n1 => ?_⟩
        obtain ⟨g1, u1⟩ := pair (A := CQ) (B := CP) n1 rfl
        have k : Kept CF _ a _ := let ⟨x, y, z⟩ := k; ⟨x, u1 _ _ y, u1 _ _ z⟩
        generalize upd H1 t1 (.tup [V.ref CQ, V.ref CP]) = H2 at g1 u1 k ⊢
        have s1 := s1.trans u1
        refine ⟨_, t1, [CQ, CP], _, false, rfl, g1, .ex k ex, S.p1CF, _, rfl, iteF ?_⟩
        refine ⟨_, set_one hl, by show 2 ≤ sizeLine; decide, fun t2 n2 => ?_⟩
        obtain ⟨g2, u2⟩ := pair (A := CW) (B := CF) n2 rfl
        have k : Kept CF _ a _ := let ⟨x, y, z⟩ := k; ⟨x, u2 _ _ y, u2 _ _ z⟩
        generalize upd H2 t2 (.tup [V.ref CW, V.ref CF]) = H3 at g2 u2 k ⊢
        have s1 := s1.trans u2
        refine ⟨_, t2, [CW, CF], _, true, rfl, g2, .ex k ex, S.p2CF, _, rfl, iteT ?_⟩
        refine ⟨_, set_one hl, _, CW, _, false, rfl, .ex k ex, S.q2, _, rfl, iteF ?_⟩
        refine ⟨_, set_one hl, a, CF, _, _, rfl, k, xf, S.fCF, rfl, by show 2 ≤ sizeLine; decide, fun t nt => ?_⟩
        exact use _ t (s1.trans (same_new nt)) (s1.free nt) upd_same
      · obtain ⟨su, ex, xf⟩ := S.sub CT (by simp)
        refine ⟨su, fun a ha hl => ?_⟩
        have hl : σ'.length = 3 := hl
        obtain ⟨k, s1⟩ := keep (C := CT) hd ha
        generalize upd H' a (Held (.ref CT) (some dd) a) = H0 at k s1 ⊢
        refine ⟨_, set_one hl, by show 2 ≤ sizeLine; decide, fun t0 n0 => ?_⟩
        obtain ⟨g0, u0⟩ := pair (A := CB) (B := CE) n0 rfl
        have k : Kept CT _ a _ := let ⟨x, y, z⟩ := k; ⟨x, u0 _ _ y, u0 _ _ z⟩
        generalize upd H0 t0 (.tup [V.ref CB, V.ref CE]) = H1 at g0 u0 k ⊢
        have s1 := s1.trans u0
        refine ⟨_, t0, [CB, CE], _, false, rfl, g0, .ex k ex, S.p0CT, _, rfl, iteF ?_⟩
        refine ⟨_, set_one hl, by show 2 ≤ sizeLine; decide, fun t1 n1 => ?_⟩
        obtain ⟨g1, u1⟩ := pair (A := CQ) (B := CP) n1 rfl
        have k : Kept CT _ a _ := let ⟨x, y, z⟩ := k; ⟨x, u1 _ _ y, u1 _ _ z⟩
        generalize upd H1 t1 (.tup [V.ref CQ, V.ref CP]) = H2 at g1 u1 k ⊢
        have s1 := s1.trans u1
        refine ⟨_, t1, [CQ, CP], _, false, rfl, g1, .ex k ex, S.p1CT, _, rfl, iteF ?_⟩
        refine ⟨_, set_one hl, by show 2 ≤ sizeLine; decide, fun t2 n2 => ?_⟩
        obtain ⟨g2, u2⟩ := pair (A := CW) (B := CF) n2 rfl
        have k : Kept CT _ a _ := let ⟨x, y, z⟩ := k; ⟨x, u2 _ _ y, u2 _ _ z⟩
        generalize upd H2 t2 (.tup [V.ref CW, V.ref CF]) = H3 at g2 u2 k ⊢
        have s1 := s1.trans u2
        refine ⟨_, t2, [CW, CF], _, false, rfl, g2, .ex k ex, S.p2CT, _, rfl, iteF ?_⟩
        refine ⟨_, set_one hl, _, CT, _, true, rfl, .ex k ex, kit_self, _, rfl, iteT ?_⟩
        refine ⟨_, set_one hl, a, CT, _, _, rfl, k, xf, S.w1, rfl, _, set_one hl, a, CT, _, _, rfl, k, xf, S.w2, rfl, by show 2 ≤ sizeLine; decide, fun t nt => ?_⟩
        exact use _ t (s1.trans (same_new nt)) (s1.free nt) upd_same
    · refine ⟨_, rfl, by show 2 ≤ sizeLine; decide, fun t0 n0 => ?_⟩
      have u0 := same_new (o := .tup [V.ref CB, V.ref CE]) n0
      refine ⟨_, t0, [CB, CE], _, false, rfl, upd_same, .non, S.p0N0, _, rfl, iteF ?_⟩
      refine ⟨_, rfl, by show 2 ≤ sizeLine; decide, fun t1 n1 => ?_⟩
      have u1 := same_new (o := .tup [V.ref CQ, V.ref CP]) n1
      refine ⟨_, t1, [CQ, CP], _, false, rfl, upd_same, .non, S.p1N0, _, rfl, iteF ?_⟩
      refine ⟨_, rfl, by show 2 ≤ sizeLine; decide, fun t2 n2 => ?_⟩
      have u2 := same_new (o := .tup [V.ref CW, V.ref CF]) n2
      refine ⟨_, t2, [CW, CF], _, false, rfl, upd_same, .non, S.p2N0, _, rfl, iteF ?_⟩
      refine ⟨_, rfl, _, CT, _, false, rfl, .non, S.t0, _, rfl, iteF ?_⟩
      refine ⟨_, rfl, rfl, _, rfl, iteT ?_⟩
      exact use _ ((u0.trans u1).trans u2)
end K14

namespace K14
open PySem PySem.Spec PyProof.Rows L2
/-! ### values and their classes -/
inductive Kx (K : PySem.W.Frag) (H : Hp) : V → Value → Prop
  | non : Kx K H .non (.type "NoneType")
  | bl (b : Bool) : Kx K H (.bl b) (.type "bool")
  | int (i : Int) : Kx K H (.int i) (.type "int")
  | str (x : Str) : Kx K H (.str x) (.type "str")
  | lst {a : Addr} {xs : List V} (e : H a = some (.lst xs)) : Kx K H (.ref a) (.type "list")
  | tup {a : Addr} {xs : List V} (e : H a = some (.tup xs)) : Kx K H (.ref a) (.type "tuple")
  | dK {a : Addr} {kvs : List (Key × V)} (e : H a = some (.dK kvs)) : Kx K H (.ref a) (.type "dict")
  | ins {a C dx : Addr} {fs : List (Str × V)} (e : H a = some (.ins C dx fs)) (P : PicC K C) : Kx K H (.ref a) (.ref C)
section
variable {K : PySem.W.Frag} {H H' : Hp} {v : V} {u : Value} {C : Addr} {b : Bool}
theorem Kx.ty (k : Kx K H v u) : TyX K H v u := by
  cases k with
  | non => exact .base .non
  | bl b => exact .base (.bl b)
  | int i => exact .base (.int i)
  | str x => exact .base (.str x)
  | lst e => exact .base (.lst e)
  | tup e => exact .base (.tup e)
  | dK e => exact .base (.dK e)
  | ins e P => exact .base (.ins e P.cls P.ha P.hn P.ht P.hm)
theorem Kx.same (k : Kx K H v u) (s : Same H H') : Kx K H' v u := by
  cases k with
  | non => exact .non
  | bl b => exact .bl b
  | int i => exact .int i
  | str x => exact .str x
  | lst e => exact .lst (s _ _ e)
  | tup e => exact .tup (s _ _ e)
  | dK e => exact .dK (s _ _ e)
  | ins e P => exact .ins (s _ _ e) P
theorem Kx.isA (k : Kx K H v u) (e : PySem.W.kitOne K u (.ref C) = some b) : IsA K C H v b := ⟨u, e, fun _ s => (k.same s).ty⟩
/-- the kinds that are none of the class -/
structure NoK (K : PySem.W.Frag) (C : Addr) : Prop where
  n : PySem.W.kitOne K (.type "NoneType") (.ref C) = some false
  b : PySem.W.kitOne K (.type "bool") (.ref C) = some false
  i : PySem.W.kitOne K (.type "int") (.ref C) = some false
  s : PySem.W.kitOne K (.type "str") (.ref C) = some false
  l : PySem.W.kitOne K (.type "list") (.ref C) = some false
  t : PySem.W.kitOne K (.type "tuple") (.ref C) = some false
  d : PySem.W.kitOne K (.type "dict") (.ref C) = some false
end
/-! ### what outlasts the drawing -/
section
variable {K : PySem.W.Frag} {C CA p : Addr} {H H' : Hp} {n : Nat}
theorem AlbF.kq {a : Addr} {cs : List Addr} {pss : PSS} (h : AlbF H CA C a cs pss) (v : Lens H p n) (s : Kq p H H') : AlbF H' CA C a cs pss := by
  obtain ⟨c, x, y, e0⟩ := v.at
  have st : ∀ {b : Addr} {o : HO}, H b = some o → (∀ xs, o ≠ .lst xs) → (∀ ps, o ≠ .tbl ps) → H' b = some o := fun {b o} e n1 n2 => s _ _ (fun z => n1 _ (by rw [z, e0] at e; exact (Option.some.inj e).symm)) n2 e
  have tp : ∀ {b : Addr} {xs : List V}, H b = some (.tup xs) → H' b = some (.tup xs) := fun e => st e (by intro _ z; cases z) (by intro _ z; cases z)
  obtain ⟨dx, t, u, rs, e, et, pp, eu, r⟩ := h
  exact ⟨dx, t, u, rs, st e (by intro _ z; cases z) (by intro _ z; cases z), tp et, paired_mono pp fun _ _ z => z.kq v s, tp eu, paired_mono r fun _ _ z => tp z⟩
theorem Pics.kq {cs : List Addr} {pss : PSS} (h : Pics H C cs pss) (v : Lens H p n) (s : Kq p H H') : Pics H' C cs pss := paired_mono h fun _ _ z => z.kq v s
end
/-- so it is now, and will be -/
def Fut (p : Addr) (H : Hp) (G : Hp → Prop) : Prop := ∀ M, Kq p H M → G M
theorem Fut.kq {p : Addr} {H H' : Hp} {G : Hp → Prop} (f : Fut p H G) (k : Kq p H H') : Fut p H' G := fun M k2 => f M (k.trans k2)
theorem Fut.same {p : Addr} {H H' : Hp} {G : Hp → Prop} (f : Fut p H G) (s : Same H H') : Fut p H' G := f.kq (kq_same s)
theorem Fut.sb {p : Addr} {H H' : Hp} {G : Hp → Prop} (f : Fut p H G) (s : SB p H H') : Fut p H' G := f.kq (Kq.ofS s)
theorem Fut.now {p : Addr} {H : Hp} {G : Hp → Prop} (f : Fut p H G) : G H := f H (Kq.refl p H)
/-! ### numbers told twice -/
theorem tw_two {ms : List Nat} {j : Nat} (h : TwN ms j) : ∃ a b : Nat, a < b ∧ ms[a]? = some j ∧ ms[b]? = some j := by
  obtain ⟨i, h1, h2, _⟩ := h
  obtain ⟨a, ha, e⟩ := List.getElem_of_mem h2
  have la : a < i := by
    rw [List.length_take] at ha
    omega
  refine ⟨a, i, la, ?_, h1⟩
  rw [List.getElem_take] at e
  rw [← e]
  exact List.getElem?_eq_getElem _
theorem tw_three {a j : Nat} (h : TwN [a, 0, a] j) : j = a := by
  obtain ⟨x, y, l, hx, hy⟩ := tw_two h
  have ly : y < 3 := (List.getElem?_eq_some_iff.mp hy).1
  match y, ly, l, hy with
  | 0, _, l, _ => exact absurd l (Nat.not_lt_zero _)
  | 1, _, l, hy =>
    have e : x = 0 := by omega
    rw [e] at hx
    exact (Option.some.inj hx).symm
  | 2, _, _, hy => exact (Option.some.inj hy).symm
theorem three_nd {a : Nat} : ¬ [a, 0, a].Nodup := by simp
theorem no_tw {j : Nat} : ¬ TwN [] j := fun h => by
  obtain ⟨x, y, l, hx, hy⟩ := tw_two h
  cases hy
theorem three_wj {K : PySem.W.Frag} {H : Hp} {c : Addr} {k : Nat} {o : V} {t : Bool} (hs : H c = some (.lst [.int 0, .int 0, o])) (k1 : 1 ≤ k) (ko : Kd K H o t) (no : pinOk k o = false) : WJ K H k (.ref c) (some o) := by
  have p0 : pinOk k (.int 0) = true := by
    have := pinOk_nat (k := k) (n := 0)
    rw [decide_eq_true (show 0 < k by omega)] at this
    exact this
  have z : WJ K H k (.ref c) ([V.int 0, V.int 0, o].find? fun x => !pinOk k x) := .seq (.inl hs) (fun x hx => by
    simp only [List.mem_cons, List.not_mem_nil, or_false] at hx
    rcases hx with rfl | rfl | rfl
    · exact ⟨_, .int 0⟩
    · exact ⟨_, .int 0⟩
    · exact ⟨t, ko⟩) (by show 3 ≤ 100; decide)
  have e : [V.int 0, V.int 0, o].find? (fun x => !pinOk k x) = some o := by
    rw [List.find?_cons, p0, List.find?_cons, p0, List.find?_cons, no]
    rfl
  rw [e] at z
  exact z
/-! ### what is heard of each error -/
section
variable {K : PySem.W.Frag} {CB CE CQ CP CW CF CT : Addr} {H : Hp} {Q : VK} {z : Str} {v : V} {D : PyData} {n : Int}
/-- heard: this -/
def Hr (H : Hp) (e : Ee) (Q : VK) : Prop := ∀ H' x, Same H H' → T2 H' x e → Q x H'
theorem Hr.at {e : Str × V} {H' H'' : Hp} {t : Addr} (h : Hr H (some e) Q) (s : Same H H') (s2 : Same H' H'') (g : H'' t = some (.tup [.str e.1, e.2])) : Q (.ref t) H'' := h _ _ (s.trans s2) ⟨t, rfl, g⟩
theorem Hr.same {e : Ee} {H' : Hp} (h : Hr H e Q) (s : Same H H') : Hr H' e Q := fun H2 x s2 g => h H2 x (s.trans s2) g
theorem hB (h : Hr H (some ("album", .str z)) Q) : RzV CB "part" (.str z) H (EHd K CB CE CQ CP CW CF CT Q) := fun d H' s _ e => .inl ⟨d, z, rfl, rfl, e, fun H'' t s2 _ g => h.at s s2 g⟩
theorem hE (h : Hr H (some ("picture", .str z)) Q) : RzV CE "part" (.str z) H (EHd K CB CE CQ CP CW CF CT Q) := fun d H' s _ e => .inr (.inl ⟨d, z, rfl, rfl, e, fun H'' t s2 _ g => h.at s s2 g⟩)
theorem hQ (sh : Sh K H v D) (h : Hr H (some ("none", .str D.shown)) Q) : RzV CQ "value" v H (EHd K CB CE CQ CP CW CF CT Q) := fun d H' s _ e => .inr (.inr (.inl ⟨d, v, D, rfl, rfl, e, sh.same s, fun H'' t s2 _ g => h.at s s2 g⟩))
theorem hP (sh : Sh K H v D) (h : Hr H (some ("pin", .str D.shown)) Q) : RzV CP "value" v H (EHd K CB CE CQ CP CW CF CT Q) := fun d H' s _ e => .inr (.inr (.inr (.inl ⟨d, v, D, rfl, rfl, e, sh.same s, fun H'' t s2 _ g => h.at s s2 g⟩)))
theorem hW (sh : Sh K H v D) (h : Hr H (some ("twice", .str D.shown)) Q) : RzV CW "value" v H (EHd K CB CE CQ CP CW CF CT Q) := fun d H' s _ e => .inr (.inr (.inr (.inr (.inl ⟨d, v, D, rfl, rfl, e, sh.same s, fun H'' t s2 _ g => h.at s s2 g⟩))))
theorem hF (h : Hr H (some ("misfit", .str z)) Q) : RzV CF "part" (.str z) H (EHd K CB CE CQ CP CW CF CT Q) := fun d H' s _ e => .inr (.inr (.inr (.inr (.inr (.inl ⟨d, z, rfl, rfl, e, fun H'' t s2 _ g => h.at s s2 g⟩)))))
theorem hT (h : Hr H (some (z, .int n)) Q) : RzF CT [("most", .int n), ("what", .str z)] H (EHd K CB CE CQ CP CW CF CT Q) := fun d H' s e => .inr (.inr (.inr (.inr (.inr (.inr ⟨d, z, n, rfl, rfl, e, fun H'' t s2 _ g => h.at s s2 g⟩)))))
end
/-! ### steps of what is heard and what is due -/
theorem re_st {u : TS} {D : Ends} {σ σ' : L2.St} {H : Hp} (e : σ = σ') (h : u D σ' H) : u D σ H := by
  rw [e]
  exact h
theorem re_sg {i : Nat} {x : V} {σ σ' : L2.St} {H : Hp} {R : L2.St → Hp → Prop} (e : σ.set i (some x) = σ') (h : R σ' H) : gName i x σ H R := by
  show R (σ.set i (some x)) H
  rw [e]
  exact h
theorem lam_in {K : PySem.W.Frag} {CB CE CQ CP CW CF CT : Addr} {H : Hp} {Q : VK} {T : List (Addr × Str)} {t : XK → TE} {σ : L2.St} (hT : LamX.Tabs T H) (h : ∀ H2 N, Ext H H2 → LamX.Tabs T H2 → NHd Q N → t (EHd K CB CE CQ CP CW CF CT Q) σ H2 N) : LamX.tLam T (THeard K CB CE CQ CP CW CF CT) t σ H Q :=
  ⟨hT, fun H1 x T1 H2 s N hN => h H2 N (x.trans (ext_of s)) (T1.ext s) hN⟩
/-- but at p, at l, and but tables, all stands -/
def Kpl (p l : Addr) (H H' : Hp) : Prop := ∀ b o, b ≠ p → b ≠ l → (∀ ps, o ≠ .tbl ps) → H b = some o → H' b = some o
theorem Kpl.refl (p l : Addr) (H : Hp) : Kpl p l H H := fun _ _ _ _ _ h => h
theorem Kpl.trans {p l : Addr} {H H1 H2 : Hp} (a : Kpl p l H H1) (b : Kpl p l H1 H2) : Kpl p l H H2 := fun c o n m t h => b c o n m t (a c o n m t h)
theorem Kpl.ofE {p l : Addr} {H H' : Hp} (s : Ext H H') : Kpl p l H H' := fun b o _ _ t h => s b o h t
theorem Kpl.ofS {p l : Addr} {H H' : Hp} (s : Same H H') : Kpl p l H H' := fun b o _ _ _ h => s b o h
theorem Kpl.ofB {p l : Addr} {H H' : Hp} (s : SB p H H') : Kpl p l H H' := fun b o n _ _ h => s.1 b o n h
theorem kpl_app {p l : Addr} {H HC HD : Hp} {o : HO} (x1 : Ext H HC) (sD : Same HC HD) : Kpl p l H (upd HD l o) := fun b u _ m t h => by
  rw [upd_ne m]
  exact sD _ _ (x1 _ _ h t)
/-- so it is, whatever is heard -/
def Ful (p l : Addr) (H : Hp) (G : Hp → Prop) : Prop := ∀ M, Kpl p l H M → G M
theorem Ful.kpl {p l : Addr} {H H' : Hp} {G : Hp → Prop} (f : Ful p l H G) (k : Kpl p l H H') : Ful p l H' G := fun M k2 => f M (k.trans k2)
theorem Ful.same {p l : Addr} {H H' : Hp} {G : Hp → Prop} (f : Ful p l H G) (s : Same H H') : Ful p l H' G := f.kpl (.ofS s)
theorem AlbF.kpl {CA C a p l : Addr} {H H' : Hp} {n : Nat} {xs : List V} {cs : List Addr} {pss : PSS} (h : AlbF H CA C a cs pss) (v : Lens H p n) (hl : H l = some (.lst xs)) (s : Kpl p l H H') : AlbF H' CA C a cs pss := by
  obtain ⟨c, x, y, e0⟩ := v.at
  have st : ∀ {b : Addr} {o : HO}, H b = some o → (∀ xs, o ≠ .lst xs) → (∀ ps, o ≠ .tbl ps) → H' b = some o := fun {b o} e n1 n2 => s _ _ (fun z => n1 _ (by rw [z, e0] at e; exact (Option.some.inj e).symm)) (fun z => n1 _ (by rw [z, hl] at e; exact (Option.some.inj e).symm)) n2 e
  have tp : ∀ {b : Addr} {xs : List V}, H b = some (.tup xs) → H' b = some (.tup xs) := fun e => st e (by intro _ z; cases z) (by intro _ z; cases z)
  have pf : ∀ {c : Addr} {ps : List (Int × Int)}, PicF H C c ps → PicF H' C c ps := fun h => by
    obtain ⟨dx, t, u, ha, ⟨ts, ht, pr⟩, r0, r1, hu, h0, h1⟩ := h
    exact ⟨dx, t, u, st ha (by intro _ z; cases z) (by intro _ z; cases z), ⟨ts, tp ht, paired_mono pr fun _ _ z => tp z⟩, r0, r1, tp hu, tp h0, tp h1⟩
  obtain ⟨dx, t, u, rs, e, et, pp, eu, r⟩ := h
  exact ⟨dx, t, u, rs, st e (by intro _ z; cases z) (by intro _ z; cases z), tp et, paired_mono pp fun _ _ z => pf z, tp eu, paired_mono r fun _ _ z => tp z⟩
/-- what is kept by a property of the machine stays -/
def Kl (H H' : Hp) : Prop := ∀ b φ, H b = some (.ext φ) → H' b = some (.ext φ)
section
variable {K : PySem.W.Frag} {CB CE CQ CP CW CF CT p l : Addr} {H0 H : Hp} {es : List Ee} {ds : List (Addr × List Ee)} {n n0 i : Nat} {TL : List (Addr × Str)} {σ : L2.St} {D : Ends} {e : Ee}
theorem app_at {t : XK → TE} (hi : σ[i]? = some (some (.ref l))) (st : St TL p H0 l es ds n H) (v0 : Lens H0 p n0) (hl : es.length < 900)
    (ask : ∀ (Q N : VK) (HC : Hp), Kq p H0 HC → Kpl p l H HC → NHd Q N → Hr HC e Q → t (EHd K CB CE CQ CP CW CF CT Q) σ HC N)
    (next : ∀ H', St TL p H0 l (es ++ [e]) ds n H' → Kpl p l H H' → D.nx σ H') (ta : TE) (hta : ∀ H Q, LamX.tLam TL (THeard K CB CE CQ CP CW CF CT) t σ H Q → ta σ H Q) : tDrop (tBM K "list" rAppend (tVar i) (tCons ta tNil)) D σ H := by
  obtain ⟨xs, hx, lx⟩ := st.at
  refine ⟨_, hi, .inl ⟨rfl, _, SqL.of hx⟩, hta _ _ (lam_in st.T fun HC N x1 T1 hN => ?_)⟩
  refine ask _ N HC (st.z.k.trans (Kq.ofE x1)) (.ofE x1) hN fun HD x sD gx => ?_
  obtain ⟨ys, h2, lx2, st2⟩ := st.app v0 x1 T1 sD (x := x) (e := e) gx
  exact ⟨l, _, _, rfl, rfl, h2, small1000 (by rw [lx2]; omega), next _ st2 (kpl_app x1 sD)⟩
theorem app_in {t : XK → TE} (hi : σ[i]? = some (some (.ref l))) (st : St TL p H0 l es ds n H) (v0 : Lens H0 p n0) (hl : es.length < 900)
    (ask : ∀ (Q N : VK) (HC : Hp), Kq p H0 HC → Kpl p l H HC → NHd Q N → Hr HC e Q → t (EHd K CB CE CQ CP CW CF CT Q) σ HC N)
    (next : ∀ H', St TL p H0 l (es ++ [e]) ds n H' → Kpl p l H H' → D.nx σ H') : tDrop (tBM K "list" rAppend (tVar i) (tCons (LamX.tLam TL (THeard K CB CE CQ CP CW CF CT) t) tNil)) D σ H :=
  app_at hi st v0 hl ask next _ fun _ _ h => h
/-- a lambda that calls a kept one -/
theorem app_inv {t : List (Option V) → XK → TE} {js : List Nat} (hi : σ[i]? = some (some (.ref l))) (st : St TL p H0 l es ds n H) (v0 : Lens H0 p n0) (hl : es.length < 900)
    (ask : ∀ (Q N : VK) (HC : Hp), Kq p H0 HC → Ext H HC → NHd Q N → Hr HC e Q → t (js.map (NdefX.slotAt σ)) (EHd K CB CE CQ CP CW CF CT Q) σ HC N)
    (next : ∀ H', St TL p H0 l (es ++ [e]) ds n H' → Kl H H' → Kpl p l H H' → D.nx σ H') : tDrop (tBM K "list" rAppend (tVar i) (tCons (fun σ => LamX.tLam TL (THeard K CB CE CQ CP CW CF CT) (fun E => t (js.map (NdefX.slotAt σ)) E) σ) tNil)) D σ H := by
  obtain ⟨xs, hx, lx⟩ := st.at
  refine ⟨_, hi, .inl ⟨rfl, _, SqL.of hx⟩, lam_in (t := fun E => t (js.map (NdefX.slotAt σ)) E) st.T fun HC N x1 T1 hN => ?_⟩
  refine ask _ N HC (st.z.k.trans (Kq.ofE x1)) x1 hN fun HD x sD gx => ?_
  obtain ⟨ys, h2, lx2, st2⟩ := st.app v0 x1 T1 sD (x := x) (e := e) gx
  exact ⟨l, _, _, rfl, rfl, h2, small1000 (by rw [lx2]; omega), next _ st2 (fun b φ h => by
    have e1 := sD _ _ (x1 _ _ h (by intro ps z; cases z))
    rw [upd_ne (L2.ne_of e1 h2 (by intro z; cases z))]
    exact e1) (kpl_app x1 sD)⟩
/-- the first that is heard -/
theorem first_in {t : XK → TE} {R : VK} (v : Lens H p n) (T0 : LamX.Tabs TL H)
    (ask : ∀ (Q N : VK) (HC : Hp), Kq p H HC → NHd Q N → Hr HC e Q → t (EHd K CB CE CQ CP CW CF CT Q) σ HC N)
    (next : ∀ HD l H', Kq p H HD → Lens HD p n → St TL p HD l [e] [] n H' → R (.ref l) H') : tLst (tCons (LamX.tLam TL (THeard K CB CE CQ CP CW CF CT) t) tNil) σ H R := by
  refine lam_in T0 fun HC N x1 T1 hN => ask _ N HC (Kq.ofE x1) hN fun HD x sD gx => ?_
  refine ⟨by show 1 ≤ sizeLine; decide, fun l nl => ?_⟩
  have s0 := same_new (o := .lst [x]) nl
  have vD := (v.ext x1).same sD
  exact next HD l _ ((Kq.ofE x1).trans (kq_same sD)) vD ⟨Kz.same s0, vD.same s0, (T1.ext sD).ext s0, ⟨_, upd_same, .cons (gx.tup fun t ys e => s0 _ _ e) .nil⟩, vD.not_none nl, nl, fun x hx => absurd hx List.not_mem_nil⟩
end
theorem lam_passX {X : Cx} {A : Around} {outer : List Env} {s : Shared} {H : Hp} {E : XK} {scope : Scope} {f c' : Addr} : Passes (L2.CX (LamX.lamCx X A outer s H E scope f c').prog (LamX.lamCx X A outer s H E scope f c').w) (LamX.lamCx X A outer s H E scope f c') E := lam_passes (X := X) (A := A) (outer := outer) (s := s) (H := H) (E := E) (scope := scope) (f := f) (c' := c')
section
variable {K : PySem.W.Frag} {H : Hp} {σ : L2.St} {Q : VK} {a b : Str}
theorem ent_ss (h : Hr H (some (a, .str b)) Q) : tTup (tCons (tC (.str a)) (tCons (tC (.str b)) tNil)) σ H Q := ⟨by show 2 ≤ sizeLine; decide, fun q nq => h _ _ (same_new nq) ⟨q, rfl, upd_same⟩⟩
theorem ent_si {i : Int} (h : Hr H (some (a, .int i)) Q) : tTup (tCons (tC (.str a)) (tCons (tC (.int i)) tNil)) σ H Q := ⟨by show 2 ≤ sizeLine; decide, fun q nq => h _ _ (same_new nq) ⟨q, rfl, upd_same⟩⟩
theorem ent_sr {i : Nat} {v : V} {D : PyData} (hi : σ[i]? = some (some v)) (sh : Sh K H v D) (h : Hr H (some (a, .str D.shown)) Q) : tTup (tCons (tC (.str a)) (tCons (tCB (GG.rRep K) (tCons (tVar i) tNil)) tNil)) σ H Q :=
  ⟨v, hi, v, D, rfl, sh.2.2.2 H Same.me, sh.1, sh.2.1, sh.2.2.1, by show 2 ≤ sizeLine; decide, fun q nq => h _ _ (same_new nq) ⟨q, rfl, upd_same⟩⟩
end
section
variable {p l : Addr} {H0 H : Hp} {es : List Ee} {ds : List (Addr × List Ee)} {n : Nat} {TL : List (Addr × Str)} {xs : List V} {fs gs : List Ee} {R : VK}
theorem t2_all {H' : Hp} (s : Same H H') (h : Paired (T2 H) xs gs) : Paired (T2 H') xs gs := paired_mono h fun _ _ z => z.tup fun t ys e => s _ _ e
/-- what is due, told as a list -/
theorem due_new (st : St TL p H0 l es ds n H) (pr : Paired (T2 H) xs gs) (hl : gs.length < 900) (h : ∀ d H', St TL p H0 l es [(d, gs)] n H' → Same H H' → R (.ref d) H') : xs.length ≤ sizeLine ∧ ∀ q, H q = none → R (.ref q) (upd H q (.lst xs)) := by
  refine ⟨?_, fun q nq => h q _ ?_ (same_new nq)⟩
  · have := Paired.length pr
    exact Nat.le_of_lt (small1000 (by omega))
  · have s2 := st.put nq pr
    exact ⟨s2.z, s2.v, s2.T, s2.h, s2.nl, s2.nl0, fun x hx => s2.ds x (by rw [List.mem_singleton.mp hx]; exact List.mem_cons_self)⟩
theorem due_more {d : Addr} (st : St TL p H0 l es [(d, fs)] n H) (pr : Paired (T2 H) xs gs) (hl : fs.length + gs.length < 900) (h : ∀ c H', St TL p H0 l es [(c, fs ++ gs)] n H' → Same H H' → R (.ref c) H') : xs.length ≤ sizeLine ∧ ∀ q, H q = none → rCat (.ref d) (.ref q) (upd H q (.lst xs)) R := by
  have lx := Paired.length pr
  refine ⟨Nat.le_of_lt (small1000 (by omega)), fun q nq => ?_⟩
  have s1 := same_new (o := .lst xs) nq
  have st1 := st.same s1
  obtain ⟨⟨ys, hy, py⟩, _⟩ := st1.ds (d, fs) List.mem_cons_self
  have ly : ys.length = fs.length := Paired.length py
  refine ⟨d, q, ys, xs, rfl, rfl, hy, upd_same, Nat.le_of_lt (small1000 (by omega)), fun c nc => h c _ ?_ (s1.trans (same_new nc))⟩
  have s2 := st1.put nc (paired_app py (t2_all s1 pr))
  exact ⟨s2.z, s2.v, s2.T, s2.h, s2.nl, s2.nl0, fun x hx => s2.ds x (by rw [List.mem_singleton.mp hx]; exact List.mem_cons_self)⟩
end
end K14

namespace K14
open PySem PySem.Spec PyProof.Rows L2
/-! ### an album, its pictures, another picture, while all is drawn -/
structure Bdl (TL : List (Addr × Str)) (CA C p D A m : Addr) (as cs ds : List Addr) (pss : PSS) (H0 : Hp) (n : Nat) (H : Hp) : Prop where
  v : Lens H p n
  T : LamX.Tabs TL H
  td : Told H D as pss
  pm : PicL H C m ds pss
  al : AlbF H CA C A cs pss
  k0 : Kq p H0 H
section
variable {TL : List (Addr × Str)} {CA C p D A m : Addr} {as cs ds : List Addr} {pss : PSS} {H0 H H' : Hp} {n n' : Nat}
theorem Bdl.same (b : Bdl TL CA C p D A m as cs ds pss H0 n H) (s : Same H H') : Bdl TL CA C p D A m as cs ds pss H0 n H' := ⟨b.v.same s, b.T.ext s, b.td.same s, b.pm.same s, b.al.same s, b.k0.trans (kq_same s)⟩
theorem Bdl.sb (b : Bdl TL CA C p D A m as cs ds pss H0 n H) (s : SB p H H') (v' : Lens H' p n') : Bdl TL CA C p D A m as cs ds pss H0 n' H' := ⟨v', tabs_sb b.T b.v s, b.td.sb b.v s, b.pm.sb b.v s, b.al.sb b.v s, b.k0.trans (Kq.ofS s)⟩
theorem LPx.kq {a : Addr} {ps : List (Int × Int)} (h : LPx H a ps) (v : Lens H p n) (na : a ≠ p) (k : Kq p H H') : LPx H' a ps := let ⟨ts, l⟩ := h; ⟨ts, l.kq v na k⟩
end
theorem re_te {te : TE} {σ σ' : L2.St} {H : Hp} {Q : VK} (e : σ = σ') (h : te σ' H Q) : te σ H Q := by
  rw [e]
  exact h
theorem lst_at {t : TA} {σ : L2.St} {H : Hp} {Q : VK} (h : t σ H fun xs H1 => xs.length ≤ sizeLine ∧ ∀ p, H1 p = none → Q (.ref p) (upd H1 p (.lst xs))) : tLst t σ H Q := h
theorem ents {ta : TE} {tr : TA} {σ : L2.St} {H : Hp} {R : List V → Hp → Prop} {e : Ee} (he : ∀ Q, Hr H e Q → ta σ H Q) (h : ∀ H1 x, Same H H1 → T2 H1 x e → tr σ H1 fun xs H2 => R (x :: xs) H2) : tCons ta tr σ H R := he _ fun H1 x s g => h H1 x s g
section
variable {TL : List (Addr × Str)} {p l d : Addr} {H0 H : Hp} {es fs : List Ee} {ds : List (Addr × List Ee)} {n i : Nat} {ta tb tc : TE} {σ : L2.St} {R : VK} {e1 e2 e3 : Ee}
theorem due3n (st : St TL p H0 l es ds n H) (ha : ∀ Q, Hr H e1 Q → ta σ H Q) (hb : ∀ H1 Q, Same H H1 → Hr H1 e2 Q → tb σ H1 Q) (hc : ∀ H1 Q, Same H H1 → Hr H1 e3 Q → tc σ H1 Q) (h : ∀ d H', St TL p H0 l es [(d, [e1, e2, e3])] n H' → Same H H' → R (.ref d) H') : tLst (tCons ta (tCons tb (tCons tc tNil))) σ H R := by
  refine lst_at (ents ha fun K0 x0 s0 g0 => ents (fun Q => hb K0 Q s0) fun K1 x1 s1 g1 => ents (fun Q => hc K1 Q (s0.trans s1)) fun K2 x2 s2 g2 => nil_in ?_)
  have s12 := (s0.trans s1).trans s2
  exact due_new (R := R) (st.same s12) (.cons (g0.tup fun t ys e => s2 _ _ (s1 _ _ e)) (.cons (g1.tup fun t ys e => s2 _ _ e) (.cons g2 .nil))) (by show 3 < 900; decide) fun d H' st' sx => h d H' st' (s12.trans sx)
theorem due3m (hi : σ[i]? = some (some (.ref d))) (st : St TL p H0 l es [(d, fs)] n H) (ha : ∀ Q, Hr H e1 Q → ta σ H Q) (hb : ∀ H1 Q, Same H H1 → Hr H1 e2 Q → tb σ H1 Q) (hc : ∀ H1 Q, Same H H1 → Hr H1 e3 Q → tc σ H1 Q) (lf : fs.length < 800)
    (h : ∀ d H', St TL p H0 l es [(d, fs ++ [e1, e2, e3])] n H' → Same H H' → R (.ref d) H') : tOp rCat (tVar i) (tLst (tCons ta (tCons tb (tCons tc tNil)))) σ H R := by
  refine ⟨_, hi, lst_at (ents ha fun K0 x0 s0 g0 => ents (fun Q => hb K0 Q s0) fun K1 x1 s1 g1 => ents (fun Q => hc K1 Q (s0.trans s1)) fun K2 x2 s2 g2 => nil_in ?_)⟩
  have s12 := (s0.trans s1).trans s2
  exact due_more (R := R) (st.same s12) (.cons (g0.tup fun t ys e => s2 _ _ (s1 _ _ e)) (.cons (g1.tup fun t ys e => s2 _ _ e) (.cons g2 .nil))) (by show fs.length + 3 < 900; omega) fun d H' st' sx => h d H' st' (s12.trans sx)
end
/-- refused as pictures of an album -/
def AlbNo (K : PySem.W.Frag) (C : Addr) (v : V) (H : Hp) : Prop := Kd K H v false ∨ (∃ b, v = .ref b ∧ Sq H b []) ∨ ∃ b xs bs, v = .ref b ∧ Sq H b xs ∧ xs ≠ [] ∧ xs.length ≤ 100 ∧ Paired (IsA K C H) xs bs ∧ bs.all id = false
section
variable {K : PySem.W.Frag} {C CA CB CF CT b c : Addr} {H : Hp} {v x : V} {Q : VK} {E : XK} {cs : List Addr} {pss : PSS} {k : Nat}
theorem mkA_no (h : AlbNo K C v H) (r : RzV CB "part" (.str "pictures") H E) : MkA K C CA CB CF CT v H Q E := .inl ⟨h, r⟩
theorem mkA_odd (hs : Sq H b (cs.map V.ref)) (hp : Pics H C cs pss) (hn : cs ≠ []) (l : pss.length ≤ 100) (na : alike pss = false) (r : RzV CF "part" (.str "pins") H E) : MkA K C CA CB CF CT (.ref b) H Q E :=
  .inr ⟨b, cs, pss, rfl, hs, hp, hn, l, fun _ => r, (fun z => by rw [na] at z; cases z), fun z => by rw [na] at z; cases z⟩
theorem mkA_many (hs : Sq H b (cs.map V.ref)) (hp : Pics H C cs pss) (hn : cs ≠ []) (l : pss.length ≤ 100) (he : Eqn k pss) (l8 : 8 < pss.length) (r : RzF CT fullA H E) : MkA K C CA CB CF CT (.ref b) H Q E :=
  .inr ⟨b, cs, pss, rfl, hs, hp, hn, l, (fun z => by rw [he.alike] at z; cases z), fun _ _ => r, fun _ z => absurd z (by omega)⟩
theorem ares_odd (na : alike pss = false) (r : RzV CF "part" (.str "pins") H E) : ARes C CA CF CT cs pss H Q E := ⟨fun _ => r, (fun z => by rw [na] at z; cases z), fun z => by rw [na] at z; cases z⟩
theorem ares_many (he : Eqn k pss) (l8 : 8 < pss.length) (r : RzF CT fullA H E) : ARes C CA CF CT cs pss H Q E := ⟨(fun z => by rw [he.alike] at z; cases z), fun _ _ => r, fun _ z => absurd z (by omega)⟩
end
theorem alike_no {pss : PSS} {a b : List (Int × Int)} (ha : a ∈ pss) (hb : b ∈ pss) (ne : a.length ≠ b.length) : alike pss = false := by
  cases e : alike pss with
  | false => rfl
  | true =>
    have h := List.all_eq_true.mp e
    have h1 := of_decide_eq_true (h a ha)
    have h2 := of_decide_eq_true (h b hb)
    exact absurd (h1.trans h2.symm) ne
theorem rep_flat {α : Type} (x : α) : ∀ n : Nat, (List.replicate n [x]).flatten = List.replicate n x
  | 0 => rfl
  | n + 1 => by rw [List.replicate_succ, List.flatten_cons, rep_flat x n]; rfl
theorem rep_map {α β : Type} (f : α → β) (n : Nat) (x : α) : List.replicate n (f x) = (List.replicate n x).map f := by rw [List.map_replicate]
theorem paired_rep {α β : Type} {R : α → β → Prop} {x : α} {y : β} (r : R x y) : ∀ n : Nat, Paired R (List.replicate n x) (List.replicate n y)
  | 0 => .nil
  | n + 1 => .cons r (paired_rep r n)
theorem eqn_rep {k : Nat} {ps : List (Int × Int)} (h : ps.length = k) (n : Nat) : Eqn k (List.replicate n ps) := fun q hq => by rw [(List.mem_replicate.mp hq).2]; exact h
/-! ### drawn values, whatever is heard -/
structure Vl (p l : Addr) (K : PySem.W.Frag) (H : Hp) (x : V) (t : Bool) (D : PyData) : Prop where
  w : D.showable = true
  z : D.shown.length ≤ sizeLine
  d : D.depth ≤ 10
  o : PyData.strOk D.shown = true
  r : ∀ H', Kpl p l H H' → Kd K H' x t ∧ GG.Rp K H' x D
section
variable {p l a : Addr} {K : PySem.W.Frag} {H H' : Hp} {x : V} {t : Bool} {D : PyData}
theorem Vl.kpl (v : Vl p l K H x t D) (k : Kpl p l H H') : Vl p l K H' x t D := ⟨v.w, v.z, v.d, v.o, fun H2 k2 => v.r H2 (k.trans k2)⟩
theorem Vl.same (v : Vl p l K H x t D) (s : Same H H') : Vl p l K H' x t D := v.kpl (.ofS s)
theorem Vl.sh (v : Vl p l K H x t D) : Sh K H x D := ⟨v.w, v.z, v.d, fun H' s => (v.r H' (.ofS s)).2⟩
theorem Vl.kd (v : Vl p l K H x t D) : Kd K H x t := (v.r H (Kpl.refl p l H)).1
theorem vl_non : Vl p l K H .non false .none := ⟨rfl, by decide +kernel, by decide +kernel, by decide +kernel, fun _ _ => ⟨.non, .inl ⟨.non, rfl⟩⟩⟩
theorem vl_bl (b : Bool) : Vl p l K H (.bl b) false (.bool b) := ⟨rfl, by cases b <;> decide +kernel, by show 0 ≤ 10; decide, by cases b <;> decide +kernel, fun _ _ => ⟨.bl b, .inl ⟨.bl b, rfl⟩⟩⟩
theorem vl_int {i : Int} (h1 : (PyData.int i).showable = true) (h2 : (PyData.int i).shown.length ≤ sizeLine) (h3 : PyData.strOk (PyData.int i).shown = true) : Vl p l K H (.int i) false (.int i) := ⟨h1, h2, by show 0 ≤ 10; decide, h3, fun _ _ => ⟨.int i, .inl ⟨.int i, rfl⟩⟩⟩
theorem vl_str {z : Str} (h2 : (PyData.str z).shown.length ≤ sizeLine) (h3 : PyData.strOk (PyData.str z).shown = true) : Vl p l K H (.str z) false (.str z) := ⟨rfl, h2, by show 0 ≤ 10; decide, h3, fun _ _ => ⟨.str z, .inl ⟨.str z, rfl⟩⟩⟩
theorem vl_lst {i : Int} (n : a ≠ p) (m : a ≠ l) (e : H a = some (.lst [.int i])) (h1 : (PyData.list [.int i]).showable = true) (h2 : (PyData.list [.int i]).shown.length ≤ sizeLine) (h3 : PyData.strOk (PyData.list [.int i]).shown = true) : Vl p l K H (.ref a) true (.list [.int i]) :=
  ⟨h1, h2, by show 1 ≤ 10; decide, h3, fun H' k => ⟨.lst (k _ _ n m (by intro ps z; cases z) e), .inl ⟨.lst (SqL.of (k _ _ n m (by intro ps z; cases z) e)) (.cons (.int i) .nil), rfl⟩⟩⟩
theorem vl_tup {i : Int} (n : a ≠ p) (m : a ≠ l) (e : H a = some (.tup [.int i])) (h1 : (PyData.tuple [.int i]).showable = true) (h2 : (PyData.tuple [.int i]).shown.length ≤ sizeLine) (h3 : PyData.strOk (PyData.tuple [.int i]).shown = true) : Vl p l K H (.ref a) true (.tuple [.int i]) :=
  ⟨h1, h2, by show 1 ≤ 10; decide, h3, fun H' k => ⟨.tup (k _ _ n m (by intro ps z; cases z) e), .inl ⟨.tup (SqT.of (k _ _ n m (by intro ps z; cases z) e)) (.cons (.int i) .nil), rfl⟩⟩⟩
theorem vl_dK {ms : List (Int × Int)} (n : a ≠ p) (m : a ≠ l) (e : H a = some (.dK (ms.map fun m => (Sum.inl m.1, V.int m.2)))) (h1 : (GG.dI ms).showable = true) (h2 : (GG.dI ms).shown.length ≤ sizeLine) (h3 : PyData.strOk (GG.dI ms).shown = true) (h4 : (GG.dI ms).depth ≤ 10) : Vl p l K H (.ref a) false (GG.dI ms) :=
  ⟨h1, h2, h4, h3, fun H' k => ⟨.dK (k _ _ n m (by intro ps z; cases z) e), .inr ⟨a, ms, rfl, k _ _ n m (by intro ps z; cases z) e, rfl⟩⟩⟩
theorem vl_nat {n : Nat} (h : n < 9) : Vl p l K H (.int (n : Nat)) false (.int (n : Nat)) := vl_int (small_shown ⟨n, h⟩).1 (small_shown ⟨n, h⟩).2.1 (small_shown ⟨n, h⟩).2.2
end
end K14

namespace K14
open PySem PySem.Spec PyProof.Rows L2
/-! ### _law_refused_right -/
def spRF (TL : List (Addr × Str)) : Sp := fun vs H Q _ => ∃ (p D : Addr) (n k : Nat) (as : List Addr) (pss : PSS), vs = [.ref p, .ref D] ∧ Lens H p n ∧ n + 300 < 60000 ∧ Told H D as pss ∧ Tok k pss ∧ 4 ≤ k ∧ k ≤ 7 ∧ pss ≠ [] ∧ pss.length ≤ 8 ∧ LamX.Tabs TL H ∧ ∀ H', Kq p H H' → Lens H' p (n + 30) → LamX.Tabs TL H' → Q (.bl true) H'
abbrev sRF : Stmt := top 66
abbrev nRF : List Str := ["_law_lens_here", "_law_told", "_law_album", "_law_made_here", "_law_many", "_law_pins", "_law_other", "_law_odd", "_law_at", "_law_none", "_law_heard_here", "_law_due", "_law_full", "_law_strange", "_law_far", "_law_bad", "_law_ask"]
theorem scRF : FnScope nRF ["_law_lens_here", "_law_told"] (defScope sRF) := ⟨rfl, rfl, rfl, by decide +kernel, rfl, by decide +kernel, by decide +kernel⟩
def qRF : Str := (envOfC "_law_refused_right" (defScope sRF) 0 0 (.ref 0)).qual ++ "<lambda>"
/-! the two lambdas that are kept -/
def lamsOf (s : Stmt) : List Expr := match (defBody s).getD 23 (.Pass ⟨0, 0, 0, 0⟩) with
  | .For _ it _ _ _ => (match it with
    | .Tuple es _ _ => es
    | _ => [])
  | _ => []
def lamArgs (e : Expr) : Arguments := match e with
  | .Lambda a _ _ _ => a
  | _ => defArgs sRF
def lamBody (e : Expr) : Expr := match e with
  | .Lambda _ b _ _ => b
  | e => e
def lamScope (e : Expr) : Scope := match e with
  | .Lambda _ _ s _ => s
  | _ => defScope sRF
def lamE (b : Bool) : Expr := (lamsOf sRF).getD (if b then 0 else 1) (.Constant .none 0 ⟨0, 0, 0, 0⟩)
abbrev arL (b : Bool) : Arguments := lamArgs (lamE b)
abbrev exL (b : Bool) : Expr := lamBody (lamE b)
abbrev scL (b : Bool) : Scope := lamScope (lamE b)
abbrev scL1 : Scope := scL true
def psL : Bool → List Str
  | true => ["_law_some_here"]
  | false => ["_law_those"]
def nL : Bool → List Str
  | true => ["_law_some_here", "_law_album"]
  | false => ["_law_those", "_law_album"]
theorem nscL (b : Bool) : NdefX.NScope (nL b) (psL b) ["_law_album"] (scL b) := by
  cases b
  · exact NdefX.nscope_by (by decide +kernel)
  · exact NdefX.nscope_by (by decide +kernel)
theorem free1 : ∀ y ∈ scL1.names, y.2 = .free → (defScope sRF).names.lookup y.1 = some .cell ∨ (defScope sRF).names.lookup y.1 = some .free := NdefX.ndef_free (fr := ["_law_album"]) (by decide +kernel)
theorem free2 : ∀ y ∈ (scL false).names, y.2 = .free → (defScope sRF).names.lookup y.1 = some .cell ∨ (defScope sRF).names.lookup y.1 = some .free := NdefX.ndef_free (fr := ["_law_album"]) (by decide +kernel)
theorem fr1 : ∀ y ∈ (["_law_album"] : List Str), (y, NameKind.free) ∈ scL1.names := NdefX.ndef_fr (sc := defScope sRF) (nsc := scL1) (fr := ["_law_album"]) (by decide +kernel)
section
variable {P : Program} {w : World} {K : PySem.W.Frag} {mg : Str → Option Value} {base : Heap} {C CS CA CB CC CE CP CQ CW CF CT : Addr}
/-- what the two lambdas ask -/
def tbL (K : PySem.W.Frag) (C CA CB CQ CW : Addr) (E : XK) : Bool → TE
  | true => tMeth CA "picked" (Bx (spPk K C CA CB CQ CW)) [] E (tVar 1) (tCons (tVar 0) tNil)
  | false => tMeth CA "without" (Bx (spWt K C CA CB CQ CW)) [] E (tVar 1) (tCons (tVar 0) tNil)
theorem tb_in {K : PySem.W.Frag} {C CA CB CQ CW A : Addr} {E : XK} {H : Hp} {N : VK} {v : V} {cs : List Addr} {pss : PSS} {k : Nat} (b : Bool) (al : AlbF H CA C A cs pss) (he : Eqn k pss) (h8 : pss.length ≤ 8) (nj : NumJ K CQ CW v pss.length H E fun _ _ => False) : tbL K C CA CB CQ CW E b (NdefX.startF (nL b) [v] [some (.ref A)]) H N := by
  cases b with
  | true => exact ⟨_, rfl, meth_inA al (fun _ _ _ => rfl) ⟨_, rfl, .mk ⟨A, v, cs, pss, k, rfl, al, he, h8, nj.imp id fun ⟨c, ns, e, pl, nd, tw⟩ => ⟨c, ns, e, pl, fun n => (nd n).elim, tw⟩⟩⟩⟩
  | false => exact ⟨_, rfl, meth_inA al (fun _ _ _ => rfl) ⟨_, rfl, .mk ⟨A, v, cs, pss, k, rfl, al, he, h8, nj.imp id fun ⟨c, ns, e, pl, nd, tw⟩ => ⟨c, ns, e, pl, fun n => (nd n).elim, tw⟩⟩⟩⟩
theorem ncx_passes {P : Program} {w : World} {K : PySem.W.Frag} {mg : Str → Option Value} {base : Heap} {N : List Str} {F : NdefX.NF} {f : Addr} {A : Around} {outer : List Env} {s : Shared} {H : Hp} {E : XK} : Passes (L2.CX P w) (NdefX.ncx (L2.CX P w) P w K mg base N F f A outer s H E) E :=
  passes_call (X := NdefX.ncx (L2.CX P w) P w K mg base N F f A outer s H E) (takes_of rfl rfl rfl rfl) (fun _ _ _ _ h => h)
theorem ok_rf {f c Pt g : Addr} {fdH : FuncData} {oc kV doc pm ct : Value} {od an : Option Addr} {osl : Array (Option Value)} {TL : List (Addr × Str)} (hmT : (Pt, qRF) ∈ TL) (hU : ∀ x ∈ TL, x.1 = Pt → x.2 = qRF)
    (lk : K.lookup f = some ⟨oc, od, .func (PySem.W.fnOf "_law_refused_right" "_law_refused_right" (defArgs sRF) (defBody sRF) (defScope sRF) .none kV doc pm an (.ref c) ct), osl⟩) (hcd : PySem.W.codeIn K (.ref c) "_law_refused_right" = true)
    (TB : LamX.TabB base mg c Pt) (B : Bn mg) (hrep : mg "repr" = none) (T : Pc P w K mg base C CC) (TA : Ac P w K mg base C CA CB CF CT) (O : Ao P w K mg base C CA CB CE CP CQ CW CF CT) (S : SeT K CS CB CE CQ CP CW CF CT) (Sm : SeM mg CS CB CE CQ CP CW CF CT) (KN1 : NoK K C) (KN2 : NoK K CA) (FH : Fun K "_law_heard" "_law_heard" sHd g fdH) (mH : mg "_law_heard" = some (.ref g))
    (C1 : Callee P w K mg base CX0 8 "_law_made" ["_law_told"] (spMade C)) (C2 : Callee P w K mg base CX0 2 "_law_pick" ["_law_lens_here", "_law_some_here"] spPick) (C3 : Callee P w K mg base CX0 1 "_law_shot" ["_law_lens_here", "_law_many"] spShot) :
    GG.FnG P w K mg base CX0 12 f (PySem.W.fnOf "_law_refused_right" "_law_refused_right" (defArgs sRF) (defBody sRF) (defScope sRF) .none kV doc pm an (.ref c) ct) ["_law_lens_here", "_law_told"] (spRF TL) := by
  obtain ⟨f1, fd1, m1, k1, b1, G1⟩ := C1
  obtain ⟨f2, fd2, m2, k2, b2, G2⟩ := C2
  obtain ⟨f3, fd3, m3, k3, b3, G3⟩ := C3
  obtain ⟨ocH, odH, kVH, docH, pmH, anH, cdvH, ctH, oslH, rfl, lkH, hcH⟩ := FH.ex
  have bH := FH.binds (ps := ["_law_ask"]) fun _ _ _ _ _ _ us hl => match us, hl with | [_], _ => rfl
  obtain ⟨fS, fdS, GS, hsS, hfS, bS⟩ := TA.st
  obtain ⟨fj, fdj, Mj, Gj, bj, kj⟩ := O.jo
  obtain ⟨fi, fdi, Mi, Gi, bi, ki⟩ := O.wi
  obtain ⟨fp, fdp, Mp, Gp, bp, kp⟩ := O.pk
  obtain ⟨fw, fdw, Mw, Gw, bw, kw⟩ := O.wt
  have IA : ∃ (fI : Addr) (fd : FuncData), Mk K CA fI ∧ FnOk P w K mg base (L2.CX P w) 4 fI fd ["self", "pictures"] (spAI K C CA CB CF CT) ∧ Binds K fd ["self", "pictures"] [] := let ⟨a, b, c, d, e, _⟩ := TA.ini; ⟨a, b, c, d, e⟩
  have cA := TA.t.pc.cls
  have nd := scRF.nd
  refine GG.fn_g lk hcd scRF (fun vs H Q E h => ?_) fun A outer s H vs Q E sh hr h => ?_
  · obtain ⟨p, D, n, k, as, pss, rfl, _⟩ := h
    rfl
  suffices hh : ∃ t, PSs (cxOf CX0 P w K mg base nRF "_law_refused_right" (defScope sRF) f (.ref c) A outer s H E).nox (defBody sRF) t ∧ t { nx := fun _ H' => Q .non H', rt := Q } (L2.start nRF vs) H from let ⟨t, h1, h2⟩ := hh; ⟨t, h1.nox, h2⟩
  have hu : (A.deeper (envOfC "_law_refused_right" (defScope sRF) s.heap.objs.size f (.ref c))).units + 60 < cLine := by
    have := hr.un
    omega
  have crep : CallR (cxOf CX0 P w K mg base nRF "_law_refused_right" (defScope sRF) f (.ref c) A outer s H E).nox (.builtin "repr") (GG.rRep K) := GG.call_repr (X := (cxOf CX0 P w K mg base nRF "_law_refused_right" (defScope sRF) f (.ref c) A outer s H E).nox) sh (by show (A.deeper (envOfC "_law_refused_right" (defScope sRF) s.heap.objs.size f (.ref c))).units + 40 < cLine; omega)
  let XX : Cx := (cxOf CX0 P w K mg base nRF "_law_refused_right" (defScope sRF) f (.ref c) A outer s H E).nox
  have peL : ∀ {E : XK} (A' : Around) (outer' : List Env) (s0 : Shared) (H0 : Hp) (f0 c0 : Addr) (sc : Scope) (b : Bool) (c' f' : Addr) (s' : Shared) (H' : Hp), Room 8 ((LamX.lamCx XX A' outer' s0 H0 E sc f0 c0).A.deeper (NdefX.envF (GG.lamF XX (arL b) (scL b) c') f' s'.heap.objs.size)) → PE (NdefX.ncx (L2.CX P w) P w K mg base (nL b) (GG.lamF XX (arL b) (scL b) c') f' (LamX.lamCx XX A' outer' s0 H0 E sc f0 c0).A (LamX.lamCx XX A' outer' s0 H0 E sc f0 c0).stack s' H' E) (exL b) (tbL K C CA CB CQ CW E b) := by
    intro E A' outer' s0 H0 f0 c0 sc b c' f' s' H' hr
    cases b with
    | true => exact pe_meth (E := E) (X := NdefX.ncx (L2.CX P w) P w K mg base (nL true) (GG.lamF XX (arL true) (scL true) c') f' (LamX.lamCx XX A' outer' s0 H0 E sc f0 c0).A (LamX.lamCx XX A' outer' s0 H0 E sc f0 c0).stack s' H' E) (pv 1) cA Mp Gp (hr.mono (by decide)) bp .nil ncx_passes (pa_cons (pv 0) pa_nil)
    | false => exact pe_meth (E := E) (X := NdefX.ncx (L2.CX P w) P w K mg base (nL false) (GG.lamF XX (arL false) (scL false) c') f' (LamX.lamCx XX A' outer' s0 H0 E sc f0 c0).A (LamX.lamCx XX A' outer' s0 H0 E sc f0 c0).stack s' H' E) (pv 1) cA Mw Gw (hr.mono (by decide)) bw .nil ncx_passes (pa_cons (pv 0) pa_nil)
  obtain ⟨p, D, n, k, as, pss, rfl, hv, hn, td, tk, k4, k7, hne, h8, hT, q⟩ := h
  refine ⟨_, (pss_cons (ps_asg (pe_tup (pa_cons ((pe_mkA (E := E0) K TA.mgC IA (hr.mono (by decide)) passL rfl (pa_cons ((pe_call G1 (hr.mono (by decide)) rfl m1 k1 b1 .nil pass0 (pa_cons (pv 1) pa_nil))) pa_nil))) (pa_cons ((pe_call G1 (hr.mono (by decide)) rfl m1 k1 b1 .nil pass0 (pa_cons (pv 1) pa_nil))) (pa_cons ((pe_callB call_len_seq (by rfl) B.len PySem.boot_len (pa_cons (pv 1) pa_nil))) (pa_cons ((pe_callB call_len_seq (by rfl) B.len PySem.boot_len (pa_cons ((pe_ix (r := rIxL K) ix_listK (pv 1) (pe_int) (fun _ _ => rfl))) pa_nil))) pa_nil))))) (pg_tup rfl (pgs_cons (pg_name (i := 2) nd rfl (Or.inr rfl)) (pgs_cons (pg_name (i := 3) nd rfl (Or.inr rfl)) (pgs_cons (pg_name (i := 4) nd rfl (Or.inr rfl)) (pgs_cons (pg_name (i := 5) nd rfl (Or.inl rfl)) pgs_nil)))))) (pss_cons ((ps_set (i := 6) nd rfl (Or.inr rfl) ((pe_mkP (E := E0) T (hr.mono (by decide)) passL rfl (pa_cons (pe_ifExp (pt_cmpR op_gt (pv 5) pe_int (nomark _)) (pe_slice (r := rSlL K) sl_listK ((pe_ix (r := rIxL K) ix_listK (pv 1) (pe_int) (fun _ _ => rfl))) (po_none) (po_some (pe_int))) (pe_op op_cat ((pe_ix (r := rIxL K) ix_listK (pv 1) (pe_int) (fun _ _ => rfl))) (pe_lst (pa_cons (pe_tup (pa_cons (pe_int) (pa_cons (pe_int) pa_nil))) pa_nil)))) pa_nil))))) (pss_cons (ps_asg (pe_tup (pa_cons ((pe_call G2 (hr.mono (by decide)) rfl m2 k2 b2 .nil pass0 (pa_cons (pv 0) (pa_cons (pe_lst (pa_cons (pe_non) (pa_cons (pe_int) (pa_cons ((pe_ix (r := rIxL K) ix_listK (pv 1) (pe_int) (fun _ _ => rfl))) (pa_cons (pe_str) (pa_cons (pv 2) (pa_cons (pe_bl) (pa_cons (pe_tup pa_nil) pa_nil)))))))) pa_nil)))) (pa_cons ((pe_call G3 (hr.mono (by decide)) rfl m3 k3 b3 .nil pass0 (pa_cons (pv 0) (pa_cons (pv 4) pa_nil)))) pa_nil))) (pg_tup rfl (pgs_cons ((pg_name (i := 7) nd rfl (Or.inr rfl))) (pgs_cons ((pg_name (i := 8) nd rfl (Or.inr rfl))) pgs_nil)))) (pss_cons ((ps_set (i := 9) nd rfl (Or.inr rfl) ((pe_call G2 (hr.mono (by decide)) rfl m2 k2 b2 .nil pass0 (pa_cons (pv 0) (pa_cons (pe_lst (pa_cons (pe_non) (pa_cons (pe_int) (pa_cons (pe_lst pa_nil) (pa_cons (pe_tup pa_nil) (pa_cons ((pe_ix (r := rIxL K) ix_listK (pv 3) (pe_int) (fun _ _ => rfl))) (pa_cons (pe_str) (pa_cons (pv 2) (pa_cons (pe_disp (pps_cons pe_int ((pe_ix (r := rIxL K) ix_listK (pv 3) (pe_int) (fun _ _ => rfl))) pps_nil) rfl rfl (by intro z; cases z) (by decide)) (pa_cons (pe_lst (pa_cons ((pe_ix (r := rIxL K) ix_listK (pv 1) (pe_int) (fun _ _ => rfl))) pa_nil)) (pa_cons (pe_op op_cat (pe_op op_cat ((pe_slice (r := rSlL K) sl_listK (pv 3) (po_none) (po_some (pv 8)))) (pe_lst (pa_cons (pv 7) pa_nil))) ((pe_slice (r := rSlL K) sl_listK (pv 3) (po_some (pv 8)) (po_none)))) (pa_cons (pe_op op_cat (pe_op op_rep (pe_lst (pa_cons (pv 6) pa_nil)) (pe_int)) (pe_lst (pa_cons (pv 7) pa_nil))) pa_nil)))))))))))) pa_nil)))))) (pss_cons ((ps_set (i := 10) nd rfl (Or.inl rfl) (pe_lst (pa_cons ((LamX.pe_lamcall (T := TL) (TT := THeard K CB CE CQ CP CW CF CT) (Ng := nHd) (a := "_law_ask") (k := 9) rfl mH FH.kp lkH hcH bH scHd rfl (Or.inl rfl) (heard_gives sh hu B hrep S Sm) TB rfl hmT hU hr (LamX.lamS_by (by show LamX.lamSB (defScope sRF) _ = true; decide +kernel)) rfl (fun _ _ _ _ _ => rfl) (fun A outer s H E f c hr => (pe_mkA (E := E) K TA.mgC IA (hr.mono (by decide)) lam_passX rfl (pa_cons (pv 9) pa_nil))))) pa_nil)))) (pss_cons ((ps_expr (pe_bm PySem.F.plainAttrs_list PySem.F.slot_list_append PySem.F.type_list_append mt_append (pv 10) (pa_cons ((LamX.pe_lamcall (T := TL) (TT := THeard K CB CE CQ CP CW CF CT) (Ng := nHd) (a := "_law_ask") (k := 9) rfl mH FH.kp lkH hcH bH scHd rfl (Or.inl rfl) (heard_gives sh hu B hrep S Sm) TB rfl hmT hU hr (LamX.lamS_by (by show LamX.lamSB (defScope sRF) _ = true; decide +kernel)) rfl (fun _ _ _ _ _ => rfl) (fun A outer s H E f c hr => (pe_mkA (E := E) K TA.mgC IA (hr.mono (by decide)) lam_passX rfl (pa_cons (pe_op op_cat (pe_op op_cat ((pe_slice (r := rSlL K) sl_listK (pv 3) (po_none) (po_some (pe_op op_add (pv 8) pe_int)))) (pe_lst (pa_cons (pv 6) pa_nil))) ((pe_slice (r := rSlL K) sl_listK (pv 3) (po_some (pv 8)) (po_none)))) pa_nil))))) pa_nil)))) (pss_cons ((ps_expr (pe_bm PySem.F.plainAttrs_list PySem.F.slot_list_append PySem.F.type_list_append mt_append (pv 10) (pa_cons ((LamX.pe_lamcall (T := TL) (TT := THeard K CB CE CQ CP CW CF CT) (Ng := nHd) (a := "_law_ask") (k := 9) rfl mH FH.kp lkH hcH bH scHd rfl (Or.inl rfl) (heard_gives sh hu B hrep S Sm) TB rfl hmT hU hr (LamX.lamS_by (by show LamX.lamSB (defScope sRF) _ = true; decide +kernel)) rfl (fun _ _ _ _ _ => rfl) (fun A outer s H E f c hr => (pe_mkA (E := E) K TA.mgC IA (hr.mono (by decide)) lam_passX rfl (pa_cons (pe_op op_rep ((pe_slice (r := rSlL K) sl_listK (pv 3) (po_none) (po_some (pe_int)))) (pe_int)) pa_nil))))) pa_nil)))) (pss_cons ((ps_set (i := 11) nd rfl (Or.inl rfl) (pe_lst (pa_cons ((pe_tup (pa_cons (pe_str) (pa_cons (pe_str) pa_nil)))) (pa_cons ((pe_tup (pa_cons (pe_str) (pa_cons (pe_str) pa_nil)))) (pa_cons ((pe_tup (pa_cons (pe_str) (pa_cons (pe_int) pa_nil)))) pa_nil)))))) (pss_cons ((ps_expr (pe_bm PySem.F.plainAttrs_list PySem.F.slot_list_append PySem.F.type_list_append mt_append (pv 10) (pa_cons ((LamX.pe_lamcall (T := TL) (TT := THeard K CB CE CQ CP CW CF CT) (Ng := nHd) (a := "_law_ask") (k := 9) rfl mH FH.kp lkH hcH bH scHd rfl (Or.inl rfl) (heard_gives sh hu B hrep S Sm) TB rfl hmT hU hr (LamX.lamS_by (by show LamX.lamSB (defScope sRF) _ = true; decide +kernel)) rfl (fun _ _ _ _ _ => rfl) (fun A outer s H E f c hr => (pe_mkA (E := E) K TA.mgC IA (hr.mono (by decide)) lam_passX rfl (pa_cons (pe_op op_cat (pe_op op_rep ((pe_slice (r := rSlL K) sl_listK (pv 3) (po_none) (po_some (pe_int)))) (pe_int)) (pe_lst (pa_cons (pv 6) pa_nil))) pa_nil))))) pa_nil)))) (pss_cons ((ps_expr (pe_bm PySem.F.plainAttrs_list PySem.F.slot_list_append PySem.F.type_list_append mt_append (pv 10) (pa_cons ((LamX.pe_lamcall (T := TL) (TT := THeard K CB CE CQ CP CW CF CT) (Ng := nHd) (a := "_law_ask") (k := 9) rfl mH FH.kp lkH hcH bH scHd rfl (Or.inl rfl) (heard_gives sh hu B hrep S Sm) TB rfl hmT hU hr (LamX.lamS_by (by show LamX.lamSB (defScope sRF) _ = true; decide +kernel)) rfl (fun _ _ _ _ _ => rfl) (fun A outer s H E f c hr => (pe_meth (E := E) (pv 2) cA Mi Gi (hr.mono (by decide)) bi .nil lam_passes (pa_cons (pv 7) pa_nil))))) pa_nil)))) (pss_cons ((ps_expr (pe_bm PySem.F.plainAttrs_list PySem.F.slot_list_append PySem.F.type_list_append mt_append (pv 10) (pa_cons ((LamX.pe_lamcall (T := TL) (TT := THeard K CB CE CQ CP CW CF CT) (Ng := nHd) (a := "_law_ask") (k := 9) rfl mH FH.kp lkH hcH bH scHd rfl (Or.inl rfl) (heard_gives sh hu B hrep S Sm) TB rfl hmT hU hr (LamX.lamS_by (by show LamX.lamSB (defScope sRF) _ = true; decide +kernel)) rfl (fun _ _ _ _ _ => rfl) (fun A outer s H E f c hr => (pe_meth (E := E) (pv 2) cA Mi Gi (hr.mono (by decide)) bi .nil lam_passes (pa_cons (pv 6) pa_nil))))) pa_nil)))) (pss_cons ((ps_set (i := 11) nd rfl (Or.inl rfl) (pe_op op_cat (pv 11) (pe_lst (pa_cons ((pe_tup (pa_cons (pe_str) (pa_cons (pe_str) pa_nil)))) (pa_cons ((pe_tup (pa_cons (pe_str) (pa_cons (pe_str) pa_nil)))) (pa_cons ((pe_tup (pa_cons (pe_str) (pa_cons (pe_str) pa_nil)))) pa_nil))))))) (pss_cons ((ps_set (i := 12) nd rfl (Or.inr rfl) ((pe_mkA (E := E0) K TA.mgC IA (hr.mono (by decide)) passL rfl (pa_cons (pe_op op_rep ((pe_slice (r := rSlL K) sl_listK (pv 3) (po_none) (po_some (pe_int)))) (pe_int)) pa_nil))))) (pss_cons ((ps_expr (pe_bm PySem.F.plainAttrs_list PySem.F.slot_list_append PySem.F.type_list_append mt_append (pv 10) (pa_cons ((LamX.pe_lamcall (T := TL) (TT := THeard K CB CE CQ CP CW CF CT) (Ng := nHd) (a := "_law_ask") (k := 9) rfl mH FH.kp lkH hcH bH scHd rfl (Or.inl rfl) (heard_gives sh hu B hrep S Sm) TB rfl hmT hU hr (LamX.lamS_by (by show LamX.lamSB (defScope sRF) _ = true; decide +kernel)) rfl (fun _ _ _ _ _ => rfl) (fun A outer s H E f c hr => (pe_meth (E := E) (pv 12) cA Mi Gi (hr.mono (by decide)) bi .nil lam_passes (pa_cons ((pe_ix (r := rIxL K) ix_listK (pv 3) (pe_int) (fun _ _ => rfl))) pa_nil))))) pa_nil)))) (pss_cons ((ps_expr (pe_bm PySem.F.plainAttrs_list PySem.F.slot_list_append PySem.F.type_list_append mt_append (pv 10) (pa_cons ((LamX.pe_lamcall (T := TL) (TT := THeard K CB CE CQ CP CW CF CT) (Ng := nHd) (a := "_law_ask") (k := 9) rfl mH FH.kp lkH hcH bH scHd rfl (Or.inl rfl) (heard_gives sh hu B hrep S Sm) TB rfl hmT hU hr (LamX.lamS_by (by show LamX.lamSB (defScope sRF) _ = true; decide +kernel)) rfl (fun _ _ _ _ _ => rfl) (fun A outer s H E f c hr => (pe_meth (E := E) (pv 12) cA Mi Gi (hr.mono (by decide)) bi .nil lam_passes (pa_cons (pv 6) pa_nil))))) pa_nil)))) (pss_cons ((ps_expr (pe_bm PySem.F.plainAttrs_list PySem.F.slot_list_append PySem.F.type_list_append mt_append (pv 10) (pa_cons ((LamX.pe_lamcall (T := TL) (TT := THeard K CB CE CQ CP CW CF CT) (Ng := nHd) (a := "_law_ask") (k := 9) rfl mH FH.kp lkH hcH bH scHd rfl (Or.inl rfl) (heard_gives sh hu B hrep S Sm) TB rfl hmT hU hr (LamX.lamS_by (by show LamX.lamSB (defScope sRF) _ = true; decide +kernel)) rfl (fun _ _ _ _ _ => rfl) (fun A outer s H E f c hr => (pe_meth (E := E) (pv 12) cA Mj Gj (hr.mono (by decide)) bj .nil lam_passes (pa_cons ((pe_mkA (E := E) K TA.mgC IA (hr.mono (by decide)) lam_passX rfl (pa_cons (pe_lst (pa_cons (pv 6) pa_nil)) pa_nil))) pa_nil))))) pa_nil)))) (pss_cons ((ps_set (i := 11) nd rfl (Or.inl rfl) (pe_op op_cat (pv 11) (pe_lst (pa_cons ((pe_tup (pa_cons (pe_str) (pa_cons (pe_int) pa_nil)))) (pa_cons ((pe_tup (pa_cons (pe_str) (pa_cons (pe_str) pa_nil)))) (pa_cons ((pe_tup (pa_cons (pe_str) (pa_cons (pe_str) pa_nil)))) pa_nil))))))) (pss_cons ((ps_set (i := 13) nd rfl (Or.inr rfl) ((pe_call G2 (hr.mono (by decide)) rfl m2 k2 b2 .nil pass0 (pa_cons (pv 0) (pa_cons (pe_lst (pa_cons (pe_non) (pa_cons (pe_int) (pa_cons ((pe_ix (r := rIxL K) ix_listK (pv 3) (pe_int) (fun _ _ => rfl))) (pa_cons (pv 3) (pa_cons (pe_callTy (T := "str") (call_strI GS hsS hfS bS (hr.mono (by decide))) (by rfl) B.str (by decide +kernel) (pa_cons (pv 2) pa_nil)) (pa_cons (pe_bl) pa_nil))))))) pa_nil)))))) (pss_cons ((ps_expr (pe_bm PySem.F.plainAttrs_list PySem.F.slot_list_append PySem.F.type_list_append mt_append (pv 10) (pa_cons ((LamX.pe_lamcall (T := TL) (TT := THeard K CB CE CQ CP CW CF CT) (Ng := nHd) (a := "_law_ask") (k := 9) rfl mH FH.kp lkH hcH bH scHd rfl (Or.inl rfl) (heard_gives sh hu B hrep S Sm) TB rfl hmT hU hr (LamX.lamS_by (by show LamX.lamSB (defScope sRF) _ = true; decide +kernel)) rfl (fun _ _ _ _ _ => rfl) (fun A outer s H E f c hr => (pe_meth (E := E) (pv 12) cA Mj Gj (hr.mono (by decide)) bj .nil lam_passes (pa_cons (pv 2) pa_nil))))) pa_nil)))) (pss_cons ((ps_expr (pe_bm PySem.F.plainAttrs_list PySem.F.slot_list_append PySem.F.type_list_append mt_append (pv 10) (pa_cons ((LamX.pe_lamcall (T := TL) (TT := THeard K CB CE CQ CP CW CF CT) (Ng := nHd) (a := "_law_ask") (k := 9) rfl mH FH.kp lkH hcH bH scHd rfl (Or.inl rfl) (heard_gives sh hu B hrep S Sm) TB rfl hmT hU hr (LamX.lamS_by (by show LamX.lamSB (defScope sRF) _ = true; decide +kernel)) rfl (fun _ _ _ _ _ => rfl) (fun A outer s H E f c hr => (pe_meth (E := E) (pv 12) cA Mj Gj (hr.mono (by decide)) bj .nil lam_passes (pa_cons (pv 13) pa_nil))))) pa_nil)))) (pss_cons ((ps_expr (pe_bm PySem.F.plainAttrs_list PySem.F.slot_list_append PySem.F.type_list_append mt_append (pv 10) (pa_cons ((LamX.pe_lamcall (T := TL) (TT := THeard K CB CE CQ CP CW CF CT) (Ng := nHd) (a := "_law_ask") (k := 9) rfl mH FH.kp lkH hcH bH scHd rfl (Or.inl rfl) (heard_gives sh hu B hrep S Sm) TB rfl hmT hU hr (LamX.lamS_by (by show LamX.lamSB (defScope sRF) _ = true; decide +kernel)) rfl (fun _ _ _ _ _ => rfl) (fun A outer s H E f c hr => (pe_meth (E := E) (pv 2) cA Mj Gj (hr.mono (by decide)) bj .nil lam_passes (pa_cons ((pe_mkA (E := E) K TA.mgC IA (hr.mono (by decide)) lam_passX rfl (pa_cons (pe_op op_rep ((pe_slice (r := rSlL K) sl_listK (pv 3) (po_none) (po_some (pe_int)))) (pe_op op_sub pe_int (pv 4))) pa_nil))) pa_nil))))) pa_nil)))) (pss_cons ((ps_set (i := 11) nd rfl (Or.inl rfl) (pe_op op_cat (pv 11) (pe_lst (pa_cons ((pe_tup (pa_cons (pe_str) (pa_cons (pe_int) pa_nil)))) (pa_cons ((pe_tup (pa_cons (pe_str) (pa_cons (pe_str) pa_nil)))) (pa_cons ((pe_tup (pa_cons (pe_str) (pa_cons (pe_int) pa_nil)))) pa_nil))))))) (pss_cons (ps_asg (pe_tup (pa_cons ((pe_call G2 (hr.mono (by decide)) rfl m2 k2 b2 .nil pass0 (pa_cons (pv 0) (pa_cons (pe_lst (pa_cons (pe_un un_neg pe_int) (pa_cons (pv 4) (pa_cons (pe_non) (pa_cons (pe_bl) (pa_cons (pe_bl) (pa_cons (pe_str) (pa_cons (pe_lst (pa_cons (pe_int) pa_nil)) (pa_cons (pe_op op_pow pe_int pe_int) pa_nil))))))))) pa_nil)))) (pa_cons ((pe_call G2 (hr.mono (by decide)) rfl m2 k2 b2 .nil pass0 (pa_cons (pv 0) (pa_cons (pe_lst (pa_cons (pe_non) (pa_cons (pe_int) (pa_cons (pe_str) (pa_cons (pe_disp (pps_cons pe_int (pe_int) pps_nil) rfl rfl (by intro z; cases z) (by decide)) pa_nil))))) pa_nil)))) pa_nil))) (pg_tup rfl (pgs_cons ((pg_name (i := 14) nd rfl (Or.inr rfl))) (pgs_cons ((pg_name (i := 15) nd rfl (Or.inr rfl))) pgs_nil)))) (pss_cons (ps_for PassesOwn.never rfl (pi_tup (pe_tup (pa_cons (GG.pe_lamv (T := TL) TB rfl hmT hU rfl (free1)) (pa_cons (GG.pe_lamv (T := TL) TB rfl hmT hU rfl (free2)) pa_nil)))) (pg_name (i := 16) nd rfl (Or.inr rfl)) (pss_cons ((ps_expr (pe_bm PySem.F.plainAttrs_list PySem.F.slot_list_append PySem.F.type_list_append mt_append (pv 10) (pa_cons ((GG.pe_lamcallv (T := TL) (TT := THeard K CB CE CQ CP CW CF CT) (Ng := nHd) (a := "_law_ask") (k := 9) (fr := ["_law_album"]) (js := [2]) (fun ok => NdefX.Caps.made (scope := scL1) ok free1 fr1 rfl) rfl mH FH.kp lkH hcH bH scHd rfl (Or.inl rfl) (heard_gives sh hu B hrep S Sm) TB rfl hmT hU hr (LamX.lamS_by (by show LamX.lamSB (defScope sRF) _ = true; decide +kernel)) rfl (fun _ _ _ _ _ => rfl) (fun ws A1 outer1 s1 H1 E f1 c1 hC hr => (GG.pe_callv (tb := tbL K C CA CB CQ CW E) (ι := Bool) (mk := fun b c => GG.lamF XX (arL b) (scL b) c) (e := exL) (N := nL) (ps := psL) (i := 16) (k := 8) (m := 1) (CX := L2.CX P w) hC rfl (fun b _ => match b with | true => rfl | false => rfl) (fun b => match b with | true => rfl | false => rfl) (fun b c => nscL b) (fun b c u v us hl => match b, us, hl with | true, [_], _ => rfl | false, [_], _ => rfl) (hr.mono (by decide)) lam_passes rfl (Or.inr (Or.inr rfl)) (pa_cons (pv 15) pa_nil) (fun b c2 f2 s2 H2 hr2 => peL A1 outer1 s1 H1 f1 c1 _ b c2 f2 s2 H2 hr2))))) pa_nil)))) (pss_cons ((ps_expr (pe_bm PySem.F.plainAttrs_list PySem.F.slot_list_append PySem.F.type_list_append mt_append (pv 10) (pa_cons ((GG.pe_lamcallv (T := TL) (TT := THeard K CB CE CQ CP CW CF CT) (Ng := nHd) (a := "_law_ask") (k := 9) (fr := ["_law_album"]) (js := [2]) (fun ok => NdefX.Caps.made (scope := scL1) ok free1 fr1 rfl) rfl mH FH.kp lkH hcH bH scHd rfl (Or.inl rfl) (heard_gives sh hu B hrep S Sm) TB rfl hmT hU hr (LamX.lamS_by (by show LamX.lamSB (defScope sRF) _ = true; decide +kernel)) rfl (fun _ _ _ _ _ => rfl) (fun ws A1 outer1 s1 H1 E f1 c1 hC hr => (GG.pe_callv (tb := tbL K C CA CB CQ CW E) (ι := Bool) (mk := fun b c => GG.lamF XX (arL b) (scL b) c) (e := exL) (N := nL) (ps := psL) (i := 16) (k := 8) (m := 1) (CX := L2.CX P w) hC rfl (fun b _ => match b with | true => rfl | false => rfl) (fun b => match b with | true => rfl | false => rfl) (fun b c => nscL b) (fun b c u v us hl => match b, us, hl with | true, [_], _ => rfl | false, [_], _ => rfl) (hr.mono (by decide)) lam_passes rfl (Or.inr (Or.inr rfl)) (pa_cons (pe_lst (pa_cons (pe_int) (pa_cons (pe_int) (pa_cons (pv 14) pa_nil)))) pa_nil) (fun b c2 f2 s2 H2 hr2 => peL A1 outer1 s1 H1 f1 c1 _ b c2 f2 s2 H2 hr2))))) pa_nil)))) (pss_cons ((ps_expr (pe_bm PySem.F.plainAttrs_list PySem.F.slot_list_append PySem.F.type_list_append mt_append (pv 10) (pa_cons ((GG.pe_lamcallv (T := TL) (TT := THeard K CB CE CQ CP CW CF CT) (Ng := nHd) (a := "_law_ask") (k := 9) (fr := ["_law_album"]) (js := [2]) (fun ok => NdefX.Caps.made (scope := scL1) ok free1 fr1 rfl) rfl mH FH.kp lkH hcH bH scHd rfl (Or.inl rfl) (heard_gives sh hu B hrep S Sm) TB rfl hmT hU hr (LamX.lamS_by (by show LamX.lamSB (defScope sRF) _ = true; decide +kernel)) rfl (fun _ _ _ _ _ => rfl) (fun ws A1 outer1 s1 H1 E f1 c1 hC hr => (GG.pe_callv (tb := tbL K C CA CB CQ CW E) (ι := Bool) (mk := fun b c => GG.lamF XX (arL b) (scL b) c) (e := exL) (N := nL) (ps := psL) (i := 16) (k := 8) (m := 1) (CX := L2.CX P w) hC rfl (fun b _ => match b with | true => rfl | false => rfl) (fun b => match b with | true => rfl | false => rfl) (fun b c => nscL b) (fun b c u v us hl => match b, us, hl with | true, [_], _ => rfl | false, [_], _ => rfl) (hr.mono (by decide)) lam_passes rfl (Or.inr (Or.inr rfl)) (pa_cons (pe_tup (pa_cons (pv 8) (pa_cons (pe_int) (pa_cons (pv 8) pa_nil)))) pa_nil) (fun b c2 f2 s2 H2 hr2 => peL A1 outer1 s1 H1 f1 c1 _ b c2 f2 s2 H2 hr2))))) pa_nil)))) (pss_one ((ps_set (i := 11) nd rfl (Or.inl rfl) (pe_op op_cat (pv 11) (pe_lst (pa_cons ((pe_tup (pa_cons (pe_str) (pa_cons ((pe_callB crep (by rfl) hrep PyProof.Rows.boot_repr (pa_cons (pv 15) pa_nil))) pa_nil)))) (pa_cons ((pe_tup (pa_cons (pe_str) (pa_cons ((pe_callB crep (by rfl) hrep PyProof.Rows.boot_repr (pa_cons (pv 14) pa_nil))) pa_nil)))) (pa_cons ((pe_tup (pa_cons (pe_str) (pa_cons ((pe_callB crep (by rfl) hrep PyProof.Rows.boot_repr (pa_cons (pv 8) pa_nil))) pa_nil)))) pa_nil)))))))))))) (pss_cons ((ps_expr (pe_bm PySem.F.plainAttrs_list PySem.F.slot_list_append PySem.F.type_list_append mt_append (pv 10) (pa_cons ((LamX.pe_lamcall (T := TL) (TT := THeard K CB CE CQ CP CW CF CT) (Ng := nHd) (a := "_law_ask") (k := 9) rfl mH FH.kp lkH hcH bH scHd rfl (Or.inl rfl) (heard_gives sh hu B hrep S Sm) TB rfl hmT hU hr (LamX.lamS_by (by show LamX.lamSB (defScope sRF) _ = true; decide +kernel)) rfl (fun _ _ _ _ _ => rfl) (fun A outer s H E f c hr => (pe_meth (E := E) (pv 2) cA Mp Gp (hr.mono (by decide)) bp .nil lam_passes (pa_cons (pe_lst pa_nil) pa_nil))))) pa_nil)))) (pss_cons ((ps_expr (pe_bm PySem.F.plainAttrs_list PySem.F.slot_list_append PySem.F.type_list_append mt_append (pv 10) (pa_cons ((LamX.pe_lamcall (T := TL) (TT := THeard K CB CE CQ CP CW CF CT) (Ng := nHd) (a := "_law_ask") (k := 9) rfl mH FH.kp lkH hcH bH scHd rfl (Or.inl rfl) (heard_gives sh hu B hrep S Sm) TB rfl hmT hU hr (LamX.lamS_by (by show LamX.lamSB (defScope sRF) _ = true; decide +kernel)) rfl (fun _ _ _ _ _ => rfl) (fun A outer s H E f c hr => (pe_meth (E := E) (pv 2) cA Mw Gw (hr.mono (by decide)) bw .nil lam_passes (pa_cons (pe_revLK K (pe_listRg rfl (by rfl) B.list (prg_1 rfl B.range (pv 4)))) pa_nil))))) pa_nil)))) (pss_cons ((ps_set (i := 11) nd rfl (Or.inl rfl) (pe_op op_cat (pv 11) (pe_op op_rep (pe_lst (pa_cons ((pe_tup (pa_cons (pe_str) (pa_cons (pe_str) pa_nil)))) pa_nil)) (pe_int))))) (pss_one (ps_ret (pe_cmpR (op_eqD hr.units) (pv 10) (pv 11) (nomark _))))))))))))))))))))))))))))))), ?_⟩
  obtain ⟨p0, pz, rfl⟩ : ∃ p0 pz, pss = p0 :: pz := by
    cases pss with
    | nil => exact absurd rfl hne
    | cons a b => exact ⟨a, b, rfl⟩
  have la := td.len
  have lk := (tk p0 List.mem_cons_self).1
  have ok0 := (tk p0 List.mem_cons_self).2
  refine ⟨_, rfl, D, as, _, rfl, td, tk.ok, Nat.le_trans h8 (by decide), fun H1 R cs s1 nR pl => ?_⟩
  refine ⟨.ref R, rfl, mkA_of (.inl pl.1) pl.2 tk.eqn hne h8 fun A2 H2 s2 nA al => ?_⟩
  refine ⟨_, rfl, D, as, _, rfl, td.same (s1.trans s2), tk.ok, Nat.le_trans h8 (by decide), fun H3 m ds s3 nm pm => ?_⟩
  have s03 := (s1.trans s2).trans s3
  have bd : Bdl TL CA C p D A2 m as cs ds (p0 :: pz) H n H3 := ⟨hv.same s03, hT.ext s03, td.same s03, pm, al.same s3, kq_same s03⟩
  clear s03 s3 s2 s1 pl nR nA nm al pm hv hT
  obtain ⟨a0, ea0, hx0⟩ : ∃ a0, (as.map V.ref)[0]? = some (.ref a0) ∧ ∀ {M : Hp} {q : Nat}, Bdl TL CA C p D A2 m as cs ds (p0 :: pz) H q M → LPx M a0 p0 := by
    obtain ⟨a0, e, _⟩ := td.at (i := 0) (ps := p0) rfl
    refine ⟨a0, e, fun b => ?_⟩
    obtain ⟨a1, e1, r⟩ := b.td.at (i := 0) (ps := p0) rfl
    rw [e] at e1
    cases e1
    exact r
  clear td
  refine ⟨_, rfl, D, _, rfl, .inl (SqL.of bd.td.1), ?_⟩
  rw [List.length_map, la]
  obtain ⟨ts0, lp0⟩ := hx0 bd
  refine ⟨_, rfl, D, _, 0, .ref a0, rfl, rfl, SqL.of bd.td.1, atI_nat (j := 0) ea0, a0, _, rfl, .inl (SqL.of lp0.1), ?_⟩
  rw [List.length_map, lp0.len, lk]
  refine ⟨by show 4 ≤ sizeLine; decide, fun t4 nt4 => ?_⟩
  have st4 := same_new (o := .tup [V.ref A2, V.ref m, V.int ((p0 :: pz).length : Nat), V.int (k : Nat)]) nt4
  have gt4 : upd H3 t4 (.tup [V.ref A2, V.ref m, V.int ((p0 :: pz).length : Nat), V.int (k : Nat)]) t4 = some (.tup [V.ref A2, V.ref m, V.int ((p0 :: pz).length : Nat), V.int (k : Nat)]) := upd_same
  have pt4 : t4 ≠ p := bd.v.not_none nt4
  have bd := bd.same st4
  generalize upd H3 t4 (.tup [V.ref A2, V.ref m, V.int ((p0 :: pz).length : Nat), V.int (k : Nat)]) = H4 at st4 gt4 bd ⊢
  refine ⟨t4, _, rfl, SqT.of gt4, rfl, _, _, rfl, _, _, rfl, _, _, rfl, _, _, rfl, rfl, ?_⟩
  clear st4 gt4 nt4 lp0
  dsimp only
  refine re_st (σ' := [some (.ref p), some (.ref D), some (.ref A2), some (.ref m), some (V.int ((p0 :: pz).length : Nat)), some (V.int (k : Nat)), none, none, none, none, none, none, none, none, none, none, none]) rfl ?_
  -- another picture
  dsimp only [tCons, tMkP, gName, tSeq, tAsg]
  refine tIf_key (fun v H' => Same H4 H' ∧ ∃ os, Pls H' v os ∧ OkP os ∧ os.length ≠ k) (fun Q hQ => ?_) (fun x6 H5 hG => ?_)
  · obtain ⟨ts0, lp0⟩ := hx0 bd
    refine ⟨_, rfl, _, _, rfl, rfl, _, rfl, ?_⟩
    by_cases hl : 4 < k
    · rw [decide_eq_true (show (4 : Int) < ((k : Nat) : Int) by omega)]
      have e4 : cutV (ts0.map V.ref) none (some 4) = (ts0.map V.ref).take 4 := cut_to (k := 4) (by rw [List.length_map, lp0.len, lk]; exact k4)
      refine iteT ⟨_, rfl, D, _, 0, .ref a0, rfl, rfl, SqL.of bd.td.1, atI_nat (j := 0) ea0, 4, rfl, a0, _, rfl, SqL.of lp0.1, fun b nb => ?_⟩
      rw [e4, ← List.map_take]
      have sb := same_new (o := .lst ((ts0.take 4).map V.ref)) nb
      have lpb : LP (upd H4 b (.lst ((ts0.take 4).map V.ref))) b (ts0.take 4) (p0.take 4) := ⟨upd_same, (paired_take (lp0.same sb).2 4).1⟩
      have l4 : (p0.take 4).length = 4 := by
        rw [List.length_take, lk]
        omega
      refine hQ _ _ ⟨sb, _, lpb.pls, ⟨by omega, by omega, fun q hq => ok0.2.2 q (List.mem_of_mem_take hq)⟩, by omega⟩
    · rw [decide_eq_false (show ¬ (4 : Int) < ((k : Nat) : Int) by omega)]
      refine iteF ⟨_, rfl, D, _, 0, .ref a0, rfl, rfl, SqL.of bd.td.1, atI_nat (j := 0) ea0, by show 2 ≤ sizeLine; decide, fun t1 n1 => ⟨by show 1 ≤ sizeLine; decide, fun l1 n2 => ?_⟩⟩
      have s1 := same_new (o := .tup [V.int 1, V.int 1]) n1
      have s2 := same_new (o := .lst [V.ref t1]) n2
      have g1 := s2 t1 _ upd_same
      have g2 := (s1.trans s2) _ _ lp0.1
      refine ⟨a0, l1, _, _, rfl, rfl, g2, upd_same, ?_, fun b nb => ?_⟩
      · rw [List.length_map, lp0.len, lk]
        exact Nat.le_of_lt (small1000 (by show k + 1 ≤ 1000; omega))
      · have s3 := same_new (o := .lst (ts0.map V.ref ++ [V.ref t1])) nb
        have s13 := (s1.trans s2).trans s3
        have lpb : LP (upd (upd (upd H4 t1 (.tup [V.int 1, V.int 1])) l1 (.lst [V.ref t1])) b (.lst (ts0.map V.ref ++ [V.ref t1]))) b (ts0 ++ [t1]) (p0 ++ [(1, 1)]) := ⟨by rw [upd_same, List.map_append]; rfl, paired_snoc (lp0.same s13).2 (s3 _ _ g1)⟩
        have G : G9 = 1000000000 := rfl
        refine hQ _ _ ⟨s13, _, lpb.pls, more_ok ok0 (by omega) (by omega) (by omega), ?_⟩
        rw [List.length_append, lk]
        show k + 1 ≠ k
        omega
  obtain ⟨s5, os, plo, oko, lo⟩ := hG
  have bd := bd.same s5
  refine ⟨_, rfl, .inl ⟨os, plo, oko, fun o H6 s6 no po => ?_⟩⟩
  have bd := bd.same s6
  clear s5 s6 plo no
  dsimp only
  refine re_te (σ' := [some (.ref p), some (.ref D), some (.ref A2), some (.ref m), some (V.int ((p0 :: pz).length : Nat)), some (V.int (k : Nat)), some (.ref o), none, none, none, none, none, none, none, none, none, none]) rfl ?_
  -- an odd value, a place
  refine ⟨_, rfl, _, rfl, D, _, 0, .ref a0, rfl, rfl, SqL.of bd.td.1, atI_nat (j := 0) ea0, _, rfl, Nat.zero_le _, fun t7 nt7 => ?_⟩
  have st7 := same_new (o := .tup []) nt7
  have gt7 : upd H6 t7 (.tup []) t7 = some (.tup []) := upd_same
  have bd := bd.same st7
  have po := po.same st7
  generalize upd H6 t7 (.tup []) = H7 at st7 gt7 bd po ⊢
  clear st7 nt7
  have isP : ∀ {M : Hp} {x : V} {u : Value}, Kx K M x u → PySem.W.kitOne K u (.ref C) = some false → IsA K C M x false := fun k e => k.isA e
  have aKx : ∀ {M : Hp} {q : Nat}, Bdl TL CA C p D A2 m as cs ds (p0 :: pz) H q M → Kx K M (.ref A2) (.ref CA) := fun b => by
    obtain ⟨dx, t, u, rs, ha, _⟩ := b.al
    exact .ins ha TA.t.pc
  have pKx : ∀ {M : Hp} {c : Addr} {qs : List (Int × Int)}, PicF M C c qs → Kx K M (.ref c) (.ref C) := fun b => by
    obtain ⟨dx, t, u, ha, _⟩ := b
    exact .ins ha T.t.pc
  have na0 : a0 ≠ p := by
    obtain ⟨ts0, lp0⟩ := hx0 bd
    exact bd.v.not_refs lp0.1
  have fu : Fut p H7 fun M => AlbF M CA C A2 cs (p0 :: pz) ∧ PicL M C m ds (p0 :: pz) ∧ PicF M C o os ∧ LPx M a0 p0 := fun M kq => ⟨bd.al.kq bd.v kq, ⟨keptl bd.pm.1 (bd.v.not_refs bd.pm.1) kq, bd.pm.2.kq bd.v kq⟩, po.kq bd.v kq, (hx0 bd).kq bd.v na0 kq⟩
  have aI : ∀ {M : Hp}, AlbF M CA C A2 cs (p0 :: pz) → Kx K M (.ref A2) (.ref CA) := fun b => by
    obtain ⟨dx, t, u, rs, ha, _⟩ := b
    exact .ins ha TA.t.pc
  have oo : ∀ x ∈ [V.non, V.int 5, V.ref a0, V.str "0 0 / 1 0 / 0 1 / 1 1", V.ref A2, V.bl true, V.ref t7], Fut p H7 fun M => IsA K C M x false := fun x hx M kq => by
    obtain ⟨fa, _, _, ts, fl⟩ := fu M kq
    simp only [List.mem_cons, List.not_mem_nil, or_false] at hx
    rcases hx with rfl | rfl | rfl | rfl | rfl | rfl | rfl
    · exact isP .non KN1.n
    · exact isP (.int _) KN1.i
    · exact isP (.lst fl.1) KN1.l
    · exact isP (.str _) KN1.s
    · exact isP (aI fa) TA.pn
    · exact isP (.bl _) KN1.b
    · exact isP (.tup (kq _ _ (bd.v.not_tup gt7) (by intro ps z; cases z) gt7)) KN1.t
  refine ⟨by show 7 ≤ sizeLine; decide, fun l8 nl8 => ?_⟩
  have sl8 := same_new (o := .lst [V.non, V.int 5, V.ref a0, V.str "0 0 / 1 0 / 0 1 / 1 1", V.ref A2, V.bl true, V.ref t7]) nl8
  have gl8 : upd H7 l8 (.lst [V.non, V.int 5, V.ref a0, V.str "0 0 / 1 0 / 0 1 / 1 1", V.ref A2, V.bl true, V.ref t7]) l8 = some (.lst [V.non, V.int 5, V.ref a0, V.str "0 0 / 1 0 / 0 1 / 1 1", V.ref A2, V.bl true, V.ref t7]) := upd_same
  have pl8 : l8 ≠ p := bd.v.not_none nl8
  have bd := bd.same sl8
  have fu := fu.same sl8
  generalize upd H7 l8 (.lst [V.non, V.int 5, V.ref a0, V.str "0 0 / 1 0 / 0 1 / 1 1", V.ref A2, V.bl true, V.ref t7]) = H8 at sl8 gl8 bd fu ⊢
  have oo : ∀ x ∈ [V.non, V.int 5, V.ref a0, V.str "0 0 / 1 0 / 0 1 / 1 1", V.ref A2, V.bl true, V.ref t7], Fut p H8 fun M => IsA K C M x false := fun x hx => (oo x hx).same sl8
  refine ⟨p, l8, _, _, rfl, bd.v, by omega, gl8, pl8, by show 0 < 7; decide, by show 7 ≤ 1000; decide, fun H9 od' sb9 v9 hx => ?_⟩
  have fod := (oo od' hx).sb sb9
  have fu := fu.sb sb9
  have bd := bd.sb sb9 v9
  clear oo hx sb9 v9 sl8 gl8 nl8 gt7 po
  have lpos : 0 < (p0 :: pz).length := Nat.succ_pos _
  refine ⟨_, rfl, _, rfl, p, ((p0 :: pz).length : Nat), _, rfl, bd.v, by omega, by omega, by omega, fun H10 d sb10 v10 d0 d1 => ?_⟩
  obtain ⟨at', rfl⟩ := Int.eq_ofNat_of_zero_le d0
  have hat : at' < (p0 :: pz).length := by omega
  have fod := fod.sb sb10
  have fu := fu.sb sb10
  have bd := bd.sb sb10 v10
  clear d0 d1 sb10 v10
  refine ⟨by show 2 ≤ sizeLine; decide, fun t11 nt11 => ?_⟩
  have st11 := same_new (o := .tup [od', V.int (at' : Nat)]) nt11
  have gt11 : upd H10 t11 (.tup [od', V.int (at' : Nat)]) t11 = some (.tup [od', V.int (at' : Nat)]) := upd_same
  have pt11 : t11 ≠ p := bd.v.not_none nt11
  have bd := bd.same st11
  have fu := fu.same st11
  have fod := fod.same st11
  generalize upd H10 t11 (.tup [od', V.int (at' : Nat)]) = H11 at st11 gt11 bd fu fod ⊢
  refine ⟨t11, _, rfl, SqT.of gt11, rfl, _, _, rfl, _, _, rfl, rfl, ?_⟩
  clear st11 gt11 nt11
  refine re_st (σ' := [some (.ref p), some (.ref D), some (.ref A2), some (.ref m), some (V.int ((p0 :: pz).length : Nat)), some (V.int (k : Nat)), some (.ref o), some (od'), some (V.int (at' : Nat)), none, none, none, none, none, none, none, none]) rfl ?_
  -- what makes no album
  obtain ⟨d0, dz, rfl⟩ : ∃ d0 dz, ds = d0 :: dz := by
    cases ds with
    | nil => exact absurd bd.pm.2.len (by intro z; cases z)
    | cons a b => exact ⟨a, b, rfl⟩
  have ld : (d0 :: dz).length = (p0 :: pz).length := bd.pm.2.len
  refine ⟨_, rfl, Nat.zero_le _, fun q1 nq1 => ?_⟩
  have sq1 := same_new (o := .lst []) nq1
  have gq1 : upd H11 q1 (.lst []) q1 = some (.lst []) := upd_same
  have pq1 : q1 ≠ p := bd.v.not_none nq1
  have bd := bd.same sq1
  have fu := fu.same sq1
  have fod := fod.same sq1
  generalize upd H11 q1 (.lst []) = H12 at sq1 gq1 bd fu fod ⊢
  refine ⟨Nat.zero_le _, fun q2 nq2 => ?_⟩
  have sq2 := same_new (o := .tup []) nq2
  have gq2 : upd H12 q2 (.tup []) q2 = some (.tup []) := upd_same
  have pq2 : q2 ≠ p := bd.v.not_none nq2
  have bd := bd.same sq2
  have fu := fu.same sq2
  have fod := fod.same sq2
  have gq1 := sq2 _ _ gq1
  generalize upd H12 q2 (.tup []) = H13 at sq2 gq2 bd fu fod gq1 ⊢
  refine ⟨_, rfl, m, _, 0, .ref d0, rfl, rfl, SqL.of bd.pm.1, atI_nat (j := 0) rfl, _, rfl, ?_⟩
  refine fun q3 nq3 => ?_
  refine ⟨_, rfl, m, _, 0, .ref d0, rfl, rfl, SqL.of ((same_new nq3) _ _ bd.pm.1), atI_nat (j := 0) rfl, ?_⟩
  refine ⟨upd_same, [(Sum.inl 0, V.ref d0)], rfl, by show 1 ≤ 15; decide, ?_⟩
  have ed : upd (upd H13 q3 (.dK [])) q3 (.dK (mergeK [] [(Sum.inl 0, V.ref d0)])) = upd H13 q3 (.dK [(Sum.inl 0, V.ref d0)]) := by
    funext b
    by_cases z : b = q3
    · rw [z, upd_same, upd_same]
      rfl
    · rw [upd_ne z, upd_ne z, upd_ne z]
  rw [ed]
  clear ed
  have pq3 : q3 ≠ p := bd.v.not_none nq3
  have sq3 := same_new (o := .dK [(Sum.inl 0, V.ref d0)]) nq3
  have gq3 : upd H13 q3 (.dK [(Sum.inl 0, V.ref d0)]) q3 = some (.dK [(Sum.inl 0, V.ref d0)]) := upd_same
  have bd := bd.same sq3
  have fu := fu.same sq3
  have fod := fod.same sq3
  have gq1 := sq3 _ _ gq1
  have gq2 := sq3 _ _ gq2
  generalize upd H13 q3 (.dK [(Sum.inl 0, V.ref d0)]) = H14 at sq3 gq3 bd fu fod gq1 gq2 ⊢
  refine ⟨_, rfl, D, _, 0, .ref a0, rfl, rfl, SqL.of bd.td.1, atI_nat (j := 0) ea0, by show 1 ≤ sizeLine; decide, fun q4 nq4 => ?_⟩
  have sq4 := same_new (o := .lst [V.ref a0]) nq4
  have gq4 : upd H14 q4 (.lst [V.ref a0]) q4 = some (.lst [V.ref a0]) := upd_same
  have pq4 : q4 ≠ p := bd.v.not_none nq4
  have bd := bd.same sq4
  have fu := fu.same sq4
  have fod := fod.same sq4
  have gq1 := sq4 _ _ gq1
  have gq2 := sq4 _ _ gq2
  have gq3 := sq4 _ _ gq3
  generalize upd H14 q4 (.lst [V.ref a0]) = H15 at sq4 gq4 bd fu fod gq1 gq2 gq3 ⊢
  have lm : ((d0 :: dz).map V.ref).length = (p0 :: pz).length := by rw [List.length_map, ld]
  have atl : at' ≤ ((d0 :: dz).map V.ref).length := by omega
  refine ⟨_, rfl, _, rfl, _, rfl, m, _, rfl, SqL.of bd.pm.1, ?_⟩
  rw [cut_to atl]
  refine fun u1 nu1 => ?_
  have su1 := same_new (o := .lst (((d0 :: dz).map V.ref).take at')) nu1
  have gu1 : upd H15 u1 (.lst (((d0 :: dz).map V.ref).take at')) u1 = some (.lst (((d0 :: dz).map V.ref).take at')) := upd_same
  have pu1 : u1 ≠ p := bd.v.not_none nu1
  have bd := bd.same su1
  have fu := fu.same su1
  have fod := fod.same su1
  have gq1 := su1 _ _ gq1
  have gq2 := su1 _ _ gq2
  have gq3 := su1 _ _ gq3
  have gq4 := su1 _ _ gq4
  generalize upd H15 u1 (.lst (((d0 :: dz).map V.ref).take at')) = H16 at su1 gu1 bd fu fod gq1 gq2 gq3 gq4 ⊢
  refine ⟨_, rfl, by show 1 ≤ sizeLine; decide, fun u2 nu2 => ?_⟩
  have su2 := same_new (o := .lst [od']) nu2
  have gu2 : upd H16 u2 (.lst [od']) u2 = some (.lst [od']) := upd_same
  have pu2 : u2 ≠ p := bd.v.not_none nu2
  have bd := bd.same su2
  have fu := fu.same su2
  have fod := fod.same su2
  have gq1 := su2 _ _ gq1
  have gq2 := su2 _ _ gq2
  have gq3 := su2 _ _ gq3
  have gq4 := su2 _ _ gq4
  have gu1 := su2 _ _ gu1
  generalize upd H16 u2 (.lst [od']) = H17 at su2 gu2 bd fu fod gq1 gq2 gq3 gq4 gu1 ⊢
  refine ⟨u1, u2, _, _, rfl, rfl, gu1, gu2, ?_, ?_⟩
  · rw [List.length_take]
    exact Nat.le_of_lt (small1000 (by show min at' _ + 1 ≤ 1000; omega))
  refine fun u3 nu3 => ?_
  have su3 := same_new (o := .lst (((d0 :: dz).map V.ref).take at' ++ [od'])) nu3
  have gu3 : upd H17 u3 (.lst (((d0 :: dz).map V.ref).take at' ++ [od'])) u3 = some (.lst (((d0 :: dz).map V.ref).take at' ++ [od'])) := upd_same
  have pu3 : u3 ≠ p := bd.v.not_none nu3
  have bd := bd.same su3
  have fu := fu.same su3
  have fod := fod.same su3
  have gq1 := su3 _ _ gq1
  have gq2 := su3 _ _ gq2
  have gq3 := su3 _ _ gq3
  have gq4 := su3 _ _ gq4
  generalize upd H17 u3 (.lst (((d0 :: dz).map V.ref).take at' ++ [od'])) = H18 at su3 gu3 bd fu fod gq1 gq2 gq3 gq4 ⊢
  refine ⟨_, rfl, _, rfl, _, rfl, m, _, rfl, SqL.of bd.pm.1, ?_⟩
  rw [cut_from atl]
  refine fun u4 nu4 => ?_
  have su4 := same_new (o := .lst (((d0 :: dz).map V.ref).drop at')) nu4
  have gu4 : upd H18 u4 (.lst (((d0 :: dz).map V.ref).drop at')) u4 = some (.lst (((d0 :: dz).map V.ref).drop at')) := upd_same
  have pu4 : u4 ≠ p := bd.v.not_none nu4
  have bd := bd.same su4
  have fu := fu.same su4
  have fod := fod.same su4
  have gq1 := su4 _ _ gq1
  have gq2 := su4 _ _ gq2
  have gq3 := su4 _ _ gq3
  have gq4 := su4 _ _ gq4
  have gu3 := su4 _ _ gu3
  generalize upd H18 u4 (.lst (((d0 :: dz).map V.ref).drop at')) = H19 at su4 gu4 bd fu fod gq1 gq2 gq3 gq4 gu3 ⊢
  refine ⟨u3, u4, _, _, rfl, rfl, gu3, gu4, ?_, ?_⟩
  · rw [List.length_append, List.length_take, List.length_drop]
    exact Nat.le_of_lt (small1000 (by show min at' _ + 1 + _ ≤ 1000; omega))
  refine fun q5 nq5 => ?_
  have sq5 := same_new (o := .lst (((d0 :: dz).map V.ref).take at' ++ [od'] ++ ((d0 :: dz).map V.ref).drop at')) nq5
  have gq5 : upd H19 q5 (.lst (((d0 :: dz).map V.ref).take at' ++ [od'] ++ ((d0 :: dz).map V.ref).drop at')) q5 = some (.lst (((d0 :: dz).map V.ref).take at' ++ [od'] ++ ((d0 :: dz).map V.ref).drop at')) := upd_same
  have pq5 : q5 ≠ p := bd.v.not_none nq5
  have bd := bd.same sq5
  have fu := fu.same sq5
  have fod := fod.same sq5
  have gq1 := sq5 _ _ gq1
  have gq2 := sq5 _ _ gq2
  have gq3 := sq5 _ _ gq3
  have gq4 := sq5 _ _ gq4
  generalize upd H19 q5 (.lst (((d0 :: dz).map V.ref).take at' ++ [od'] ++ ((d0 :: dz).map V.ref).drop at')) = H20 at sq5 gq5 bd fu fod gq1 gq2 gq3 gq4 ⊢
  clear su1 gu1 nu1 pu1 su2 gu2 nu2 pu2 su3 gu3 nu3 pu3 su4 gu4 nu4 pu4
  refine ⟨_, rfl, by show 1 ≤ sizeLine; decide, fun w1 nw1 => ?_⟩
  have sw1 := same_new (o := .lst [V.ref o]) nw1
  have gw1 : upd H20 w1 (.lst [V.ref o]) w1 = some (.lst [V.ref o]) := upd_same
  have pw1 : w1 ≠ p := bd.v.not_none nw1
  have bd := bd.same sw1
  have fu := fu.same sw1
  have fod := fod.same sw1
  have gq1 := sw1 _ _ gq1
  have gq2 := sw1 _ _ gq2
  have gq3 := sw1 _ _ gq3
  have gq4 := sw1 _ _ gq4
  have gq5 := sw1 _ _ gq5
  generalize upd H20 w1 (.lst [V.ref o]) = H21 at sw1 gw1 bd fu fod gq1 gq2 gq3 gq4 gq5 ⊢
  refine ⟨w1, 9, _, rfl, rfl, gw1, by decide, by decide, by show 1 * 9 ≤ sizeLine; decide, ?_⟩
  rw [rep_flat]
  refine fun w2 nw2 => ?_
  have sw2 := same_new (o := .lst (List.replicate (Int.toNat 9) (V.ref o))) nw2
  have gw2 : upd H21 w2 (.lst (List.replicate (Int.toNat 9) (V.ref o))) w2 = some (.lst (List.replicate (Int.toNat 9) (V.ref o))) := upd_same
  have pw2 : w2 ≠ p := bd.v.not_none nw2
  have bd := bd.same sw2
  have fu := fu.same sw2
  have fod := fod.same sw2
  have gq1 := sw2 _ _ gq1
  have gq2 := sw2 _ _ gq2
  have gq3 := sw2 _ _ gq3
  have gq4 := sw2 _ _ gq4
  have gq5 := sw2 _ _ gq5
  generalize upd H21 w2 (.lst (List.replicate (Int.toNat 9) (V.ref o))) = H22 at sw2 gw2 bd fu fod gq1 gq2 gq3 gq4 gq5 ⊢
  refine ⟨_, rfl, by show 1 ≤ sizeLine; decide, fun w3 nw3 => ?_⟩
  have sw3 := same_new (o := .lst [od']) nw3
  have gw3 : upd H22 w3 (.lst [od']) w3 = some (.lst [od']) := upd_same
  have pw3 : w3 ≠ p := bd.v.not_none nw3
  have bd := bd.same sw3
  have fu := fu.same sw3
  have fod := fod.same sw3
  have gq1 := sw3 _ _ gq1
  have gq2 := sw3 _ _ gq2
  have gq3 := sw3 _ _ gq3
  have gq4 := sw3 _ _ gq4
  have gq5 := sw3 _ _ gq5
  have gw2 := sw3 _ _ gw2
  generalize upd H22 w3 (.lst [od']) = H23 at sw3 gw3 bd fu fod gq1 gq2 gq3 gq4 gq5 gw2 ⊢
  refine ⟨w2, w3, _, _, rfl, rfl, gw2, gw3, by show (List.replicate (Int.toNat 9) (V.ref o)).length + 1 ≤ sizeLine; rw [List.length_replicate]; decide, ?_⟩
  refine fun q6 nq6 => ?_
  have sq6 := same_new (o := .lst (List.replicate (Int.toNat 9) (V.ref o) ++ [od'])) nq6
  have gq6 : upd H23 q6 (.lst (List.replicate (Int.toNat 9) (V.ref o) ++ [od'])) q6 = some (.lst (List.replicate (Int.toNat 9) (V.ref o) ++ [od'])) := upd_same
  have pq6 : q6 ≠ p := bd.v.not_none nq6
  have bd := bd.same sq6
  have fu := fu.same sq6
  have fod := fod.same sq6
  have gq1 := sq6 _ _ gq1
  have gq2 := sq6 _ _ gq2
  have gq3 := sq6 _ _ gq3
  have gq4 := sq6 _ _ gq4
  have gq5 := sq6 _ _ gq5
  generalize upd H23 q6 (.lst (List.replicate (Int.toNat 9) (V.ref o) ++ [od'])) = H24 at sq6 gq6 bd fu fod gq1 gq2 gq3 gq4 gq5 ⊢
  clear sw1 gw1 nw1 pw1 sw2 gw2 nw2 pw2 sw3 gw3 nw3 pw3 sq1 nq1 sq2 nq2 sq3 nq3 sq4 nq4 sq5 nq5 sq6 nq6
  have no : ∀ x ∈ [V.non, V.int 5, V.ref q1, V.ref q2, V.ref d0, V.str "x", V.ref A2, V.ref q3, V.ref q4, V.ref q5, V.ref q6], Fut p H24 (AlbNo K C x) := fun x hx M kq => by
    obtain ⟨fa, fm, fo, ts, fl⟩ := fu M kq
    have fd := fod M kq
    have lk' : ∀ {b : Addr} {xs : List V}, b ≠ p → H24 b = some (.lst xs) → M b = some (.lst xs) := fun n e => keptl e n kq
    have tru : Paired (IsA K C M) ((d0 :: dz).map V.ref) ((p0 :: pz).map fun _ => true) := fm.2.isA T.t
    simp only [List.mem_cons, List.not_mem_nil, or_false] at hx
    rcases hx with rfl | rfl | rfl | rfl | rfl | rfl | rfl | rfl | rfl | rfl | rfl
    · exact .inl .non
    · exact .inl (.int _)
    · exact .inr (.inl ⟨_, rfl, .inl (lk' pq1 gq1)⟩)
    · exact .inr (.inl ⟨_, rfl, .inr (kq _ _ pq2 (by intro ps z; cases z) gq2)⟩)
    · obtain ⟨c1, ps1, e1, e2, e3, r⟩ := fm.2.mem (i := 0) (x := .ref d0) rfl
      cases e2
      obtain ⟨dx, t, u, ha, _⟩ := r
      exact .inl (.ins ha T.t.pc)
    · exact .inl (.str _)
    · obtain ⟨dx, t, u, rs, ha, _⟩ := fa
      exact .inl (.ins ha TA.t.pc)
    · exact .inl (.dK (kq _ _ pq3 (by intro ps z; cases z) gq3))
    · exact .inr (.inr ⟨_, _, [false], rfl, .inl (lk' pq4 gq4), by simp, by show 1 ≤ 100; decide, .cons (isP (.lst fl.1) KN1.l) .nil, rfl⟩)
    · refine .inr (.inr ⟨_, _, ((p0 :: pz).map fun _ => true).take at' ++ [false] ++ ((p0 :: pz).map fun _ => true).drop at', rfl, .inl (lk' pq5 gq5), by simp, ?_, paired_app (paired_app (paired_take tru at').1 (.cons fd .nil)) (paired_take tru at').2, by simp⟩)
      rw [List.length_append, List.length_append, List.length_take, List.length_drop]
      show min at' _ + 1 + _ ≤ 100
      omega
    · have fo' : IsA K C M (.ref o) true := fo.isA T.t
      exact .inr (.inr ⟨_, _, List.replicate (Int.toNat 9) true ++ [false], rfl, .inl (lk' pq6 gq6), by simp, by show (List.replicate (Int.toNat 9) (V.ref o) ++ [od']).length ≤ 100; rw [List.length_append, List.length_replicate]; show Int.toNat 9 + 1 ≤ 100; decide, paired_app (paired_rep fo' _) (.cons fd .nil), by simp⟩)
  clear gq1 gq2 gq3 gq4 gq5 gq6 pq1 pq2 pq3 pq4 pq5 pq6
  refine ⟨by show 11 ≤ sizeLine; decide, fun l25 nl25 => ?_⟩
  have sl25 := same_new (o := .lst [V.non, V.int 5, V.ref q1, V.ref q2, V.ref d0, V.str "x", V.ref A2, V.ref q3, V.ref q4, V.ref q5, V.ref q6]) nl25
  have gl25 : upd H24 l25 (.lst [V.non, V.int 5, V.ref q1, V.ref q2, V.ref d0, V.str "x", V.ref A2, V.ref q3, V.ref q4, V.ref q5, V.ref q6]) l25 = some (.lst [V.non, V.int 5, V.ref q1, V.ref q2, V.ref d0, V.str "x", V.ref A2, V.ref q3, V.ref q4, V.ref q5, V.ref q6]) := upd_same
  have pl25 : l25 ≠ p := bd.v.not_none nl25
  have bd := bd.same sl25
  have fu := fu.same sl25
  have fod := fod.same sl25
  generalize upd H24 l25 (.lst [V.non, V.int 5, V.ref q1, V.ref q2, V.ref d0, V.str "x", V.ref A2, V.ref q3, V.ref q4, V.ref q5, V.ref q6]) = H25 at sl25 gl25 bd fu fod ⊢
  have no := fun x hx => (no x hx).same sl25
  refine ⟨p, l25, _, _, rfl, bd.v, by omega, gl25, pl25, by show 0 < 11; decide, by show 11 ≤ 1000; decide, fun H26 no' sb v26 hx => ?_⟩
  have fno := (no no' hx).sb sb
  have fu := fu.sb sb
  have fod := fod.sb sb
  have bd := bd.sb sb v26
  clear no hx sb v26 sl25 gl25 nl25 pl25
  refine re_sg (σ' := [some (.ref p), some (.ref D), some (.ref A2), some (.ref m), some (V.int ((p0 :: pz).length : Nat)), some (V.int (k : Nat)), some (.ref o), some (od'), some (V.int (at' : Nat)), some (no'), none, none, none, none, none, none, none]) rfl ?_
  -- what is heard
  have hne' : d0 :: dz ≠ [] := by simp
  have cne : cs ≠ [] := bd.al.ne (by simp)
  dsimp only [tSeq, tAsg]
  refine first_in (e := some ("album", .str "pictures")) bd.v bd.T (fun Q' N HC kC hN hr => ⟨_, rfl, _, rfl, mkA_no (fno HC kC) (hB hr)⟩) fun HD l N0 kD vD st => ?_
  have fu := fu.kq kD
  have fod := fod.kq kD
  have fno := fno.kq kD
  have kB := bd.k0.trans kD
  clear bd kD
  refine re_sg (σ' := [some (.ref p), some (.ref D), some (.ref A2), some (.ref m), some (V.int ((p0 :: pz).length : Nat)), some (V.int (k : Nat)), some (.ref o), some (od'), some (V.int (at' : Nat)), some (no'), some (.ref l), none, none, none, none, none, none]) rfl ?_
  have atl1 : at' + 1 ≤ ((d0 :: dz).map V.ref).length := by omega
  refine app_in (e := some ("misfit", .str "pins")) rfl st vD (by show 1 < 900; decide) (fun Q' N HC kC kL hN hr => ?_) (fun N1 st kL => ?_)
  · obtain ⟨fa, fm, fo, fl⟩ := fu HC kC
    refine ⟨_, rfl, _, rfl, _, _, rfl, rfl, _, rfl, m, _, rfl, SqL.of fm.1, ?_⟩
    rw [show (at' : Int) + 1 = ((at' + 1 : Nat) : Int) by omega, cut_to atl1]
    refine fun e1 ne1 => ?_
    have se1 := same_new (o := .lst (((d0 :: dz).map V.ref).take (at' + 1))) ne1
    have ge1 : upd HC e1 (.lst (((d0 :: dz).map V.ref).take (at' + 1))) e1 = some (.lst (((d0 :: dz).map V.ref).take (at' + 1))) := upd_same
    have hr := hr.same se1
    have fm := fm.same se1
    have fo := fo.same se1
    have fa := fa.same se1
    generalize upd HC e1 (.lst (((d0 :: dz).map V.ref).take (at' + 1))) = E1 at se1 ge1 hr fm fo fa ⊢
    refine ⟨_, rfl, by show 1 ≤ sizeLine; decide, fun e2 ne2 => ?_⟩
    have se2 := same_new (o := .lst [V.ref o]) ne2
    have ge2 : upd E1 e2 (.lst [V.ref o]) e2 = some (.lst [V.ref o]) := upd_same
    have hr := hr.same se2
    have fm := fm.same se2
    have fo := fo.same se2
    have fa := fa.same se2
    have ge1 := se2 _ _ ge1
    generalize upd E1 e2 (.lst [V.ref o]) = E2 at se2 ge2 hr fm fo fa ge1 ⊢
    refine ⟨e1, e2, _, _, rfl, rfl, ge1, ge2, ?_, ?_⟩
    · rw [List.length_take]
      exact Nat.le_of_lt (small1000 (by show min (at' + 1) _ + 1 ≤ 1000; omega))
    refine fun e3 ne3 => ?_
    have se3 := same_new (o := .lst (((d0 :: dz).map V.ref).take (at' + 1) ++ [V.ref o])) ne3
    have ge3 : upd E2 e3 (.lst (((d0 :: dz).map V.ref).take (at' + 1) ++ [V.ref o])) e3 = some (.lst (((d0 :: dz).map V.ref).take (at' + 1) ++ [V.ref o])) := upd_same
    have hr := hr.same se3
    have fm := fm.same se3
    have fo := fo.same se3
    have fa := fa.same se3
    generalize upd E2 e3 (.lst (((d0 :: dz).map V.ref).take (at' + 1) ++ [V.ref o])) = E3 at se3 ge3 hr fm fo fa ⊢
    refine ⟨_, rfl, _, rfl, _, rfl, m, _, rfl, SqL.of fm.1, ?_⟩
    rw [cut_from atl]
    refine fun e4 ne4 => ?_
    have se4 := same_new (o := .lst (((d0 :: dz).map V.ref).drop at')) ne4
    have ge4 : upd E3 e4 (.lst (((d0 :: dz).map V.ref).drop at')) e4 = some (.lst (((d0 :: dz).map V.ref).drop at')) := upd_same
    have hr := hr.same se4
    have fm := fm.same se4
    have fo := fo.same se4
    have fa := fa.same se4
    have ge3 := se4 _ _ ge3
    generalize upd E3 e4 (.lst (((d0 :: dz).map V.ref).drop at')) = E4 at se4 ge4 hr fm fo fa ge3 ⊢
    refine ⟨e3, e4, _, _, rfl, rfl, ge3, ge4, ?_, ?_⟩
    · rw [List.length_append, List.length_take, List.length_drop]
      exact Nat.le_of_lt (small1000 (by show min (at' + 1) _ + 1 + _ ≤ 1000; omega))
    refine fun e5 ne5 => ?_
    have se5 := same_new (o := .lst (((d0 :: dz).map V.ref).take (at' + 1) ++ [V.ref o] ++ ((d0 :: dz).map V.ref).drop at')) ne5
    have ge5 : upd E4 e5 (.lst (((d0 :: dz).map V.ref).take (at' + 1) ++ [V.ref o] ++ ((d0 :: dz).map V.ref).drop at')) e5 = some (.lst (((d0 :: dz).map V.ref).take (at' + 1) ++ [V.ref o] ++ ((d0 :: dz).map V.ref).drop at')) := upd_same
    have hr := hr.same se5
    have fm := fm.same se5
    have fo := fo.same se5
    have fa := fa.same se5
    generalize upd E4 e5 (.lst (((d0 :: dz).map V.ref).take (at' + 1) ++ [V.ref o] ++ ((d0 :: dz).map V.ref).drop at')) = E5 at se5 ge5 hr fm fo fa ⊢
    refine ⟨_, rfl, mkA_odd (cs := (d0 :: dz).take (at' + 1) ++ [o] ++ (d0 :: dz).drop at') (pss := (p0 :: pz).take (at' + 1) ++ [os] ++ (p0 :: pz).drop at') (.inl (by rw [ge5, List.map_append, List.map_append, List.map_take, List.map_drop]; rfl)) (paired_app (paired_app (paired_take fm.2 _).1 (.cons fo .nil)) (paired_take fm.2 _).2) (by simp) ?_ (alike_no (a := p0) (b := os) (by simp) (by simp) (by omega)) (hF hr)⟩
    rw [List.length_append, List.length_append, List.length_take, List.length_drop]
    show min (at' + 1) _ + 1 + _ ≤ 100
    omega
  clear kL
  have d1 : 1 ≤ ((d0 :: dz).map V.ref).length := by omega
  have rm : ∀ n : Nat, List.replicate n (V.ref d0) = (List.replicate n d0).map V.ref := fun n => rep_map _ _ _
  have pc0 : ∀ {M : Hp}, PicL M C m (d0 :: dz) (p0 :: pz) → PicF M C d0 p0 := fun h => match h.2 with | .cons a _ => a
  refine app_in (e := some ("pictures", .int 8)) rfl st vD (by show 2 < 900; decide) (fun Q' N HC kC kL hN hr => ?_) (fun N2 st kL => ?_)
  · obtain ⟨fa, fm, fo, fl⟩ := fu HC kC
    refine ⟨_, rfl, 1, rfl, m, _, rfl, SqL.of fm.1, ?_⟩
    rw [cut_t1 d1, show ((d0 :: dz).map V.ref).take 1 = [V.ref d0] from rfl]
    refine fun r1 nr1 => ?_
    have sr1 := same_new (o := .lst [V.ref d0]) nr1
    have gr1 : upd HC r1 (.lst [V.ref d0]) r1 = some (.lst [V.ref d0]) := upd_same
    have hr := hr.same sr1
    have fm := fm.same sr1
    have fo := fo.same sr1
    have fa := fa.same sr1
    generalize upd HC r1 (.lst [V.ref d0]) = E1 at sr1 gr1 hr fm fo fa ⊢
    refine ⟨r1, 9, _, rfl, rfl, gr1, by decide, by decide, by show 1 * 9 ≤ sizeLine; decide, ?_⟩
    rw [rep_flat]
    refine fun r2 nr2 => ?_
    have sr2 := same_new (o := .lst (List.replicate (Int.toNat 9) (V.ref d0))) nr2
    have gr2 : upd E1 r2 (.lst (List.replicate (Int.toNat 9) (V.ref d0))) r2 = some (.lst (List.replicate (Int.toNat 9) (V.ref d0))) := upd_same
    have hr := hr.same sr2
    have fm := fm.same sr2
    have fo := fo.same sr2
    have fa := fa.same sr2
    generalize upd E1 r2 (.lst (List.replicate (Int.toNat 9) (V.ref d0))) = E2 at sr2 gr2 hr fm fo fa ⊢
    exact ⟨_, rfl, mkA_many (cs := List.replicate 9 d0) (pss := List.replicate 9 p0) (.inl (gr2.trans (by rw [← rm]; rfl))) (paired_rep (pc0 fm) 9) (by simp) (by simp) (eqn_rep lk 9) (by simp) (hT hr)⟩
  clear kL
  dsimp only [tSeq, tAsg]
  refine due3n st (fun _ h => ent_ss h) (fun _ _ _ h => ent_ss h) (fun _ _ _ h => ent_si h) fun dd KD st sx => ?_
  refine re_sg (σ' := [some (.ref p), some (.ref D), some (.ref A2), some (.ref m), some (V.int ((p0 :: pz).length : Nat)), some (V.int (k : Nat)), some (.ref o), some (od'), some (V.int (at' : Nat)), some (no'), some (.ref l), some (.ref dd), none, none, none, none, none]) rfl ?_
  clear sx
  refine app_in (e := some ("misfit", .str "pins")) rfl st vD (by show 3 < 900; decide) (fun Q' N HC kC kL hN hr => ?_) (fun N3 st kL => ?_)
  · obtain ⟨fa, fm, fo, fl⟩ := fu HC kC
    refine ⟨_, rfl, 1, rfl, m, _, rfl, SqL.of fm.1, ?_⟩
    rw [cut_t1 d1, show ((d0 :: dz).map V.ref).take 1 = [V.ref d0] from rfl]
    refine fun r1 nr1 => ?_
    have sr1 := same_new (o := .lst [V.ref d0]) nr1
    have gr1 : upd HC r1 (.lst [V.ref d0]) r1 = some (.lst [V.ref d0]) := upd_same
    have hr := hr.same sr1
    have fm := fm.same sr1
    have fo := fo.same sr1
    have fa := fa.same sr1
    generalize upd HC r1 (.lst [V.ref d0]) = E1 at sr1 gr1 hr fm fo fa ⊢
    refine ⟨r1, 8, _, rfl, rfl, gr1, by decide, by decide, by show 1 * 8 ≤ sizeLine; decide, ?_⟩
    rw [rep_flat]
    refine fun r2 nr2 => ?_
    have sr2 := same_new (o := .lst (List.replicate (Int.toNat 8) (V.ref d0))) nr2
    have gr2 : upd E1 r2 (.lst (List.replicate (Int.toNat 8) (V.ref d0))) r2 = some (.lst (List.replicate (Int.toNat 8) (V.ref d0))) := upd_same
    have hr := hr.same sr2
    have fm := fm.same sr2
    have fo := fo.same sr2
    have fa := fa.same sr2
    generalize upd E1 r2 (.lst (List.replicate (Int.toNat 8) (V.ref d0))) = E2 at sr2 gr2 hr fm fo fa ⊢
    refine ⟨_, rfl, by show 1 ≤ sizeLine; decide, fun e3 ne3 => ?_⟩
    have se3 := same_new (o := .lst [V.ref o]) ne3
    have ge3 : upd E2 e3 (.lst [V.ref o]) e3 = some (.lst [V.ref o]) := upd_same
    have hr := hr.same se3
    have fm := fm.same se3
    have fo := fo.same se3
    have fa := fa.same se3
    have gr2 := se3 _ _ gr2
    generalize upd E2 e3 (.lst [V.ref o]) = E3 at se3 ge3 hr fm fo fa gr2 ⊢
    refine ⟨r2, e3, _, _, rfl, rfl, gr2, ge3, by show (List.replicate (Int.toNat 8) (V.ref d0)).length + 1 ≤ sizeLine; rw [List.length_replicate]; decide, ?_⟩
    refine fun e4 ne4 => ?_
    have se4 := same_new (o := .lst (List.replicate (Int.toNat 8) (V.ref d0) ++ [V.ref o])) ne4
    have ge4 : upd E3 e4 (.lst (List.replicate (Int.toNat 8) (V.ref d0) ++ [V.ref o])) e4 = some (.lst (List.replicate (Int.toNat 8) (V.ref d0) ++ [V.ref o])) := upd_same
    have hr := hr.same se4
    have fm := fm.same se4
    have fo := fo.same se4
    have fa := fa.same se4
    generalize upd E3 e4 (.lst (List.replicate (Int.toNat 8) (V.ref d0) ++ [V.ref o])) = E4 at se4 ge4 hr fm fo fa ⊢
    exact ⟨_, rfl, mkA_odd (cs := List.replicate 8 d0 ++ [o]) (pss := List.replicate 8 p0 ++ [os]) (.inl (ge4.trans (by rw [List.map_append, ← rm]; rfl))) (paired_app (paired_rep (pc0 fm) 8) (.cons fo .nil)) (by simp) (by simp) (alike_no (a := p0) (b := os) (by simp) (by simp) (by omega)) (hF hr)⟩
  clear kL
  refine app_in (e := some ("picture", .str "picture")) rfl st vD (by show 4 < 900; decide) (fun Q' N HC kC kL hN hr => ?_) (fun N4 st kL => ?_)
  · obtain ⟨fa, fm, fo, fl⟩ := fu HC kC
    exact ⟨_, rfl, meth_inA fa (fun _ _ _ => rfl) ⟨_, rfl, .mk ⟨A2, od', cs, _, rfl, fa, cne, h8, .inl ⟨fod HC kC, hE hr⟩⟩⟩⟩
  clear kL
  refine app_in (e := some ("misfit", .str "pins")) rfl st vD (by show 5 < 900; decide) (fun Q' N HC kC kL hN hr => ?_) (fun N5 st kL => ?_)
  · obtain ⟨fa, fm, fo, fl⟩ := fu HC kC
    exact ⟨_, rfl, meth_inA fa (fun _ _ _ => rfl) ⟨_, rfl, .mk ⟨A2, .ref o, cs, _, rfl, fa, cne, h8, .inr ⟨o, os, rfl, fo, ares_odd (alike_no (a := p0) (b := os) (by simp) (by simp) (by omega)) (hF hr)⟩⟩⟩⟩
  clear kL
  dsimp only [tSeq, tAsg]
  refine due3m rfl st (fun _ h => ent_ss h) (fun _ _ _ h => ent_ss h) (fun _ _ _ h => ent_ss h) (by simp) fun dd KD st sx => ?_
  refine re_sg (σ' := [some (.ref p), some (.ref D), some (.ref A2), some (.ref m), some (V.int ((p0 :: pz).length : Nat)), some (V.int (k : Nat)), some (.ref o), some (od'), some (V.int (at' : Nat)), some (no'), some (.ref l), some (.ref dd), none, none, none, none, none]) rfl ?_
  clear sx
  -- the fullest album
  dsimp only [tSeq, tAsg]
  obtain ⟨_, fm, _, _⟩ := fu _ st.z.k
  refine ⟨_, rfl, 1, rfl, m, _, rfl, SqL.of fm.1, ?_⟩
  rw [cut_t1 d1, show ((d0 :: dz).map V.ref).take 1 = [V.ref d0] from rfl]
  refine fun r1 nr1 => ?_
  have sr1 := same_new (o := .lst [V.ref d0]) nr1
  have gr1 : upd KD r1 (.lst [V.ref d0]) r1 = some (.lst [V.ref d0]) := upd_same
  have st := st.same sr1
  have fm := fm.same sr1
  generalize upd KD r1 (.lst [V.ref d0]) = F1 at sr1 gr1 st fm ⊢
  refine ⟨r1, 8, _, rfl, rfl, gr1, by decide, by decide, by show 1 * 8 ≤ sizeLine; decide, ?_⟩
  rw [rep_flat]
  refine fun r2 nr2 => ?_
  have sr2 := same_new (o := .lst (List.replicate (Int.toNat 8) (V.ref d0))) nr2
  have gr2 : upd F1 r2 (.lst (List.replicate (Int.toNat 8) (V.ref d0))) r2 = some (.lst (List.replicate (Int.toNat 8) (V.ref d0))) := upd_same
  have st := st.same sr2
  have fm := fm.same sr2
  generalize upd F1 r2 (.lst (List.replicate (Int.toNat 8) (V.ref d0))) = F2 at sr2 gr2 st fm ⊢
  refine ⟨_, rfl, mkA_of (k := k) (cs := List.replicate 8 d0) (pss := List.replicate 8 p0) (.inl (gr2.trans (by rw [← rm]; rfl))) (paired_rep (pc0 fm) 8) (eqn_rep lk 8) (by simp) (by simp) fun F F3 sF nF alF => ?_⟩
  have st := st.same sF
  have ff : Ful p l F3 fun M => AlbF M CA C F (List.replicate 8 d0) (List.replicate 8 p0) := fun M kk => by
    obtain ⟨xs, hl, _⟩ := st.at
    exact alF.kpl st.v hl kk
  clear sF nF alF sr1 gr1 nr1 sr2 gr2 nr2 fm
  refine re_sg (σ' := [some (.ref p), some (.ref D), some (.ref A2), some (.ref m), some (V.int ((p0 :: pz).length : Nat)), some (V.int (k : Nat)), some (.ref o), some (od'), some (V.int (at' : Nat)), some (no'), some (.ref l), some (.ref dd), some (.ref F), none, none, none, none]) rfl ?_
  refine app_in (e := some ("pictures", .int 8)) rfl st vD (by show 6 < 900; decide) (fun Q' N HC kC kL hN hr => ?_) (fun N6 st kL => ?_)
  · obtain ⟨fa, fm, fo, fl⟩ := fu HC kC
    have gf := ff HC kL
    exact ⟨_, rfl, meth_inA gf (fun _ _ _ => rfl) ⟨_, rfl, m, _, 0, .ref d0, rfl, rfl, SqL.of fm.1, atI_nat (j := 0) rfl, .mk ⟨F, .ref d0, _, _, rfl, gf, by simp, by simp, .inr ⟨d0, p0, rfl, pc0 fm, ares_many (Eqn.app (eqn_rep lk 8) (fun q hq => by rw [List.mem_singleton.mp hq]; exact lk)) (by simp) (hT hr)⟩⟩⟩⟩
  have ff := ff.kpl kL
  clear kL
  refine app_in (e := some ("misfit", .str "pins")) rfl st vD (by show 7 < 900; decide) (fun Q' N HC kC kL hN hr => ?_) (fun N7 st kL => ?_)
  · obtain ⟨fa, fm, fo, fl⟩ := fu HC kC
    have gf := ff HC kL
    exact ⟨_, rfl, meth_inA gf (fun _ _ _ => rfl) ⟨_, rfl, .mk ⟨F, .ref o, _, _, rfl, gf, by simp, by simp, .inr ⟨o, os, rfl, fo, ares_odd (alike_no (a := p0) (b := os) (by simp) (by simp) (by omega)) (hF hr)⟩⟩⟩⟩
  have ff := ff.kpl kL
  clear kL
  refine app_in (e := some ("misfit", .str "pins")) rfl st vD (by show 8 < 900; decide) (fun Q' N HC kC kL hN hr => ?_) (fun N8 st kL => ?_)
  · obtain ⟨fa, fm, fo, fl⟩ := fu HC kC
    have gf := ff HC kL
    refine ⟨_, rfl, meth_inA gf (fun _ _ _ => rfl) ?_⟩
    refine ⟨_, rfl, by show 1 ≤ sizeLine; decide, fun e1 ne1 => ?_⟩
    have se1 := same_new (o := .lst [V.ref o]) ne1
    have ge1 : upd HC e1 (.lst [V.ref o]) e1 = some (.lst [V.ref o]) := upd_same
    have hr := hr.same se1
    have fm := fm.same se1
    have fo := fo.same se1
    have fa := fa.same se1
    have gf := gf.same se1
    generalize upd HC e1 (.lst [V.ref o]) = E1 at se1 ge1 hr fm fo fa gf ⊢
    refine ⟨.ref e1, rfl, mkA_of (k := os.length) (cs := [o]) (pss := [os]) (.inl ge1) (.cons fo .nil) (fun q hq => by rw [List.mem_singleton.mp hq]) (by simp) (by simp) fun G E2 s2 n2 alG => ?_⟩
    have gf := gf.same s2
    have hr := hr.same s2
    exact .mk ⟨F, .ref G, _, _, rfl, gf, by simp, by simp, .inr ⟨G, [o], [os], rfl, alG, by simp, by simp, ares_odd (alike_no (a := p0) (b := os) (by simp) (by simp) (by omega)) (hF hr)⟩⟩
  have ff := ff.kpl kL
  clear kL
  dsimp only [tSeq, tAsg]
  refine due3m rfl st (fun _ h => ent_si h) (fun _ _ _ h => ent_ss h) (fun _ _ _ h => ent_ss h) (by simp) fun dd KD st sx => ?_
  refine re_sg (σ' := [some (.ref p), some (.ref D), some (.ref A2), some (.ref m), some (V.int ((p0 :: pz).length : Nat)), some (V.int (k : Nat)), some (.ref o), some (od'), some (V.int (at' : Nat)), some (no'), some (.ref l), some (.ref dd), some (.ref F), none, none, none, none]) rfl ?_
  have ff := ff.same sx
  clear sx
  -- what is no album
  dsimp only [tSeq, tAsg]
  obtain ⟨fa, fm, fo, _⟩ := fu _ st.z.k
  have kaf := aI fa
  obtain ⟨dxA, tA, uA, rsA, haA, _⟩ := id fa
  refine ⟨_, rfl, _, rfl, m, _, 0, .ref d0, rfl, rfl, SqL.of fm.1, atI_nat (j := 0) rfl, _, rfl, _, rfl, A2, dxA, _, rfl, haA, A2, cs, _, rfl, fa, tk.ok, h8, fun z8 G1 sG => ⟨z8, rfl, ?_⟩⟩
  have st := st.same sG
  have ff := ff.same sG
  clear fa fm fo kaf haA sG
  refine ⟨by show 6 ≤ sizeLine; decide, fun l6 nl6 => ?_⟩
  have sl6 := same_new (o := .lst [V.non, V.int 5, V.ref d0, V.ref m, V.str z8, V.bl true]) nl6
  have st2 := st.same sl6
  refine ⟨p, l6, _, _, rfl, st2.v, by omega, upd_same, st.v.not_none nl6, by show 0 < 6; decide, by show 6 ≤ 1000; decide, fun G2 st' sb v2 hx => ?_⟩
  have ff := (ff.same sl6).kpl (.ofB sb)
  have st := st2.draw sb v2
  have fst' : ∀ {M : Hp}, PicL M C m (d0 :: dz) (p0 :: pz) → IsA K CA M st' false := fun {M} fm => by
    simp only [List.mem_cons, List.not_mem_nil, or_false] at hx
    rcases hx with rfl | rfl | rfl | rfl | rfl | rfl
    · exact Kx.isA .non KN2.n
    · exact Kx.isA (.int _) KN2.i
    · exact (pKx (pc0 fm)).isA TA.np.1
    · exact Kx.isA (.lst fm.1) KN2.l
    · exact Kx.isA (.str _) KN2.s
    · exact Kx.isA (.bl _) KN2.b
  clear hx sb v2 st2 sl6 nl6
  refine re_sg (σ' := [some (.ref p), some (.ref D), some (.ref A2), some (.ref m), some (V.int ((p0 :: pz).length : Nat)), some (V.int (k : Nat)), some (.ref o), some (od'), some (V.int (at' : Nat)), some (no'), some (.ref l), some (.ref dd), some (.ref F), some (st'), none, none, none]) rfl ?_
  refine app_in (e := some ("pictures", .int 8)) rfl st vD (by show 9 < 900; decide) (fun Q' N HC kC kL hN hr => ?_) (fun N9 st kL => ?_)
  · obtain ⟨fa, fm, fo, fl⟩ := fu HC kC
    have gf := ff HC kL
    exact ⟨_, rfl, meth_inA gf (fun _ _ _ => rfl) ⟨_, rfl, .mk ⟨F, .ref A2, _, _, rfl, gf, by simp, by simp, .inr ⟨A2, cs, _, rfl, fa, cne, h8, ares_many (Eqn.app (eqn_rep lk 8) (Tok.eqn tk)) (by rw [List.length_append, List.length_replicate]; omega) (hT hr)⟩⟩⟩⟩
  have ff := ff.kpl kL
  clear kL
  refine app_in (e := some ("album", .str "other")) rfl st vD (by show 10 < 900; decide) (fun Q' N HC kC kL hN hr => ?_) (fun N10 st kL => ?_)
  · obtain ⟨fa, fm, fo, fl⟩ := fu HC kC
    have gf := ff HC kL
    exact ⟨_, rfl, meth_inA gf (fun _ _ _ => rfl) ⟨_, rfl, .mk ⟨F, st', _, _, rfl, gf, by simp, by simp, .inl ⟨fst' fm, hB hr⟩⟩⟩⟩
  have ff := ff.kpl kL
  clear kL
  have e9 : ((9 : Int) - ((p0 :: pz).length : Nat)).toNat = 9 - (p0 :: pz).length := by omega
  refine app_in (e := some ("pictures", .int 8)) rfl st vD (by show 11 < 900; decide) (fun Q' N HC kC kL hN hr => ?_) (fun N11 st kL => ?_)
  · obtain ⟨fa, fm, fo, fl⟩ := fu HC kC
    refine ⟨_, rfl, meth_inA fa (fun _ _ _ => rfl) ⟨_, rfl, 1, rfl, m, _, rfl, SqL.of fm.1, ?_⟩⟩
    rw [cut_t1 d1, show ((d0 :: dz).map V.ref).take 1 = [V.ref d0] from rfl]
    refine fun r1 nr1 => ?_
    have sr1 := same_new (o := .lst [V.ref d0]) nr1
    have gr1 : upd HC r1 (.lst [V.ref d0]) r1 = some (.lst [V.ref d0]) := upd_same
    have hr := hr.same sr1
    have fm := fm.same sr1
    have fo := fo.same sr1
    have fa := fa.same sr1
    generalize upd HC r1 (.lst [V.ref d0]) = E1 at sr1 gr1 hr fm fo fa ⊢
    refine ⟨_, rfl, _, _, rfl, rfl, r1, _, _, rfl, rfl, gr1, by omega, by omega, ?_, ?_⟩
    · show 1 * _ ≤ sizeLine
      exact Nat.le_of_lt (small1000 (by omega))
    rw [rep_flat, e9]
    refine fun r2 nr2 => ?_
    have sr2 := same_new (o := .lst (List.replicate (9 - (p0 :: pz).length) (V.ref d0))) nr2
    have gr2 : upd E1 r2 (.lst (List.replicate (9 - (p0 :: pz).length) (V.ref d0))) r2 = some (.lst (List.replicate (9 - (p0 :: pz).length) (V.ref d0))) := upd_same
    have hr := hr.same sr2
    have fm := fm.same sr2
    have fo := fo.same sr2
    have fa := fa.same sr2
    generalize upd E1 r2 (.lst (List.replicate (9 - (p0 :: pz).length) (V.ref d0))) = E2 at sr2 gr2 hr fm fo fa ⊢
    refine ⟨.ref r2, rfl, mkA_of (k := k) (cs := List.replicate (9 - (p0 :: pz).length) d0) (pss := List.replicate (9 - (p0 :: pz).length) p0) (.inl (gr2.trans (by rw [← rm]))) (paired_rep (pc0 fm) _) (eqn_rep lk _) (by rw [Ne, List.replicate_eq_nil_iff]; omega) (by rw [List.length_replicate]; omega) fun G E3 s2 n2 alG => ?_⟩
    have fa := fa.same s2
    have hr := hr.same s2
    exact .mk ⟨A2, .ref G, _, _, rfl, fa, cne, h8, .inr ⟨G, _, _, rfl, alG, by rw [Ne, List.replicate_eq_nil_iff]; omega, by rw [List.length_replicate]; omega, ares_many (Eqn.app (Tok.eqn tk) (eqn_rep lk _)) (by rw [List.length_append, List.length_replicate]; omega) (hT hr)⟩⟩
  have ff := ff.kpl kL
  clear kL
  dsimp only [tSeq, tAsg]
  refine due3m rfl st (fun _ h => ent_si h) (fun _ _ _ h => ent_ss h) (fun _ _ _ h => ent_si h) (by simp) fun dd KD st sx => ?_
  refine re_sg (σ' := [some (.ref p), some (.ref D), some (.ref A2), some (.ref m), some (V.int ((p0 :: pz).length : Nat)), some (V.int (k : Nat)), some (.ref o), some (od'), some (V.int (at' : Nat)), some (no'), some (.ref l), some (.ref dd), some (.ref F), some (st'), none, none, none]) rfl ?_
  clear sx ff
  -- numbers that are none
  dsimp only [tSeq, tAsg]
  have lpos : 1 ≤ (p0 :: pz).length := Nat.succ_pos _
  have a9 : at' < 9 := by omega
  have nl_ : ∀ {M : Hp} {es : List Ee} {ds : List (Addr × List Ee)} {n : Nat} {a : Addr}, St TL p HD l es ds n M → M a = none → a ≠ l := fun st na => by
    obtain ⟨xs, hl, _⟩ := st.at
    exact (ne_of_none hl na).symm
  refine ⟨_, rfl, _, rfl, _, rfl, by show 1 ≤ sizeLine; decide, fun g1 ng1 => ?_⟩
  have sg1 := same_new (o := .lst [V.int 0]) ng1
  have gg1 : upd KD g1 (.lst [V.int 0]) g1 = some (.lst [V.int 0]) := upd_same
  have pg1 : g1 ≠ p := st.v.not_none ng1
  have lg1 : g1 ≠ l := nl_ st ng1
  have st := st.same sg1
  generalize upd KD g1 (.lst [V.int 0]) = P1 at sg1 gg1 st ⊢
  have fx : ∀ x ∈ [V.int (-1), V.int ((p0 :: pz).length : Nat), V.non, V.bl true, V.bl false, V.str "0", V.ref g1, V.int ((10 : Int) ^ (Int.toNat 20))], ∃ t D, Vl p l K P1 x t D ∧ pinOk (p0 :: pz).length x = false := fun x hx => by
    simp only [List.mem_cons, List.not_mem_nil, or_false] at hx
    rcases hx with rfl | rfl | rfl | rfl | rfl | rfl | rfl | rfl
    · exact ⟨_, _, vl_int (by decide +kernel) (by decide +kernel) (by decide +kernel), rfl⟩
    · exact ⟨_, _, vl_nat (by omega), by rw [pinOk_nat, decide_eq_false (Nat.lt_irrefl _)]⟩
    · exact ⟨_, _, vl_non, rfl⟩
    · exact ⟨_, _, vl_bl true, rfl⟩
    · exact ⟨_, _, vl_bl false, rfl⟩
    · exact ⟨_, _, vl_str (by decide +kernel) (by decide +kernel), rfl⟩
    · exact ⟨_, _, vl_lst pg1 lg1 gg1 (by decide +kernel) (by decide +kernel) (by decide +kernel), rfl⟩
    · refine ⟨_, _, vl_int (by decide +kernel) (by decide +kernel) (by decide +kernel), ?_⟩
      show (decide ((0 : Int) ≤ (10 : Int) ^ (Int.toNat 20)) && decide ((10 : Int) ^ (Int.toNat 20) ≤ ((p0 :: pz).length : Int) - 1)) = false
      have e20 : (10 : Int) ^ (Int.toNat 20) = 100000000000000000000 := by decide +kernel
      rw [e20, decide_eq_false (show ¬ (100000000000000000000 : Int) ≤ ((p0 :: pz).length : Int) - 1 by omega), Bool.and_false]
  refine ⟨_, _, rfl, rfl, ⟨by decide, by decide, by decide⟩, by show 8 ≤ sizeLine; decide, fun l7 nl7 => ?_⟩
  have sl7 := same_new (o := .lst [V.int (-1), V.int ((p0 :: pz).length : Nat), V.non, V.bl true, V.bl false, V.str "0", V.ref g1, V.int ((10 : Int) ^ (Int.toNat 20))]) nl7
  have st2 := st.same sl7
  refine ⟨p, l7, _, _, rfl, st2.v, by omega, upd_same, st.v.not_none nl7, by show 0 < 8; decide, by show 8 ≤ 1000; decide, fun P2 far sb v2 hx => ?_⟩
  obtain ⟨tf, Df, vf, nf⟩ := fx far hx
  have vf := (vf.same sl7).kpl (.ofB sb)
  have st := st2.draw sb v2
  clear fx hx sb v2 st2 sl7 nl7 sg1 gg1 pg1 lg1 ng1
  refine ⟨_, rfl, fun q3 nq3 => ?_⟩
  refine ⟨upd_same, [(Sum.inl 0, V.int 1)], rfl, by show 1 ≤ 15; decide, ?_⟩
  have ed : upd (upd P2 q3 (.dK [])) q3 (.dK (mergeK [] [(Sum.inl 0, V.int 1)])) = upd P2 q3 (.dK [(Sum.inl 0, V.int 1)]) := by
    funext b
    by_cases z : b = q3
    · rw [z, upd_same, upd_same]
      rfl
    · rw [upd_ne z, upd_ne z, upd_ne z]
  rw [ed]
  clear ed
  have sq3 := same_new (o := .dK [(Sum.inl 0, V.int 1)]) nq3
  have gq3 : upd P2 q3 (.dK [(Sum.inl 0, V.int 1)]) q3 = some (.dK [(Sum.inl 0, V.int 1)]) := upd_same
  have pq3 : q3 ≠ p := st.v.not_none nq3
  have lq3 : q3 ≠ l := nl_ st nq3
  have st := st.same sq3
  have vf := vf.same sq3
  generalize upd P2 q3 (.dK [(Sum.inl 0, V.int 1)]) = P3 at sq3 gq3 st vf ⊢
  have fx : ∀ x ∈ [V.non, V.int 0, V.str "0", V.ref q3], ∃ D, Vl p l K P3 x false D := fun x hx => by
    simp only [List.mem_cons, List.not_mem_nil, or_false] at hx
    rcases hx with rfl | rfl | rfl | rfl
    · exact ⟨_, vl_non⟩
    · exact ⟨_, vl_nat (n := 0) (by decide)⟩
    · exact ⟨_, vl_str (by decide +kernel) (by decide +kernel)⟩
    · exact ⟨_, vl_dK (ms := [(0, 1)]) pq3 lq3 gq3 (by decide +kernel) (by decide +kernel) (by decide +kernel) (by decide +kernel)⟩
  refine ⟨by show 4 ≤ sizeLine; decide, fun l7 nl7 => ?_⟩
  have sl7 := same_new (o := .lst [V.non, V.int 0, V.str "0", V.ref q3]) nl7
  have st2 := st.same sl7
  refine ⟨p, l7, _, _, rfl, st2.v, by omega, upd_same, st.v.not_none nl7, by show 0 < 4; decide, by show 4 ≤ 1000; decide, fun P4 bad sb v2 hx => ?_⟩
  obtain ⟨Db, vb⟩ := fx bad hx
  have vb := (vb.same sl7).kpl (.ofB sb)
  have vf := (vf.same sl7).kpl (.ofB sb)
  have st := st2.draw sb v2
  clear fx hx sb v2 st2 sl7 nl7 sq3 gq3 pq3 lq3 nq3
  refine ⟨by show 2 ≤ sizeLine; decide, fun t9 nt9 => ?_⟩
  have st9 := same_new (o := .tup [far, bad]) nt9
  have gt9 : upd P4 t9 (.tup [far, bad]) t9 = some (.tup [far, bad]) := upd_same
  have st := st.same st9
  have vf := vf.same st9
  have vb := vb.same st9
  generalize upd P4 t9 (.tup [far, bad]) = P5 at st9 gt9 st vf vb ⊢
  refine ⟨t9, _, rfl, SqT.of gt9, rfl, _, _, rfl, _, _, rfl, rfl, ?_⟩
  clear st9 gt9 nt9
  refine re_st (σ' := [some (.ref p), some (.ref D), some (.ref A2), some (.ref m), some (V.int ((p0 :: pz).length : Nat)), some (V.int (k : Nat)), some (.ref o), some (od'), some (V.int (at' : Nat)), some (no'), some (.ref l), some (.ref dd), some (.ref F), some (st'), some (far), some (bad), none]) rfl ?_
  obtain ⟨E0, st, okE0, lE0⟩ : ∃ E0, St TL p HD l E0 [(dd, E0)] _ P5 ∧ (∀ e ∈ E0, okE e) ∧ E0.length = 12 := by
    refine ⟨[some ("album", .str "pictures"), some ("misfit", .str "pins"), some ("pictures", .int 8), some ("misfit", .str "pins"), some ("picture", .str "picture"), some ("misfit", .str "pins"), some ("pictures", .int 8), some ("misfit", .str "pins"), some ("misfit", .str "pins"), some ("pictures", .int 8), some ("album", .str "other"), some ("pictures", .int 8)], st, fun e he => ?_, rfl⟩
    have ss : ∀ a b : Str, PyData.strOk a = true → PyData.strOk b = true → okE (some (a, .str b)) := fun a b h1 h2 => ⟨h1, .inr ⟨b, rfl, h2⟩⟩
    have si : ∀ (a : Str) (i : Int), PyData.strOk a = true → okE (some (a, .int i)) := fun a i h1 => ⟨h1, .inl ⟨i, rfl⟩⟩
    simp only [List.mem_cons, List.not_mem_nil, or_false] at he
    rcases he with rfl | rfl | rfl | rfl | rfl | rfl | rfl | rfl | rfl | rfl | rfl | rfl <;> first | exact ss _ _ (by decide +kernel) (by decide +kernel) | exact si _ _ (by decide +kernel)
  -- two lambdas
  refine ⟨st.T, fun f1 c1 G1 x1 T1 n1 gf1 gc1 => ⟨T1, fun f2 c2 G2 x2 T2 n2 gf2 gc2 => ?_⟩⟩
  have gf1 : G1 f1 = some (GG.LamO f1 (GG.lamF XX (arL true) (scL true) c1) (exL true)) := gf1
  have gc1 : G1 c1 = some (LamX.CodeO c1 (GG.lamF XX (arL true) (scL true) c1).qual) := gc1
  have gf2 : G2 f2 = some (GG.LamO f2 (GG.lamF XX (arL false) (scL false) c2) (exL false)) := gf2
  have gc2 : G2 c2 = some (LamX.CodeO c2 (GG.lamF XX (arL false) (scL false) c2).qual) := gc2
  have gf1 := x2 _ _ gf1 (by intro ps z; unfold GG.LamO at z; cases z)
  have gc1 := x2 _ _ gc1 LamX.codeO_ne
  have st := (st.ext x1 T1).ext x2 T2
  have kk := (Kpl.ofE (p := p) (l := l) x1).trans (.ofE x2)
  have vf := vf.kpl kk
  have vb := vb.kpl kk
  clear kk x1 x2 T1 T2 n1 n2
  refine ⟨by show 2 ≤ sizeLine; decide, fun tl ntl => ?_⟩
  have stl := same_new (o := .tup [V.ref f1, V.ref f2]) ntl
  have gtl : upd G2 tl (.tup [V.ref f1, V.ref f2]) tl = some (.tup [V.ref f1, V.ref f2]) := upd_same
  have gf1 := stl _ _ gf1
  have gc1 := stl _ _ gc1
  have gf2 := stl _ _ gf2
  have gc2 := stl _ _ gc2
  have st := st.same stl
  have vf := vf.same stl
  have vb := vb.same stl
  generalize upd G2 tl (.tup [V.ref f1, V.ref f2]) = HL at stl gtl gf1 gc1 gf2 gc2 st vf vb ⊢
  clear stl ntl
  have nn_ : ∀ {a : Addr} {o : HO}, HL a = some o → (∀ xs, o ≠ .lst xs) → (∀ ps, o ≠ .tbl ps) → ∀ M, Kpl p l HL M → M a = some o := fun {a o} e n1 n2 M k => by
    obtain ⟨cc, x, y, e0⟩ := st.v.at
    obtain ⟨xs, hl, _⟩ := st.at
    exact k _ _ (fun z => n1 _ (by rw [z, e0] at e; exact (Option.some.inj e).symm)) (fun z => n1 _ (by rw [z, hl] at e; exact (Option.some.inj e).symm)) n2 e
  have lamF1 : ∀ b : Bool, ∃ f' c', [V.ref f1, V.ref f2][if b then 0 else 1]? = some (.ref f') ∧ HL f' = some (GG.LamO f' (GG.lamF XX (arL b) (scL b) c') (exL b)) ∧ HL c' = some (LamX.CodeO c' (GG.lamF XX (arL b) (scL b) c').qual) := fun b => by
    cases b with
    | true => exact ⟨f1, c1, rfl, gf1, gc1⟩
    | false => exact ⟨f2, c2, rfl, gf2, gc2⟩
  clear gf1 gc1 gf2 gc2
  refine ⟨tl, rfl, ⟨_, SqT.of gtl⟩, ?_⟩
  refine for_tup (K := K) (a := tl) (xs := [V.ref f1, V.ref f2]) (fun i σ H' => ∃ Es d' c16 nn, St TL p HD l Es [(d', Es)] nn H' ∧ nn + 200 < 60000 ∧ nn ≤ n + 12 ∧ (∀ e ∈ Es, okE e) ∧ Es.length = 12 + 3 * i ∧ Kpl p l HL H' ∧ σ = [some (.ref p), some (.ref D), some (.ref A2), some (.ref m), some (V.int ((p0 :: pz).length : Nat)), some (V.int (k : Nat)), some (.ref o), some (od'), some (V.int (at' : Nat)), some (no'), some (.ref l), some (.ref d'), some (.ref F), some (st'), some (far), some (bad), c16]) ⟨E0, dd, none, _, st, by omega, by omega, okE0, lE0, Kpl.refl _ _ _, rfl⟩ (fun i σ H' _ h => ?_) (fun i x σ H' hi h => ?_) (fun σ H' h => ?_)
  · obtain ⟨Es, d', c16, nn, _, _, _, _, _, kk, _⟩ := h
    exact SqT.of (nn_ gtl (by intro xs z; cases z) (by intro xs z; cases z) _ kk)
  · obtain ⟨Es, d', c16, nn, st, hnn, hn2, okEs, lEs, kk, rfl⟩ := h
    obtain ⟨b, f', c', rfl, gf, gc, hi2⟩ : ∃ (b : Bool) (f' c' : Addr), x = .ref f' ∧ (∀ M, Kpl p l HL M → M f' = some (GG.LamO f' (GG.lamF XX (arL b) (scL b) c') (exL b))) ∧ (∀ M, Kpl p l HL M → M c' = some (LamX.CodeO c' (GG.lamF XX (arL b) (scL b) c').qual)) ∧ i < 2 := by
      have hi2 : i < 2 := (List.getElem?_eq_some_iff.mp hi).1
      obtain ⟨b, eb⟩ : ∃ b : Bool, i = if b then 0 else 1 := by
        match i, hi2 with
        | 0, _ => exact ⟨true, rfl⟩
        | 1, _ => exact ⟨false, rfl⟩
      obtain ⟨f', c', e1, e2, e3⟩ := lamF1 b
      rw [← eb, hi] at e1
      exact ⟨b, f', c', Option.some.inj e1, nn_ e2 (by intro xs z; unfold GG.LamO at z; cases z) (by intro xs z; unfold GG.LamO at z; cases z), nn_ e3 (by intro xs z; unfold LamX.CodeO at z; cases z) LamX.codeO_ne, hi2⟩
    refine re_sg (σ' := [some (.ref p), some (.ref D), some (.ref A2), some (.ref m), some (V.int ((p0 :: pz).length : Nat)), some (V.int (k : Nat)), some (.ref o), some (od'), some (V.int (at' : Nat)), some (no'), some (.ref l), some (.ref d'), some (.ref F), some (st'), some (far), some (bad), some (.ref f')]) rfl ?_
    refine app_inv (e := some ("none", .str Db.shown)) (js := [2]) (t := fun ws E => GG.tCallV (fun b c => GG.lamF XX (arL b) (scL b) c) exL 16 nL 1 ws (tbL K C CA CB CQ CW E) (tCons (tVar 15) tNil)) rfl st vD (by have z := lEs; first | omega | (simp only [List.length_append, List.length_cons, List.length_nil]; omega)) (fun Q' N HC kC xE hN hr => ?_) (fun H1 st _ k1 => ?_)
    · obtain ⟨fa, _⟩ := fu HC kC
      have k2 := kk.trans (.ofE xE)
      exact ⟨b, f', c', rfl, gf _ k2, bad, rfl, rfl, gf _ k2, gc _ k2, tb_in b fa tk.eqn h8 (.inl ⟨bad, .no (vb.kpl k2).kd, hQ (vb.kpl k2).sh hr⟩)⟩
    have kk := kk.trans k1
    clear k1
    refine app_inv (e := some ("none", .str Df.shown)) (js := [2]) (t := fun ws E => GG.tCallV (fun b c => GG.lamF XX (arL b) (scL b) c) exL 16 nL 1 ws (tbL K C CA CB CQ CW E) (tCons (tLst (tCons (tC (.int 0)) (tCons (tC (.int 0)) (tCons (tVar 14) tNil)))) tNil)) rfl st vD (by have z := lEs; first | omega | (simp only [List.length_append, List.length_cons, List.length_nil]; omega)) (fun Q' N HC kC xE hN hr => ?_) (fun H1 st _ k1 => ?_)
    · obtain ⟨fa, _⟩ := fu HC kC
      have k2 := kk.trans (.ofE xE)
      refine ⟨b, f', c', rfl, gf _ k2, _, rfl, by show 3 ≤ sizeLine; decide, fun e1 n1 => ?_⟩
      have s1 := same_new (o := .lst [V.int 0, V.int 0, far]) n1
      have k3 := k2.trans (.ofS s1)
      exact ⟨rfl, gf _ k3, gc _ k3, tb_in b (fa.same s1) tk.eqn h8 (.inl ⟨far, three_wj upd_same lpos (vf.kpl k3).kd nf, hQ (vf.kpl k3).sh (hr.same s1)⟩)⟩
    have kk := kk.trans k1
    clear k1
    refine app_inv (e := some ("twice", .str (PyData.int (at' : Nat)).shown)) (js := [2]) (t := fun ws E => GG.tCallV (fun b c => GG.lamF XX (arL b) (scL b) c) exL 16 nL 1 ws (tbL K C CA CB CQ CW E) (tCons (tTup (tCons (tVar 8) (tCons (tC (.int 0)) (tCons (tVar 8) tNil)))) tNil)) rfl st vD (by have z := lEs; first | omega | (simp only [List.length_append, List.length_cons, List.length_nil]; omega)) (fun Q' N HC kC xE hN hr => ?_) (fun H1 st _ k1 => ?_)
    · obtain ⟨fa, _⟩ := fu HC kC
      have k2 := kk.trans (.ofE xE)
      refine ⟨b, f', c', rfl, gf _ k2, _, rfl, _, rfl, by show 3 ≤ sizeLine; decide, fun e1 n1 => ?_⟩
      have s1 := same_new (o := .tup [V.int (at' : Nat), V.int 0, V.int (at' : Nat)]) n1
      have k3 := k2.trans (.ofS s1)
      refine ⟨rfl, gf _ k3, gc _ k3, tb_in b (fa.same s1) tk.eqn h8 (.inr ⟨e1, [at', 0, at'], rfl, ⟨.inr upd_same, by show 3 ≤ 100; decide, fun j hj => ?_⟩, fun nd => three_nd nd, fun j tw => ?_⟩)⟩
      · simp only [List.mem_cons, List.not_mem_nil, or_false] at hj
        rcases hj with rfl | rfl | rfl <;> omega
      · have ej := tw_three tw
        subst ej
        exact hW (vl_nat (p := p) (l := l) a9).sh (hr.same s1)
    have kk := kk.trans k1
    clear k1
    dsimp only [tSeq, tAsg]
    refine due3m rfl st (fun _ h => ent_sr rfl (vb.kpl kk).sh h) (fun _ _ s h => ent_sr rfl ((vf.kpl kk).same s).sh h) (fun _ _ s h => ent_sr rfl (vl_nat (p := p) (l := l) a9).sh h) (by rw [lEs]; omega) fun d2 H2 st sx => ?_
    have ea : ∀ x y z : Ee, Es ++ [x] ++ [y] ++ [z] = Es ++ [x, y, z] := fun _ _ _ => by simp
    rw [ea] at st
    refine ⟨_, d2, _, _, st, hnn, hn2, fun e he => ?_, ?_, kk.trans (.ofS sx), rfl⟩
    · rcases List.mem_append.mp he with he | he
      · exact okEs e he
      · simp only [List.mem_cons, List.not_mem_nil, or_false] at he
        rcases he with rfl | rfl | rfl
        · exact ⟨by show PyData.strOk "none" = true; decide +kernel, .inr ⟨_, rfl, vb.o⟩⟩
        · exact ⟨by show PyData.strOk "none" = true; decide +kernel, .inr ⟨_, rfl, vf.o⟩⟩
        · exact ⟨by show PyData.strOk "twice" = true; decide +kernel, .inr ⟨_, rfl, (vl_nat (p := p) (l := l) (K := K) (H := H2) a9).o⟩⟩
    · rw [List.length_append, lEs]
      show 12 + 3 * i + 3 = 12 + 3 * (i + 1)
      omega
  · obtain ⟨Es, d', c16, nn, st, hnn, hn2, okEs, lEs, kk, rfl⟩ := h
    have lEs : Es.length = 18 := lEs
    clear kk lamF1 nn_ vf vb gtl
    refine app_in (e := some ("album", .str "pictures")) rfl st vD (by omega) (fun Q' N HC kC kL hN hr => ?_) (fun N20 st _ => ?_)
    · obtain ⟨fa, _⟩ := fu HC kC
      refine ⟨_, rfl, meth_inA fa (fun _ _ _ => rfl) ⟨Nat.zero_le _, fun e1 n1 => ?_⟩⟩
      have s1 := same_new (o := .lst []) n1
      exact .mk ⟨A2, .ref e1, cs, _, k, rfl, fa.same s1, tk.eqn, h8, .inr ⟨e1, [], rfl, ⟨.inl upd_same, by simp, by simp⟩, fun _ => ⟨fun _ => hB (hr.same s1), fun z => absurd rfl z⟩, fun j t => absurd t no_tw⟩⟩
    refine app_in (e := some ("album", .str "pictures")) rfl st vD (by rw [List.length_append, lEs]; show 19 < 900; decide) (fun Q' N HC kC kL hN hr => ?_) (fun N21 st _ => ?_)
    · obtain ⟨fa, _⟩ := fu HC kC
      refine ⟨_, rfl, meth_inA fa (fun _ _ _ => rfl) ⟨_, rfl, _, rfl, RgOk.of_le (by omega) (by omega) (by omega) (by omega), fun L nL => ?_⟩⟩
      have s1 := same_new (o := .lst (rgV 0 ((p0 :: pz).length : Nat))) nL
      refine ⟨L, _, rfl, SqL.of upd_same, fun e1 n1 => ?_⟩
      have s2 := s1.trans (same_new (o := .lst (rgV 0 ((p0 :: pz).length : Nat)).reverse) n1)
      have er : restN (p0 :: pz).length (List.range (p0 :: pz).length).reverse = [] := by
        rw [restN_rev]
        unfold restN
        rw [List.filter_eq_nil_iff]
        intro j hj
        have hj2 := List.mem_range.mp hj
        simpa using hj2
      refine .mk ⟨A2, .ref e1, cs, _, k, rfl, fa.same s2, tk.eqn, h8, .inr ⟨e1, (List.range (p0 :: pz).length).reverse, rfl, ⟨.inl (by rw [upd_same, rg_nV, nV_rev]), by rw [List.length_reverse, List.length_range]; omega, fun j hj => List.mem_range.mp (List.mem_reverse.mp hj)⟩, fun _ => ⟨fun _ => hB (hr.same s2), fun z => absurd er z⟩, fun j t => (nd_no ?_ t).elim⟩⟩
      exact (List.reverse_perm _).nodup_iff.mpr List.nodup_range
    dsimp only [tSeq, tAsg]
    refine ⟨_, rfl, lst_at (ents (fun _ h => ent_ss h) fun K0 x0 s0 g0 => nil_in ⟨by show 1 ≤ sizeLine; decide, fun q1 nq1 => ?_⟩)⟩
    have s1 := same_new (o := .lst [x0]) nq1
    have st1 := (st.same s0).same s1
    refine ⟨q1, 2, _, rfl, rfl, upd_same, by decide, by decide, by show 1 * 2 ≤ sizeLine; decide, fun q2 nq2 => ?_⟩
    rw [rep_flat]
    refine (due_more (fs := Es) (gs := List.replicate (Int.toNat 2) (some ("album", .str "pictures"))) st1 (paired_rep (g0.tup fun t ys e => s1 _ _ e) _) (by rw [lEs, List.length_replicate]; decide) fun c3 M3 st _ => ?_).2 q2 nq2
    have ea : ∀ x : Ee, Es ++ [x] ++ [x] = Es ++ List.replicate (Int.toNat 2) x := fun x => by
      rw [List.append_assoc]
      rfl
    rw [ea] at st
    refine ⟨_, rfl, _, rfl, hs_eq st.h (st.ds (c3, _) List.mem_cons_self).1 (fun e he => ?_) (q _ (kB.trans st.z.k) (st.v.le (by omega)) st.T)⟩
    rcases List.mem_append.mp he with he | he
    · exact okEs e he
    · rw [(List.mem_replicate.mp he).2]
      exact ⟨by decide +kernel, .inr ⟨_, rfl, by decide +kernel⟩⟩
end
end K14

namespace K14
open PySem PySem.Spec PyProof.Rows L2
section
variable {K : PySem.W.Frag} {CB CE CQ CP CW CF CT p l : Addr} {H0 H : Hp} {es : List Ee} {ds : List (Addr × List Ee)} {n n0 i m : Nat} {TL : List (Addr × Str)} {σ : L2.St} {D : Ends} {e : Ee}
/-- what is asked draws first -/
theorem app_draw {t : XK → TE} (hi : σ[i]? = some (some (.ref l))) (st : St TL p H0 l es ds n H) (v0 : Lens H0 p n0) (hl : es.length < 900)
    (ask : ∀ (Q N : VK) (HC : Hp), Kq p H0 HC → Kpl p l H HC → Lens HC p n → (∀ H2, SB p HC H2 → Lens H2 p m → Hr H2 e Q) → t (EHd K CB CE CQ CP CW CF CT Q) σ HC N)
    (next : ∀ H', St TL p H0 l (es ++ [e]) ds m H' → Kpl p l H H' → D.nx σ H') : tDrop (tBM K "list" rAppend (tVar i) (tCons (LamX.tLam TL (THeard K CB CE CQ CP CW CF CT) t) tNil)) D σ H := by
  obtain ⟨xs, hx, lx⟩ := st.at
  refine ⟨_, hi, .inl ⟨rfl, _, SqL.of hx⟩, lam_in st.T fun HC N x1 T1 hN => ?_⟩
  refine ask _ N HC (st.z.k.trans (Kq.ofE x1)) (.ofE x1) (st.v.ext x1) fun H2 sb v2 HD x sD gx => ?_
  have st1 := (st.ext x1 T1).draw sb v2
  obtain ⟨ys, h2, lx2, st2⟩ := st1.app v0 (LamX.ExtN.refl H2) st1.T sD (x := x) (e := e) gx
  exact ⟨l, _, _, rfl, rfl, h2, small1000 (by rw [lx2]; omega), next _ st2 (((Kpl.ofE x1).trans (.ofB sb)).trans (kpl_app (LamX.ExtN.refl H2) sD))⟩
end
/-- a pin is left out, or the pictures have but four; one more is put in, or they have seven -/
def Out4 (k : Nat) : Ee := if k = 4 then some ("misfit", .str "pins") else none
def Out7 (k : Nat) : Ee := if k = 7 then some ("pins", .int 7) else none
section
variable {TL : List (Addr × Str)} {p l d : Addr} {H0 H : Hp} {es fs : List Ee} {ds : List (Addr × List Ee)} {n i k : Nat} {ta tb tc : TE} {σ : L2.St} {R : VK} {e1 e2 e3 e4 : Ee}
theorem due4n {td : TE} (st : St TL p H0 l es ds n H) (ha : ∀ Q, Hr H e1 Q → ta σ H Q) (hb : ∀ H1 Q, Same H H1 → Hr H1 e2 Q → tb σ H1 Q) (hc : ∀ H1 Q, Same H H1 → Hr H1 e3 Q → tc σ H1 Q) (hd : ∀ H1 Q, Same H H1 → Hr H1 e4 Q → td σ H1 Q) (h : ∀ d H', St TL p H0 l es [(d, [e1, e2, e3, e4])] n H' → Same H H' → R (.ref d) H') : tLst (tCons ta (tCons tb (tCons tc (tCons td tNil)))) σ H R := by
  refine lst_at (ents ha fun K0 x0 s0 g0 => ents (fun Q => hb K0 Q s0) fun K1 x1 s1 g1 => ents (fun Q => hc K1 Q (s0.trans s1)) fun K2 x2 s2 g2 => ents (fun Q => hd K2 Q ((s0.trans s1).trans s2)) fun K3 x3 s3 g3 => nil_in ?_)
  have s12 := ((s0.trans s1).trans s2).trans s3
  exact due_new (R := R) (st.same s12) (.cons (g0.tup fun t ys e => s3 _ _ (s2 _ _ (s1 _ _ e))) (.cons (g1.tup fun t ys e => s3 _ _ (s2 _ _ e)) (.cons (g2.tup fun t ys e => s3 _ _ e) (.cons g3 .nil)))) (by show 4 < 900; decide) fun d H' st' sx => h d H' st' (s12.trans sx)
theorem due2m (hi : σ[i]? = some (some (.ref d))) (st : St TL p H0 l es [(d, fs)] n H) (ha : ∀ Q, Hr H e1 Q → ta σ H Q) (hb : ∀ H1 Q, Same H H1 → Hr H1 e2 Q → tb σ H1 Q) (lf : fs.length < 800)
    (h : ∀ d H', St TL p H0 l es [(d, fs ++ [e1, e2])] n H' → Same H H' → R (.ref d) H') : tOp rCat (tVar i) (tLst (tCons ta (tCons tb tNil))) σ H R := by
  refine ⟨_, hi, lst_at (ents ha fun K0 x0 s0 g0 => ents (fun Q => hb K0 Q s0) fun K1 x1 s1 g1 => nil_in ?_)⟩
  exact due_more (R := R) (st.same (s0.trans s1)) (.cons (g0.tup fun t ys e => s1 _ _ e) (.cons g1 .nil)) (by show fs.length + 2 < 900; omega) fun d H' st' sx => h d H' st' ((s0.trans s1).trans sx)
/-- .. the same twice -/
theorem due_rep (hi : σ[i]? = some (some (.ref d))) (st : St TL p H0 l es [(d, fs)] n H) (ha : ∀ Q, Hr H e1 Q → ta σ H Q) (lf : fs.length < 800)
    (h : ∀ d H', St TL p H0 l es [(d, fs ++ [e1, e1])] n H' → Same H H' → R (.ref d) H') : tOp rCat (tVar i) (tOp rRep (tLst (tCons ta tNil)) (tC (.int 2))) σ H R := by
  refine ⟨_, hi, lst_at (ents ha fun K0 x0 s0 g0 => nil_in ⟨by show 1 ≤ sizeLine; decide, fun q1 nq1 => ?_⟩)⟩
  have s1 := same_new (o := .lst [x0]) nq1
  refine ⟨q1, 2, _, rfl, rfl, upd_same, by decide, by decide, by show 1 * 2 ≤ sizeLine; decide, fun q2 nq2 => ?_⟩
  rw [rep_flat]
  exact (due_more (R := R) (gs := [e1, e1]) ((st.same s0).same s1) (paired_rep (g0.tup fun t ys e => s1 _ _ e) 2) (by show fs.length + 2 < 900; omega) fun d H' st' sx => h d H' st' ((s0.trans s1).trans sx)).2 q2 nq2
end
section
variable {K : PySem.W.Frag} {H : Hp} {Q : VK} {σ : L2.St} {k i : Nat}
theorem ent_if {w : Str} {y : V} {c : Nat} {tw : TE} (hi : σ[i]? = some (some (.int (k : Nat)))) (htw : ∀ Q, Hr H (some (w, y)) Q → tw σ H Q) (h : Hr H (if k = c then some (w, y) else none) Q) : tIf (tTest (tOp rEq (tVar i) (tC (.int (c : Nat))))) tw (tC .non) σ H Q := by
  refine ⟨_, hi, rfl, _, rfl, ?_⟩
  by_cases e : k = c
  · rw [if_pos e] at h
    rw [decide_eq_true (show V.int (k : Int) = V.int (c : Nat) by rw [e])]
    exact iteT (htw _ h)
  · rw [if_neg e] at h
    rw [decide_eq_false (show ¬ V.int (k : Int) = V.int (c : Nat) from fun z => e (by have := V.int.inj z; omega))]
    exact iteF (h _ _ Same.me rfl)
end
theorem op_at {r : R2} {ta tb : TE} {σ : L2.St} {H : Hp} {Q : VK} (h : ta σ H fun x H1 => tb σ H1 fun y H2 => r x y H2 Q) : tOp r ta tb σ H Q := h
/-! ### rows -/
section
variable {K : PySem.W.Frag} {H : Hp} {a : Addr}
theorem rowv_pr {q : Int × Int} (h : Pr H a q) (b : inB (.int q.1) = true) (c : inB (.int q.2) = true) : RowV K H (.ref a) true := by
  have z : RowV K H (.ref a) (rowB [.int q.1, .int q.2]) := .seq (.inr h) (fun x hx => by
    simp only [List.mem_cons, List.not_mem_nil, or_false] at hx
    rcases hx with rfl | rfl
    · exact ⟨_, .int _⟩
    · exact ⟨_, .int _⟩) (by show 2 ≤ 100; decide)
  have e : rowB [.int q.1, .int q.2] = true := by
    unfold rowB
    rw [List.all_cons, List.all_cons, b, c]
    rfl
  rw [e] at z
  exact z
theorem rowv_of {xs : List V} {b : Bool} (hs : Sq H a xs) (hk : ∀ x ∈ xs, ∃ t, Kd K H x t) (hl : xs.length ≤ 100) (e : rowB xs = b) : RowV K H (.ref a) b := by
  subst e
  exact .seq hs hk hl
end
end K14

namespace K14
open PySem PySem.Spec PyProof.Rows L2
/-! ### _law_pins_refused_right -/
def spPX (TL : List (Addr × Str)) : Sp := fun vs H Q _ => ∃ (p D : Addr) (n k : Nat) (as : List Addr) (pss : PSS), vs = [.ref p, .ref D] ∧ Lens H p n ∧ n + 300 < 60000 ∧ Told H D as pss ∧ Tok k pss ∧ 4 ≤ k ∧ k ≤ 7 ∧ pss ≠ [] ∧ pss.length ≤ 8 ∧ LamX.Tabs TL H ∧ ∀ H', Kq p H H' → Lens H' p (n + 30) → LamX.Tabs TL H' → Q (.bl true) H'
abbrev sPX : Stmt := top 67
abbrev nPX : List Str := ["_law_lens_here", "_law_told", "_law_album", "_law_many", "_law_pins", "_law_odd", "_law_heard_here", "_law_due", "_law_put", "_law_at", "_law_bad"]
theorem scPX : FnScope nPX ["_law_lens_here", "_law_told"] (defScope sPX) := ⟨rfl, rfl, rfl, by decide +kernel, rfl, by decide +kernel, by decide +kernel⟩
def qPX : Str := (envOfC "_law_pins_refused_right" (defScope sPX) 0 0 (.ref 0)).qual ++ "<lambda>"
section
variable {P : Program} {w : World} {K : PySem.W.Frag} {mg : Str → Option Value} {base : Heap} {C CS CA CB CC CE CP CQ CW CF CT : Addr}
theorem ok_px {f c Pt g : Addr} {fdH : FuncData} {oc kV doc pm ct : Value} {od an : Option Addr} {osl : Array (Option Value)} {TL : List (Addr × Str)} (hmT : (Pt, qPX) ∈ TL) (hU : ∀ x ∈ TL, x.1 = Pt → x.2 = qPX)
    (lk : K.lookup f = some ⟨oc, od, .func (PySem.W.fnOf "_law_pins_refused_right" "_law_pins_refused_right" (defArgs sPX) (defBody sPX) (defScope sPX) .none kV doc pm an (.ref c) ct), osl⟩) (hcd : PySem.W.codeIn K (.ref c) "_law_pins_refused_right" = true)
    (TB : LamX.TabB base mg c Pt) (B : Bn mg) (hrep : mg "repr" = none) (T : Pc P w K mg base C CC) (TA : Ac P w K mg base C CA CB CF CT) (O : Ao P w K mg base C CA CB CE CP CQ CW CF CT) (S : SeT K CS CB CE CQ CP CW CF CT) (Sm : SeM mg CS CB CE CQ CP CW CF CT) (FH : Fun K "_law_heard" "_law_heard" sHd g fdH) (mH : mg "_law_heard" = some (.ref g))
    (C1 : Callee P w K mg base CX0 8 "_law_made" ["_law_told"] (spMade C)) (C2 : Callee P w K mg base CX0 2 "_law_pick" ["_law_lens_here", "_law_some_here"] spPick) (C3 : Callee P w K mg base CX0 1 "_law_shot" ["_law_lens_here", "_law_many"] spShot) :
    GG.FnG P w K mg base CX0 13 f (PySem.W.fnOf "_law_pins_refused_right" "_law_pins_refused_right" (defArgs sPX) (defBody sPX) (defScope sPX) .none kV doc pm an (.ref c) ct) ["_law_lens_here", "_law_told"] (spPX TL) := by
  obtain ⟨f1, fd1, m1, k1, b1, G1⟩ := C1
  obtain ⟨f2, fd2, m2, k2, b2, G2⟩ := C2
  obtain ⟨f3, fd3, m3, k3, b3, G3⟩ := C3
  obtain ⟨ocH, odH, kVH, docH, pmH, anH, cdvH, ctH, oslH, rfl, lkH, hcH⟩ := FH.ex
  have bH := FH.binds (ps := ["_law_ask"]) fun _ _ _ _ _ _ us hl => match us, hl with | [_], _ => rfl
  obtain ⟨fa, fda, Ma, Ga, ba, ka⟩ := O.ia
  obtain ⟨fo, fdo, Mo, Go, bo, ko⟩ := O.wo
  obtain ⟨fq, fdq, Mq, Gq, bq, kq⟩ := O.wq
  have IA : ∃ (fI : Addr) (fd : FuncData), Mk K CA fI ∧ FnOk P w K mg base (L2.CX P w) 4 fI fd ["self", "pictures"] (spAI K C CA CB CF CT) ∧ Binds K fd ["self", "pictures"] [] := let ⟨a, b, c, d, e, _⟩ := TA.ini; ⟨a, b, c, d, e⟩
  have cA := TA.t.pc.cls
  have nd := scPX.nd
  refine GG.fn_g lk hcd scPX (fun vs H Q E h => ?_) fun A outer s H vs Q E sh hr h => ?_
  · obtain ⟨p, D, n, k, as, pss, rfl, _⟩ := h
    rfl
  suffices hh : ∃ t, PSs (cxOf CX0 P w K mg base nPX "_law_pins_refused_right" (defScope sPX) f (.ref c) A outer s H E).nox (defBody sPX) t ∧ t { nx := fun _ H' => Q .non H', rt := Q } (L2.start nPX vs) H from let ⟨t, h1, h2⟩ := hh; ⟨t, h1.nox, h2⟩
  have hu : (A.deeper (envOfC "_law_pins_refused_right" (defScope sPX) s.heap.objs.size f (.ref c))).units + 60 < cLine := by
    have := hr.un
    omega
  have crep : CallR (cxOf CX0 P w K mg base nPX "_law_pins_refused_right" (defScope sPX) f (.ref c) A outer s H E).nox (.builtin "repr") (GG.rRep K) := GG.call_repr (X := (cxOf CX0 P w K mg base nPX "_law_pins_refused_right" (defScope sPX) f (.ref c) A outer s H E).nox) sh (by show (A.deeper (envOfC "_law_pins_refused_right" (defScope sPX) s.heap.objs.size f (.ref c))).units + 40 < cLine; omega)
  obtain ⟨p, D, n, k, as, pss, rfl, hv, hn, td, tk, k4, k7, hne, h8, hT, q⟩ := h
  refine ⟨_, (pss_cons (ps_asg (pe_tup (pa_cons ((pe_mkA (E := E0) K TA.mgC IA (hr.mono (by decide)) passL rfl (pa_cons ((pe_call G1 (hr.mono (by decide)) rfl m1 k1 b1 .nil pass0 (pa_cons (pv 1) pa_nil))) pa_nil))) (pa_cons ((pe_callB call_len_seq (by rfl) B.len PySem.boot_len (pa_cons (pv 1) pa_nil))) (pa_cons ((pe_callB call_len_seq (by rfl) B.len PySem.boot_len (pa_cons ((pe_ix (r := rIxL K) ix_listK (pv 1) (pe_int) (fun _ _ => rfl))) pa_nil))) pa_nil)))) (pg_tup rfl (pgs_cons (pg_name (i := 2) nd rfl (Or.inr rfl)) (pgs_cons (pg_name (i := 3) nd rfl (Or.inl rfl)) (pgs_cons (pg_name (i := 4) nd rfl (Or.inr rfl)) pgs_nil))))) (pss_cons ((ps_set (i := 5) nd rfl (Or.inr rfl) ((pe_call G2 (hr.mono (by decide)) rfl m2 k2 b2 .nil pass0 (pa_cons (pv 0) (pa_cons (pe_lst (pa_cons (pe_un un_neg pe_int) (pa_cons (pv 4) (pa_cons (pe_non) (pa_cons (pe_bl) (pa_cons (pe_str) (pa_cons (pe_tup (pa_cons (pe_int) pa_nil)) (pa_cons (pe_op op_pow pe_int pe_int) pa_nil)))))))) pa_nil)))))) (pss_cons ((ps_set (i := 6) nd rfl (Or.inl rfl) (pe_lst (pa_cons ((LamX.pe_lamcall (T := TL) (TT := THeard K CB CE CQ CP CW CF CT) (Ng := nHd) (a := "_law_ask") (k := 10) rfl mH FH.kp lkH hcH bH scHd rfl (Or.inl rfl) (heard_gives sh hu B hrep S Sm) TB rfl hmT hU hr (LamX.lamS_by (by show LamX.lamSB (defScope sPX) _ = true; decide +kernel)) rfl (fun _ _ _ _ _ => rfl) (fun A outer s H E f c hr => (pe_meth (E := E) (pv 2) cA Ma Ga (hr.mono (by decide)) ba .nil lam_passes (pa_cons (pe_lst (pa_cons (pe_int) (pa_cons (pe_int) (pa_cons (pv 5) pa_nil)))) pa_nil))))) pa_nil)))) (pss_cons ((ps_expr (pe_bm PySem.F.plainAttrs_list PySem.F.slot_list_append PySem.F.type_list_append mt_append (pv 6) (pa_cons ((LamX.pe_lamcall (T := TL) (TT := THeard K CB CE CQ CP CW CF CT) (Ng := nHd) (a := "_law_ask") (k := 10) rfl mH FH.kp lkH hcH bH scHd rfl (Or.inl rfl) (heard_gives sh hu B hrep S Sm) TB rfl hmT hU hr (LamX.lamS_by (by show LamX.lamSB (defScope sPX) _ = true; decide +kernel)) rfl (fun _ _ _ _ _ => rfl) (fun A outer s H E f c hr => (pe_meth (E := E) (pv 2) cA Ma Ga (hr.mono (by decide)) ba .nil lam_passes (pa_cons (pe_lst (pa_cons (pe_int) (pa_cons (pe_int) (pa_cons (pe_int) pa_nil)))) pa_nil))))) pa_nil)))) (pss_cons ((ps_expr (pe_bm PySem.F.plainAttrs_list PySem.F.slot_list_append PySem.F.type_list_append mt_append (pv 6) (pa_cons ((LamX.pe_lamcall (T := TL) (TT := THeard K CB CE CQ CP CW CF CT) (Ng := nHd) (a := "_law_ask") (k := 10) rfl mH FH.kp lkH hcH bH scHd rfl (Or.inl rfl) (heard_gives sh hu B hrep S Sm) TB rfl hmT hU hr (LamX.lamS_by (by show LamX.lamSB (defScope sPX) _ = true; decide +kernel)) rfl (fun _ _ _ _ _ => rfl) (fun A outer s H E f c hr => (pe_meth (E := E) (pv 2) cA Ma Ga (hr.mono (by decide)) ba .nil lam_passes (pa_cons (pe_lst (pa_cons (pe_int) (pa_cons (pe_int) pa_nil))) pa_nil))))) pa_nil)))) (pss_cons ((ps_expr (pe_bm PySem.F.plainAttrs_list PySem.F.slot_list_append PySem.F.type_list_append mt_append (pv 6) (pa_cons ((LamX.pe_lamcall (T := TL) (TT := THeard K CB CE CQ CP CW CF CT) (Ng := nHd) (a := "_law_ask") (k := 10) rfl mH FH.kp lkH hcH bH scHd rfl (Or.inl rfl) (heard_gives sh hu B hrep S Sm) TB rfl hmT hU hr (LamX.lamS_by (by show LamX.lamSB (defScope sPX) _ = true; decide +kernel)) rfl (fun _ _ _ _ _ => rfl) (fun A outer s H E f c hr => (pe_meth (E := E) (pv 2) cA Ma Ga (hr.mono (by decide)) ba .nil lam_passes (pa_cons (pe_non) pa_nil))))) pa_nil)))) (pss_cons ((ps_set (i := 7) nd rfl (Or.inl rfl) (pe_lst (pa_cons ((pe_tup (pa_cons (pe_str) (pa_cons ((pe_callB crep (by rfl) hrep PyProof.Rows.boot_repr (pa_cons (pv 5) pa_nil))) pa_nil)))) (pa_cons ((pe_tup (pa_cons (pe_str) (pa_cons (pe_str) pa_nil)))) (pa_cons ((pe_tup (pa_cons (pe_str) (pa_cons (pe_str) pa_nil)))) (pa_cons ((pe_tup (pa_cons (pe_str) (pa_cons (pe_str) pa_nil)))) pa_nil))))))) (pss_cons ((ps_expr (pe_bm PySem.F.plainAttrs_list PySem.F.slot_list_append PySem.F.type_list_append mt_append (pv 6) (pa_cons ((LamX.pe_lamcall (T := TL) (TT := THeard K CB CE CQ CP CW CF CT) (Ng := nHd) (a := "_law_ask") (k := 10) rfl mH FH.kp lkH hcH bH scHd rfl (Or.inl rfl) (heard_gives sh hu B hrep S Sm) TB rfl hmT hU hr (LamX.lamS_by (by show LamX.lamSB (defScope sPX) _ = true; decide +kernel)) rfl (fun _ _ _ _ _ => rfl) (fun A outer s H E f c hr => (pe_meth (E := E) (pv 2) cA Mo Go (hr.mono (by decide)) bo .nil lam_passes (pa_cons (pv 5) pa_nil))))) pa_nil)))) (pss_cons ((ps_expr (pe_bm PySem.F.plainAttrs_list PySem.F.slot_list_append PySem.F.type_list_append mt_append (pv 6) (pa_cons ((LamX.pe_lamcall (T := TL) (TT := THeard K CB CE CQ CP CW CF CT) (Ng := nHd) (a := "_law_ask") (k := 10) rfl mH FH.kp lkH hcH bH scHd rfl (Or.inl rfl) (heard_gives sh hu B hrep S Sm) TB rfl hmT hU hr (LamX.lamS_by (by show LamX.lamSB (defScope sPX) _ = true; decide +kernel)) rfl (fun _ _ _ _ _ => rfl) (fun A outer s H E f c hr => (pe_meth (E := E) (pv 2) cA Mo Go (hr.mono (by decide)) bo .nil lam_passes (pa_cons (pe_op op_sub (pv 4) pe_int) pa_nil))))) pa_nil)))) (pss_cons ((ps_set (i := 7) nd rfl (Or.inl rfl) (pe_op op_cat (pv 7) (pe_lst (pa_cons ((pe_tup (pa_cons (pe_str) (pa_cons ((pe_callB crep (by rfl) hrep PyProof.Rows.boot_repr (pa_cons (pv 5) pa_nil))) pa_nil)))) (pa_cons (pe_ifExp (pt_cmpR op_eq (pv 4) pe_int (nomark _)) (pe_tup (pa_cons (pe_str) (pa_cons (pe_str) pa_nil))) pe_non) pa_nil)))))) (pss_cons (ps_asg (pe_tup (pa_cons (pe_op op_rep (pe_lst (pa_cons (pe_tup (pa_cons (pe_int) (pa_cons (pe_int) pa_nil))) pa_nil)) (pv 3)) (pa_cons ((pe_call G3 (hr.mono (by decide)) rfl m3 k3 b3 .nil pass0 (pa_cons (pv 0) (pa_cons (pv 3) pa_nil)))) pa_nil))) (pg_tup rfl (pgs_cons ((pg_name (i := 8) nd rfl (Or.inr rfl))) (pgs_cons ((pg_name (i := 9) nd rfl (Or.inr rfl))) pgs_nil)))) (pss_cons ((ps_set (i := 10) nd rfl (Or.inr rfl) ((pe_call G2 (hr.mono (by decide)) rfl m2 k2 b2 .nil pass0 (pa_cons (pv 0) (pa_cons (pe_lst (pa_cons (pe_non) (pa_cons (pe_tup (pa_cons (pe_int) pa_nil)) (pa_cons (pe_lst (pa_cons (pe_int) (pa_cons (pe_non) pa_nil))) (pa_cons (pe_tup (pa_cons (pe_op op_add (pe_op op_pow pe_int pe_int) pe_int) (pa_cons (pe_int) pa_nil))) (pa_cons (pe_tup (pa_cons (pe_int) (pa_cons (pe_op op_sub (pe_un un_neg (pe_op op_pow pe_int pe_int)) pe_int) pa_nil))) (pa_cons (pe_lst (pa_cons (pe_bl) (pa_cons (pe_int) pa_nil))) (pa_cons (pe_str) (pa_cons (pe_int) pa_nil))))))))) pa_nil)))))) (pss_cons ((ps_expr (pe_bm PySem.F.plainAttrs_list PySem.F.slot_list_append PySem.F.type_list_append mt_append (pv 6) (pa_cons ((LamX.pe_lamcall (T := TL) (TT := THeard K CB CE CQ CP CW CF CT) (Ng := nHd) (a := "_law_ask") (k := 10) rfl mH FH.kp lkH hcH bH scHd rfl (Or.inl rfl) (heard_gives sh hu B hrep S Sm) TB rfl hmT hU hr (LamX.lamS_by (by show LamX.lamSB (defScope sPX) _ = true; decide +kernel)) rfl (fun _ _ _ _ _ => rfl) (fun A outer s H E f c hr => (pe_meth (E := E) (pv 2) cA Mq Gq (hr.mono (by decide)) bq .nil lam_passes (pa_cons (pe_op op_cat (pe_op op_cat (pe_op op_cat ((pe_slice (r := rSlL K) sl_listK (pv 8) (po_none) (po_some (pv 9)))) (pe_lst (pa_cons (pv 10) pa_nil))) ((pe_slice (r := rSlL K) sl_listK (pv 8) (po_some (pv 9)) (po_none)))) (pv 8)) pa_nil))))) pa_nil)))) (pss_cons ((ps_expr (pe_bm PySem.F.plainAttrs_list PySem.F.slot_list_append PySem.F.type_list_append mt_append (pv 6) (pa_cons ((LamX.pe_lamcall (T := TL) (TT := THeard K CB CE CQ CP CW CF CT) (Ng := nHd) (a := "_law_ask") (k := 10) rfl mH FH.kp lkH hcH bH scHd rfl (Or.inl rfl) (heard_gives sh hu B hrep S Sm) TB rfl hmT hU hr (LamX.lamS_by (by show LamX.lamSB (defScope sPX) _ = true; decide +kernel)) rfl (fun _ _ _ _ _ => rfl) (fun A outer s H E f c hr => (pe_meth (E := E) (pv 2) cA Mq Gq (hr.mono (by decide)) bq .nil lam_passes (pa_cons ((pe_call G2 (hr.mono (by decide)) rfl m2 k2 b2 .nil pass0 (pa_cons (pv 0) (pa_cons (pe_lst (pa_cons (pe_non) (pa_cons (pe_int) (pa_cons (pe_str) (pa_cons (pe_disp (pps_cons pe_int (pe_int) pps_nil) rfl rfl (by intro z; cases z) (by decide)) pa_nil))))) pa_nil)))) pa_nil))))) pa_nil)))) (pss_cons ((ps_set (i := 7) nd rfl (Or.inl rfl) (pe_op op_cat (pv 7) (pe_op op_rep (pe_lst (pa_cons ((pe_tup (pa_cons (pe_str) (pa_cons (pe_str) pa_nil)))) pa_nil)) pe_int)))) (pss_cons ((ps_expr (pe_bm PySem.F.plainAttrs_list PySem.F.slot_list_append PySem.F.type_list_append mt_append (pv 6) (pa_cons ((LamX.pe_lamcall (T := TL) (TT := THeard K CB CE CQ CP CW CF CT) (Ng := nHd) (a := "_law_ask") (k := 10) rfl mH FH.kp lkH hcH bH scHd rfl (Or.inl rfl) (heard_gives sh hu B hrep S Sm) TB rfl hmT hU hr (LamX.lamS_by (by show LamX.lamSB (defScope sPX) _ = true; decide +kernel)) rfl (fun _ _ _ _ _ => rfl) (fun A outer s H E f c hr => (pe_meth (E := E) (pv 2) cA Mq Gq (hr.mono (by decide)) bq .nil lam_passes (pa_cons (pe_op op_cat (pv 8) ((pe_slice (r := rSlL K) sl_listK (pv 8) (po_none) (po_some (pe_int))))) pa_nil))))) pa_nil)))) (pss_cons ((ps_expr (pe_bm PySem.F.plainAttrs_list PySem.F.slot_list_append PySem.F.type_list_append mt_append (pv 6) (pa_cons ((LamX.pe_lamcall (T := TL) (TT := THeard K CB CE CQ CP CW CF CT) (Ng := nHd) (a := "_law_ask") (k := 10) rfl mH FH.kp lkH hcH bH scHd rfl (Or.inl rfl) (heard_gives sh hu B hrep S Sm) TB rfl hmT hU hr (LamX.lamS_by (by show LamX.lamSB (defScope sPX) _ = true; decide +kernel)) rfl (fun _ _ _ _ _ => rfl) (fun A outer s H E f c hr => (pe_meth (E := E) (pv 2) cA Mq Gq (hr.mono (by decide)) bq .nil lam_passes (pa_cons ((pe_slice (r := rSlL K) sl_listK (pv 8) (po_some (pe_int)) (po_none))) pa_nil))))) pa_nil)))) (pss_cons ((ps_expr (pe_bm PySem.F.plainAttrs_list PySem.F.slot_list_append PySem.F.type_list_append mt_append (pv 6) (pa_cons ((LamX.pe_lamcall (T := TL) (TT := THeard K CB CE CQ CP CW CF CT) (Ng := nHd) (a := "_law_ask") (k := 10) rfl mH FH.kp lkH hcH bH scHd rfl (Or.inl rfl) (heard_gives sh hu B hrep S Sm) TB rfl hmT hU hr (LamX.lamS_by (by show LamX.lamSB (defScope sPX) _ = true; decide +kernel)) rfl (fun _ _ _ _ _ => rfl) (fun A outer s H E f c hr => (pe_meth (E := E) (pv 2) cA Mq Gq (hr.mono (by decide)) bq .nil lam_passes (pa_cons (pv 8) pa_nil))))) pa_nil)))) (pss_cons ((ps_set (i := 7) nd rfl (Or.inl rfl) (pe_op op_cat (pe_op op_cat (pv 7) (pe_op op_rep (pe_lst (pa_cons ((pe_tup (pa_cons (pe_str) (pa_cons (pe_str) pa_nil)))) pa_nil)) pe_int)) (pe_lst (pa_cons (pe_ifExp (pt_cmpR op_eq (pv 4) pe_int (nomark _)) (pe_tup (pa_cons (pe_str) (pa_cons (pe_int) pa_nil))) pe_non) pa_nil))))) (pss_one (ps_ret (pe_cmpR (op_eqD hr.units) (pv 6) (pv 7) (nomark _))))))))))))))))))))))), ?_⟩
  obtain ⟨p0, pz, rfl⟩ : ∃ p0 pz, pss = p0 :: pz := by
    cases pss with
    | nil => exact absurd rfl hne
    | cons a b => exact ⟨a, b, rfl⟩
  have la := td.len
  have lk := (tk p0 List.mem_cons_self).1
  refine ⟨_, rfl, D, as, _, rfl, td, tk.ok, Nat.le_trans h8 (by decide), fun H1 R cs s1 nR pl => ?_⟩
  refine ⟨.ref R, rfl, mkA_of (.inl pl.1) pl.2 tk.eqn hne h8 fun A2 H2 s2 nA al => ?_⟩
  have s02 := s1.trans s2
  have v := hv.same s02
  have T0 := hT.ext s02
  have td2 := td.same s02
  have kA := kq_same (p := p) s02
  clear s1 s2 s02 hv hT td nR pl nA
  obtain ⟨a0, ea0, ts0, lp0⟩ := td2.at (i := 0) (ps := p0) rfl
  refine ⟨_, rfl, D, _, rfl, .inl (SqL.of td2.1), ?_⟩
  rw [List.length_map, la]
  refine ⟨_, rfl, D, _, 0, .ref a0, rfl, rfl, SqL.of td2.1, atI_nat (j := 0) ea0, a0, _, rfl, .inl (SqL.of lp0.1), ?_⟩
  rw [List.length_map, lp0.len, lk]
  refine ⟨by show 3 ≤ sizeLine; decide, fun t3 nt3 => ?_⟩
  have st3 := same_new (o := .tup [V.ref A2, V.int ((p0 :: pz).length : Nat), V.int (k : Nat)]) nt3
  have gt3 : upd H2 t3 (.tup [V.ref A2, V.int ((p0 :: pz).length : Nat), V.int (k : Nat)]) t3 = some (.tup [V.ref A2, V.int ((p0 :: pz).length : Nat), V.int (k : Nat)]) := upd_same
  have v := v.same st3
  have al := al.same st3
  have T0 := T0.ext st3
  have kA := kA.trans (kq_same st3)
  generalize upd H2 t3 (.tup [V.ref A2, V.int ((p0 :: pz).length : Nat), V.int (k : Nat)]) = H3 at st3 gt3 v al T0 kA ⊢
  refine ⟨t3, _, rfl, SqT.of gt3, rfl, _, _, rfl, _, _, rfl, _, _, rfl, rfl, ?_⟩
  clear st3 gt3 nt3 lp0 td2 ea0
  dsimp only
  refine re_st (σ' := [some (.ref p), some (.ref D), some (.ref A2), some (V.int ((p0 :: pz).length : Nat)), some (V.int (k : Nat)), none, none, none, none, none, none]) rfl ?_
  refine ⟨_, rfl, _, rfl, _, rfl, by show 1 ≤ sizeLine; decide, fun t4 nt4 => ?_⟩
  have st4 := same_new (o := .tup [V.int 0]) nt4
  have gt4 : upd H3 t4 (.tup [V.int 0]) t4 = some (.tup [V.int 0]) := upd_same
  have v := v.same st4
  have al := al.same st4
  have T0 := T0.ext st4
  have kA := kA.trans (kq_same st4)
  generalize upd H3 t4 (.tup [V.int 0]) = H4 at st4 gt4 v al T0 kA ⊢
  have pt4 : t4 ≠ p := v.not_tup gt4
  have oo : ∀ x ∈ [V.int (-1), V.int (k : Nat), V.non, V.bl true, V.str "1", V.ref t4, V.int ((10 : Int) ^ (Int.toNat 20))], ∃ t D, Val p K H4 x t D ∧ pinOk k x = false := fun x hx => by
    simp only [List.mem_cons, List.not_mem_nil, or_false] at hx
    rcases hx with rfl | rfl | rfl | rfl | rfl | rfl | rfl
    · exact ⟨_, _, val_int (by decide +kernel) (by decide +kernel) (by decide +kernel), rfl⟩
    · exact ⟨_, _, val_nat (by omega), by rw [pinOk_nat, decide_eq_false (Nat.lt_irrefl _)]⟩
    · exact ⟨_, _, val_non, rfl⟩
    · exact ⟨_, _, val_bl true, rfl⟩
    · exact ⟨_, _, val_str (by decide +kernel) (by decide +kernel), rfl⟩
    · exact ⟨_, _, val_tup pt4 gt4 (by decide +kernel) (by decide +kernel) (by decide +kernel), rfl⟩
    · refine ⟨_, _, val_int (by decide +kernel) (by decide +kernel) (by decide +kernel), ?_⟩
      show (decide ((0 : Int) ≤ (10 : Int) ^ (Int.toNat 20)) && decide ((10 : Int) ^ (Int.toNat 20) ≤ (k : Int) - 1)) = false
      have e20 : (10 : Int) ^ (Int.toNat 20) = 100000000000000000000 := by decide +kernel
      rw [e20, decide_eq_false (show ¬ (100000000000000000000 : Int) ≤ (k : Int) - 1 by omega), Bool.and_false]
  refine ⟨_, _, rfl, rfl, ⟨by decide, by decide, by decide⟩, by show 7 ≤ sizeLine; decide, fun l5 n5 => ?_⟩
  have s5 := same_new (o := .lst [V.int (-1), V.int (k : Nat), V.non, V.bl true, V.str "1", V.ref t4, V.int ((10 : Int) ^ (Int.toNat 20))]) n5
  refine ⟨p, l5, _, _, rfl, v.same s5, by omega, upd_same, v.not_none n5, by show 0 < 7; decide, by show 7 ≤ 1000; decide, fun H5 od' sb v5 hx => ?_⟩
  obtain ⟨to, Do, vo, no⟩ := oo od' hx
  have k5 : Kq p H4 H5 := (kq_same s5).trans (Kq.ofS sb)
  have vo := vo.kq k5
  have fu : Fut p H5 fun M => AlbF M CA C A2 cs (p0 :: pz) := fun M kk => al.kq v (k5.trans kk)
  have T0 := tabs_sb (T0.ext s5) (v.same s5) sb
  have kA := kA.trans k5
  have v := v5
  clear oo hx s5 k5 n5 v5 sb st4 gt4 nt4 pt4 al
  refine re_sg (σ' := [some (.ref p), some (.ref D), some (.ref A2), some (V.int ((p0 :: pz).length : Nat)), some (V.int (k : Nat)), some (od'), none, none, none, none, none]) rfl ?_
  -- what is heard
  have hne : p0 :: pz ≠ [] := by simp
  dsimp only [tSeq, tAsg]
  refine first_in (e := some ("pin", .str Do.shown)) v T0 (fun Q' N HC kC hN hr => ?_) fun HD l N0 kD vD st => ?_
  · have fa := fu HC kC
    refine ⟨_, rfl, meth_inA fa (fun _ _ _ => rfl) ⟨_, rfl, by show 3 ≤ sizeLine; decide, fun e1 n1 => ?_⟩⟩
    have s1 := same_new (o := .lst [V.int 0, V.int 0, od']) n1
    have vC := vo.kq (kC.trans (kq_same s1))
    exact .mk ⟨A2, .ref e1, cs, _, k, rfl, fa.same s1, tk.eqn, tk.ok, hne, h8, .inl ⟨od', three_wj upd_same (by omega) vC.kd no, hP vC.sh (hr.same s1)⟩⟩
  have fu := fu.kq kD
  have vo := vo.kq kD
  have kB := kA.trans kD
  clear kD kA T0 v
  refine re_sg (σ' := [some (.ref p), some (.ref D), some (.ref A2), some (V.int ((p0 :: pz).length : Nat)), some (V.int (k : Nat)), some (od'), some (.ref l), none, none, none, none]) rfl ?_
  have sh1 : (PyData.int ((1 : Nat) : Int)).shown = "1" := by decide +kernel
  have shN : (PyData.none).shown = "None" := by decide +kernel
  refine app_in (e := some ("twice", .str "1")) rfl st vD (by show 1 < 900; decide) (fun Q' N HC kC kL hN hr => ?_) (fun N1 st kL => ?_)
  · have fa := fu HC kC
    refine ⟨_, rfl, meth_inA fa (fun _ _ _ => rfl) ⟨by show 3 ≤ sizeLine; decide, fun e1 n1 => ?_⟩⟩
    have s1 := same_new (o := .lst [V.int 1, V.int 0, V.int 1]) n1
    refine .mk ⟨A2, .ref e1, cs, _, k, rfl, fa.same s1, tk.eqn, tk.ok, hne, h8, .inr ⟨e1, [1, 0, 1], rfl, ⟨.inl upd_same, by show 3 ≤ 100; decide, fun j hj => ?_⟩, (fun nd => (three_nd nd).elim), fun _ => ⟨fun nd => (three_nd nd).elim, fun j tw => ?_⟩⟩⟩
    · simp only [List.mem_cons, List.not_mem_nil, or_false] at hj
      rcases hj with rfl | rfl | rfl <;> omega
    · have ej := tw_three tw
      subst ej
      exact hW (D := PyData.int ((1 : Nat) : Int)) (vl_nat (p := p) (l := l) (show 1 < 9 by decide)).sh (by rw [sh1]; exact hr.same s1)
  clear kL
  refine app_in (e := some ("misfit", .str "pins")) rfl st vD (by show 2 < 900; decide) (fun Q' N HC kC kL hN hr => ?_) (fun N2 st kL => ?_)
  · have fa := fu HC kC
    refine ⟨_, rfl, meth_inA fa (fun _ _ _ => rfl) ⟨by show 2 ≤ sizeLine; decide, fun e1 n1 => ?_⟩⟩
    have s1 := same_new (o := .lst [V.int 1, V.int 0]) n1
    refine .mk ⟨A2, .ref e1, cs, _, k, rfl, fa.same s1, tk.eqn, tk.ok, hne, h8, .inr ⟨e1, [1, 0], rfl, ⟨.inl upd_same, by show 2 ≤ 100; decide, fun j hj => ?_⟩, (fun _ z => absurd (show k ≤ 2 from z) (by omega)), fun _ => ⟨fun _ _ => hF (hr.same s1), fun j tw => (nd_no (by decide) tw).elim⟩⟩⟩
    simp only [List.mem_cons, List.not_mem_nil, or_false] at hj
    rcases hj with rfl | rfl <;> omega
  clear kL
  refine app_in (e := some ("pin", .str "None")) rfl st vD (by show 3 < 900; decide) (fun Q' N HC kC kL hN hr => ?_) (fun N3 st kL => ?_)
  · have fa := fu HC kC
    exact ⟨_, rfl, meth_inA fa (fun _ _ _ => rfl) (.mk ⟨A2, .non, cs, _, k, rfl, fa, tk.eqn, tk.ok, hne, h8, .inl ⟨.non, .no .non, hP (D := PyData.none) (vl_non (p := p) (l := l)).sh (by rw [shN]; exact hr)⟩⟩)⟩
  clear kL
  dsimp only [tSeq, tAsg]
  refine due4n st (fun _ h => ent_sr rfl (vo.kq st.z.k).sh h) (fun _ _ _ h => ent_ss h) (fun _ _ _ h => ent_ss h) (fun _ _ _ h => ent_ss h) fun dd KD st sx => ?_
  clear sx
  refine re_sg (σ' := [some (.ref p), some (.ref D), some (.ref A2), some (V.int ((p0 :: pz).length : Nat)), some (V.int (k : Nat)), some (od'), some (.ref l), some (.ref dd), none, none, none]) rfl ?_
  refine app_in (e := some ("pin", .str Do.shown)) rfl st vD (by show 4 < 900; decide) (fun Q' N HC kC kL hN hr => ?_) (fun N4 st kL => ?_)
  · have fa := fu HC kC
    have vC := vo.kq kC
    refine ⟨_, rfl, meth_inA fa (fun _ _ _ => rfl) ⟨_, rfl, .mk ⟨A2, od', to, cs, _, k, rfl, fa, tk.eqn, tk.ok, hne, h8, vC.kd, fun _ => hP vC.sh hr, fun j e hj => ?_⟩⟩⟩
    rw [e, pinOk_nat, decide_eq_true hj] at no
    cases no
  clear kL
  refine app_in (e := (if k = 4 then some ("misfit", .str "pins") else none : Ee)) rfl st vD (by show 5 < 900; decide) (fun Q' N HC kC kL hN hr => ?_) (fun N5 st kL => ?_)
  · have fa := fu HC kC
    refine ⟨_, rfl, meth_inA fa (fun _ _ _ => rfl) ⟨_, rfl, _, _, rfl, rfl, .mk ⟨A2, .int ((k : Int) - 1), false, cs, _, k, rfl, fa, tk.eqn, tk.ok, hne, h8, .int _, fun z => ?_, fun j e hj => ⟨fun e4 => ?_, fun e5 cs' a H' s _ _ => ?_⟩⟩⟩⟩
    · rw [show ((k : Int) - 1) = ((k - 1 : Nat) : Int) by omega, pinOk_nat, decide_eq_true (by omega)] at z
      cases z
    · rw [if_pos e4] at hr
      exact hF hr
    · rw [if_neg (by omega)] at hr
      exact hN _ _ fun H'' s2 => hr _ _ (s.trans s2) rfl
  clear kL
  dsimp only [tSeq, tAsg]
  refine due2m rfl st (fun _ h => ent_sr rfl (vo.kq st.z.k).sh h) (fun _ _ _ h => ent_if (c := 4) rfl (fun _ h => ent_ss h) h) (by simp) fun dd KD st sx => ?_
  clear sx
  refine re_sg (σ' := [some (.ref p), some (.ref D), some (.ref A2), some (V.int ((p0 :: pz).length : Nat)), some (V.int (k : Nat)), some (od'), some (.ref l), some (.ref dd), none, none, none]) rfl ?_
  -- a place for each
  dsimp only [tSeq, tAsg]
  have lpos : 1 ≤ (p0 :: pz).length := Nat.succ_pos _
  have nl_ : ∀ {M : Hp} {es : List Ee} {ds : List (Addr × List Ee)} {n : Nat} {a : Addr}, St TL p HD l es ds n M → M a = none → a ≠ l := fun st na => by
    obtain ⟨xs, hl, _⟩ := st.at
    exact (ne_of_none hl na).symm
  refine ⟨by show 2 ≤ sizeLine; decide, fun pr npr => ?_⟩
  have spr := same_new (o := .tup [V.int 0, V.int 1]) npr
  have gpr : upd KD pr (.tup [V.int 0, V.int 1]) pr = some (.tup [V.int 0, V.int 1]) := upd_same
  have pp1 : pr ≠ p := st.v.not_none npr
  have pl1 : pr ≠ l := nl_ st npr
  have st := st.same spr
  generalize upd KD pr (.tup [V.int 0, V.int 1]) = P1 at spr gpr st ⊢
  refine ⟨by show 1 ≤ sizeLine; decide, fun r1 nr1 => ?_⟩
  have sr1 := same_new (o := .lst [V.ref pr]) nr1
  have gr1 : upd P1 r1 (.lst [V.ref pr]) r1 = some (.lst [V.ref pr]) := upd_same
  have gpr := sr1 _ _ gpr
  have st := st.same sr1
  generalize upd P1 r1 (.lst [V.ref pr]) = P2 at sr1 gr1 gpr st ⊢
  refine ⟨_, rfl, r1, _, _, rfl, rfl, gr1, by omega, by omega, ?_, ?_⟩
  · show 1 * _ ≤ sizeLine
    exact Nat.le_of_lt (small1000 (by rw [Int.toNat_natCast]; omega))
  rw [rep_flat, Int.toNat_natCast]
  refine fun pt npt => ?_
  have spt := same_new (o := .lst (List.replicate (p0 :: pz).length (V.ref pr))) npt
  have gpt : upd P2 pt (.lst (List.replicate (p0 :: pz).length (V.ref pr))) pt = some (.lst (List.replicate (p0 :: pz).length (V.ref pr))) := upd_same
  have pp2 : pt ≠ p := st.v.not_none npt
  have pl2 : pt ≠ l := nl_ st npt
  have gpr := spt _ _ gpr
  have st := st.same spt
  generalize upd P2 pt (.lst (List.replicate (p0 :: pz).length (V.ref pr))) = P3 at spt gpt gpr st ⊢
  have fp : Ful p l P3 fun M => M pt = some (.lst (List.replicate (p0 :: pz).length (V.ref pr))) ∧ Pr M pr (0, 1) := fun M k => ⟨k _ _ pp2 pl2 (by intro ps z; cases z) gpt, k _ _ pp1 pl1 (by intro ps z; cases z) gpr⟩
  clear spr gpr npr pp1 pl1 sr1 gr1 nr1 spt gpt npt pp2 pl2
  refine ⟨_, rfl, _, rfl, p, ((p0 :: pz).length : Nat), _, rfl, st.v, by omega, by omega, by omega, fun P4 d sb v4 d0 d1 => ?_⟩
  obtain ⟨at', rfl⟩ := Int.eq_ofNat_of_zero_le d0
  have hat : at' < (p0 :: pz).length := by omega
  have st := st.draw sb v4
  have fp := fp.kpl (.ofB sb)
  clear d0 d1 sb v4
  refine ⟨by show 2 ≤ sizeLine; decide, fun t6 nt6 => ?_⟩
  have st6 := same_new (o := .tup [V.ref pt, V.int (at' : Nat)]) nt6
  have gt6 : upd P4 t6 (.tup [V.ref pt, V.int (at' : Nat)]) t6 = some (.tup [V.ref pt, V.int (at' : Nat)]) := upd_same
  have st := st.same st6
  have fp := fp.same st6
  generalize upd P4 t6 (.tup [V.ref pt, V.int (at' : Nat)]) = P5 at st6 gt6 st fp ⊢
  refine ⟨t6, _, rfl, SqT.of gt6, rfl, _, _, rfl, _, _, rfl, rfl, ?_⟩
  clear st6 gt6 nt6
  refine re_st (σ' := [some (.ref p), some (.ref D), some (.ref A2), some (V.int ((p0 :: pz).length : Nat)), some (V.int (k : Nat)), some (od'), some (.ref l), some (.ref dd), some (.ref pt), some (V.int (at' : Nat)), none]) rfl ?_
  have e9 : (10 : Int) ^ (Int.toNat 9) = 1000000000 := by decide +kernel
  refine ⟨_, rfl, by show 1 ≤ sizeLine; decide, fun b1 nb1 => ?_⟩
  have sb1 := same_new (o := .tup [V.int 1]) nb1
  have gb1 : upd P5 b1 (.tup [V.int 1]) b1 = some (.tup [V.int 1]) := upd_same
  have pb1 : b1 ≠ p := st.v.not_none nb1
  have lb1 : b1 ≠ l := nl_ st nb1
  have st := st.same sb1
  have fp := fp.same sb1
  generalize upd P5 b1 (.tup [V.int 1]) = P6 at sb1 gb1 st fp ⊢
  clear sb1 nb1
  refine ⟨by show 2 ≤ sizeLine; decide, fun b2 nb2 => ?_⟩
  have sb2 := same_new (o := .lst [V.int 1, V.non]) nb2
  have gb2 : upd P6 b2 (.lst [V.int 1, V.non]) b2 = some (.lst [V.int 1, V.non]) := upd_same
  have pb2 : b2 ≠ p := st.v.not_none nb2
  have lb2 : b2 ≠ l := nl_ st nb2
  have st := st.same sb2
  have fp := fp.same sb2
  have gb1 := sb2 _ _ gb1
  generalize upd P6 b2 (.lst [V.int 1, V.non]) = P7 at sb2 gb2 st fp gb1 ⊢
  clear sb2 nb2
  refine ⟨_, _, rfl, rfl, ⟨by decide, by decide, by decide⟩, _, _, rfl, rfl, by show 2 ≤ sizeLine; decide, fun b3 nb3 => ?_⟩
  have sb3 := same_new (o := .tup [V.int ((10 : Int) ^ (Int.toNat 9) + 1), V.int 0]) nb3
  have gb3 : upd P7 b3 (.tup [V.int ((10 : Int) ^ (Int.toNat 9) + 1), V.int 0]) b3 = some (.tup [V.int ((10 : Int) ^ (Int.toNat 9) + 1), V.int 0]) := upd_same
  have pb3 : b3 ≠ p := st.v.not_none nb3
  have lb3 : b3 ≠ l := nl_ st nb3
  have st := st.same sb3
  have fp := fp.same sb3
  have gb1 := sb3 _ _ gb1
  have gb2 := sb3 _ _ gb2
  generalize upd P7 b3 (.tup [V.int ((10 : Int) ^ (Int.toNat 9) + 1), V.int 0]) = P8 at sb3 gb3 st fp gb1 gb2 ⊢
  clear sb3 nb3
  refine ⟨_, _, rfl, rfl, ⟨by decide, by decide, by decide⟩, _, rfl, _, _, rfl, rfl, by show 2 ≤ sizeLine; decide, fun b4 nb4 => ?_⟩
  have sb4 := same_new (o := .tup [V.int 0, V.int (-((10 : Int) ^ (Int.toNat 9)) - 1)]) nb4
  have gb4 : upd P8 b4 (.tup [V.int 0, V.int (-((10 : Int) ^ (Int.toNat 9)) - 1)]) b4 = some (.tup [V.int 0, V.int (-((10 : Int) ^ (Int.toNat 9)) - 1)]) := upd_same
  have pb4 : b4 ≠ p := st.v.not_none nb4
  have lb4 : b4 ≠ l := nl_ st nb4
  have st := st.same sb4
  have fp := fp.same sb4
  have gb1 := sb4 _ _ gb1
  have gb2 := sb4 _ _ gb2
  have gb3 := sb4 _ _ gb3
  generalize upd P8 b4 (.tup [V.int 0, V.int (-((10 : Int) ^ (Int.toNat 9)) - 1)]) = P9 at sb4 gb4 st fp gb1 gb2 gb3 ⊢
  clear sb4 nb4
  refine ⟨by show 2 ≤ sizeLine; decide, fun b5 nb5 => ?_⟩
  have sb5 := same_new (o := .lst [V.bl true, V.int 0]) nb5
  have gb5 : upd P9 b5 (.lst [V.bl true, V.int 0]) b5 = some (.lst [V.bl true, V.int 0]) := upd_same
  have pb5 : b5 ≠ p := st.v.not_none nb5
  have lb5 : b5 ≠ l := nl_ st nb5
  have st := st.same sb5
  have fp := fp.same sb5
  have gb1 := sb5 _ _ gb1
  have gb2 := sb5 _ _ gb2
  have gb3 := sb5 _ _ gb3
  have gb4 := sb5 _ _ gb4
  generalize upd P9 b5 (.lst [V.bl true, V.int 0]) = P10 at sb5 gb5 st fp gb1 gb2 gb3 gb4 ⊢
  clear sb5 nb5
  have fx : ∀ x ∈ [V.non, V.ref b1, V.ref b2, V.ref b3, V.ref b4, V.ref b5, V.str "00", V.int 7], Ful p l P10 fun M => RowV K M x false := fun x hx M kk => by
    have ii : ∀ i : Int, ∃ t, Kd K M (.int i) t := fun i => ⟨_, .int i⟩
    simp only [List.mem_cons, List.not_mem_nil, or_false] at hx
    rcases hx with rfl | rfl | rfl | rfl | rfl | rfl | rfl | rfl
    · exact .no .non
    · refine rowv_of (.inr (kk _ _ pb1 lb1 (by intro ps z; cases z) gb1)) (fun x hx => ?_) (by show 1 ≤ 100; decide) rfl
      rw [List.mem_singleton.mp hx]
      exact ii _
    · refine rowv_of (.inl (kk _ _ pb2 lb2 (by intro ps z; cases z) gb2)) (fun x hx => ?_) (by show 2 ≤ 100; decide) rfl
      simp only [List.mem_cons, List.not_mem_nil, or_false] at hx
      rcases hx with rfl | rfl
      · exact ii _
      · exact ⟨_, .non⟩
    · refine rowv_of (.inr (kk _ _ pb3 lb3 (by intro ps z; cases z) gb3)) (fun x hx => ?_) (by show 2 ≤ 100; decide) (by rw [e9]; decide +kernel)
      simp only [List.mem_cons, List.not_mem_nil, or_false] at hx
      rcases hx with rfl | rfl <;> exact ii _
    · refine rowv_of (.inr (kk _ _ pb4 lb4 (by intro ps z; cases z) gb4)) (fun x hx => ?_) (by show 2 ≤ 100; decide) (by rw [e9]; decide +kernel)
      simp only [List.mem_cons, List.not_mem_nil, or_false] at hx
      rcases hx with rfl | rfl <;> exact ii _
    · refine rowv_of (.inl (kk _ _ pb5 lb5 (by intro ps z; cases z) gb5)) (fun x hx => ?_) (by show 2 ≤ 100; decide) rfl
      simp only [List.mem_cons, List.not_mem_nil, or_false] at hx
      rcases hx with rfl | rfl
      · exact ⟨_, .bl _⟩
      · exact ii _
    · exact .no (.str _)
    · exact .no (.int _)
  refine ⟨by show 8 ≤ sizeLine; decide, fun l7 nl7 => ?_⟩
  have sl7 := same_new (o := .lst [V.non, V.ref b1, V.ref b2, V.ref b3, V.ref b4, V.ref b5, V.str "00", V.int 7]) nl7
  have st2 := st.same sl7
  refine ⟨p, l7, _, _, rfl, st2.v, by omega, upd_same, st.v.not_none nl7, by show 0 < 8; decide, by show 8 ≤ 1000; decide, fun P11 bad sb v2 hx => ?_⟩
  have fb := ((fx bad hx).same sl7).kpl (.ofB sb)
  have fp := (fp.same sl7).kpl (.ofB sb)
  have st := st2.draw sb v2
  clear fx hx sb v2 st2 sl7 nl7 gb1 gb2 gb3 gb4 gb5 pb1 pb2 pb3 pb4 pb5 lb1 lb2 lb3 lb4 lb5
  refine re_sg (σ' := [some (.ref p), some (.ref D), some (.ref A2), some (V.int ((p0 :: pz).length : Nat)), some (V.int (k : Nat)), some (od'), some (.ref l), some (.ref dd), some (.ref pt), some (V.int (at' : Nat)), some (bad)]) rfl ?_
  have lr : (List.replicate (p0 :: pz).length (V.ref pr)).length = (p0 :: pz).length := List.length_replicate ..
  have atl : at' ≤ (List.replicate (p0 :: pz).length (V.ref pr)).length := by omega
  refine app_in (e := some ("picture", .str "places")) rfl st vD (by show 6 < 900; decide) (fun Q' N HC kC kL hN hr => ?_) (fun N6 st kL => ?_)
  · have fa := fu HC kC
    obtain ⟨gp, rp⟩ := fp HC kL
    have fb' := fb HC kL
    refine ⟨_, rfl, meth_inA fa (fun _ _ _ => rfl) ⟨_, rfl, _, rfl, _, rfl, pt, _, rfl, SqL.of gp, ?_⟩⟩
    rw [cut_to atl]
    refine fun e1 ne1 => ?_
    have se1 := same_new (o := .lst ((List.replicate (p0 :: pz).length (V.ref pr)).take at')) ne1
    have ge1 : upd HC e1 (.lst ((List.replicate (p0 :: pz).length (V.ref pr)).take at')) e1 = some (.lst ((List.replicate (p0 :: pz).length (V.ref pr)).take at')) := upd_same
    have hr := hr.same se1
    have fa := fa.same se1
    have gp := se1 _ _ gp
    have rp := se1 _ _ rp
    have fb' := fb'.same se1
    generalize upd HC e1 (.lst ((List.replicate (p0 :: pz).length (V.ref pr)).take at')) = E1 at se1 ge1 hr fa gp rp fb' ⊢
    refine ⟨_, rfl, by show 1 ≤ sizeLine; decide, fun e2 ne2 => ?_⟩
    have se2 := same_new (o := .lst [bad]) ne2
    have ge2 : upd E1 e2 (.lst [bad]) e2 = some (.lst [bad]) := upd_same
    have hr := hr.same se2
    have fa := fa.same se2
    have gp := se2 _ _ gp
    have rp := se2 _ _ rp
    have fb' := fb'.same se2
    have ge1 := se2 _ _ ge1
    generalize upd E1 e2 (.lst [bad]) = E2 at se2 ge2 hr fa gp rp fb' ge1 ⊢
    refine ⟨e1, e2, _, _, rfl, rfl, ge1, ge2, ?_, ?_⟩
    · rw [List.length_take]
      exact Nat.le_of_lt (small1000 (by show min at' _ + 1 ≤ 1000; omega))
    refine fun e3 ne3 => ?_
    have se3 := same_new (o := .lst ((List.replicate (p0 :: pz).length (V.ref pr)).take at' ++ [bad])) ne3
    have ge3 : upd E2 e3 (.lst ((List.replicate (p0 :: pz).length (V.ref pr)).take at' ++ [bad])) e3 = some (.lst ((List.replicate (p0 :: pz).length (V.ref pr)).take at' ++ [bad])) := upd_same
    have hr := hr.same se3
    have fa := fa.same se3
    have gp := se3 _ _ gp
    have rp := se3 _ _ rp
    have fb' := fb'.same se3
    generalize upd E2 e3 (.lst ((List.replicate (p0 :: pz).length (V.ref pr)).take at' ++ [bad])) = E3 at se3 ge3 hr fa gp rp fb' ⊢
    refine ⟨_, rfl, _, rfl, _, rfl, pt, _, rfl, SqL.of gp, ?_⟩
    rw [cut_from atl]
    refine fun e4 ne4 => ?_
    have se4 := same_new (o := .lst ((List.replicate (p0 :: pz).length (V.ref pr)).drop at')) ne4
    have ge4 : upd E3 e4 (.lst ((List.replicate (p0 :: pz).length (V.ref pr)).drop at')) e4 = some (.lst ((List.replicate (p0 :: pz).length (V.ref pr)).drop at')) := upd_same
    have hr := hr.same se4
    have fa := fa.same se4
    have gp := se4 _ _ gp
    have rp := se4 _ _ rp
    have fb' := fb'.same se4
    have ge3 := se4 _ _ ge3
    generalize upd E3 e4 (.lst ((List.replicate (p0 :: pz).length (V.ref pr)).drop at')) = E4 at se4 ge4 hr fa gp rp fb' ge3 ⊢
    refine ⟨e3, e4, _, _, rfl, rfl, ge3, ge4, ?_, ?_⟩
    · rw [List.length_append, List.length_take, List.length_drop]
      exact Nat.le_of_lt (small1000 (by show min at' _ + 1 + _ ≤ 1000; omega))
    refine fun e5 ne5 => ?_
    have se5 := same_new (o := .lst ((List.replicate (p0 :: pz).length (V.ref pr)).take at' ++ [bad] ++ (List.replicate (p0 :: pz).length (V.ref pr)).drop at')) ne5
    have ge5 : upd E4 e5 (.lst ((List.replicate (p0 :: pz).length (V.ref pr)).take at' ++ [bad] ++ (List.replicate (p0 :: pz).length (V.ref pr)).drop at')) e5 = some (.lst ((List.replicate (p0 :: pz).length (V.ref pr)).take at' ++ [bad] ++ (List.replicate (p0 :: pz).length (V.ref pr)).drop at')) := upd_same
    have hr := hr.same se5
    have fa := fa.same se5
    have gp := se5 _ _ gp
    have rp := se5 _ _ rp
    have fb' := fb'.same se5
    generalize upd E4 e5 (.lst ((List.replicate (p0 :: pz).length (V.ref pr)).take at' ++ [bad] ++ (List.replicate (p0 :: pz).length (V.ref pr)).drop at')) = E5 at se5 ge5 hr fa gp rp fb' ⊢
    refine ⟨_, rfl, e5, pt, _, _, rfl, rfl, ge5, gp, ?_, ?_⟩
    · rw [List.length_append, List.length_append, List.length_take, List.length_drop]
      exact Nat.le_of_lt (small1000 (by show min at' _ + 1 + _ + _ ≤ 1000; omega))
    refine fun e6 ne6 => ?_
    have se6 := same_new (o := .lst ((List.replicate (p0 :: pz).length (V.ref pr)).take at' ++ [bad] ++ (List.replicate (p0 :: pz).length (V.ref pr)).drop at' ++ (List.replicate (p0 :: pz).length (V.ref pr)))) ne6
    have ge6 : upd E5 e6 (.lst ((List.replicate (p0 :: pz).length (V.ref pr)).take at' ++ [bad] ++ (List.replicate (p0 :: pz).length (V.ref pr)).drop at' ++ (List.replicate (p0 :: pz).length (V.ref pr)))) e6 = some (.lst ((List.replicate (p0 :: pz).length (V.ref pr)).take at' ++ [bad] ++ (List.replicate (p0 :: pz).length (V.ref pr)).drop at' ++ (List.replicate (p0 :: pz).length (V.ref pr)))) := upd_same
    have hr := hr.same se6
    have fa := fa.same se6
    have gp := se6 _ _ gp
    have rp := se6 _ _ rp
    have fb' := fb'.same se6
    generalize upd E5 e6 (.lst ((List.replicate (p0 :: pz).length (V.ref pr)).take at' ++ [bad] ++ (List.replicate (p0 :: pz).length (V.ref pr)).drop at' ++ (List.replicate (p0 :: pz).length (V.ref pr)))) = E6 at se6 ge6 hr fa gp rp fb' ⊢
    have tr := paired_rep (rowv_pr (K := K) rp (by decide +kernel) (by decide +kernel)) (p0 :: pz).length
    refine .mk ⟨A2, .ref e6, cs, _, k, rfl, fa, tk.eqn, tk.ok, hne, h8, .inl ⟨_, .seq (.inl ge6) (paired_app (paired_app (paired_app (paired_take tr at').1 (.cons fb' .nil)) (paired_take tr at').2) tr) ?_, by simp [rowsB], hE hr⟩⟩
    rw [List.length_append, List.length_append, List.length_append, List.length_take, List.length_drop]
    show min at' _ + 1 + _ + _ ≤ 100
    omega
  have fp := fp.kpl kL
  clear kL
  refine app_draw (m := n + 1 + 1 + 1 + 1) (e := some ("picture", .str "places")) rfl st vD (by show 7 < 900; decide) (fun Q' N HC kC kL vC hr => ?_) (fun N7 st kL => ?_)
  · have fa := fu HC kC
    refine ⟨_, rfl, meth_inA fa (fun _ _ _ => rfl) ⟨_, rfl, fun q3 nq3 => ⟨upd_same, [(Sum.inl 0, V.int 0)], rfl, by show 1 ≤ 15; decide, ?_⟩⟩⟩
    have ed : upd (upd HC q3 (.dK [])) q3 (.dK (mergeK [] [(Sum.inl 0, V.int 0)])) = upd HC q3 (.dK [(Sum.inl 0, V.int 0)]) := by
      funext b
      by_cases z : b = q3
      · rw [z, upd_same, upd_same]
        rfl
      · rw [upd_ne z, upd_ne z, upd_ne z]
    rw [ed]
    have sq3 := same_new (o := .dK [(Sum.inl 0, V.int 0)]) nq3
    have gq3 : upd HC q3 (.dK [(Sum.inl 0, V.int 0)]) q3 = some (.dK [(Sum.inl 0, V.int 0)]) := upd_same
    have pq3 : q3 ≠ p := vC.not_none nq3
    have v1 := vC.same sq3
    generalize upd HC q3 (.dK [(Sum.inl 0, V.int 0)]) = E1 at sq3 gq3 v1 ⊢
    refine ⟨by show 4 ≤ sizeLine; decide, fun l7 nl7 => ?_⟩
    have sl7 := same_new (o := .lst [V.non, V.int 5, V.str "0 0", V.ref q3]) nl7
    refine ⟨p, l7, _, _, rfl, v1.same sl7, by omega, upd_same, v1.not_none nl7, by show 0 < 4; decide, by show 4 ≤ 1000; decide, fun E2 x sb v2 hx => ?_⟩
    have gq3 := sb.1 _ _ pq3 (sl7 _ _ gq3)
    have kd : Kd K E2 x false := by
      simp only [List.mem_cons, List.not_mem_nil, or_false] at hx
      rcases hx with rfl | rfl | rfl | rfl
      · exact .non
      · exact .int _
      · exact .str _
      · exact .dK gq3
    have fa2 := (fa.same (sq3.trans sl7)).sb (v1.same sl7) sb
    exact .mk ⟨A2, x, cs, _, k, rfl, fa2, tk.eqn, tk.ok, hne, h8, .inl ⟨none, .no kd, rfl, hE (hr _ ((SB.of (sq3.trans sl7)).trans sb) v2)⟩⟩
  have fp := fp.kpl kL
  clear kL
  dsimp only [tSeq, tAsg]
  refine due_rep rfl st (fun _ h => ent_ss h) (by simp) fun dd KD st sx => ?_
  have fp := fp.same sx
  clear sx
  refine re_sg (σ' := [some (.ref p), some (.ref D), some (.ref A2), some (V.int ((p0 :: pz).length : Nat)), some (V.int (k : Nat)), some (od'), some (.ref l), some (.ref dd), some (.ref pt), some (V.int (at' : Nat)), some (bad)]) rfl ?_
  have rm : ∀ n : Nat, List.replicate n (V.ref pr) = (List.replicate n pr).map V.ref := fun n => rep_map _ _ _
  refine app_in (e := some ("misfit", .str "pictures")) rfl st vD (by show 8 < 900; decide) (fun Q' N HC kC kL hN hr => ?_) (fun N8 st kL => ?_)
  · have fa := fu HC kC
    obtain ⟨gp, rp⟩ := fp HC kL
    refine ⟨_, rfl, meth_inA fa (fun _ _ _ => rfl) ⟨_, rfl, _, rfl, 1, rfl, pt, _, rfl, SqL.of gp, ?_⟩⟩
    rw [cut_t1 (by omega), show (List.replicate (p0 :: pz).length (V.ref pr)).take 1 = [V.ref pr] from rfl]
    refine fun e1 ne1 => ?_
    have se1 := same_new (o := .lst [V.ref pr]) ne1
    have ge1 : upd HC e1 (.lst [V.ref pr]) e1 = some (.lst [V.ref pr]) := upd_same
    have hr := hr.same se1
    have fa := fa.same se1
    have gp := se1 _ _ gp
    have rp := se1 _ _ rp
    generalize upd HC e1 (.lst [V.ref pr]) = E1 at se1 ge1 hr fa gp rp ⊢
    refine ⟨pt, e1, _, _, rfl, rfl, gp, ge1, Nat.le_of_lt (small1000 (by rw [lr]; show _ + 1 ≤ 1000; omega)), ?_⟩
    refine fun e2 ne2 => ?_
    have se2 := same_new (o := .lst ((List.replicate (p0 :: pz).length (V.ref pr)) ++ [V.ref pr])) ne2
    have ge2 : upd E1 e2 (.lst ((List.replicate (p0 :: pz).length (V.ref pr)) ++ [V.ref pr])) e2 = some (.lst ((List.replicate (p0 :: pz).length (V.ref pr)) ++ [V.ref pr])) := upd_same
    have hr := hr.same se2
    have fa := fa.same se2
    have gp := se2 _ _ gp
    have rp := se2 _ _ rp
    generalize upd E1 e2 (.lst ((List.replicate (p0 :: pz).length (V.ref pr)) ++ [V.ref pr])) = E2 at se2 ge2 hr fa gp rp ⊢
    have e1' : List.replicate (p0 :: pz).length (V.ref pr) ++ [V.ref pr] = (List.replicate ((p0 :: pz).length + 1) pr).map V.ref := by rw [← rm, List.replicate_succ']
    exact .mk ⟨A2, .ref e2, cs, _, k, rfl, fa, tk.eqn, tk.ok, hne, h8, .inr ⟨List.replicate ((p0 :: pz).length + 1) (0, 1), .lt (bs := List.replicate ((p0 :: pz).length + 1) pr) (ge2.trans (by rw [e1'])) (paired_rep (show Pr _ pr (0, 1) from rp) _), (fun q hq => by rw [(List.mem_replicate.mp hq).2]; decide +kernel), by rw [List.length_replicate]; omega, (fun _ => hF hr), fun z => absurd z (by rw [List.length_replicate]; omega)⟩⟩
  have fp := fp.kpl kL
  clear kL
  refine app_in (e := some ("misfit", .str "pictures")) rfl st vD (by show 9 < 900; decide) (fun Q' N HC kC kL hN hr => ?_) (fun N9 st kL => ?_)
  · have fa := fu HC kC
    obtain ⟨gp, rp⟩ := fp HC kL
    refine ⟨_, rfl, meth_inA fa (fun _ _ _ => rfl) ⟨_, rfl, 1, rfl, pt, _, rfl, SqL.of gp, ?_⟩⟩
    rw [cut1 (by omega), show (List.replicate (p0 :: pz).length (V.ref pr)).drop 1 = List.replicate pz.length (V.ref pr) from rfl]
    refine fun e1 ne1 => ?_
    have se1 := same_new (o := .lst (List.replicate pz.length (V.ref pr))) ne1
    have ge1 : upd HC e1 (.lst (List.replicate pz.length (V.ref pr))) e1 = some (.lst (List.replicate pz.length (V.ref pr))) := upd_same
    have hr := hr.same se1
    have fa := fa.same se1
    have gp := se1 _ _ gp
    have rp := se1 _ _ rp
    generalize upd HC e1 (.lst (List.replicate pz.length (V.ref pr))) = E1 at se1 ge1 hr fa gp rp ⊢
    exact .mk ⟨A2, .ref e1, cs, _, k, rfl, fa, tk.eqn, tk.ok, hne, h8, .inr ⟨List.replicate pz.length (0, 1), .lt (bs := List.replicate pz.length pr) (ge1.trans (by rw [rm])) (paired_rep (show Pr _ pr (0, 1) from rp) _), (fun q hq => by rw [(List.mem_replicate.mp hq).2]; decide +kernel), by rw [List.length_replicate]; have : (p0 :: pz).length = pz.length + 1 := rfl; omega, (fun _ => hF hr), fun z => absurd z (by rw [List.length_replicate]; have : (p0 :: pz).length = pz.length + 1 := rfl; omega)⟩⟩
  have fp := fp.kpl kL
  clear kL
  refine app_in (e := (if k = 7 then some ("pins", .int 7) else none : Ee)) rfl st vD (by show 10 < 900; decide) (fun Q' N HC kC kL hN hr => ?_) (fun N10 st kL => ?_)
  · have fa := fu HC kC
    obtain ⟨gp, rp⟩ := fp HC kL
    refine ⟨_, rfl, meth_inA fa (fun _ _ _ => rfl) ⟨_, rfl, .mk ⟨A2, .ref pt, cs, _, k, rfl, fa, tk.eqn, tk.ok, hne, h8, .inr ⟨List.replicate (p0 :: pz).length (0, 1), .lt (bs := List.replicate (p0 :: pz).length pr) (gp.trans (by rw [rm])) (paired_rep (show Pr _ pr (0, 1) from rp) _), (fun q hq => by rw [(List.mem_replicate.mp hq).2]; decide +kernel), by rw [List.length_replicate]; omega, (fun z => absurd (List.length_replicate ..) z), fun _ => ⟨fun e7 => ?_, fun l7 cs' a H' s _ _ => ?_⟩⟩⟩⟩⟩
    · rw [if_pos e7] at hr
      exact hT hr
    · rw [if_neg (by omega)] at hr
      exact hN _ _ fun H'' s2 => hr _ _ (s.trans s2) rfl
  have fp := fp.kpl kL
  clear kL
  dsimp only [tSeq, tAsg]
  refine op_at (due_rep rfl st (fun _ h => ent_ss h) (by simp) fun d2 M2 st sx => lst_at (ents (fun _ h => ent_if (c := 7) rfl (fun _ h => ent_si h) h) fun K0 x0 s0 g0 => nil_in ?_))
  refine due_more (st.same s0) (.cons g0 .nil) (by simp) fun d3 M3 st _ => ?_
  clear sx s0 g0
  have okA : ∀ e ∈ ([some ("pin", .str Do.shown), some ("twice", .str "1"), some ("misfit", .str "pins"), some ("pin", .str "None"), some ("pin", .str Do.shown), (if k = 4 then some ("misfit", .str "pins") else none : Ee), some ("picture", .str "places"), some ("picture", .str "places"), some ("misfit", .str "pictures"), some ("misfit", .str "pictures"), (if k = 7 then some ("pins", .int 7) else none : Ee)] : List Ee), okE e := fun e he => by
    have ss : ∀ a b : Str, PyData.strOk a = true → PyData.strOk b = true → okE (some (a, .str b)) := fun a b h1 h2 => ⟨h1, .inr ⟨b, rfl, h2⟩⟩
    have po : okE (some ("pin", .str Do.shown)) := ss _ _ (by decide +kernel) vo.o
    simp only [List.mem_cons, List.not_mem_nil, or_false] at he
    rcases he with rfl | rfl | rfl | rfl | rfl | rfl | rfl | rfl | rfl | rfl | rfl
    · exact po
    · exact ss _ _ (by decide +kernel) (by decide +kernel)
    · exact ss _ _ (by decide +kernel) (by decide +kernel)
    · exact ss _ _ (by decide +kernel) (by decide +kernel)
    · exact po
    · split
      · exact ss _ _ (by decide +kernel) (by decide +kernel)
      · exact True.intro
    · exact ss _ _ (by decide +kernel) (by decide +kernel)
    · exact ss _ _ (by decide +kernel) (by decide +kernel)
    · exact ss _ _ (by decide +kernel) (by decide +kernel)
    · exact ss _ _ (by decide +kernel) (by decide +kernel)
    · split
      · exact ⟨by decide +kernel, .inl ⟨_, rfl⟩⟩
      · exact True.intro
  exact ⟨_, rfl, _, rfl, hs_eq (es := [some ("pin", .str Do.shown), some ("twice", .str "1"), some ("misfit", .str "pins"), some ("pin", .str "None"), some ("pin", .str Do.shown), (if k = 4 then some ("misfit", .str "pins") else none : Ee), some ("picture", .str "places"), some ("picture", .str "places"), some ("misfit", .str "pictures"), some ("misfit", .str "pictures"), (if k = 7 then some ("pins", .int 7) else none : Ee)]) st.h (st.ds (d3, _) List.mem_cons_self).1 okA (q _ (kB.trans st.z.k) (st.v.le (by omega)) st.T)⟩
end
end K14

namespace GG
open PySem PySem.Spec PyProof.Rows L2
/-! ### the end, for a law that is such a def -/
/-- what is tracked at the start: the script, unless it is written, and tables -/
structure Begun (K : PySem.W.Frag) (h : Heap) (a : Addr) (vs : List Value) (ns : List Int) (cs : List (Addr × Addr)) (H : Hp) : Prop where
  tb : ∀ p ∈ cs, H p.2 = some (.tbl #[])
  al : ∀ b u, H b = some u → (u = .tbl #[] ∧ h.get? b = some { cls := .none, data := .fields #[] } ∧ K.lookup b = none ∧ b ∈ cs.map (·.2)) ∨ (b = a ∧ u = .frz { cls := .type "list", data := .seq vs.toArray } (.lst (ns.map V.int)) ∧ K.lookup a = none)
  sq : SqL K H a (ns.map V.int)
section
variable {P : Program} {w : World} {K : PySem.W.Frag} {a : Addr} {vs : List Value} {ns : List Int} {cs : List (Addr × Addr)} {H : Hp} {h : Heap}
theorem begun (KX : K.In h) (hT : ∀ p ∈ cs, h.get? p.2 = some { cls := .none, data := .fields #[] }) (nT : ∀ p ∈ cs, K.lookup p.2 = none) (ha : h.get? a = some { cls := .type "list", data := .seq vs.toArray }) (rv : Vals (ns.map V.int) vs) (hl : ns.length ≤ sizeLine) : ∃ H, Begun K h a vs ns cs H := by
  classical
  have isT : ∀ b, b ∈ cs.map (·.2) → h.get? b = some { cls := .none, data := .fields #[] } ∧ K.lookup b = none := fun b hb => by
    obtain ⟨p, hp, rfl⟩ := List.mem_map.mp hb
    exact ⟨hT p hp, nT p hp⟩
  have na : a ∉ cs.map (·.2) := fun z => by
    have q := (isT a z).1
    rw [ha] at q
    exact absurd (congrArg Obj.data (Option.some.inj q)) (by intro z; cases z)
  have mem : ∀ p ∈ cs, p.2 ∈ cs.map (·.2) := fun p hp => List.mem_map_of_mem hp
  have lv : vs.length = ns.length := by
    rw [← rv.length, List.length_map]
  cases e : K.lookup a with
  | none =>
    refine ⟨fun b => if b ∈ cs.map (·.2) then some (.tbl #[]) else if b = a then some (.frz { cls := .type "list", data := .seq vs.toArray } (.lst (ns.map V.int))) else none, fun p hp => if_pos (mem p hp), fun b u hb => ?_, .inl (.inr ⟨{ cls := .type "list", data := .seq vs.toArray }, ?_⟩)⟩
    · by_cases m : b ∈ cs.map (·.2)
      · rw [if_pos m] at hb
        exact .inl ⟨(Option.some.inj hb).symm, (isT b m).1, (isT b m).2, m⟩
      · rw [if_neg m] at hb
        by_cases eb : b = a
        · rw [if_pos eb] at hb
          exact .inr ⟨eb, (Option.some.inj hb).symm, e⟩
        · rw [if_neg eb] at hb
          cases hb
    · show (if a ∈ cs.map (·.2) then _ else _) = _
      rw [if_neg na, if_pos rfl]
  | some o =>
    have eo : o = { cls := .type "list", data := .seq vs.toArray } := by
      have q := KX a o e
      rw [ha] at q
      exact (Option.some.inj q).symm
    subst eo
    refine ⟨fun b => if b ∈ cs.map (·.2) then some (.tbl #[]) else none, fun p hp => if_pos (mem p hp), fun b u hb => ?_, .inr ⟨_, vs.toArray, _, e, rfl, rfl, rfl, by rw [List.size_toArray, lv]; exact hl, by simpa using rv⟩⟩
    by_cases m : b ∈ cs.map (·.2)
    · rw [if_pos m] at hb
      exact .inl ⟨(Option.some.inj hb).symm, (isT b m).1, (isT b m).2, m⟩
    · rw [if_neg m] at hb
      cases hb
variable {b : Addr} {o : Obj}
/-- what is neither a list nor an empty table is not tracked -/
theorem Begun.off (B : Begun K h a vs ns cs H) (ha : h.get? a = some { cls := .type "list", data := .seq vs.toArray }) (e : h.get? b = some o) (n1 : ∀ us n, o.data ≠ .seq us n) (n2 : o.data ≠ .fields #[]) : H b = none := by
  cases q : H b with
  | none => rfl
  | some u =>
    rcases B.al b u q with ⟨_, g, _⟩ | ⟨rfl, _⟩
    · rw [e] at g
      cases g
      exact absurd rfl n2
    · rw [e] at ha
      cases ha
      exact absurd rfl (n1 _ _)
theorem Begun.get (B : Begun K h a vs ns cs H) (ha : h.get? a = some { cls := .type "list", data := .seq vs.toArray }) (e : h.get? b = some o) (n1 : ∀ us n, o.data ≠ .seq us n) (n2 : o.data ≠ .fields #[]) : (hidT h H).get? b = some o := hidT_get e (B.off ha e n1 n2)
theorem Begun.nsp (B : Begun K h a vs ns cs H) (ha : h.get? a = some { cls := .type "list", data := .seq vs.toArray }) {m : Str → Option Value} (n : h.Ns b m) : (hidT h H).Ns b m := by
  obtain ⟨o, es, ep, e, d, r⟩ := n
  exact ⟨o, es, ep, B.get ha e (by rw [d]; intro _ _ z; cases z) (by rw [d]; intro z; cases z), d, r⟩
theorem Begun.kin (B : Begun K h a vs ns cs H) (KX : K.In h) : K.In (hidT h H) := fun b o e => hidT_get (KX b o e) (by
  cases q : H b with
  | none => rfl
  | some u =>
    rcases B.al b u q with ⟨_, _, g, _⟩ | ⟨rfl, _, g⟩
    · rw [e] at g
      cases g
    · rw [e] at g
      cases g)
theorem Begun.hok (B : Begun K h a vs ns cs H) (ha : h.get? a = some { cls := .type "list", data := .seq vs.toArray }) (rv : Vals (ns.map V.int) vs) (hl : ns.length ≤ sizeLine) : HOk P w H h := fun b u q => by
  rcases B.al b u q with ⟨rfl, g, _⟩ | ⟨rfl, rfl, _⟩
  · exact g
  · exact ⟨ha, by rw [List.length_map]; exact hl, vs, _, rv, ha⟩
end
theorem top_g {P : Program} {w : World} {K : PySem.W.Frag} {mg mb : Str → Option Value} {CX : CXT} {k : Nat} {fa a : Addr} {cs : List (Addr × Addr)} {fd : FuncData} {x : Str} {sp : Sp} {s : Shared} {vs : List Value} {ns : List Int}
    (KX : K.In s.heap) (gn : s.heap.Ns mainGlobals mg) (bn : s.heap.Ns builtinsNs mb) (bb : ∀ y : Str, y ≠ "__name__" → mb y = bootBuiltins y) (nl : s.heap.NoLimit) (ge : s.gens = #[])
    (hT : ∀ p ∈ cs, s.heap.get? p.2 = some { cls := .none, data := .fields #[] }) (nT : ∀ p ∈ cs, K.lookup p.2 = none) (hC : ∀ p ∈ cs, PySem.W.CodeHd s.heap p.1 p.2)
    (hM : ∃ (m : Addr) (om : Obj), mg "__builtins__" = some (.ref m) ∧ m ≠ builtinsNs ∧ s.heap.get? m = some om ∧ om.cls = .type "module" ∧ om.dict = some builtinsNs ∧ om.data = .plain)
    (ha : s.heap.get? a = some { cls := .type "list", data := .seq vs.toArray }) (hi : IntsAre vs ns) (hl : ns.length ≤ sizeLine) (hr : Room k callerA)
    (F : ∀ bs : Heap, K.In bs → bs.Ns mainGlobals mg → (∀ p ∈ cs, LamX.TabB bs mg p.1 p.2) → FnG P w K mg bs CX k fa fd [x] sp) (bi : ∀ (z : Shared) (u : Value), BindsTo z fd ⟨[u], []⟩ [(x, u)])
    (hs : ∀ H : Hp, (∀ p ∈ cs, H p.2 = some (.tbl #[])) → SqL K H a (ns.map V.int) → sp [.ref a] H (fun v _ => v = .bl true) fun _ _ _ => False)
    (hX : ∀ H e z, CX [] H s (fun _ _ _ => False) e z → False) :
    codeAny (model P w) callerA (.call (.ref fa) ⟨[.ref a], []⟩) (fun r z => r = .ok (.ret (.bool true)) ∧ OldK s.heap z.heap ∧ z.os = s.os ∧ AllBare z.gens) s := by
  have rv := vals_ints hi
  obtain ⟨H, B⟩ := begun KX hT nT ha rv hl
  have md : L2.Mod K mg (hidT s.heap H) := ⟨B.kin KX, B.nsp ha gn, ⟨mb, B.nsp ha bn, bb⟩, let ⟨mc, h1, h2⟩ := nl; ⟨mc, B.nsp ha h1, h2⟩⟩
  have tabs : ∀ p ∈ cs, LamX.TabB (hidT s.heap H) mg p.1 p.2 := fun p hp => by
    have tp := hT p hp
    obtain ⟨m, om, b1, b2, b3, b4, b5, b6⟩ := hM
    refine ⟨?_, ⟨m, om, b1, b2, fun q => ?_, fun q => ?_, B.get ha b3 (by rw [b6]; intro _ _ z; cases z) (by rw [b6]; intro z; cases z), b4, b5, b6⟩, fun q => ?_⟩
    · obtain ⟨o, us, fl, tf, fg, tg, iF, tx, tt, e1, r1, r2, r3, rest⟩ := hC p hp
      refine ⟨o, us, fl, tf, fg, tg, iF, tx, tt, B.get ha e1 (by rw [r2]; intro _ _ z; cases z) (fun z => ?_), r1, r2, r3, rest⟩
      rw [r2] at z
      cases z
      simp at r3
    · obtain ⟨o, es, ep, e, hd, _⟩ := gn
      rw [q, e] at b3
      cases b3
      rw [hd] at b6
      cases b6
    · rw [q, tp] at b3
      cases b3
      cases b6
    · obtain ⟨o, es, ep, e, hd, _⟩ := gn
      rw [q, tp] at e
      cases e
      cases hd
  have e0 : Env0 P w K mg (hidT s.heap H) callerA [] s H := ⟨rfl, md, fun b o e => of_hidT e, Nat.le_of_eq (hidT_size _ _), trivial, (fun b hb => absurd hb List.not_mem_nil), B.hok ha rv hl, AllBare.of_eq ge⟩
  refine codeAny_mono ((F _ md.kin md.glob tabs).2 callerA [] s H ⟨[.ref a], []⟩ [.ref a] [.ref a] _ _ rfl hr e0 (bi s (.ref a)) (.cons rfl .nil) (hs H B.tb B.sq)) ?_
  intro r z hz
  cases r with
  | error e => exact (hX H e z hz).elim
  | ok fl => cases fl with
    | next => exact hz.elim
    | brk => exact hz.elim
    | cont => exact hz.elim
    | ret u =>
      obtain ⟨v, H', os, bare, un, hok, rvu, qv⟩ := hz
      have qv : v = .bl true := qv
      subst qv
      obtain rfl : u = Value.bool true := rvu
      have stays : ∀ (b : Addr) (o : Obj), (∀ u, H b = some u → ¬ (u = .tbl #[])) → s.heap.get? b = some o → z.heap.get? b = some o := fun b o nt e => by
        cases q : H b with
        | none => exact un.keep b o e q (fun z => nomatch z) (fun z => nomatch z)
        | some u =>
          rcases B.al b u q with ⟨t, _⟩ | ⟨rfl, rfl, _⟩
          · exact absurd t (nt u q)
          · rw [ha] at e
            cases e
            exact (hok b _ (un.frzs b _ _ q)).1
      have grows : ∀ p ∈ cs, ∃ more : Array Value, z.heap.get? p.2 = some { cls := .none, data := .fields more } := fun p hp => by
        obtain ⟨more, q⟩ := un.tbls p.2 #[] (B.tb p hp)
        exact ⟨_, hok p.2 _ q⟩
      have one : ∀ (b : Addr) (o : Obj), s.heap.get? b = some o → z.heap.get? b = some o ∨ ∃ p ∈ cs, b = p.2 := fun b o e => by
        by_cases t : H b = some (.tbl #[])
        · rcases B.al b _ t with ⟨_, _, _, m⟩ | ⟨_, y, _⟩
          · obtain ⟨p, hp, ep⟩ := List.mem_map.mp m
            exact .inr ⟨p, hp, ep.symm⟩
          · cases y
        · exact .inl (stays b o (fun u q t2 => t (by rw [q, t2])) e)
      refine ⟨rfl, ⟨fun b o e => ?_, fun b o e => ?_⟩, os, bare⟩
      · rcases one b o e with g | ⟨p, hp, rfl⟩
        · exact .inl g
        · obtain ⟨more, g⟩ := grows p hp
          rw [hT p hp] at e
          cases e
          exact .inr (.inl ⟨((hC p hp).tab (hT p hp)).isCodeTable, rfl, #[], more, rfl, by rw [Array.empty_append]; exact g⟩)
      · rcases one b o e with g | ⟨p, hp, rfl⟩
        · exact ⟨o, g⟩
        · obtain ⟨more, g⟩ := grows p hp
          exact ⟨_, g⟩
/-- what is known of the law's promise at the head's heap -/
def LawG (l : PySem.W.OpenLaw) (w : World) (K : PySem.W.Frag) (CX : CXT) (k n : Nat) (x : Str) (mg : Str → Option Value) (fa : Addr) (h : Heap) : Prop :=
  ∃ (fd : FuncData) (cs : List (Addr × Addr)) (sp : Sp), ((∀ p ∈ cs, h.get? p.2 = some { cls := .none, data := .fields #[] }) ∧ (∀ p ∈ cs, K.lookup p.2 = none) ∧ (∀ p ∈ cs, PySem.W.CodeHd h p.1 p.2)) ∧ (∀ (z : Shared) (u : Value), BindsTo z fd ⟨[u], []⟩ [(x, u)]) ∧
    (∀ (H : Hp) (a : Addr) (ns : List Int), ns.length ≤ n → (∀ i ∈ ns, Builtin.Int.intBits i ≤ 1048576) → (∀ p ∈ cs, H p.2 = some (.tbl #[])) → SqL K H a (ns.map V.int) → sp [.ref a] H (fun v _ => v = .bl true) fun _ _ _ => False) ∧
    ∀ bs : Heap, K.In bs → bs.Ns mainGlobals mg → (∀ p ∈ cs, LamX.TabB bs mg p.1 p.2) → FnG l.prog w K mg bs CX k fa fd [x] sp
theorem walk_g {l : PySem.W.OpenLaw} {n k : Nat} {q : Program} {loose : List Str} {XP : (Str → Option Value) → Heap → Prop} {YP : World → Heap → Prop} {d : DefRec} {K : Params → PySem.W.Frag} {CX : World → CXT} {x : Str}
    (hn : l.most = some n) (n2 : n ≤ sizeLine) (df : d.params.defaults = []) (hr : Room k callerA) (hY : ∀ (w : World) (h : Heap), YP w h → (K w.params).In h)
    (F : ∀ (w : World) (mg : Str → Option Value) (fa : Addr) (h : Heap), YP w h → (K w.params).In h → h.Ns mainGlobals mg → mg d.name = some (.ref fa) → LawG l w (K w.params) (CX w) k n x mg fa h)
    (hX : ∀ (w : World) (H : Hp) (s : Shared) (e : Value) (z : Shared), CX w [] H s (fun _ _ _ => False) e z → False) :
    PySem.W.WalkO q loose XP YP l.row.toRowW d [] (fun f vs => PySem.call f vs) := by
  refine Att.attach_callB hn df ?_
  intro w s0 s mg mb fa o pm cd dc a vs ns G Y _ _ _ hm hob his hle hbi hge
  obtain ⟨fd, cs, sp, ⟨hT, nT, hC⟩, bi, hs, hF⟩ := F w mg fa _ Y (hY w _ Y) G.T.g hm
  exact top_g (hY w _ Y) G.T.g G.T.b G.T.builtins G.T.nolimit hge hT nT hC G.T.bmain hob his (Nat.le_trans hle n2) hr hF bi (fun H t q => hs H a ns hle hbi t q) fun H e z => hX w H s e z
end GG

namespace K14
open PySem PySem.Spec PyProof.Rows L2
theorem Told.kq {p D : Addr} {as : List Addr} {pss : PSS} {H H' : Hp} {n : Nat} (h : Told H D as pss) (v : Lens H p n) (k : Kq p H H') : Told H' D as pss := ⟨keptl h.1 (v.not_refs h.1) k, paired_mono h.2 fun a ps z => (let ⟨ts, l⟩ := z; LPx.kq ⟨ts, l⟩ v (v.not_refs l.1) k)⟩
section
variable {P : Program} {w : World} {K : PySem.W.Frag} {mg : Str → Option Value} {base : Heap} {C CA : Addr}
/-! ### law -/
def spLaw (K : PySem.W.Frag) (TL : List (Addr × Str)) : Sp := fun vs H Q _ => ∃ (a : Addr) (ns : List Int), vs = [.ref a] ∧ SqL K H a (ns.map V.int) ∧ ns.length ≤ 63 ∧ LamX.Tabs TL H ∧ ∀ H', Q (.bl true) H'
abbrev sLaw : Stmt := top 68
abbrev nLaw : List Str := ["_law_script", "_law_lens_here", "_law_turn", "_law_told"]
theorem scLaw : FnScope nLaw ["_law_script"] (defScope sLaw) := ⟨rfl, rfl, rfl, by decide +kernel, rfl, by decide +kernel, by decide +kernel⟩
theorem ok_law {f : Addr} {fd : FuncData} {TL : List (Addr × Str)} (F : Fun K "law" "law" sLaw f fd) (B : Bn mg) (C1 : Callee P w K mg base CX0 1 "_law_lens" ["_law_script"] (spLens K)) (C2 : Callee P w K mg base CX0 4 "_law_all" ["_law_lens_here", "_law_pins", "_law_many"] spAll) (C3 : Callee P w K mg base CX0 2 "_law_pick" ["_law_lens_here", "_law_some_here"] spPick) (C4 : Callee P w K mg base CX0 1 "_law_shot" ["_law_lens_here", "_law_many"] spShot)
    (C5 : Callee P w K mg base CX0 9 "_law_made_right" ["_law_lens_here", "_law_told"] spMR) (C6 : Callee P w K mg base CX0 9 "_law_changed_right" ["_law_lens_here", "_law_told"] spCR) (C7 : Callee P w K mg base CX0 10 "_law_pins_right" ["_law_lens_here", "_law_told"] spPR)
    (C8' : ∃ (f : Addr) (fd : FuncData), mg "_law_refused_right" = some (.ref f) ∧ PySem.W.keepIn K (.ref f) = true ∧ Binds K fd ["_law_lens_here", "_law_told"] [] ∧ GG.FnG P w K mg base CX0 12 f fd ["_law_lens_here", "_law_told"] (spRF TL))
    (C9' : ∃ (f : Addr) (fd : FuncData), mg "_law_pins_refused_right" = some (.ref f) ∧ PySem.W.keepIn K (.ref f) = true ∧ Binds K fd ["_law_lens_here", "_law_told"] [] ∧ GG.FnG P w K mg base CX0 13 f fd ["_law_lens_here", "_law_told"] (spPX TL)) : GG.FnG P w K mg base CX0 14 f fd ["_law_script"] (spLaw K TL) := by
  obtain ⟨f1, fd1, m1, k1, b1, G1⟩ := C1
  obtain ⟨f2, fd2, m2, k2, b2, G2⟩ := C2
  obtain ⟨f3, fd3, m3, k3, b3, G3⟩ := C3
  obtain ⟨f4, fd4, m4, k4, b4, G4⟩ := C4
  obtain ⟨f5, fd5, m5, k5, b5, G5⟩ := C5
  obtain ⟨f6, fd6, m6, k6, b6, G6⟩ := C6
  obtain ⟨f7, fd7, m7, k7, b7, G7⟩ := C7
  obtain ⟨f8, fd8, m8, k8, b8, G8⟩ := C8'
  obtain ⟨f9, fd9, m9, k9, b9, G9'⟩ := C9'
  obtain ⟨ocL, odL, kVL, docL, pmL, anL, cdvL, ctL, oslL, rfl, lkL, hcL⟩ := F.ex
  have nd := scLaw.nd
  refine GG.fn_g lkL hcL scLaw (fun vs H Q E h => ?_) fun A outer s H vs Q E sh hr h => ?_
  · obtain ⟨a, ns, rfl, _⟩ := h
    rfl
  suffices hh : ∃ t, PSs (cxOf CX0 P w K mg base nLaw "law" (defScope sLaw) f cdvL A outer s H E).nox (defBody sLaw) t ∧ t { nx := fun _ H' => Q .non H', rt := Q } (L2.start nLaw vs) H from let ⟨t, h1, h2⟩ := hh; ⟨t, h1.nox, h2⟩
  obtain ⟨a, ns, rfl, hs, l63, hT, q⟩ := h
  refine ⟨_, (pss_cons ((ps_set (i := 1) nd rfl (Or.inl rfl) ((pe_call G1 (hr.mono (by decide)) rfl m1 k1 b1 .nil pass0 (pa_cons (pv 0) pa_nil))))) (pss_cons (ps_for PassesOwn.never rfl (pi_range1 rfl B.range (pa_cons (pe_int) pa_nil)) (pg_name (i := 2) nd rfl (Or.inl rfl)) (pss_cons ((ps_set (i := 3) nd rfl (Or.inl rfl) ((pe_call G2 (hr.mono (by decide)) rfl m2 k2 b2 .nil pass0 (pa_cons (pv 1) (pa_cons ((pe_call G3 (hr.mono (by decide)) rfl m3 k3 b3 .nil pass0 (pa_cons (pv 1) (pa_cons (pe_lst (pa_cons (pe_int) (pa_cons (pe_int) (pa_cons (pe_int) (pa_cons (pe_int) pa_nil))))) pa_nil)))) (pa_cons (pe_op op_add pe_int (pe_call G4 (hr.mono (by decide)) rfl m4 k4 b4 .nil pass0 (pa_cons (pv 1) (pa_cons ((pe_call G3 (hr.mono (by decide)) rfl m3 k3 b3 .nil pass0 (pa_cons (pv 1) (pa_cons (pe_lst (pa_cons (pe_int) (pa_cons (pe_int) pa_nil))) pa_nil)))) pa_nil)))) pa_nil))))))) (pss_cons (ps_if (PW.pt (pw_or (pt_not (pt_val (pe_call G5 (hr.mono (by decide)) rfl m5 k5 b5 .nil pass0 (pa_cons (pv 1) (pa_cons (pv 3) pa_nil))))) (pw_or (pt_not (pt_val (pe_call G6 (hr.mono (by decide)) rfl m6 k6 b6 .nil pass0 (pa_cons (pv 1) (pa_cons (pv 3) pa_nil))))) (pw_or1 (pt_not (pt_val (pe_call G7 (hr.mono (by decide)) rfl m7 k7 b7 .nil pass0 (pa_cons (pv 1) (pa_cons (pv 3) pa_nil))))))))) (pss_one (ps_ret pe_bl)) pss_nil) (pss_one (ps_if (PW.pt (pw_or (pt_not (pt_val (GG.pe_cg G8 sh (hr.mono (by decide)) rfl m8 k8 b8 .nil pass0 (pa_cons (pv 1) (pa_cons (pv 3) pa_nil))))) (pw_or1 (pt_not (pt_val (GG.pe_cg G9' sh (hr.mono (by decide)) rfl m9 k9 b9 .nil pass0 (pa_cons (pv 1) (pa_cons (pv 3) pa_nil)))))))) (pss_one (ps_ret pe_bl)) pss_nil))))) (pss_one (ps_ret pe_bl)))), ?_⟩
  refine ⟨_, rfl, a, ns, rfl, hs, l63, fun H1 p s1 n1 v1 => ?_⟩
  refine ⟨2, rfl, by decide, by decide, ?_⟩
  refine for_range (lo := 0) (n := 2) (fun i σ H' => Lens H' p (400 * i) ∧ LamX.Tabs TL H' ∧ ∃ c2 c3, σ = [some (.ref a), some (.ref p), c2, c3]) ⟨v1, hT.ext s1, _, _, rfl⟩ (fun i σ H' hi pv => ?_) (fun σ H' pv => ?_)
  · obtain ⟨v, T, c2, c3, rfl⟩ := pv
    refine ⟨_, rfl, _, rfl, by show 4 ≤ sizeLine; decide, fun l1 nl1 => ?_⟩
    have sl1 := same_new (o := .lst [V.int 4, V.int 5, V.int 7, V.int 6]) nl1
    refine ⟨p, l1, _, _, rfl, v.same sl1, by omega, upd_same, v.not_none nl1, by show 0 < 4; decide, by show 4 ≤ 1000; decide, fun H2 x s2 v2 hx => ?_⟩
    obtain ⟨k, rfl, hk4, hk7⟩ : ∃ k : Nat, x = .int k ∧ 4 ≤ k ∧ k ≤ 7 := by
      simp only [List.mem_cons, List.not_mem_nil, or_false] at hx
      rcases hx with rfl | rfl | rfl | rfl
      · exact ⟨4, rfl, by decide, by decide⟩
      · exact ⟨5, rfl, by decide, by decide⟩
      · exact ⟨7, rfl, by decide, by decide⟩
      · exact ⟨6, rfl, by decide, by decide⟩
    have T2 := tabs_sb (T.ext sl1) (v.same sl1) s2
    clear hx s2 sl1 nl1
    refine ⟨_, rfl, _, rfl, by show 2 ≤ sizeLine; decide, fun l2 nl2 => ?_⟩
    have sl2 := same_new (o := .lst [V.int 3, V.int 8]) nl2
    refine ⟨p, l2, _, _, rfl, v2.same sl2, by omega, upd_same, v2.not_none nl2, by show 0 < 2; decide, by show 2 ≤ 1000; decide, fun H3 x s3 v3 hx => ?_⟩
    obtain ⟨m, rfl, hm0, hm8⟩ : ∃ m : Nat, x = .int m ∧ 1 ≤ m ∧ m ≤ 8 := by
      simp only [List.mem_cons, List.not_mem_nil, or_false] at hx
      rcases hx with rfl | rfl
      · exact ⟨3, rfl, by decide, by decide⟩
      · exact ⟨8, rfl, by decide, by decide⟩
    have T3 := tabs_sb (T2.ext sl2) (v2.same sl2) s3
    clear hx s3 sl2 nl2
    refine ⟨p, m, _, rfl, v3, by omega, by omega, by omega, fun H4 d s4 v4 d0 d1 => ⟨_, _, rfl, rfl, ?_⟩⟩
    obtain ⟨d, rfl⟩ := Int.eq_ofNat_of_zero_le d0
    have T4 := tabs_sb T3 v3 s4
    refine ⟨p, _, k, 1 + d, rfl, v4, by omega, hk4, hk7, by omega, by omega, fun H5 D as pss s5 v5 nD td lp tk => ?_⟩
    have T5 := tabs_sb T4 v4 s5
    have hne : pss ≠ [] := by
      rintro rfl
      have : (0 : Nat) = 1 + d := lp
      omega
    have h8 : pss.length ≤ 8 := by omega
    refine ⟨_, rfl, _, rfl, .ref p, D, as, pss, k, rfl, td, tk, hne, h8, fun H6 s6 => ⟨_, rfl, iteF ?_⟩⟩
    have td6 := td.same s6
    have v6 := v5.same s6
    have T6 := T5.ext s6
    refine ⟨_, rfl, _, rfl, p, D, _, k, as, pss, rfl, v6, by omega, td6, tk, hk4, hk7, hne, h8, fun H7 s7 v7 => ⟨_, rfl, iteF ?_⟩⟩
    have td7 := td6.sb v6 s7
    have T7 := tabs_sb T6 v6 s7
    refine ⟨_, rfl, _, rfl, p, D, _, k, as, pss, rfl, v7, by omega, td7, tk, hk4, hk7, hne, h8, fun H8 s8 v8 => ⟨_, rfl, iteF ?_⟩⟩
    have td8 := td7.sb v7 s8
    have T8 := tabs_sb T7 v7 s8
    refine ⟨_, rfl, _, rfl, p, D, _, k, as, pss, rfl, v8, by omega, td8, tk, hk4, hk7, hne, h8, T8, fun H9 s9 v9 T9 => ⟨_, rfl, iteF ?_⟩⟩
    have td9 := td8.kq v8 s9
    refine ⟨_, rfl, _, rfl, p, D, _, k, as, pss, rfl, v9, by omega, td9, tk, hk4, hk7, hne, h8, T9, fun H10 s10 v10 T10 => ⟨_, rfl, iteF ?_⟩⟩
    exact ⟨v10.le (by omega), T10, _, _, rfl⟩
  · obtain ⟨v, T, c2, c3, rfl⟩ := pv
    exact q _
end
end K14

namespace K14
open PySem PySem.Spec PyProof.Rows L2
/-! ### what the written part says, looked up at once -/
def oexB (K : PySem.W.Frag) (C : Addr) : Bool := match K.lookup C with
  | some ⟨.type "type", _, .cls cd, sl⟩ => (match cd.mro, sl.toList with
    | .ref C' :: bm, [_, _, _, _, some (.builtin n), _] => C' == C && n == "ValueError.__new__" && !cd.hasDel && cd.hasDict && PySem.HandSPX.refsVE bm
    | _, _ => false)
  | _ => false
theorem oexB_ok {K : PySem.W.Frag} {C : Addr} (q : oexB K C = true) : ∃ nm qn N bs bm sn sub ab col dd k0 k1 k2 k3 k5, K.lookup C = some (excClassObj nm qn C N bs bm true sn sub ab col dd k0 k1 k2 k3 k5 "ValueError.__new__") ∧ PySem.HandSPX.refsVE bm = true := by
  unfold oexB at q
  split at q
  · rename_i dd cd sl ho
    split at q
    · rename_i C' bm k0 k1 k2 k3 n k5 hm hs
      simp only [Bool.and_eq_true, beq_iff_eq, Bool.not_eq_true'] at q
      obtain ⟨⟨⟨⟨rfl, rfl⟩, hdel⟩, hd⟩, ht⟩ := q
      obtain ⟨nm, bs, mro, ns, qn, hdc, sn, sub, ab, col, del⟩ := cd
      dsimp only at hm hdel hd
      subst hm hdel hd
      have hsl : sl = #[k0, k1, k2, k3, some (.builtin "ValueError.__new__"), k5] := by
        obtain ⟨l⟩ := sl
        simp only at hs
        rw [hs]
      subst hsl
      exact ⟨nm, qn, ns, bs, bm, sn, sub, ab, col, dd, k0, k1, k2, k3, k5, ho, ht⟩
    · cases q
  · cases q
def badB (K : PySem.W.Frag) (C CS : Addr) : Bool := oexB K C && (decide (PySem.W.findIn K (.ref C) "__setattr__" = some (some (.builtin "object.__setattr__"))) && (decide (PySem.W.subIn K (.ref C) (.type "BaseException") = some true) && (decide (PySem.W.typeIn K (.ref C) = some (.type "type")) && (PySem.W.keepIn K (.ref C) &&
  (decide (PySem.W.findIn K (.ref C) "__getattribute__" = some (some (.builtin "BaseException.__getattribute__"))) && (decide (PySem.W.findIn K (.ref C) "__getattr__" = some none) && (PySem.W.hasDictIn K C && (decide (PySem.W.findIn K (.ref C) "__class__" = some (some (.builtin "object.__class__"))) &&
  (decide (PySem.W.specialIn K (.builtin "object.__class__") "__get__" = some (some (.builtin "getset_descriptor.__get__"))) && (decide (PySem.W.takesIn K (.builtin "object.__class__") = some true) && (decide (PySem.W.mroIn K C (.type "object") = some true) &&
  (decide (PySem.W.findIn K (.ref C) "part" = some none) && decide (PySem.W.exmOne K (.ref C) (.ref CS) = some true)))))))))))))
theorem badB_ok {K : PySem.W.Frag} {C CS : Addr} (h : badB K C CS = true) : OexC K C ∧ ExcC K C ∧ XfC K C ∧ PySem.W.findIn K (.ref C) "part" = some none ∧ PySem.W.exmOne K (.ref C) (.ref CS) = some true := by
  unfold badB at h
  simp only [Bool.and_eq_true, decide_eq_true_eq] at h
  obtain ⟨h0, h1, h2, h3, h4, h5, h6, h7, h8, h9, h10, h11, h12, h13⟩ := h
  exact ⟨⟨oexB_ok h0, h1, h2, h3, h4⟩, ⟨h5, h6, h2, h7, h8, h9, h10, h11⟩, ⟨h5, h6, h2, h7⟩, h12, h13⟩
def picB (K : PySem.W.Frag) (C : Addr) : Bool := PySem.W.plainGet K C Str.empty && (PySem.W.hasDictIn K C && (PySem.W.plainOver K C && (decide (PySem.W.findIn K (.ref C) "__setattr__" = some (some (.builtin "object.__setattr__"))) && (decide (PySem.W.findIn K (.ref C) "__class__" = some (some (.builtin "object.__class__"))) &&
  (decide (PySem.W.specialIn K (.builtin "object.__class__") "__get__" = some (some (.builtin "getset_descriptor.__get__"))) && (decide (PySem.W.takesIn K (.builtin "object.__class__") = some true) && (decide (PySem.W.mroIn K C (.type "object") = some true) &&
  (decide (PySem.W.kitOne K (.ref C) (.type "int") = some false) && (decide (PySem.W.kitOne K (.ref C) (.type "bool") = some false) && (decide (PySem.W.kitOne K (.ref C) (.type "tuple") = some false) && (decide (PySem.W.kitAny K (.ref C) [.type "list", .type "tuple"] = some false) &&
  (decide (PySem.W.findIn K (.ref C) "places" = some none) && (decide (PySem.W.findIn K (.ref C) "pins" = some none) && (decide (PySem.W.findIn K (.ref C) "rows" = some none) && (decide (PySem.W.findIn K (.ref C) "__ne__" = some (some (.builtin "object.__ne__"))) &&
  (PySem.W.makesIn K C && (PySem.W.keepIn K (.ref C) && (["NoneType", "str", "list", "tuple"].all fun t => decide (PySem.W.kitOne K (.type t) (.ref C) = some false) && PySem.W.notFirst K C (.type t)))))))))))))))))))
theorem picB_ok {K : PySem.W.Frag} {C : Addr} (h : picB K C = true) : PicT K C ∧ PicN K C ∧ PySem.W.makesIn K C = true ∧ PySem.W.keepIn K (.ref C) = true := by
  unfold picB at h
  rw [Bool.and_eq_true, Bool.and_eq_true, Bool.and_eq_true, Bool.and_eq_true, Bool.and_eq_true, Bool.and_eq_true, Bool.and_eq_true, Bool.and_eq_true, Bool.and_eq_true, Bool.and_eq_true, Bool.and_eq_true, Bool.and_eq_true, Bool.and_eq_true, Bool.and_eq_true, Bool.and_eq_true, Bool.and_eq_true, Bool.and_eq_true, Bool.and_eq_true] at h
  obtain ⟨h0, h1, h2, h3, h4, h5, h6, h7, h8, h9, h10, h11, h12, h13, h14, h15, h16, h17, h18⟩ := h
  refine ⟨⟨⟨⟨h0, h1, h2, of_decide_eq_true h3⟩, of_decide_eq_true h4, of_decide_eq_true h5, of_decide_eq_true h6, of_decide_eq_true h7, of_decide_eq_true h8, of_decide_eq_true h9, of_decide_eq_true h10, of_decide_eq_true h11⟩, (show PySem.W.findIn K (.ref C) "places" = some none from of_decide_eq_true h12), (show PySem.W.findIn K (.ref C) "pins" = some none from of_decide_eq_true h13), (show PySem.W.findIn K (.ref C) "rows" = some none from of_decide_eq_true h14)⟩, ⟨fun t ht => ?_, of_decide_eq_true h15⟩, h16, h17⟩
  have z := List.all_eq_true.mp h18 t ht
  rw [Bool.and_eq_true] at z
  exact ⟨of_decide_eq_true z.1, z.2⟩
def valB (K : PySem.W.Frag) (C CS : Addr) : Bool := oexB K C && (decide (PySem.W.findIn K (.ref C) "__setattr__" = some (some (.builtin "object.__setattr__"))) && (decide (PySem.W.subIn K (.ref C) (.type "BaseException") = some true) && (decide (PySem.W.typeIn K (.ref C) = some (.type "type")) && (PySem.W.keepIn K (.ref C) &&
  (decide (PySem.W.findIn K (.ref C) "__getattribute__" = some (some (.builtin "BaseException.__getattribute__"))) && (decide (PySem.W.findIn K (.ref C) "__getattr__" = some none) && (PySem.W.hasDictIn K C && (decide (PySem.W.findIn K (.ref C) "__class__" = some (some (.builtin "object.__class__"))) &&
  (decide (PySem.W.specialIn K (.builtin "object.__class__") "__get__" = some (some (.builtin "getset_descriptor.__get__"))) && (decide (PySem.W.takesIn K (.builtin "object.__class__") = some true) && (decide (PySem.W.mroIn K C (.type "object") = some true) &&
  (decide (PySem.W.findIn K (.ref C) "value" = some none) && decide (PySem.W.exmOne K (.ref C) (.ref CS) = some true)))))))))))))
theorem valB_ok {K : PySem.W.Frag} {C CS : Addr} (h : valB K C CS = true) : OexC K C ∧ ExcC K C ∧ XfC K C ∧ PySem.W.findIn K (.ref C) "value" = some none ∧ PySem.W.exmOne K (.ref C) (.ref CS) = some true := by
  unfold valB at h
  simp only [Bool.and_eq_true, decide_eq_true_eq] at h
  obtain ⟨h0, h1, h2, h3, h4, h5, h6, h7, h8, h9, h10, h11, h12, h13⟩ := h
  exact ⟨⟨oexB_ok h0, h1, h2, h3, h4⟩, ⟨h5, h6, h2, h7, h8, h9, h10, h11⟩, ⟨h5, h6, h2, h7⟩, h12, h13⟩
def tooB (K : PySem.W.Frag) (C CS : Addr) : Bool := oexB K C && (decide (PySem.W.findIn K (.ref C) "__setattr__" = some (some (.builtin "object.__setattr__"))) && (decide (PySem.W.subIn K (.ref C) (.type "BaseException") = some true) && (decide (PySem.W.typeIn K (.ref C) = some (.type "type")) && (PySem.W.keepIn K (.ref C) &&
  (decide (PySem.W.findIn K (.ref C) "__getattribute__" = some (some (.builtin "BaseException.__getattribute__"))) && (decide (PySem.W.findIn K (.ref C) "__getattr__" = some none) && (PySem.W.hasDictIn K C && (decide (PySem.W.findIn K (.ref C) "__class__" = some (some (.builtin "object.__class__"))) &&
  (decide (PySem.W.specialIn K (.builtin "object.__class__") "__get__" = some (some (.builtin "getset_descriptor.__get__"))) && (decide (PySem.W.takesIn K (.builtin "object.__class__") = some true) && (decide (PySem.W.mroIn K C (.type "object") = some true) &&
  (decide (PySem.W.findIn K (.ref C) "what" = some none) && (decide (PySem.W.findIn K (.ref C) "most" = some none) && decide (PySem.W.exmOne K (.ref C) (.ref CS) = some true))))))))))))))
theorem tooB_ok {K : PySem.W.Frag} {C CS : Addr} (h : tooB K C CS = true) : OexC K C ∧ ExcC K C ∧ XfC K C ∧ PySem.W.findIn K (.ref C) "what" = some none ∧ PySem.W.findIn K (.ref C) "most" = some none ∧ PySem.W.exmOne K (.ref C) (.ref CS) = some true := by
  unfold tooB at h
  simp only [Bool.and_eq_true, decide_eq_true_eq] at h
  obtain ⟨h0, h1, h2, h3, h4, h5, h6, h7, h8, h9, h10, h11, h12, h13, h14⟩ := h
  exact ⟨⟨oexB_ok h0, h1, h2, h3, h4⟩, ⟨h5, h6, h2, h7, h8, h9, h10, h11⟩, ⟨h5, h6, h2, h7⟩, h12, h13, h14⟩
def seB (K : PySem.W.Frag) (CB CE CQ CP CW CF CT : Addr) : Bool := decide (PySem.W.kitAny K (.ref CB) [.ref CB, .ref CE] = some true) && (decide (PySem.W.kitAny K (.ref CE) [.ref CB, .ref CE] = some true) && (decide (PySem.W.kitAny K (.ref CQ) [.ref CB, .ref CE] = some false) && (decide (PySem.W.kitAny K (.ref CP) [.ref CB, .ref CE] = some false) && (decide (PySem.W.kitAny K (.ref CW) [.ref CB, .ref CE] = some false) && (decide (PySem.W.kitAny K (.ref CF) [.ref CB, .ref CE] = some false) && (decide (PySem.W.kitAny K (.ref CT) [.ref CB, .ref CE] = some false) && (decide (PySem.W.kitAny K (.type "NoneType") [.ref CB, .ref CE] = some false) && (decide (PySem.W.kitOne K (.ref CE) (.ref CB) = some false) && (decide (PySem.W.kitAny K (.ref CQ) [.ref CQ, .ref CP] = some true) && (decide (PySem.W.kitAny K (.ref CP) [.ref CQ, .ref CP] = some true) && (decide (PySem.W.kitAny K (.ref CW) [.ref CQ, .ref CP] = some false) && (decide (PySem.W.kitAny K (.ref CF) [.ref CQ, .ref CP] = some false) && (decide (PySem.W.kitAny K (.ref CT) [.ref CQ, .ref CP] = some false) && (decide (PySem.W.kitAny K (.type "NoneType") [.ref CQ, .ref CP] = some false) && (decide (PySem.W.kitOne K (.ref CP) (.ref CQ) = some false) && (decide (PySem.W.kitAny K (.ref CW) [.ref CW, .ref CF] = some true) && (decide (PySem.W.kitAny K (.ref CF) [.ref CW, .ref CF] = some true) && (decide (PySem.W.kitAny K (.ref CT) [.ref CW, .ref CF] = some false) && (decide (PySem.W.kitAny K (.type "NoneType") [.ref CW, .ref CF] = some false) && (decide (PySem.W.kitOne K (.ref CF) (.ref CW) = some false) && (decide (PySem.W.kitOne K (.type "NoneType") (.ref CT) = some false))))))))))))))))))))))
theorem seB_ok {K : PySem.W.Frag} {CB CE CQ CP CW CF CT : Addr} (h : seB K CB CE CQ CP CW CF CT = true) : PySem.W.kitAny K (.ref CB) [.ref CB, .ref CE] = some true ∧ PySem.W.kitAny K (.ref CE) [.ref CB, .ref CE] = some true ∧ PySem.W.kitAny K (.ref CQ) [.ref CB, .ref CE] = some false ∧ PySem.W.kitAny K (.ref CP) [.ref CB, .ref CE] = some false ∧ PySem.W.kitAny K (.ref CW) [.ref CB, .ref CE] = some false ∧ PySem.W.kitAny K (.ref CF) [.ref CB, .ref CE] = some false ∧ PySem.W.kitAny K (.ref CT) [.ref CB, .ref CE] = some false ∧ PySem.W.kitAny K (.type "NoneType") [.ref CB, .ref CE] = some false ∧ PySem.W.kitOne K (.ref CE) (.ref CB) = some false ∧ PySem.W.kitAny K (.ref CQ) [.ref CQ, .ref CP] = some true ∧ PySem.W.kitAny K (.ref CP) [.ref CQ, .ref CP] = some true ∧ PySem.W.kitAny K (.ref CW) [.ref CQ, .ref CP] = some false ∧ PySem.W.kitAny K (.ref CF) [.ref CQ, .ref CP] = some false ∧ PySem.W.kitAny K (.ref CT) [.ref CQ, .ref CP] = some false ∧ PySem.W.kitAny K (.type "NoneType") [.ref CQ, .ref CP] = some false ∧ PySem.W.kitOne K (.ref CP) (.ref CQ) = some false ∧ PySem.W.kitAny K (.ref CW) [.ref CW, .ref CF] = some true ∧ PySem.W.kitAny K (.ref CF) [.ref CW, .ref CF] = some true ∧ PySem.W.kitAny K (.ref CT) [.ref CW, .ref CF] = some false ∧ PySem.W.kitAny K (.type "NoneType") [.ref CW, .ref CF] = some false ∧ PySem.W.kitOne K (.ref CF) (.ref CW) = some false ∧ PySem.W.kitOne K (.type "NoneType") (.ref CT) = some false := by
  unfold seB at h
  simp only [Bool.and_eq_true, decide_eq_true_eq] at h
  exact h
def albB (K : PySem.W.Frag) (C : Addr) : Bool := PySem.W.plainGet K C Str.empty && (PySem.W.hasDictIn K C && (PySem.W.plainOver K C && (decide (PySem.W.findIn K (.ref C) "__setattr__" = some (some (.builtin "object.__setattr__"))) && (decide (PySem.W.findIn K (.ref C) "__class__" = some (some (.builtin "object.__class__"))) &&
  (decide (PySem.W.specialIn K (.builtin "object.__class__") "__get__" = some (some (.builtin "getset_descriptor.__get__"))) && (decide (PySem.W.takesIn K (.builtin "object.__class__") = some true) && (decide (PySem.W.mroIn K C (.type "object") = some true) &&
  (decide (PySem.W.kitOne K (.ref C) (.type "int") = some false) && (decide (PySem.W.kitOne K (.ref C) (.type "bool") = some false) && (decide (PySem.W.kitOne K (.ref C) (.type "tuple") = some false) && (decide (PySem.W.kitAny K (.ref C) [.type "list", .type "tuple"] = some false) &&
  (decide (PySem.W.findIn K (.ref C) "pins" = some none) && (decide (PySem.W.findIn K (.ref C) "pictures" = some none) && (decide (PySem.W.findIn K (.ref C) "rows" = some none) && (decide (PySem.W.findIn K (.ref C) "__ne__" = some (some (.builtin "object.__ne__"))) &&
  (PySem.W.makesIn K C && (PySem.W.keepIn K (.ref C) && (["NoneType", "str", "list", "tuple"].all fun t => decide (PySem.W.kitOne K (.type t) (.ref C) = some false) && PySem.W.notFirst K C (.type t)))))))))))))))))))
theorem albB_ok {K : PySem.W.Frag} {C : Addr} (h : albB K C = true) : AlbT K C ∧ PicN K C ∧ PySem.W.makesIn K C = true ∧ PySem.W.keepIn K (.ref C) = true := by
  unfold albB at h
  rw [Bool.and_eq_true, Bool.and_eq_true, Bool.and_eq_true, Bool.and_eq_true, Bool.and_eq_true, Bool.and_eq_true, Bool.and_eq_true, Bool.and_eq_true, Bool.and_eq_true, Bool.and_eq_true, Bool.and_eq_true, Bool.and_eq_true, Bool.and_eq_true, Bool.and_eq_true, Bool.and_eq_true, Bool.and_eq_true, Bool.and_eq_true, Bool.and_eq_true] at h
  obtain ⟨h0, h1, h2, h3, h4, h5, h6, h7, h8, h9, h10, h11, h12, h13, h14, h15, h16, h17, h18⟩ := h
  refine ⟨⟨⟨⟨h0, h1, h2, of_decide_eq_true h3⟩, of_decide_eq_true h4, of_decide_eq_true h5, of_decide_eq_true h6, of_decide_eq_true h7, of_decide_eq_true h8, of_decide_eq_true h9, of_decide_eq_true h10, of_decide_eq_true h11⟩, (show PySem.W.findIn K (.ref C) "pins" = some none from of_decide_eq_true h12), (show PySem.W.findIn K (.ref C) "pictures" = some none from of_decide_eq_true h13), (show PySem.W.findIn K (.ref C) "rows" = some none from of_decide_eq_true h14)⟩, ⟨fun t ht => ?_, of_decide_eq_true h15⟩, h16, h17⟩
  have z := List.all_eq_true.mp h18 t ht
  rw [Bool.and_eq_true] at z
  exact ⟨of_decide_eq_true z.1, z.2⟩
def nokB (K : PySem.W.Frag) (C : Addr) : Bool := decide (PySem.W.kitOne K (.type "NoneType") (.ref C) = some false) && (decide (PySem.W.kitOne K (.type "bool") (.ref C) = some false) && (decide (PySem.W.kitOne K (.type "int") (.ref C) = some false) && (decide (PySem.W.kitOne K (.type "str") (.ref C) = some false) && (decide (PySem.W.kitOne K (.type "list") (.ref C) = some false) && (decide (PySem.W.kitOne K (.type "tuple") (.ref C) = some false) && (decide (PySem.W.kitOne K (.type "dict") (.ref C) = some false)))))))
theorem nokB_ok {K : PySem.W.Frag} {C : Addr} (h : nokB K C = true) : NoK K C := by
  unfold nokB at h
  simp only [Bool.and_eq_true, decide_eq_true_eq] at h
  obtain ⟨h1, h2, h3, h4, h5, h6, h7⟩ := h
  exact ⟨h1, h2, h3, h4, h5, h6, h7⟩
theorem ok_be {P : Program} {w : World} {K : PySem.W.Frag} {mg : Str → Option Value} {base : Heap} {f C : Addr} {fd : FuncData} (F : Fun K "__init__" "BadPicture.__init__" sBI f fd) : FnOk P w K mg base CX0 1 f fd ["self", "part"] (spE1 K "part" C) := by
  refine F.ok (st := sBI) (N := ["self", "part"]) ⟨rfl, rfl, rfl, by decide +kernel, rfl, by decide +kernel, by decide +kernel⟩ (fun vs H Q E h => ?_) (fun cdv A outer s H vs Q E hr h => ?_)
  · obtain ⟨a, y, rfl, _⟩ := h
    rfl
  · obtain ⟨a, y, rfl, T, no, ha, q⟩ := h
    exact ⟨_, pss_one (ps_ost (pv 0) (pv 1)), _, rfl, _, rfl, a, C, rfl, T, no, .inl ⟨ha, q⟩⟩
theorem kbn14 {K : PySem.W.Frag} {fd : FuncData} {ps ks : List Str} {n : Nat} (h : ∀ us ws : List Value, us.length = n → ws.length = ks.length → bindArgs fd ⟨us, ks.zip ws⟩ = pure (ps.zip (us ++ ws))) : KBn K fd ps n ks (fun us ws => us ++ ws) (fun vs zs => vs ++ zs) where
  to := fun s us ws _ l1 l2 => .of_eq (h us ws l1 l2)
  rel := fun r z => r.append z
theorem kbnR {K : PySem.W.Frag} {fd : FuncData} {ps ks : List Str} {n : Nat} (h : ∀ us ws : List Value, us.length = n → ws.length = ks.length → bindArgs fd ⟨us, ks.zip ws⟩ = pure (ps.zip (rv2 us ws))) : KBn K fd ps n ks rv2 rv2 where
  to := fun s us ws _ l1 l2 => .of_eq (h us ws l1 l2)
  rel := fun r z => r.append z.reverse
theorem all_mk {l : PySem.W.OpenLaw} {w : World} {K : PySem.W.Frag} {h : Heap} {mg : Str → Option Value} {fa : Addr} {C CA CS CB CE CQ CP CW CF CT CN P1 P2 c66 c67 f14 f15 f16 f17 f20 f21 f22 f23 f24 f25 f28 f29 f30 f32 f47 f51 f53 f54 f55 f56 f57 f58 f59 f60 f61 f62 f63 f64 f65 f66 f67 f68 fxB fxE fxQ fxP fxW fxF fxT fxN fpI fpE fpS fpO fpX fpY faI faL faE faS faW faJ faP faO faR faU faV : Addr} {od14 an14 od15 an15 od16 an16 od17 an17 od20 an20 od21 an21 od22 an22 od23 an23 od24 an24 od25 an25 od28 an28 od29 an29 od30 an30 od32 an32 od47 an47 od51 an51 od53 an53 od54 an54 od55 an55 od56 an56 od57 an57 od58 an58 od59 an59 od60 an60 od61 an61 od62 an62 od63 an63 od64 an64 od65 an65 od66 an66 od67 an67 od68 an68 odxB anxB odxE anxE odxQ anxQ odxP anxP odxW anxW odxF anxF odxT anxT odxN anxN odpI anpI odpE anpE odpS anpS odpO anpO odpX anpX odpY anpY odaI anaI odaL anaL odaE anaE odaS anaS odaW anaW odaJ anaJ odaP anaP odaO anaO odaR anaR odaU anaU odaV anaV : Option Addr} {sl14 sl15 sl16 sl17 sl20 sl21 sl22 sl23 sl24 sl25 sl28 sl29 sl30 sl32 sl47 sl51 sl53 sl54 sl55 sl56 sl57 sl58 sl59 sl60 sl61 sl62 sl63 sl64 sl65 sl66 sl67 sl68 slxB slxE slxQ slxP slxW slxF slxT slxN slpI slpE slpS slpO slpX slpY slaI slaL slaE slaS slaW slaJ slaP slaO slaR slaU slaV : Array (Option Value)} {oc14 kV14 dc14 pm14 cv14 ct14 oc15 kV15 dc15 pm15 cv15 ct15 oc16 kV16 dc16 pm16 cv16 ct16 oc17 kV17 dc17 pm17 cv17 ct17 oc20 kV20 dc20 pm20 cv20 ct20 oc21 kV21 dc21 pm21 cv21 ct21 oc22 kV22 dc22 pm22 cv22 ct22 oc23 kV23 dc23 pm23 cv23 ct23 oc24 kV24 dc24 pm24 cv24 ct24 oc25 kV25 dc25 pm25 cv25 ct25 oc28 kV28 dc28 pm28 cv28 ct28 oc29 kV29 dc29 pm29 cv29 ct29 oc30 kV30 dc30 pm30 cv30 ct30 oc32 kV32 dc32 pm32 cv32 ct32 oc47 kV47 dc47 pm47 cv47 ct47 oc51 kV51 dc51 pm51 cv51 ct51 oc53 kV53 dc53 pm53 cv53 ct53 oc54 kV54 dc54 pm54 cv54 ct54 oc55 kV55 dc55 pm55 cv55 ct55 oc56 kV56 dc56 pm56 cv56 ct56 oc57 kV57 dc57 pm57 cv57 ct57 oc58 kV58 dc58 pm58 cv58 ct58 oc59 kV59 dc59 pm59 cv59 ct59 oc60 kV60 dc60 pm60 cv60 ct60 oc61 kV61 dc61 pm61 cv61 ct61 oc62 kV62 dc62 pm62 cv62 ct62 oc63 kV63 dc63 pm63 cv63 ct63 oc64 kV64 dc64 pm64 cv64 ct64 oc65 kV65 dc65 pm65 cv65 ct65 oc66 kV66 dc66 pm66 ct66 oc67 kV67 dc67 pm67 ct67 oc68 kV68 dc68 pm68 cv68 ct68 ocxB kVxB dcxB pmxB cvxB ctxB ocxE kVxE dcxE pmxE cvxE ctxE ocxQ kVxQ dcxQ pmxQ cvxQ ctxQ ocxP kVxP dcxP pmxP cvxP ctxP ocxW kVxW dcxW pmxW cvxW ctxW ocxF kVxF dcxF pmxF cvxF ctxF ocxT kVxT dcxT pmxT cvxT ctxT ocxN kVxN dcxN pmxN cvxN ctxN ocpI kVpI dcpI pmpI cvpI ctpI ocpE kVpE dcpE pmpE cvpE ctpE ocpS kVpS dcpS pmpS cvpS ctpS ocpO kVpO dcpO pmpO cvpO ctpO ocpX kVpX dcpX pmpX cvpX ctpX ocpY kVpY dcpY pmpY cvpY ctpY ocaI kVaI dcaI pmaI cvaI ctaI ocaL kVaL dcaL pmaL cvaL ctaL ocaE kVaE dcaE pmaE cvaE ctaE ocaS kVaS dcaS pmaS cvaS ctaS ocaW kVaW dcaW pmaW cvaW ctaW ocaJ kVaJ dcaJ pmaJ cvaJ ctaJ ocaP kVaP dcaP pmaP cvaP ctaP ocaO kVaO dcaO pmaO cvaO ctaO ocaR kVaR dcaR pmaR cvaR ctaR ocaU kVaU dcaU pmaU cvaU ctaU ocaV kVaV dcaV pmaV cvaV ctaV : Value} {tL t4 t7 t8 : PySem.Tok}
    (X : K.In h) (G : h.Ns mainGlobals mg) (hfa : mg "law" = some (.ref fa)) (tab1 : h.get? P1 = some { cls := .none, data := .fields #[] }) (tab2 : h.get? P2 = some { cls := .none, data := .fields #[] }) (nPP : P2 ≠ P1)
    (gC : PySem.W.nsIn K mainGlobals "Picture" = some (some (.ref C)))
    (gCA : PySem.W.nsIn K mainGlobals "Album" = some (some (.ref CA)))
    (gCS : PySem.W.nsIn K mainGlobals "SeenError" = some (some (.ref CS)))
    (gCB : PySem.W.nsIn K mainGlobals "BadAlbum" = some (some (.ref CB)))
    (gCE : PySem.W.nsIn K mainGlobals "BadPicture" = some (some (.ref CE)))
    (gCQ : PySem.W.nsIn K mainGlobals "NoPicture" = some (some (.ref CQ)))
    (gCP : PySem.W.nsIn K mainGlobals "NoPin" = some (some (.ref CP)))
    (gCW : PySem.W.nsIn K mainGlobals "Twice" = some (some (.ref CW)))
    (gCF : PySem.W.nsIn K mainGlobals "Misfit" = some (some (.ref CF)))
    (gCT : PySem.W.nsIn K mainGlobals "TooMany" = some (some (.ref CT)))
    (gCN : PySem.W.nsIn K mainGlobals "BadNumber" = some (some (.ref CN)))
    (gL : PySem.W.nsIn K mainGlobals "LIMIT" = some (some (.int 1000000000 tL)))
    (g4 : PySem.W.nsIn K mainGlobals "FEWEST_PINS" = some (some (.int 4 t4)))
    (g7 : PySem.W.nsIn K mainGlobals "MOST_PINS" = some (some (.int 7 t7)))
    (g8 : PySem.W.nsIn K mainGlobals "MOST_PICTURES" = some (some (.int 8 t8)))
    (ixB : PySem.W.findIn K (.ref CB) "__init__" = some (some (.ref fxB)))
    (txB : PySem.W.typeIn K (.ref fxB) = some (.type "function"))
    (ixE : PySem.W.findIn K (.ref CE) "__init__" = some (some (.ref fxE)))
    (txE : PySem.W.typeIn K (.ref fxE) = some (.type "function"))
    (ixQ : PySem.W.findIn K (.ref CQ) "__init__" = some (some (.ref fxQ)))
    (txQ : PySem.W.typeIn K (.ref fxQ) = some (.type "function"))
    (ixP : PySem.W.findIn K (.ref CP) "__init__" = some (some (.ref fxP)))
    (txP : PySem.W.typeIn K (.ref fxP) = some (.type "function"))
    (ixW : PySem.W.findIn K (.ref CW) "__init__" = some (some (.ref fxW)))
    (txW : PySem.W.typeIn K (.ref fxW) = some (.type "function"))
    (ixF : PySem.W.findIn K (.ref CF) "__init__" = some (some (.ref fxF)))
    (txF : PySem.W.typeIn K (.ref fxF) = some (.type "function"))
    (ixT : PySem.W.findIn K (.ref CT) "__init__" = some (some (.ref fxT)))
    (txT : PySem.W.typeIn K (.ref fxT) = some (.type "function"))
    (ixN : PySem.W.findIn K (.ref CN) "__init__" = some (some (.ref fxN)))
    (txN : PySem.W.typeIn K (.ref fxN) = some (.type "function"))
    (ipI : PySem.W.findIn K (.ref C) "__init__" = some (some (.ref fpI)))
    (npI : PySem.W.isFn K (.ref fpI) = true)
    (ipE : PySem.W.findIn K (.ref C) "__eq__" = some (some (.ref fpE)))
    (npE : PySem.W.isFn K (.ref fpE) = true)
    (ipS : PySem.W.findIn K (.ref C) "__str__" = some (some (.ref fpS)))
    (npS : PySem.W.isFn K (.ref fpS) = true)
    (ipO : PySem.W.findIn K (.ref C) "in_order" = some (some (.ref fpO)))
    (npO : PySem.W.isFn K (.ref fpO) = true)
    (ipX : PySem.W.findIn K (.ref C) "without" = some (some (.ref fpX)))
    (npX : PySem.W.isFn K (.ref fpX) = true)
    (ipY : PySem.W.findIn K (.ref C) "with_pin" = some (some (.ref fpY)))
    (npY : PySem.W.isFn K (.ref fpY) = true)
    (iaI : PySem.W.findIn K (.ref CA) "__init__" = some (some (.ref faI)))
    (naI : PySem.W.isFn K (.ref faI) = true)
    (iaL : PySem.W.findIn K (.ref CA) "__len__" = some (some (.ref faL)))
    (naL : PySem.W.isFn K (.ref faL) = true)
    (iaE : PySem.W.findIn K (.ref CA) "__eq__" = some (some (.ref faE)))
    (naE : PySem.W.isFn K (.ref faE) = true)
    (iaS : PySem.W.findIn K (.ref CA) "__str__" = some (some (.ref faS)))
    (naS : PySem.W.isFn K (.ref faS) = true)
    (iaW : PySem.W.findIn K (.ref CA) "with_picture" = some (some (.ref faW)))
    (naW : PySem.W.isFn K (.ref faW) = true)
    (iaJ : PySem.W.findIn K (.ref CA) "joined" = some (some (.ref faJ)))
    (naJ : PySem.W.isFn K (.ref faJ) = true)
    (iaP : PySem.W.findIn K (.ref CA) "picked" = some (some (.ref faP)))
    (naP : PySem.W.isFn K (.ref faP) = true)
    (iaO : PySem.W.findIn K (.ref CA) "without" = some (some (.ref faO)))
    (naO : PySem.W.isFn K (.ref faO) = true)
    (iaR : PySem.W.findIn K (.ref CA) "in_order" = some (some (.ref faR)))
    (naR : PySem.W.isFn K (.ref faR) = true)
    (iaU : PySem.W.findIn K (.ref CA) "without_pin" = some (some (.ref faU)))
    (naU : PySem.W.isFn K (.ref faU) = true)
    (iaV : PySem.W.findIn K (.ref CA) "with_pin" = some (some (.ref faV)))
    (naV : PySem.W.isFn K (.ref faV) = true)
    (lxB : K.lookup fxB = some ⟨ocxB, odxB, .func (PySem.W.fnOf "__init__" "BadAlbum.__init__" (defArgs sAI) (defBody sAI) (defScope sAI) .none kVxB dcxB pmxB anxB cvxB ctxB), slxB⟩)
    (cxB : PySem.W.codeIn K cvxB "BadAlbum.__init__" = true)
    (kxB : PySem.W.keepIn K (.ref fxB) = true)
    (lxE : K.lookup fxE = some ⟨ocxE, odxE, .func (PySem.W.fnOf "__init__" "BadPicture.__init__" (defArgs sBI) (defBody sBI) (defScope sBI) .none kVxE dcxE pmxE anxE cvxE ctxE), slxE⟩)
    (cxE : PySem.W.codeIn K cvxE "BadPicture.__init__" = true)
    (kxE : PySem.W.keepIn K (.ref fxE) = true)
    (lxQ : K.lookup fxQ = some ⟨ocxQ, odxQ, .func (PySem.W.fnOf "__init__" "Missing.__init__" (defArgs sVI) (defBody sVI) (defScope sVI) .none kVxQ dcxQ pmxQ anxQ cvxQ ctxQ), slxQ⟩)
    (cxQ : PySem.W.codeIn K cvxQ "Missing.__init__" = true)
    (kxQ : PySem.W.keepIn K (.ref fxQ) = true)
    (lxP : K.lookup fxP = some ⟨ocxP, odxP, .func (PySem.W.fnOf "__init__" "Missing.__init__" (defArgs sVI) (defBody sVI) (defScope sVI) .none kVxP dcxP pmxP anxP cvxP ctxP), slxP⟩)
    (cxP : PySem.W.codeIn K cvxP "Missing.__init__" = true)
    (kxP : PySem.W.keepIn K (.ref fxP) = true)
    (lxW : K.lookup fxW = some ⟨ocxW, odxW, .func (PySem.W.fnOf "__init__" "Twice.__init__" (defArgs sWI) (defBody sWI) (defScope sWI) .none kVxW dcxW pmxW anxW cvxW ctxW), slxW⟩)
    (cxW : PySem.W.codeIn K cvxW "Twice.__init__" = true)
    (kxW : PySem.W.keepIn K (.ref fxW) = true)
    (lxF : K.lookup fxF = some ⟨ocxF, odxF, .func (PySem.W.fnOf "__init__" "Misfit.__init__" (defArgs sFI) (defBody sFI) (defScope sFI) .none kVxF dcxF pmxF anxF cvxF ctxF), slxF⟩)
    (cxF : PySem.W.codeIn K cvxF "Misfit.__init__" = true)
    (kxF : PySem.W.keepIn K (.ref fxF) = true)
    (lxT : K.lookup fxT = some ⟨ocxT, odxT, .func (PySem.W.fnOf "__init__" "TooMany.__init__" (defArgs sTI) (defBody sTI) (defScope sTI) .none kVxT dcxT pmxT anxT cvxT ctxT), slxT⟩)
    (cxT : PySem.W.codeIn K cvxT "TooMany.__init__" = true)
    (kxT : PySem.W.keepIn K (.ref fxT) = true)
    (lxN : K.lookup fxN = some ⟨ocxN, odxN, .func (PySem.W.fnOf "__init__" "BadNumber.__init__" (defArgs sNI) (defBody sNI) (defScope sNI) .none kVxN dcxN pmxN anxN cvxN ctxN), slxN⟩)
    (cxN : PySem.W.codeIn K cvxN "BadNumber.__init__" = true)
    (kxN : PySem.W.keepIn K (.ref fxN) = true)
    (lpI : K.lookup fpI = some ⟨ocpI, odpI, .func (PySem.W.fnOf "__init__" "Picture.__init__" (defArgs sPI) (defBody sPI) (defScope sPI) .none kVpI dcpI pmpI anpI cvpI ctpI), slpI⟩)
    (cpI : PySem.W.codeIn K cvpI "Picture.__init__" = true)
    (kpI : PySem.W.keepIn K (.ref fpI) = true)
    (lpE : K.lookup fpE = some ⟨ocpE, odpE, .func (PySem.W.fnOf "__eq__" "Picture.__eq__" (defArgs sEqP) (defBody sEqP) (defScope sEqP) .none kVpE dcpE pmpE anpE cvpE ctpE), slpE⟩)
    (cpE : PySem.W.codeIn K cvpE "Picture.__eq__" = true)
    (kpE : PySem.W.keepIn K (.ref fpE) = true)
    (lpS : K.lookup fpS = some ⟨ocpS, odpS, .func (PySem.W.fnOf "__str__" "Picture.__str__" (defArgs sStrP) (defBody sStrP) (defScope sStrP) .none kVpS dcpS pmpS anpS cvpS ctpS), slpS⟩)
    (cpS : PySem.W.codeIn K cvpS "Picture.__str__" = true)
    (kpS : PySem.W.keepIn K (.ref fpS) = true)
    (lpO : K.lookup fpO = some ⟨ocpO, odpO, .func (PySem.W.fnOf "in_order" "Picture.in_order" (defArgs sIO) (defBody sIO) (defScope sIO) .none kVpO dcpO pmpO anpO cvpO ctpO), slpO⟩)
    (cpO : PySem.W.codeIn K cvpO "Picture.in_order" = true)
    (kpO : PySem.W.keepIn K (.ref fpO) = true)
    (lpX : K.lookup fpX = some ⟨ocpX, odpX, .func (PySem.W.fnOf "without" "Picture.without" (defArgs sWo) (defBody sWo) (defScope sWo) .none kVpX dcpX pmpX anpX cvpX ctpX), slpX⟩)
    (cpX : PySem.W.codeIn K cvpX "Picture.without" = true)
    (kpX : PySem.W.keepIn K (.ref fpX) = true)
    (lpY : K.lookup fpY = some ⟨ocpY, odpY, .func (PySem.W.fnOf "with_pin" "Picture.with_pin" (defArgs sWP) (defBody sWP) (defScope sWP) .none kVpY dcpY pmpY anpY cvpY ctpY), slpY⟩)
    (cpY : PySem.W.codeIn K cvpY "Picture.with_pin" = true)
    (kpY : PySem.W.keepIn K (.ref fpY) = true)
    (laI : K.lookup faI = some ⟨ocaI, odaI, .func (PySem.W.fnOf "__init__" "Album.__init__" (defArgs sAlI) (defBody sAlI) (defScope sAlI) .none kVaI dcaI pmaI anaI cvaI ctaI), slaI⟩)
    (caI : PySem.W.codeIn K cvaI "Album.__init__" = true)
    (kaI : PySem.W.keepIn K (.ref faI) = true)
    (laL : K.lookup faL = some ⟨ocaL, odaL, .func (PySem.W.fnOf "__len__" "Album.__len__" (defArgs sLenA) (defBody sLenA) (defScope sLenA) .none kVaL dcaL pmaL anaL cvaL ctaL), slaL⟩)
    (caL : PySem.W.codeIn K cvaL "Album.__len__" = true)
    (kaL : PySem.W.keepIn K (.ref faL) = true)
    (laE : K.lookup faE = some ⟨ocaE, odaE, .func (PySem.W.fnOf "__eq__" "Album.__eq__" (defArgs sEqA) (defBody sEqA) (defScope sEqA) .none kVaE dcaE pmaE anaE cvaE ctaE), slaE⟩)
    (caE : PySem.W.codeIn K cvaE "Album.__eq__" = true)
    (kaE : PySem.W.keepIn K (.ref faE) = true)
    (laS : K.lookup faS = some ⟨ocaS, odaS, .func (PySem.W.fnOf "__str__" "Album.__str__" (defArgs sStrA) (defBody sStrA) (defScope sStrA) .none kVaS dcaS pmaS anaS cvaS ctaS), slaS⟩)
    (caS : PySem.W.codeIn K cvaS "Album.__str__" = true)
    (kaS : PySem.W.keepIn K (.ref faS) = true)
    (laW : K.lookup faW = some ⟨ocaW, odaW, .func (PySem.W.fnOf "with_picture" "Album.with_picture" (defArgs sWi) (defBody sWi) (defScope sWi) .none kVaW dcaW pmaW anaW cvaW ctaW), slaW⟩)
    (caW : PySem.W.codeIn K cvaW "Album.with_picture" = true)
    (kaW : PySem.W.keepIn K (.ref faW) = true)
    (laJ : K.lookup faJ = some ⟨ocaJ, odaJ, .func (PySem.W.fnOf "joined" "Album.joined" (defArgs sJo) (defBody sJo) (defScope sJo) .none kVaJ dcaJ pmaJ anaJ cvaJ ctaJ), slaJ⟩)
    (caJ : PySem.W.codeIn K cvaJ "Album.joined" = true)
    (kaJ : PySem.W.keepIn K (.ref faJ) = true)
    (laP : K.lookup faP = some ⟨ocaP, odaP, .func (PySem.W.fnOf "picked" "Album.picked" (defArgs sPk) (defBody sPk) (defScope sPk) .none kVaP dcaP pmaP anaP cvaP ctaP), slaP⟩)
    (caP : PySem.W.codeIn K cvaP "Album.picked" = true)
    (kaP : PySem.W.keepIn K (.ref faP) = true)
    (laO : K.lookup faO = some ⟨ocaO, odaO, .func (PySem.W.fnOf "without" "Album.without" (defArgs sWt) (defBody sWt) (defScope sWt) .none kVaO dcaO pmaO anaO cvaO ctaO), slaO⟩)
    (caO : PySem.W.codeIn K cvaO "Album.without" = true)
    (kaO : PySem.W.keepIn K (.ref faO) = true)
    (laR : K.lookup faR = some ⟨ocaR, odaR, .func (PySem.W.fnOf "in_order" "Album.in_order" (defArgs sIA) (defBody sIA) (defScope sIA) .none kVaR dcaR pmaR anaR cvaR ctaR), slaR⟩)
    (caR : PySem.W.codeIn K cvaR "Album.in_order" = true)
    (kaR : PySem.W.keepIn K (.ref faR) = true)
    (laU : K.lookup faU = some ⟨ocaU, odaU, .func (PySem.W.fnOf "without_pin" "Album.without_pin" (defArgs sWpA) (defBody sWpA) (defScope sWpA) .none kVaU dcaU pmaU anaU cvaU ctaU), slaU⟩)
    (caU : PySem.W.codeIn K cvaU "Album.without_pin" = true)
    (kaU : PySem.W.keepIn K (.ref faU) = true)
    (laV : K.lookup faV = some ⟨ocaV, odaV, .func (PySem.W.fnOf "with_pin" "Album.with_pin" (defArgs sWq) (defBody sWq) (defScope sWq) .none kVaV dcaV pmaV anaV cvaV ctaV), slaV⟩)
    (caV : PySem.W.codeIn K cvaV "Album.with_pin" = true)
    (kaV : PySem.W.keepIn K (.ref faV) = true)
    (hB : badB K CB CS = true)
    (hE : badB K CE CS = true)
    (hQ : valB K CQ CS = true)
    (hP : valB K CP CS = true)
    (hW : valB K CW CS = true)
    (hF : badB K CF CS = true)
    (hT : tooB K CT CS = true)
    (hN : badB K CN CS = true)
    (hK : seB K CB CE CQ CP CW CF CT = true)
    (hC : picB K C = true)
    (hA : albB K CA = true)
    (hk1 : nokB K C = true)
    (hk2 : nokB K CA = true)
    (hx1 : PySem.W.kitOne K (.ref C) (.ref CA) = some false)
    (hx2 : PySem.W.notFirst K CA (.ref C) = true)
    (hx3 : PySem.W.kitOne K (.ref CA) (.ref C) = some false)
    (a14 : PySem.W.nsIn K mainGlobals "is_integer" = some (some (.ref f14)))
    (l14 : K.lookup f14 = some ⟨oc14, od14, .func (PySem.W.fnOf "is_integer" "is_integer" (defArgs sInt) (defBody sInt) (defScope sInt) .none kV14 dc14 pm14 an14 cv14 ct14), sl14⟩)
    (cc14 : PySem.W.codeIn K cv14 "is_integer" = true)
    (k14 : PySem.W.keepIn K (.ref f14) = true)
    (a15 : PySem.W.nsIn K mainGlobals "is_within" = some (some (.ref f15)))
    (l15 : K.lookup f15 = some ⟨oc15, od15, .func (PySem.W.fnOf "is_within" "is_within" (defArgs sWithin) (defBody sWithin) (defScope sWithin) .none kV15 dc15 pm15 an15 cv15 ct15), sl15⟩)
    (cc15 : PySem.W.codeIn K cv15 "is_within" = true)
    (k15 : PySem.W.keepIn K (.ref f15) = true)
    (a16 : PySem.W.nsIn K mainGlobals "is_list" = some (some (.ref f16)))
    (l16 : K.lookup f16 = some ⟨oc16, od16, .func (PySem.W.fnOf "is_list" "is_list" (defArgs sIsList) (defBody sIsList) (defScope sIsList) .none kV16 dc16 pm16 an16 cv16 ct16), sl16⟩)
    (cc16 : PySem.W.codeIn K cv16 "is_list" = true)
    (k16 : PySem.W.keepIn K (.ref f16) = true)
    (a17 : PySem.W.nsIn K mainGlobals "first_twice" = some (some (.ref f17)))
    (l17 : K.lookup f17 = some ⟨oc17, od17, .func (PySem.W.fnOf "first_twice" "first_twice" (defArgs sFt) (defBody sFt) (defScope sFt) .none kV17 dc17 pm17 an17 cv17 ct17), sl17⟩)
    (cc17 : PySem.W.codeIn K cv17 "first_twice" = true)
    (k17 : PySem.W.keepIn K (.ref f17) = true)
    (a20 : PySem.W.nsIn K mainGlobals "_first_wrong" = some (some (.ref f20)))
    (l20 : K.lookup f20 = some ⟨oc20, od20, .func (PySem.W.fnOf "_first_wrong" "_first_wrong" (defArgs sFW) (defBody sFW) (defScope sFW) .none kV20 dc20 pm20 an20 cv20 ct20), sl20⟩)
    (cc20 : PySem.W.codeIn K cv20 "_first_wrong" = true)
    (k20 : PySem.W.keepIn K (.ref f20) = true)
    (a21 : PySem.W.nsIn K mainGlobals "_check_unlike" = some (some (.ref f21)))
    (l21 : K.lookup f21 = some ⟨oc21, od21, .func (PySem.W.fnOf "_check_unlike" "_check_unlike" (defArgs sCU) (defBody sCU) (defScope sCU) .none kV21 dc21 pm21 an21 cv21 ct21), sl21⟩)
    (cc21 : PySem.W.codeIn K cv21 "_check_unlike" = true)
    (k21 : PySem.W.keepIn K (.ref f21) = true)
    (a22 : PySem.W.nsIn K mainGlobals "check_pin" = some (some (.ref f22)))
    (l22 : K.lookup f22 = some ⟨oc22, od22, .func (PySem.W.fnOf "check_pin" "check_pin" (defArgs sC1) (defBody sC1) (defScope sC1) .none kV22 dc22 pm22 an22 cv22 ct22), sl22⟩)
    (cc22 : PySem.W.codeIn K cv22 "check_pin" = true)
    (k22 : PySem.W.keepIn K (.ref f22) = true)
    (a23 : PySem.W.nsIn K mainGlobals "check_pins" = some (some (.ref f23)))
    (l23 : K.lookup f23 = some ⟨oc23, od23, .func (PySem.W.fnOf "check_pins" "check_pins" (defArgs sCP) (defBody sCP) (defScope sCP) .none kV23 dc23 pm23 an23 cv23 ct23), sl23⟩)
    (cc23 : PySem.W.codeIn K cv23 "check_pins" = true)
    (k23 : PySem.W.keepIn K (.ref f23) = true)
    (a24 : PySem.W.nsIn K mainGlobals "check_order" = some (some (.ref f24)))
    (l24 : K.lookup f24 = some ⟨oc24, od24, .func (PySem.W.fnOf "check_order" "check_order" (defArgs sCO) (defBody sCO) (defScope sCO) .none kV24 dc24 pm24 an24 cv24 ct24), sl24⟩)
    (cc24 : PySem.W.codeIn K cv24 "check_order" = true)
    (k24 : PySem.W.keepIn K (.ref f24) = true)
    (a25 : PySem.W.nsIn K mainGlobals "check_picture_numbers" = some (some (.ref f25)))
    (l25 : K.lookup f25 = some ⟨oc25, od25, .func (PySem.W.fnOf "check_picture_numbers" "check_picture_numbers" (defArgs sPN) (defBody sPN) (defScope sPN) .none kV25 dc25 pm25 an25 cv25 ct25), sl25⟩)
    (cc25 : PySem.W.codeIn K cv25 "check_picture_numbers" = true)
    (k25 : PySem.W.keepIn K (.ref f25) = true)
    (a28 : PySem.W.nsIn K mainGlobals "is_row" = some (some (.ref f28)))
    (l28 : K.lookup f28 = some ⟨oc28, od28, .func (PySem.W.fnOf "is_row" "is_row" (defArgs sRow) (defBody sRow) (defScope sRow) .none kV28 dc28 pm28 an28 cv28 ct28), sl28⟩)
    (cc28 : PySem.W.codeIn K cv28 "is_row" = true)
    (k28 : PySem.W.keepIn K (.ref f28) = true)
    (a29 : PySem.W.nsIn K mainGlobals "are_rows" = some (some (.ref f29)))
    (l29 : K.lookup f29 = some ⟨oc29, od29, .func (PySem.W.fnOf "are_rows" "are_rows" (defArgs sRows) (defBody sRows) (defScope sRows) .none kV29 dc29 pm29 an29 cv29 ct29), sl29⟩)
    (cc29 : PySem.W.codeIn K cv29 "are_rows" = true)
    (k29 : PySem.W.keepIn K (.ref f29) = true)
    (a30 : PySem.W.nsIn K mainGlobals "are_places" = some (some (.ref f30)))
    (l30 : K.lookup f30 = some ⟨oc30, od30, .func (PySem.W.fnOf "are_places" "are_places" (defArgs sPlaces) (defBody sPlaces) (defScope sPlaces) .none kV30 dc30 pm30 an30 cv30 ct30), sl30⟩)
    (cc30 : PySem.W.codeIn K cv30 "are_places" = true)
    (k30 : PySem.W.keepIn K (.ref f30) = true)
    (a32 : PySem.W.nsIn K mainGlobals "steps_along" = some (some (.ref f32)))
    (l32 : K.lookup f32 = some ⟨oc32, od32, .func (PySem.W.fnOf "steps_along" "steps_along" (defArgs sSteps) (defBody sSteps) (defScope sSteps) .none kV32 dc32 pm32 an32 cv32 ct32), sl32⟩)
    (cc32 : PySem.W.codeIn K cv32 "steps_along" = true)
    (k32 : PySem.W.keepIn K (.ref f32) = true)
    (a47 : PySem.W.nsIn K mainGlobals "check_picture" = some (some (.ref f47)))
    (l47 : K.lookup f47 = some ⟨oc47, od47, .func (PySem.W.fnOf "check_picture" "check_picture" (defArgs sCkP) (defBody sCkP) (defScope sCkP) .none kV47 dc47 pm47 an47 cv47 ct47), sl47⟩)
    (cc47 : PySem.W.codeIn K cv47 "check_picture" = true)
    (k47 : PySem.W.keepIn K (.ref f47) = true)
    (a51 : PySem.W.nsIn K mainGlobals "check_album" = some (some (.ref f51)))
    (l51 : K.lookup f51 = some ⟨oc51, od51, .func (PySem.W.fnOf "check_album" "check_album" (defArgs sCkA) (defBody sCkA) (defScope sCkA) .none kV51 dc51 pm51 an51 cv51 ct51), sl51⟩)
    (cc51 : PySem.W.codeIn K cv51 "check_album" = true)
    (k51 : PySem.W.keepIn K (.ref f51) = true)
    (a53 : PySem.W.nsIn K mainGlobals "_law_lens" = some (some (.ref f53)))
    (l53 : K.lookup f53 = some ⟨oc53, od53, .func (PySem.W.fnOf "_law_lens" "_law_lens" (defArgs sLens) (defBody sLens) (defScope sLens) .none kV53 dc53 pm53 an53 cv53 ct53), sl53⟩)
    (cc53 : PySem.W.codeIn K cv53 "_law_lens" = true)
    (k53 : PySem.W.keepIn K (.ref f53) = true)
    (a54 : PySem.W.nsIn K mainGlobals "_law_shot" = some (some (.ref f54)))
    (l54 : K.lookup f54 = some ⟨oc54, od54, .func (PySem.W.fnOf "_law_shot" "_law_shot" (defArgs sShot) (defBody sShot) (defScope sShot) .none kV54 dc54 pm54 an54 cv54 ct54), sl54⟩)
    (cc54 : PySem.W.codeIn K cv54 "_law_shot" = true)
    (k54 : PySem.W.keepIn K (.ref f54) = true)
    (a55 : PySem.W.nsIn K mainGlobals "_law_pick" = some (some (.ref f55)))
    (l55 : K.lookup f55 = some ⟨oc55, od55, .func (PySem.W.fnOf "_law_pick" "_law_pick" (defArgs sPick) (defBody sPick) (defScope sPick) .none kV55 dc55 pm55 an55 cv55 ct55), sl55⟩)
    (cc55 : PySem.W.codeIn K cv55 "_law_pick" = true)
    (k55 : PySem.W.keepIn K (.ref f55) = true)
    (a56 : PySem.W.nsIn K mainGlobals "_law_places" = some (some (.ref f56)))
    (l56 : K.lookup f56 = some ⟨oc56, od56, .func (PySem.W.fnOf "_law_places" "_law_places" (defArgs sPlc) (defBody sPlc) (defScope sPlc) .none kV56 dc56 pm56 an56 cv56 ct56), sl56⟩)
    (cc56 : PySem.W.codeIn K cv56 "_law_places" = true)
    (k56 : PySem.W.keepIn K (.ref f56) = true)
    (a57 : PySem.W.nsIn K mainGlobals "_law_all" = some (some (.ref f57)))
    (l57 : K.lookup f57 = some ⟨oc57, od57, .func (PySem.W.fnOf "_law_all" "_law_all" (defArgs sAll) (defBody sAll) (defScope sAll) .none kV57 dc57 pm57 an57 cv57 ct57), sl57⟩)
    (cc57 : PySem.W.codeIn K cv57 "_law_all" = true)
    (k57 : PySem.W.keepIn K (.ref f57) = true)
    (a58 : PySem.W.nsIn K mainGlobals "_law_made" = some (some (.ref f58)))
    (l58 : K.lookup f58 = some ⟨oc58, od58, .func (PySem.W.fnOf "_law_made" "_law_made" (defArgs sMade) (defBody sMade) (defScope sMade) .none kV58 dc58 pm58 an58 cv58 ct58), sl58⟩)
    (cc58 : PySem.W.codeIn K cv58 "_law_made" = true)
    (k58 : PySem.W.keepIn K (.ref f58) = true)
    (a59 : PySem.W.nsIn K mainGlobals "_law_has" = some (some (.ref f59)))
    (l59 : K.lookup f59 = some ⟨oc59, od59, .func (PySem.W.fnOf "_law_has" "_law_has" (defArgs sHas) (defBody sHas) (defScope sHas) .none kV59 dc59 pm59 an59 cv59 ct59), sl59⟩)
    (cc59 : PySem.W.codeIn K cv59 "_law_has" = true)
    (k59 : PySem.W.keepIn K (.ref f59) = true)
    (a60 : PySem.W.nsIn K mainGlobals "_law_some" = some (some (.ref f60)))
    (l60 : K.lookup f60 = some ⟨oc60, od60, .func (PySem.W.fnOf "_law_some" "_law_some" (defArgs sSome) (defBody sSome) (defScope sSome) .none kV60 dc60 pm60 an60 cv60 ct60), sl60⟩)
    (cc60 : PySem.W.codeIn K cv60 "_law_some" = true)
    (k60 : PySem.W.keepIn K (.ref f60) = true)
    (a61 : PySem.W.nsIn K mainGlobals "_law_made_right" = some (some (.ref f61)))
    (l61 : K.lookup f61 = some ⟨oc61, od61, .func (PySem.W.fnOf "_law_made_right" "_law_made_right" (defArgs sMR) (defBody sMR) (defScope sMR) .none kV61 dc61 pm61 an61 cv61 ct61), sl61⟩)
    (cc61 : PySem.W.codeIn K cv61 "_law_made_right" = true)
    (k61 : PySem.W.keepIn K (.ref f61) = true)
    (a62 : PySem.W.nsIn K mainGlobals "_law_changed_right" = some (some (.ref f62)))
    (l62 : K.lookup f62 = some ⟨oc62, od62, .func (PySem.W.fnOf "_law_changed_right" "_law_changed_right" (defArgs sCR) (defBody sCR) (defScope sCR) .none kV62 dc62 pm62 an62 cv62 ct62), sl62⟩)
    (cc62 : PySem.W.codeIn K cv62 "_law_changed_right" = true)
    (k62 : PySem.W.keepIn K (.ref f62) = true)
    (a63 : PySem.W.nsIn K mainGlobals "_law_order" = some (some (.ref f63)))
    (l63 : K.lookup f63 = some ⟨oc63, od63, .func (PySem.W.fnOf "_law_order" "_law_order" (defArgs sOrd) (defBody sOrd) (defScope sOrd) .none kV63 dc63 pm63 an63 cv63 ct63), sl63⟩)
    (cc63 : PySem.W.codeIn K cv63 "_law_order" = true)
    (k63 : PySem.W.keepIn K (.ref f63) = true)
    (a64 : PySem.W.nsIn K mainGlobals "_law_pins_right" = some (some (.ref f64)))
    (l64 : K.lookup f64 = some ⟨oc64, od64, .func (PySem.W.fnOf "_law_pins_right" "_law_pins_right" (defArgs sPR) (defBody sPR) (defScope sPR) .none kV64 dc64 pm64 an64 cv64 ct64), sl64⟩)
    (cc64 : PySem.W.codeIn K cv64 "_law_pins_right" = true)
    (k64 : PySem.W.keepIn K (.ref f64) = true)
    (a65 : PySem.W.nsIn K mainGlobals "_law_heard" = some (some (.ref f65)))
    (l65 : K.lookup f65 = some ⟨oc65, od65, .func (PySem.W.fnOf "_law_heard" "_law_heard" (defArgs sHd) (defBody sHd) (defScope sHd) .none kV65 dc65 pm65 an65 cv65 ct65), sl65⟩)
    (cc65 : PySem.W.codeIn K cv65 "_law_heard" = true)
    (k65 : PySem.W.keepIn K (.ref f65) = true)
    (a66 : PySem.W.nsIn K mainGlobals "_law_refused_right" = some (some (.ref f66)))
    (l66 : K.lookup f66 = some ⟨oc66, od66, .func (PySem.W.fnOf "_law_refused_right" "_law_refused_right" (defArgs sRF) (defBody sRF) (defScope sRF) .none kV66 dc66 pm66 an66 (.ref c66) ct66), sl66⟩)
    (cc66 : PySem.W.codeIn K (.ref c66) "_law_refused_right" = true)
    (k66 : PySem.W.keepIn K (.ref f66) = true)
    (a67 : PySem.W.nsIn K mainGlobals "_law_pins_refused_right" = some (some (.ref f67)))
    (l67 : K.lookup f67 = some ⟨oc67, od67, .func (PySem.W.fnOf "_law_pins_refused_right" "_law_pins_refused_right" (defArgs sPX) (defBody sPX) (defScope sPX) .none kV67 dc67 pm67 an67 (.ref c67) ct67), sl67⟩)
    (cc67 : PySem.W.codeIn K (.ref c67) "_law_pins_refused_right" = true)
    (k67 : PySem.W.keepIn K (.ref f67) = true)
    (a68 : PySem.W.nsIn K mainGlobals "law" = some (some (.ref f68)))
    (l68 : K.lookup f68 = some ⟨oc68, od68, .func (PySem.W.fnOf "law" "law" (defArgs sLaw) (defBody sLaw) (defScope sLaw) .none kV68 dc68 pm68 an68 cv68 ct68), sl68⟩)
    (cc68 : PySem.W.codeIn K cv68 "law" = true)
    (k68 : PySem.W.keepIn K (.ref f68) = true)
    (hd1 : PySem.W.codeHdIn K c66 P1 = true)
    (nT1 : K.lookup P1 = none)
    (hd2 : PySem.W.codeHdIn K c67 P2 = true)
    (nT2 : K.lookup P2 = none)
    (z_isinstance : PySem.W.nsIn K mainGlobals "isinstance" = some none)
    (z_int : PySem.W.nsIn K mainGlobals "int" = some none)
    (z_bool : PySem.W.nsIn K mainGlobals "bool" = some none)
    (z_list : PySem.W.nsIn K mainGlobals "list" = some none)
    (z_tuple : PySem.W.nsIn K mainGlobals "tuple" = some none)
    (z_all : PySem.W.nsIn K mainGlobals "all" = some none)
    (z_len : PySem.W.nsIn K mainGlobals "len" = some none)
    (z_range : PySem.W.nsIn K mainGlobals "range" = some none)
    (z_abs : PySem.W.nsIn K mainGlobals "abs" = some none)
    (z_str : PySem.W.nsIn K mainGlobals "str" = some none)
    (z_sum : PySem.W.nsIn K mainGlobals "sum" = some none)
    (z_min : PySem.W.nsIn K mainGlobals "min" = some none)
    (z_enumerate : PySem.W.nsIn K mainGlobals "enumerate" = some none)
    (z_set : PySem.W.nsIn K mainGlobals "set" = some none)
    (z_repr : PySem.W.nsIn K mainGlobals "repr" = some none)
    (z_any : PySem.W.nsIn K mainGlobals "any" = some none)
    (z_zip : PySem.W.nsIn K mainGlobals "zip" = some none) :
    GG.LawG l w K CX0 14 63 "_law_script" mg fa h := by
  have e := hfa.symm.trans (PySem.W.mg_of X G a68)
  cases e
  have F14 := fun_mk (st := sInt) l14 cc14 k14
  have F15 := fun_mk (st := sWithin) l15 cc15 k15
  have F16 := fun_mk (st := sIsList) l16 cc16 k16
  have F17 := fun_mk (st := sFt) l17 cc17 k17
  have F20 := fun_mk (st := sFW) l20 cc20 k20
  have F21 := fun_mk (st := sCU) l21 cc21 k21
  have F22 := fun_mk (st := sC1) l22 cc22 k22
  have F23 := fun_mk (st := sCP) l23 cc23 k23
  have F24 := fun_mk (st := sCO) l24 cc24 k24
  have F25 := fun_mk (st := sPN) l25 cc25 k25
  have F28 := fun_mk (st := sRow) l28 cc28 k28
  have F29 := fun_mk (st := sRows) l29 cc29 k29
  have F30 := fun_mk (st := sPlaces) l30 cc30 k30
  have F32 := fun_mk (st := sSteps) l32 cc32 k32
  have F47 := fun_mk (st := sCkP) l47 cc47 k47
  have F51 := fun_mk (st := sCkA) l51 cc51 k51
  have F53 := fun_mk (st := sLens) l53 cc53 k53
  have F54 := fun_mk (st := sShot) l54 cc54 k54
  have F55 := fun_mk (st := sPick) l55 cc55 k55
  have F56 := fun_mk (st := sPlc) l56 cc56 k56
  have F57 := fun_mk (st := sAll) l57 cc57 k57
  have F58 := fun_mk (st := sMade) l58 cc58 k58
  have F59 := fun_mk (st := sHas) l59 cc59 k59
  have F60 := fun_mk (st := sSome) l60 cc60 k60
  have F61 := fun_mk (st := sMR) l61 cc61 k61
  have F62 := fun_mk (st := sCR) l62 cc62 k62
  have F63 := fun_mk (st := sOrd) l63 cc63 k63
  have F64 := fun_mk (st := sPR) l64 cc64 k64
  have F65 := fun_mk (st := sHd) l65 cc65 k65
  have F66 := fun_mk (st := sRF) l66 cc66 k66
  have F67 := fun_mk (st := sPX) l67 cc67 k67
  have F68 := fun_mk (st := sLaw) l68 cc68 k68
  have FxB := fun_mk (st := sAI) lxB cxB kxB
  have FxE := fun_mk (st := sBI) lxE cxE kxE
  have FxQ := fun_mk (st := sVI) lxQ cxQ kxQ
  have FxP := fun_mk (st := sVI) lxP cxP kxP
  have FxW := fun_mk (st := sWI) lxW cxW kxW
  have FxF := fun_mk (st := sFI) lxF cxF kxF
  have FxT := fun_mk (st := sTI) lxT cxT kxT
  have FxN := fun_mk (st := sNI) lxN cxN kxN
  have FpI := fun_mk (st := sPI) lpI cpI kpI
  have FpE := fun_mk (st := sEqP) lpE cpE kpE
  have FpS := fun_mk (st := sStrP) lpS cpS kpS
  have FpO := fun_mk (st := sIO) lpO cpO kpO
  have FpX := fun_mk (st := sWo) lpX cpX kpX
  have FpY := fun_mk (st := sWP) lpY cpY kpY
  have FaI := fun_mk (st := sAlI) laI caI kaI
  have FaL := fun_mk (st := sLenA) laL caL kaL
  have FaE := fun_mk (st := sEqA) laE caE kaE
  have FaS := fun_mk (st := sStrA) laS caS kaS
  have FaW := fun_mk (st := sWi) laW caW kaW
  have FaJ := fun_mk (st := sJo) laJ caJ kaJ
  have FaP := fun_mk (st := sPk) laP caP kaP
  have FaO := fun_mk (st := sWt) laO caO kaO
  have FaR := fun_mk (st := sIA) laR caR kaR
  have FaU := fun_mk (st := sWpA) laU caU kaU
  have FaV := fun_mk (st := sWq) laV caV kaV
  have B : Bn mg := ⟨PySem.W.mg_none_of X G z_isinstance, PySem.W.mg_none_of X G z_int, PySem.W.mg_none_of X G z_bool, PySem.W.mg_none_of X G z_list, PySem.W.mg_none_of X G z_tuple, PySem.W.mg_none_of X G z_all, PySem.W.mg_none_of X G z_len, PySem.W.mg_none_of X G z_range, PySem.W.mg_none_of X G z_abs, PySem.W.mg_none_of X G z_str, PySem.W.mg_none_of X G z_sum, PySem.W.mg_none_of X G z_min, PySem.W.mg_none_of X G z_enumerate⟩
  have n_set := PySem.W.mg_none_of X G z_set
  have n_repr := PySem.W.mg_none_of X G z_repr
  have n_any := PySem.W.mg_none_of X G z_any
  have n_zip := PySem.W.mg_none_of X G z_zip
  obtain ⟨oxxB, exxB, xfxB, noxB, subxB⟩ := badB_ok hB
  obtain ⟨oxxE, exxE, xfxE, noxE, subxE⟩ := badB_ok hE
  obtain ⟨oxxF, exxF, xfxF, noxF, subxF⟩ := badB_ok hF
  obtain ⟨oxxN, exxN, xfxN, noxN, subxN⟩ := badB_ok hN
  obtain ⟨oxxQ, exxQ, xfxQ, noxQ, subxQ⟩ := valB_ok hQ
  obtain ⟨oxxP, exxP, xfxP, noxP, subxP⟩ := valB_ok hP
  obtain ⟨oxxW, exxW, xfxW, noxW, subxW⟩ := valB_ok hW
  obtain ⟨oxxT, exxT, xfxT, no1, no2, subxT⟩ := tooB_ok hT
  obtain ⟨u_p0CB, u_p0CE, u_p0CQ, u_p0CP, u_p0CW, u_p0CF, u_p0CT, u_p0N0, u_q0, u_p1CQ, u_p1CP, u_p1CW, u_p1CF, u_p1CT, u_p1N0, u_q1, u_p2CW, u_p2CF, u_p2CT, u_p2N0, u_q2, u_t0⟩ := seB_ok hK
  obtain ⟨pt, pn, mk, kc⟩ := picB_ok hC
  obtain ⟨at_, an_, amk, akc⟩ := albB_ok hA
  have TBr : BrTxt K mg CE fxE := ⟨oxxE, PySem.W.mg_of X G gCE, noxE, ixE, txE⟩
  have TTr : TmT K mg CT fxT := ⟨oxxT, PySem.W.mg_of X G gCT, no1, no2, ixT, txT⟩
  have Sm : SeM mg CS CB CE CQ CP CW CF CT := ⟨PySem.W.mg_of X G gCS, PySem.W.mg_of X G gCB, PySem.W.mg_of X G gCE, PySem.W.mg_of X G gCQ, PySem.W.mg_of X G gCP, PySem.W.mg_of X G gCW, PySem.W.mg_of X G gCF, PySem.W.mg_of X G gCT⟩
  have S : SeT K CS CB CE CQ CP CW CF CT := ⟨fun C hC => by
    simp only [List.mem_cons, List.not_mem_nil, or_false] at hC
    rcases hC with rfl | rfl | rfl | rfl | rfl | rfl | rfl
    · exact ⟨subxB, exxB, xfxB⟩
    · exact ⟨subxE, exxE, xfxE⟩
    · exact ⟨subxQ, exxQ, xfxQ⟩
    · exact ⟨subxP, exxP, xfxP⟩
    · exact ⟨subxW, exxW, xfxW⟩
    · exact ⟨subxF, exxF, xfxF⟩
    · exact ⟨subxT, exxT, xfxT⟩, noxB, noxE, noxQ, noxP, noxW, noxF, no1, no2, u_p0CB, u_p0CE, u_p0CQ, u_p0CP, u_p0CW, u_p0CF, u_p0CT, u_p0N0, u_q0, u_p1CQ, u_p1CP, u_p1CW, u_p1CF, u_p1CT, u_p1N0, u_q1, u_p2CW, u_p2CF, u_p2CT, u_p2N0, u_q2, u_t0⟩
  have L : ∃ t, mg "LIMIT" = some (.int 1000000000 t) := ⟨tL, PySem.W.mg_of X G gL⟩
  have L4 : ∃ t, mg "FEWEST_PINS" = some (.int 4 t) := ⟨t4, PySem.W.mg_of X G g4⟩
  have L7 : ∃ t, mg "MOST_PINS" = some (.int 7 t) := ⟨t7, PySem.W.mg_of X G g7⟩
  have L8 : ∃ t, mg "MOST_PICTURES" = some (.int 8 t) := ⟨t8, PySem.W.mg_of X G g8⟩
  refine ⟨PySem.W.fnOf "law" "law" (defArgs sLaw) (defBody sLaw) (defScope sLaw) .none kV68 dc68 pm68 an68 cv68 ct68, [(c66, P1), (c67, P2)], spLaw K [(P1, qRF), (P2, qPX)], ⟨fun p hp => ?_, fun p hp => ?_, fun p hp => ?_⟩, fun s u => .of_eq rfl, fun H a ns hl _ hT hS => ?_, fun base _ _ TBs => ?_⟩
  · simp only [List.mem_cons, List.not_mem_nil, or_false] at hp
    rcases hp with rfl | rfl
    · exact tab1
    · exact tab2
  · simp only [List.mem_cons, List.not_mem_nil, or_false] at hp
    rcases hp with rfl | rfl
    · exact nT1
    · exact nT2
  · simp only [List.mem_cons, List.not_mem_nil, or_false] at hp
    rcases hp with rfl | rfl
    · exact PySem.W.codeHd_of_K X hd1
    · exact PySem.W.codeHd_of_K X hd2
  · refine ⟨a, ns, rfl, hS, hl, fun x hx => ?_, fun _ => rfl⟩
    simp only [List.mem_cons, List.not_mem_nil, or_false] at hx
    rcases hx with rfl | rfl
    · exact LamX.TabS.nil (hT (c66, P1) (by simp))
    · exact LamX.TabS.nil (hT (c67, P2) (by simp))
  · have MB : ErM l.prog w K mg base "BadAlbum" "part" CB := ⟨fxB, _, ⟨oxxB, PySem.W.mg_of X G gCB, noxB, ixB, txB⟩, ok_ai FxB, FxB.binds (ps := ["self", "part"]) fun _ _ _ _ _ _ us hl => match us, hl with | [_, _], _ => rfl⟩
    have ME : ErM l.prog w K mg base "BadPicture" "part" CE := ⟨fxE, _, ⟨oxxE, PySem.W.mg_of X G gCE, noxE, ixE, txE⟩, ok_be FxE, FxE.binds (ps := ["self", "part"]) fun _ _ _ _ _ _ us hl => match us, hl with | [_, _], _ => rfl⟩
    have MQ : ErM l.prog w K mg base "NoPicture" "value" CQ := ⟨fxQ, _, ⟨oxxQ, PySem.W.mg_of X G gCQ, noxQ, ixQ, txQ⟩, ok_vi FxQ, FxQ.binds (ps := ["self", "value"]) fun _ _ _ _ _ _ us hl => match us, hl with | [_, _], _ => rfl⟩
    have MN : ErM l.prog w K mg base "BadNumber" "part" CN := ⟨fxN, _, ⟨oxxN, PySem.W.mg_of X G gCN, noxN, ixN, txN⟩, ok_ni FxN, FxN.binds (ps := ["self", "part"]) fun _ _ _ _ _ _ us hl => match us, hl with | [_, _], _ => rfl⟩
    have MF : ErM l.prog w K mg base "Misfit" "part" CF := ⟨fxF, _, ⟨oxxF, PySem.W.mg_of X G gCF, noxF, ixF, txF⟩, ok_fi FxF, FxF.binds (ps := ["self", "part"]) fun _ _ _ _ _ _ us hl => match us, hl with | [_, _], _ => rfl⟩
    have MV : ErM l.prog w K mg base "NoPin" "value" CP := ⟨fxP, _, ⟨oxxP, PySem.W.mg_of X G gCP, noxP, ixP, txP⟩, ok_vi FxP, FxP.binds (ps := ["self", "value"]) fun _ _ _ _ _ _ us hl => match us, hl with | [_, _], _ => rfl⟩
    have MW : ErM l.prog w K mg base "Twice" "value" CW := ⟨fxW, _, ⟨oxxW, PySem.W.mg_of X G gCW, noxW, ixW, txW⟩, ok_wi FxW, FxW.binds (ps := ["self", "value"]) fun _ _ _ _ _ _ us hl => match us, hl with | [_, _], _ => rfl⟩
    have C14d : Callee l.prog w K mg base CX0 1 "is_integer" ["value"] (spInt K) := ⟨f14, _, PySem.W.mg_of X G a14, F14.kp, F14.binds (ps := ["value"]) fun _ _ _ _ _ _ us hl => match us, hl with | [_], _ => rfl, ok_int F14 B⟩
    have C15d : Callee l.prog w K mg base CX0 2 "is_within" ["value", "least", "most"] (spWithin K) := ⟨f15, _, PySem.W.mg_of X G a15, F15.kp, F15.binds (ps := ["value", "least", "most"]) fun _ _ _ _ _ _ us hl => match us, hl with | [_, _, _], _ => rfl, ok_within F15 C14d⟩
    have C16d : Callee l.prog w K mg base CX0 1 "is_list" ["value"] (spIsList K) := ⟨f16, _, PySem.W.mg_of X G a16, F16.kp, F16.binds (ps := ["value"]) fun _ _ _ _ _ _ us hl => match us, hl with | [_], _ => rfl, ok_isList F16 B⟩
    have C17d : Callee l.prog w K mg base CX0 1 "first_twice" ["values"] spFt := ⟨f17, _, PySem.W.mg_of X G a17, F17.kp, F17.binds (ps := ["values"]) fun _ _ _ _ _ _ us hl => match us, hl with | [_], _ => rfl, ok_ft F17 n_set⟩
    have C20d : Callee l.prog w K mg base CX0 3 "_first_wrong" ["values", "many"] (spFW K) := ⟨f20, _, PySem.W.mg_of X G a20, F20.kp, F20.binds (ps := ["values", "many"]) fun _ _ _ _ _ _ us hl => match us, hl with | [_, _], _ => rfl, ok_fw F20 C16d C15d⟩
    have C21d : Callee l.prog w K mg base (L2.CX l.prog w) 3 "_check_unlike" ["values"] (spCU CW) := ⟨f21, _, PySem.W.mg_of X G a21, F21.kp, F21.binds (ps := ["values"]) fun _ _ _ _ _ _ us hl => match us, hl with | [_], _ => rfl, ok_cu F21 MW C17d⟩
    have C22d : Callee l.prog w K mg base (L2.CX l.prog w) 3 "check_pin" ["value", "many"] (spC1 K CP) := ⟨f22, _, PySem.W.mg_of X G a22, F22.kp, F22.binds (ps := ["value", "many"]) fun _ _ _ _ _ _ us hl => match us, hl with | [_, _], _ => rfl, ok_c1 F22 MV C15d⟩
    have C23d : Callee l.prog w K mg base (L2.CX l.prog w) 4 "check_pins" ["values", "many"] (spCP K CP CW) := ⟨f23, _, PySem.W.mg_of X G a23, F23.kp, F23.binds (ps := ["values", "many"]) fun _ _ _ _ _ _ us hl => match us, hl with | [_, _], _ => rfl, ok_cp F23 MV C20d C21d⟩
    have C24d : Callee l.prog w K mg base (L2.CX l.prog w) 5 "check_order" ["values", "many"] (spCO K CP CW CF) := ⟨f24, _, PySem.W.mg_of X G a24, F24.kp, F24.binds (ps := ["values", "many"]) fun _ _ _ _ _ _ us hl => match us, hl with | [_, _], _ => rfl, ok_co F24 B MF C23d⟩
    have C25d : Callee l.prog w K mg base (L2.CX l.prog w) 4 "check_picture_numbers" ["values", "many"] (spCP K CQ CW) := ⟨f25, _, PySem.W.mg_of X G a25, F25.kp, F25.binds (ps := ["values", "many"]) fun _ _ _ _ _ _ us hl => match us, hl with | [_, _], _ => rfl, ok_pn F25 MQ C20d C21d⟩
    have C28d : Callee l.prog w K mg base CX0 3 "is_row" ["value", "fewest", "most"] (spRow K) := ⟨f28, _, PySem.W.mg_of X G a28, F28.kp, F28.binds (ps := ["value", "fewest", "most"]) fun _ _ _ _ _ _ us hl => match us, hl with | [_, _, _], _ => rfl, ok_row F28 B L C16d C15d⟩
    have C29d : Callee l.prog w K mg base CX0 4 "are_rows" ["value", "size"] (spRows K) := ⟨f29, _, PySem.W.mg_of X G a29, F29.kp, F29.binds (ps := ["value", "size"]) fun _ _ _ _ _ _ us hl => match us, hl with | [_, _], _ => rfl, ok_rows F29 B C16d C28d⟩
    have C30d : Callee l.prog w K mg base CX0 5 "are_places" ["value", "size"] (spPlaces K) := ⟨f30, _, PySem.W.mg_of X G a30, F30.kp, F30.binds (ps := ["value", "size"]) fun _ _ _ _ _ _ us hl => match us, hl with | [_, _], _ => rfl, ok_places F30 B C29d⟩
    have C32d : Callee l.prog w K mg base CX0 1 "steps_along" ["places"] spSteps := ⟨f32, _, PySem.W.mg_of X G a32, F32.kp, F32.binds (ps := ["places"]) fun _ _ _ _ _ _ us hl => match us, hl with | [_], _ => rfl, ok_steps F32 B⟩
    have mC := PySem.W.mg_of X G gC
    have mA := PySem.W.mg_of X G gCA
    have C47d : Callee l.prog w K mg base (L2.CX l.prog w) 3 "check_picture" ["value", "part"] (spIs K C CE) := ⟨f47, _, PySem.W.mg_of X G a47, F47.kp, F47.binds (ps := ["value", "part"]) fun _ _ _ _ _ _ us hl => match us, hl with | [_, _], _ => rfl, ok_ckp F47 B mC ME⟩
    have C51d : Callee l.prog w K mg base (L2.CX l.prog w) 3 "check_album" ["value", "part"] (spIs K CA CB) := ⟨f51, _, PySem.W.mg_of X G a51, F51.kp, F51.binds (ps := ["value", "part"]) fun _ _ _ _ _ _ us hl => match us, hl with | [_, _], _ => rfl, ok_cka F51 B mA MB⟩
    have GI := ok_pi (P := l.prog) (w := w) (base := base) FpI B pt TBr FxE C30d C32d
    have bI := FpI.binds (ps := ["self", "places"]) fun _ _ _ _ _ _ us hl => match us, hl with | [_, _], _ => rfl
    have MkI : Mk K C fpI := ⟨mk, ipI, npI, kc⟩
    have TP : Pc l.prog w K mg base C CE := ⟨mC, pt, pn, ⟨fpI, _, MkI, GI, bI, kbn14 fun us ws h1 h2 => match us, ws, h1, h2 with | [_], [_], _, _ => rfl⟩, ⟨fpE, _, ok_eqP FpE B pt pn mC, ipE, npE, FpE.binds (ps := ["self", "other"]) fun _ _ _ _ _ _ us hl => match us, hl with | [_, _], _ => rfl⟩, ⟨fpS, _, ok_strP FpS pt, ipS, npS, FpS.binds (ps := ["self"]) fun _ _ _ _ _ _ us hl => match us, hl with | [_], _ => rfl⟩⟩
    have PO : Po l.prog w K mg base C CP CW CF CN CT := ⟨⟨fpO, _, ⟨ipO, npO, FpO.kp⟩, (ok_io FpO pt mC ⟨fpI, _, MkI, GI, bI⟩ C24d).imp (fun _ _ _ _ h => Bx.un h), FpO.binds (ps := ["self", "pins"]) fun _ _ _ _ _ _ us hl => match us, hl with | [_, _], _ => rfl, kbn14 fun us ws h1 h2 => match us, ws, h1, h2 with | [_], [_], _, _ => rfl⟩,
      ⟨fpX, _, ⟨ipX, npX, FpX.kp⟩, (ok_wo FpX pt L4 MF mC ⟨fpI, _, MkI, GI, bI⟩ C22d).imp (fun _ _ _ _ h => Bx.un h), FpX.binds (ps := ["self", "pin"]) fun _ _ _ _ _ _ us hl => match us, hl with | [_, _], _ => rfl, kbn14 fun us ws h1 h2 => match us, ws, h1, h2 with | [_], [_], _, _ => rfl⟩,
      ⟨fpY, _, ⟨ipY, npY, FpY.kp⟩, (ok_wp FpY pt L L7 MN TTr FxT mC ⟨fpI, _, MkI, GI, bI⟩ C15d).imp (fun _ _ _ _ h => Bx.un h), FpY.binds (ps := ["self", "x", "y"]) fun _ _ _ _ _ _ us hl => match us, hl with | [_, _, _], _ => rfl, kbnR fun us ws h1 h2 => match us, ws, h1, h2 with | [_], [_, _], _, _ => rfl⟩⟩
    have GA := ok_ali (P := l.prog) (w := w) (base := base) FaI B n_any pt at_ mC L8 MB MF TTr FxT C16d
    have bA := FaI.binds (ps := ["self", "pictures"]) fun _ _ _ _ _ _ us hl => match us, hl with | [_, _], _ => rfl
    have MkA : Mk K CA faI := ⟨amk, iaI, naI, akc⟩
    have IA : ∃ (fI : Addr) (fd : FuncData), Mk K CA fI ∧ FnOk l.prog w K mg base (L2.CX l.prog w) 4 fI fd ["self", "pictures"] (spAI K C CA CB CF CT) ∧ Binds K fd ["self", "pictures"] [] := ⟨faI, _, MkA, GA, bA⟩
    have TA : Ac l.prog w K mg base C CA CB CF CT := ⟨mA, at_, an_, ⟨hx1, hx2⟩, hx3, ⟨faI, _, MkA, GA, bA, kbn14 fun us ws h1 h2 => match us, ws, h1, h2 with | [_], [_], _, _ => rfl⟩, ⟨faE, _, ok_eqA FaE B at_ TP mA, iaE, naE, FaE.binds (ps := ["self", "other"]) fun _ _ _ _ _ _ us hl => match us, hl with | [_, _], _ => rfl⟩, ⟨faL, _, ok_lenA FaL B at_, iaL, naL, FaL.binds (ps := ["self"]) fun _ _ _ _ _ _ us hl => match us, hl with | [_], _ => rfl⟩, ⟨faS, _, ok_strA FaS B at_ TP, iaS, naS, FaS.binds (ps := ["self"]) fun _ _ _ _ _ _ us hl => match us, hl with | [_], _ => rfl⟩⟩
    have AO : Ao l.prog w K mg base C CA CB CE CP CQ CW CF CT := ⟨⟨faW, _, ⟨iaW, naW, FaW.kp⟩, (ok_wip FaW pt at_ mA IA C47d).imp (fun _ _ _ _ h => Bx.un h), FaW.binds (ps := ["self", "picture"]) fun _ _ _ _ _ _ us hl => match us, hl with | [_, _], _ => rfl, kbn14 fun us ws h1 h2 => match us, ws, h1, h2 with | [_], [_], _, _ => rfl⟩,
      ⟨faJ, _, ⟨iaJ, naJ, FaJ.kp⟩, (ok_jo FaJ at_ mA IA C51d).imp (fun _ _ _ _ h => Bx.un h), FaJ.binds (ps := ["self", "other"]) fun _ _ _ _ _ _ us hl => match us, hl with | [_, _], _ => rfl, kbn14 fun us ws h1 h2 => match us, ws, h1, h2 with | [_], [_], _, _ => rfl⟩,
      ⟨faP, _, ⟨iaP, naP, FaP.kp⟩, (ok_pk FaP B at_ mA IA C25d).imp (fun _ _ _ _ h => Bx.un h), FaP.binds (ps := ["self", "numbers"]) fun _ _ _ _ _ _ us hl => match us, hl with | [_, _], _ => rfl, kbn14 fun us ws h1 h2 => match us, ws, h1, h2 with | [_], [_], _, _ => rfl⟩,
      ⟨faO, _, ⟨iaO, naO, FaO.kp⟩, (ok_wt FaO B at_ mA IA C25d).imp (fun _ _ _ _ h => Bx.un h), FaO.binds (ps := ["self", "numbers"]) fun _ _ _ _ _ _ us hl => match us, hl with | [_, _], _ => rfl, kbn14 fun us ws h1 h2 => match us, ws, h1, h2 with | [_], [_], _, _ => rfl⟩,
      ⟨faR, _, ⟨iaR, naR, FaR.kp⟩, (ok_ia FaR pt at_ mA IA PO).imp (fun _ _ _ _ h => Bx.un h), FaR.binds (ps := ["self", "pins"]) fun _ _ _ _ _ _ us hl => match us, hl with | [_, _], _ => rfl, kbn14 fun us ws h1 h2 => match us, ws, h1, h2 with | [_], [_], _, _ => rfl⟩,
      ⟨faU, _, ⟨iaU, naU, FaU.kp⟩, (ok_wpA FaU pt at_ mA IA PO).imp (fun _ _ _ _ h => Bx.un h), FaU.binds (ps := ["self", "pin"]) fun _ _ _ _ _ _ us hl => match us, hl with | [_, _], _ => rfl, kbn14 fun us ws h1 h2 => match us, ws, h1, h2 with | [_], [_], _, _ => rfl⟩,
      ⟨faV, _, ⟨iaV, naV, FaV.kp⟩, (ok_wq FaV B n_zip pt at_ mA IA PO ME MF C29d).imp (fun _ _ _ _ h => Bx.un h), FaV.binds (ps := ["self", "places"]) fun _ _ _ _ _ _ us hl => match us, hl with | [_, _], _ => rfl, kbn14 fun us ws h1 h2 => match us, ws, h1, h2 with | [_], [_], _, _ => rfl⟩⟩
    have C53d : Callee l.prog w K mg base CX0 1 "_law_lens" ["_law_script"] (spLens K) := ⟨f53, _, PySem.W.mg_of X G a53, F53.kp, F53.binds (ps := ["_law_script"]) fun _ _ _ _ _ _ us hl => match us, hl with | [_], _ => rfl, ok_lens F53 B⟩
    have C54d : Callee l.prog w K mg base CX0 1 "_law_shot" ["_law_lens_here", "_law_many"] spShot := ⟨f54, _, PySem.W.mg_of X G a54, F54.kp, F54.binds (ps := ["_law_lens_here", "_law_many"]) fun _ _ _ _ _ _ us hl => match us, hl with | [_, _], _ => rfl, ok_shot F54 B⟩
    have C55d : Callee l.prog w K mg base CX0 2 "_law_pick" ["_law_lens_here", "_law_some_here"] spPick := ⟨f55, _, PySem.W.mg_of X G a55, F55.kp, F55.binds (ps := ["_law_lens_here", "_law_some_here"]) fun _ _ _ _ _ _ us hl => match us, hl with | [_, _], _ => rfl, ok_pick F55 B C54d⟩
    have C56d : Callee l.prog w K mg base CX0 3 "_law_places" ["_law_lens_here", "_law_pins"] spPlc := ⟨f56, _, PySem.W.mg_of X G a56, F56.kp, F56.binds (ps := ["_law_lens_here", "_law_pins"]) fun _ _ _ _ _ _ us hl => match us, hl with | [_, _], _ => rfl, ok_plc F56 B C54d C55d⟩
    have C57d : Callee l.prog w K mg base CX0 4 "_law_all" ["_law_lens_here", "_law_pins", "_law_many"] spAll := ⟨f57, _, PySem.W.mg_of X G a57, F57.kp, F57.binds (ps := ["_law_lens_here", "_law_pins", "_law_many"]) fun _ _ _ _ _ _ us hl => match us, hl with | [_, _, _], _ => rfl, ok_all F57 B C54d C56d⟩
    have C58d : Callee l.prog w K mg base CX0 8 "_law_made" ["_law_told"] (spMade C) := ⟨f58, _, PySem.W.mg_of X G a58, F58.kp, F58.binds (ps := ["_law_told"]) fun _ _ _ _ _ _ us hl => match us, hl with | [_], _ => rfl, ok_made F58 B TP⟩
    have C59d : Callee l.prog w K mg base CX0 4 "_law_has" ["_law_album", "_law_told"] (spHas CA C) := ⟨f59, _, PySem.W.mg_of X G a59, F59.kp, F59.binds (ps := ["_law_album", "_law_told"]) fun _ _ _ _ _ _ us hl => match us, hl with | [_, _], _ => rfl, ok_has F59 B pt TA⟩
    have C60d : Callee l.prog w K mg base CX0 2 "_law_some" ["_law_lens_here", "_law_many"] spSome := ⟨f60, _, PySem.W.mg_of X G a60, F60.kp, F60.binds (ps := ["_law_lens_here", "_law_many"]) fun _ _ _ _ _ _ us hl => match us, hl with | [_, _], _ => rfl, ok_some F60 B C54d⟩
    have C61d : Callee l.prog w K mg base CX0 9 "_law_made_right" ["_law_lens_here", "_law_told"] spMR := ⟨f61, _, PySem.W.mg_of X G a61, F61.kp, F61.binds (ps := ["_law_lens_here", "_law_told"]) fun _ _ _ _ _ _ us hl => match us, hl with | [_, _], _ => rfl, ok_mr F61 B TP TA C58d C59d⟩
    have C62d : Callee l.prog w K mg base CX0 9 "_law_changed_right" ["_law_lens_here", "_law_told"] spCR := ⟨f62, _, PySem.W.mg_of X G a62, F62.kp, F62.binds (ps := ["_law_lens_here", "_law_told"]) fun _ _ _ _ _ _ us hl => match us, hl with | [_, _], _ => rfl, ok_cr F62 B TP TA AO C58d C57d C54d C59d C60d⟩
    have C63d : Callee l.prog w K mg base CX0 2 "_law_order" ["_law_lens_here", "_law_many"] spOrd := ⟨f63, _, PySem.W.mg_of X G a63, F63.kp, F63.binds (ps := ["_law_lens_here", "_law_many"]) fun _ _ _ _ _ _ us hl => match us, hl with | [_, _], _ => rfl, ok_ord F63 B C54d⟩
    have C64d : Callee l.prog w K mg base CX0 10 "_law_pins_right" ["_law_lens_here", "_law_told"] spPR := ⟨f64, _, PySem.W.mg_of X G a64, F64.kp, F64.binds (ps := ["_law_lens_here", "_law_told"]) fun _ _ _ _ _ _ us hl => match us, hl with | [_, _], _ => rfl, ok_pr F64 B n_zip TP TA AO C58d C63d C54d C59d C55d⟩
    have mH := PySem.W.mg_of X G a65
    have hm1 : (P1, qRF) ∈ [(P1, qRF), (P2, qPX)] := by simp
    have hu1 : ∀ x ∈ [(P1, qRF), (P2, qPX)], x.1 = P1 → x.2 = qRF := fun x hx e => by
      simp only [List.mem_cons, List.not_mem_nil, or_false] at hx
      rcases hx with rfl | rfl
      · exact rfl
      · exact absurd e nPP
    have hm2 : (P2, qPX) ∈ [(P1, qRF), (P2, qPX)] := by simp
    have hu2 : ∀ x ∈ [(P1, qRF), (P2, qPX)], x.1 = P2 → x.2 = qPX := fun x hx e => by
      simp only [List.mem_cons, List.not_mem_nil, or_false] at hx
      rcases hx with rfl | rfl
      · exact absurd e.symm nPP
      · exact rfl
    have TB1 := TBs (c66, P1) (by simp)
    have TB2 := TBs (c67, P2) (by simp)
    have NK1 := nokB_ok hk1
    have NK2 := nokB_ok hk2
    have C66d := ok_rf hm1 hu1 l66 cc66 TB1 B n_repr TP TA AO S Sm NK1 NK2 F65 mH C58d C55d C54d
    have C67d := ok_px hm2 hu2 l67 cc67 TB2 B n_repr TP TA AO S Sm F65 mH C58d C55d C54d
    exact ok_law F68 B C53d C57d C55d C54d C61d C62d C64d ⟨f66, _, PySem.W.mg_of X G a66, F66.kp, F66.binds (ps := ["_law_lens_here", "_law_told"]) fun _ _ _ _ _ _ us hl => match us, hl with | [_, _], _ => rfl, C66d⟩ ⟨f67, _, PySem.W.mg_of X G a67, F67.kp, F67.binds (ps := ["_law_lens_here", "_law_told"]) fun _ _ _ _ _ _ us hl => match us, hl with | [_, _], _ => rfl, C67d⟩
end K14

open PySem PySem.W PyProof.Rows in
set_option maxRecDepth 100000 in
set_option maxHeartbeats 0 in
theorem PySem.Challenge.cw_farseen_k14_albums_made_changed_and_refu_holds : PySem.Challenge.rw_farseen_k14_albums_made_changed_and_refu.Holds := by
  w_on; o_law; k_head; (case hw => w_witness2)
  k_fill
  refine GG.walk_g (l := PySem.Challenge.rw_farseen_k14_albums_made_changed_and_refu) (n := 63) (k := 14) (x := "_law_script") (CX := fun _ => L2.CX0) rfl (by decide) rfl ⟨rfl, by decide, by decide⟩ (fun w h Y => PySem.W.km_in_of Y) ?F (fun _ _ _ _ _ z => z)
  case F =>
    intro w mg fa h Y KX G hmg
    refine' K14.all_mk (P1 := 649) (P2 := 656) KX G hmg (PySem.W.km_tabs_of Y 649 (by decide)) (PySem.W.km_tabs_of Y 656 (by decide)) (by decide) ?gC ?gCA ?gCS ?gCB ?gCE ?gCQ ?gCP ?gCW ?gCF ?gCT ?gCN ?gL ?g4 ?g7 ?g8 ?ixB ?txB ?ixE ?txE ?ixQ ?txQ ?ixP ?txP ?ixW ?txW ?ixF ?txF ?ixT ?txT ?ixN ?txN ?ipI ?npI ?ipE ?npE ?ipS ?npS ?ipO ?npO ?ipX ?npX ?ipY ?npY ?iaI ?naI ?iaL ?naL ?iaE ?naE ?iaS ?naS ?iaW ?naW ?iaJ ?naJ ?iaP ?naP ?iaO ?naO ?iaR ?naR ?iaU ?naU ?iaV ?naV ?lxB ?cxB ?kxB ?lxE ?cxE ?kxE ?lxQ ?cxQ ?kxQ ?lxP ?cxP ?kxP ?lxW ?cxW ?kxW ?lxF ?cxF ?kxF ?lxT ?cxT ?kxT ?lxN ?cxN ?kxN ?lpI ?cpI ?kpI ?lpE ?cpE ?kpE ?lpS ?cpS ?kpS ?lpO ?cpO ?kpO ?lpX ?cpX ?kpX ?lpY ?cpY ?kpY ?laI ?caI ?kaI ?laL ?caL ?kaL ?laE ?caE ?kaE ?laS ?caS ?kaS ?laW ?caW ?kaW ?laJ ?caJ ?kaJ ?laP ?caP ?kaP ?laO ?caO ?kaO ?laR ?caR ?kaR ?laU ?caU ?kaU ?laV ?caV ?kaV ?hB ?hE ?hQ ?hP ?hW ?hF ?hT ?hN ?hK ?hC ?hA ?hk1 ?hk2 ?hx1 ?hx2 ?hx3 ?a14 ?l14 ?cc14 ?k14 ?a15 ?l15 ?cc15 ?k15 ?a16 ?l16 ?cc16 ?k16 ?a17 ?l17 ?cc17 ?k17 ?a20 ?l20 ?cc20 ?k20 ?a21 ?l21 ?cc21 ?k21 ?a22 ?l22 ?cc22 ?k22 ?a23 ?l23 ?cc23 ?k23 ?a24 ?l24 ?cc24 ?k24 ?a25 ?l25 ?cc25 ?k25 ?a28 ?l28 ?cc28 ?k28 ?a29 ?l29 ?cc29 ?k29 ?a30 ?l30 ?cc30 ?k30 ?a32 ?l32 ?cc32 ?k32 ?a47 ?l47 ?cc47 ?k47 ?a51 ?l51 ?cc51 ?k51 ?a53 ?l53 ?cc53 ?k53 ?a54 ?l54 ?cc54 ?k54 ?a55 ?l55 ?cc55 ?k55 ?a56 ?l56 ?cc56 ?k56 ?a57 ?l57 ?cc57 ?k57 ?a58 ?l58 ?cc58 ?k58 ?a59 ?l59 ?cc59 ?k59 ?a60 ?l60 ?cc60 ?k60 ?a61 ?l61 ?cc61 ?k61 ?a62 ?l62 ?cc62 ?k62 ?a63 ?l63 ?cc63 ?k63 ?a64 ?l64 ?cc64 ?k64 ?a65 ?l65 ?cc65 ?k65 ?a66 ?l66 ?cc66 ?k66 ?a67 ?l67 ?cc67 ?k67 ?a68 ?l68 ?cc68 ?k68 ?hd1 ?nT1 ?hd2 ?nT2 ?z_isinstance ?z_int ?z_bool ?z_list ?z_tuple ?z_all ?z_len ?z_range ?z_abs ?z_str ?z_sum ?z_min ?z_enumerate ?z_set ?z_repr ?z_any ?z_zip
    (case gC => k_is)
    (case gCA => k_is)
    (case gCS => k_is)
    (case gCB => k_is)
    (case gCE => k_is)
    (case gCQ => k_is)
    (case gCP => k_is)
    (case gCW => k_is)
    (case gCF => k_is)
    (case gCT => k_is)
    (case gCN => k_is)
    (case gL => k_is)
    (case g4 => k_is)
    (case g7 => k_is)
    (case g8 => k_is)
    (case ixB => k_is)
    (case txB => k_is)
    (case ixE => k_is)
    (case txE => k_is)
    (case ixQ => k_is)
    (case txQ => k_is)
    (case ixP => k_is)
    (case txP => k_is)
    (case ixW => k_is)
    (case txW => k_is)
    (case ixF => k_is)
    (case txF => k_is)
    (case ixT => k_is)
    (case txT => k_is)
    (case ixN => k_is)
    (case txN => k_is)
    (case ipI => k_is)
    (case npI => k_is)
    (case ipE => k_is)
    (case npE => k_is)
    (case ipS => k_is)
    (case npS => k_is)
    (case ipO => k_is)
    (case npO => k_is)
    (case ipX => k_is)
    (case npX => k_is)
    (case ipY => k_is)
    (case npY => k_is)
    (case iaI => k_is)
    (case naI => k_is)
    (case iaL => k_is)
    (case naL => k_is)
    (case iaE => k_is)
    (case naE => k_is)
    (case iaS => k_is)
    (case naS => k_is)
    (case iaW => k_is)
    (case naW => k_is)
    (case iaJ => k_is)
    (case naJ => k_is)
    (case iaP => k_is)
    (case naP => k_is)
    (case iaO => k_is)
    (case naO => k_is)
    (case iaR => k_is)
    (case naR => k_is)
    (case iaU => k_is)
    (case naU => k_is)
    (case iaV => k_is)
    (case naV => k_is)
    (case lxB => k_is)
    (case cxB => k_is)
    (case kxB => k_is)
    (case lxE => k_is)
    (case cxE => k_is)
    (case kxE => k_is)
    (case lxQ => k_is)
    (case cxQ => k_is)
    (case kxQ => k_is)
    (case lxP => k_is)
    (case cxP => k_is)
    (case kxP => k_is)
    (case lxW => k_is)
    (case cxW => k_is)
    (case kxW => k_is)
    (case lxF => k_is)
    (case cxF => k_is)
    (case kxF => k_is)
    (case lxT => k_is)
    (case cxT => k_is)
    (case kxT => k_is)
    (case lxN => k_is)
    (case cxN => k_is)
    (case kxN => k_is)
    (case lpI => k_is)
    (case cpI => k_is)
    (case kpI => k_is)
    (case lpE => k_is)
    (case cpE => k_is)
    (case kpE => k_is)
    (case lpS => k_is)
    (case cpS => k_is)
    (case kpS => k_is)
    (case lpO => k_is)
    (case cpO => k_is)
    (case kpO => k_is)
    (case lpX => k_is)
    (case cpX => k_is)
    (case kpX => k_is)
    (case lpY => k_is)
    (case cpY => k_is)
    (case kpY => k_is)
    (case laI => k_is)
    (case caI => k_is)
    (case kaI => k_is)
    (case laL => k_is)
    (case caL => k_is)
    (case kaL => k_is)
    (case laE => k_is)
    (case caE => k_is)
    (case kaE => k_is)
    (case laS => k_is)
    (case caS => k_is)
    (case kaS => k_is)
    (case laW => k_is)
    (case caW => k_is)
    (case kaW => k_is)
    (case laJ => k_is)
    (case caJ => k_is)
    (case kaJ => k_is)
    (case laP => k_is)
    (case caP => k_is)
    (case kaP => k_is)
    (case laO => k_is)
    (case caO => k_is)
    (case kaO => k_is)
    (case laR => k_is)
    (case caR => k_is)
    (case kaR => k_is)
    (case laU => k_is)
    (case caU => k_is)
    (case kaU => k_is)
    (case laV => k_is)
    (case caV => k_is)
    (case kaV => k_is)
    (case hB => first | kernel_rfl | k_is | rfl)
    (case hE => first | kernel_rfl | k_is | rfl)
    (case hQ => first | kernel_rfl | k_is | rfl)
    (case hP => first | kernel_rfl | k_is | rfl)
    (case hW => first | kernel_rfl | k_is | rfl)
    (case hF => first | kernel_rfl | k_is | rfl)
    (case hT => first | kernel_rfl | k_is | rfl)
    (case hN => first | kernel_rfl | k_is | rfl)
    (case hK => first | kernel_rfl | k_is | rfl)
    (case hC => first | kernel_rfl | k_is | rfl)
    (case hA => first | kernel_rfl | k_is | rfl)
    (case hk1 => first | kernel_rfl | k_is | rfl)
    (case hk2 => first | kernel_rfl | k_is | rfl)
    (case hx1 => first | kernel_rfl | k_is | rfl)
    (case hx2 => first | kernel_rfl | k_is | rfl)
    (case hx3 => first | kernel_rfl | k_is | rfl)
    (case a14 => k_is)
    (case l14 => k_is)
    (case cc14 => k_is)
    (case k14 => k_is)
    (case a15 => k_is)
    (case l15 => k_is)
    (case cc15 => k_is)
    (case k15 => k_is)
    (case a16 => k_is)
    (case l16 => k_is)
    (case cc16 => k_is)
    (case k16 => k_is)
    (case a17 => k_is)
    (case l17 => k_is)
    (case cc17 => k_is)
    (case k17 => k_is)
    (case a20 => k_is)
    (case l20 => k_is)
    (case cc20 => k_is)
    (case k20 => k_is)
    (case a21 => k_is)
    (case l21 => k_is)
    (case cc21 => k_is)
    (case k21 => k_is)
    (case a22 => k_is)
    (case l22 => k_is)
    (case cc22 => k_is)
    (case k22 => k_is)
    (case a23 => k_is)
    (case l23 => k_is)
    (case cc23 => k_is)
    (case k23 => k_is)
    (case a24 => k_is)
    (case l24 => k_is)
    (case cc24 => k_is)
    (case k24 => k_is)
    (case a25 => k_is)
    (case l25 => k_is)
    (case cc25 => k_is)
    (case k25 => k_is)
    (case a28 => k_is)
    (case l28 => k_is)
    (case cc28 => k_is)
    (case k28 => k_is)
    (case a29 => k_is)
    (case l29 => k_is)
    (case cc29 => k_is)
    (case k29 => k_is)
    (case a30 => k_is)
    (case l30 => k_is)
    (case cc30 => k_is)
    (case k30 => k_is)
    (case a32 => k_is)
    (case l32 => k_is)
    (case cc32 => k_is)
    (case k32 => k_is)
    (case a47 => k_is)
    (case l47 => k_is)
    (case cc47 => k_is)
    (case k47 => k_is)
    (case a51 => k_is)
    (case l51 => k_is)
    (case cc51 => k_is)
    (case k51 => k_is)
    (case a53 => k_is)
    (case l53 => k_is)
    (case cc53 => k_is)
    (case k53 => k_is)
    (case a54 => k_is)
    (case l54 => k_is)
    (case cc54 => k_is)
    (case k54 => k_is)
    (case a55 => k_is)
    (case l55 => k_is)
    (case cc55 => k_is)
    (case k55 => k_is)
    (case a56 => k_is)
    (case l56 => k_is)
    (case cc56 => k_is)
    (case k56 => k_is)
    (case a57 => k_is)
    (case l57 => k_is)
    (case cc57 => k_is)
    (case k57 => k_is)
    (case a58 => k_is)
    (case l58 => k_is)
    (case cc58 => k_is)
    (case k58 => k_is)
    (case a59 => k_is)
    (case l59 => k_is)
    (case cc59 => k_is)
    (case k59 => k_is)
    (case a60 => k_is)
    (case l60 => k_is)
    (case cc60 => k_is)
    (case k60 => k_is)
    (case a61 => k_is)
    (case l61 => k_is)
    (case cc61 => k_is)
    (case k61 => k_is)
    (case a62 => k_is)
    (case l62 => k_is)
    (case cc62 => k_is)
    (case k62 => k_is)
    (case a63 => k_is)
    (case l63 => k_is)
    (case cc63 => k_is)
    (case k63 => k_is)
    (case a64 => k_is)
    (case l64 => k_is)
    (case cc64 => k_is)
    (case k64 => k_is)
    (case a65 => k_is)
    (case l65 => k_is)
    (case cc65 => k_is)
    (case k65 => k_is)
    (case a66 => k_is)
    (case l66 => k_is)
    (case cc66 => k_is)
    (case k66 => k_is)
    (case a67 => k_is)
    (case l67 => k_is)
    (case cc67 => k_is)
    (case k67 => k_is)
    (case a68 => k_is)
    (case l68 => k_is)
    (case cc68 => k_is)
    (case k68 => k_is)
    (case hd1 => first | kernel_rfl | rfl)
    (case nT1 => first | kernel_rfl | rfl)
    (case hd2 => first | kernel_rfl | rfl)
    (case nT2 => first | kernel_rfl | rfl)
    (case z_isinstance => k_is)
    (case z_int => k_is)
    (case z_bool => k_is)
    (case z_list => k_is)
    (case z_tuple => k_is)
    (case z_all => k_is)
    (case z_len => k_is)
    (case z_range => k_is)
    (case z_abs => k_is)
    (case z_str => k_is)
    (case z_sum => k_is)
    (case z_min => k_is)
    (case z_enumerate => k_is)
    (case z_set => k_is)
    (case z_repr => k_is)
    (case z_any => k_is)
    (case z_zip => k_is)
