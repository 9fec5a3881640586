import PyProof.Rows.All
import Wide.All
import OpenK.AllK
import Wide.FinOn
import HandS.ForMost
import HandS.IsInst
import HandS.Wide
import HandS.ExcInit
import HandS.WordsExc
import HandS.SetKeys
import HandS.Zip
import HandS.Style
import HandS.Text
import HandS.Conv
import HandS.ExcIs
import HandS.FStr
import KE.KCallOwn
import HandS.OwnEq
import PyProof.InstEq
import HandS.Defaults
import HandS.MakeKwOnly
import HandS.ExcField
import KE.KExcIs
import HandS.ExcValue
import HandS.MakeKw
import HandS.Walk
import HandS.TupAny
import HandS.EndTab
import HandS.HeadWalk
import PyProof.ReprRoads
import HandS.NestedK
import HandS.Codes
import HandS.StrMore
import KE.IntTextLaws
import HandS.ClsMeth
import HandS.Iter
import HandS.Flow
import HandS.Lambda
import KE.KNestM
import PySem.Challenge.RW_farseen_k17_texts_of_pictures_and_albums
set_option Elab.async false
set_option linter.all false
set_option maxRecDepth 100000
set_option maxHeartbeats 8000000
namespace K17
open PySem PySem.Spec PyProof.Rows L2
def top (i : Nat) : Stmt := PySem.Challenge.pw_farseen_k17_texts_of_pictures_and_albums.main.body.getD i (.Pass ⟨0, 0, 0, 0⟩)
def inClass (s : Stmt) (i : Nat) : Stmt := match s with
  | .ClassDef _ _ _ b _ _ _ _ _ _ _ => b.getD i (.Pass ⟨0, 0, 0, 0⟩)
  | _ => .Pass ⟨0, 0, 0, 0⟩
/-! ### values: kinds -/
def isI : V → Bool
  | .int _ => true
  | _ => false
/-- what is told of the class of pictures, so that isinstance asks its instances -/
structure PicC (K : PySem.W.Frag) (C : Addr) : Prop where
  cls : Cls K C
  ha : PySem.W.findIn K (.ref C) "__class__" = some (some (.builtin "object.__class__"))
  hn : PySem.W.specialIn K (.builtin "object.__class__") "__get__" = some (some (.builtin "getset_descriptor.__get__"))
  ht : PySem.W.takesIn K (.builtin "object.__class__") = some true
  hm : PySem.W.mroIn K C (.type "object") = some true
  ki : PySem.W.kitOne K (.ref C) (.type "int") = some false
  kb : PySem.W.kitOne K (.ref C) (.type "bool") = some false
  kt : PySem.W.kitOne K (.ref C) (.type "tuple") = some false
  ks : PySem.W.kitAny K (.ref C) [.type "list", .type "tuple"] = some false
/-- a value of a kind that is looked at; whether it is a list or a tuple -/
inductive Kd (K : PySem.W.Frag) (H : Hp) : V → Bool → Prop
  | non : Kd K H .non false
  | bl (b : Bool) : Kd K H (.bl b) false
  | int (i : Int) : Kd K H (.int i) false
  | str (x : Str) : Kd K H (.str x) false
  | lst {a : Addr} {xs : List V} (e : H a = some (.lst xs)) : Kd K H (.ref a) true
  | tup {a : Addr} {xs : List V} (e : H a = some (.tup xs)) : Kd K H (.ref a) true
  | dK {a : Addr} {kvs : List (Key × V)} (e : H a = some (.dK kvs)) : Kd K H (.ref a) false
  | ins {a C dx : Addr} {fs : List (Str × V)} (e : H a = some (.ins C dx fs)) (P : PicC K C) : Kd K H (.ref a) false
theorem Kd.same {K : PySem.W.Frag} {H H' : Hp} {v : V} {t : Bool} (k : Kd K H v t) (s : Same H H') : Kd K H' v t := by
  cases k with
  | non => exact .non
  | bl b => exact .bl b
  | int i => exact .int i
  | str x => exact .str x
  | lst e => exact .lst (s _ _ e)
  | tup e => exact .tup (s _ _ e)
  | dK e => exact .dK (s _ _ e)
  | ins e P => exact .ins (s _ _ e) P
theorem no_two {K : PySem.W.Frag} {x : String} (h1 : kitB x "list" = some false) (h2 : kitB x "tuple" = some false) : PySem.W.kitAny K (.type x) [.type "list", .type "tuple"] = some false :=
  kitAny_cons (kit_ty h1) (fun _ => kitAny_cons (kit_ty h2) (fun _ => kitAny_nil) (fun z => nomatch z)) (fun z => nomatch z)
/-- what isinstance is told of it -/
theorem Kd.told {K : PySem.W.Frag} {H : Hp} {v : V} {t : Bool} (k : Kd K H v t) : ∃ (u : Value) (b c : Bool), TyX K H v u ∧ PySem.W.kitOne K u (.type "int") = some b ∧ PySem.W.kitOne K u (.type "bool") = some c ∧ (b && !c) = isI v ∧ PySem.W.kitAny K u [.type "list", .type "tuple"] = some t := by
  cases k with
  | non => exact ⟨_, _, _, .base .non, kit_ty (by decide +kernel : kitB _ _ = some false), kit_ty (by decide +kernel : kitB _ _ = some false), rfl, no_two (by decide +kernel) (by decide +kernel)⟩
  | bl b => exact ⟨_, _, _, .base (.bl b), kit_ty (by decide +kernel : kitB _ _ = some true), kit_ty (by decide +kernel : kitB _ _ = some true), rfl, no_two (by decide +kernel) (by decide +kernel)⟩
  | int i => exact ⟨_, _, _, .base (.int i), kit_ty (by decide +kernel : kitB _ _ = some true), kit_ty (by decide +kernel : kitB _ _ = some false), rfl, no_two (by decide +kernel) (by decide +kernel)⟩
  | str x => exact ⟨_, _, _, .base (.str x), kit_ty (by decide +kernel : kitB _ _ = some false), kit_ty (by decide +kernel : kitB _ _ = some false), rfl, no_two (by decide +kernel) (by decide +kernel)⟩
  | lst e => exact ⟨_, _, _, .base (.lst e), kit_ty (by decide +kernel : kitB _ _ = some false), kit_ty (by decide +kernel : kitB _ _ = some false), rfl, kitAny_cons (kit_ty (by decide +kernel : kitB _ _ = some true)) (fun z => nomatch z) (fun _ => rfl)⟩
  | tup e => exact ⟨_, _, _, .base (.tup e), kit_ty (by decide +kernel : kitB _ _ = some false), kit_ty (by decide +kernel : kitB _ _ = some false), rfl, kitAny_cons (kit_ty (by decide +kernel : kitB _ _ = some false)) (fun _ => kitAny_cons (kit_ty (by decide +kernel : kitB _ _ = some true)) (fun z => nomatch z) (fun _ => rfl)) (fun z => nomatch z)⟩
  | dK e => exact ⟨_, _, _, .base (.dK e), kit_ty (by decide +kernel : kitB _ _ = some false), kit_ty (by decide +kernel : kitB _ _ = some false), rfl, no_two (by decide +kernel) (by decide +kernel)⟩
  | ins e P => exact ⟨_, _, _, .base (.ins e P.cls P.ha P.hn P.ht P.hm), P.ki, P.kb, rfl, P.ks⟩
/-- a list or a tuple of these -/
def Sq (H : Hp) (a : Addr) (xs : List V) : Prop := H a = some (.lst xs) ∨ H a = some (.tup xs)
theorem Sq.same {H H' : Hp} {a : Addr} {xs : List V} (k : Sq H a xs) (s : Same H H') : Sq H' a xs := k.elim (fun e => .inl (s _ _ e)) (fun e => .inr (s _ _ e))
theorem Sq.kd {K : PySem.W.Frag} {H : Hp} {a : Addr} {xs : List V} (k : Sq H a xs) : Kd K H (.ref a) true := k.elim (fun e => .lst e) (fun e => .tup e)
theorem same_new {H : Hp} {p : Addr} {o : HO} (h : H p = none) : Same H (upd H p o) := fun b u e => by
  rw [upd_ne (ne_of_none e h)]
  exact e
theorem Same.me {H : Hp} : Same H H := fun _ _ e => e
theorem take_more {α : Type} : ∀ {l : List α} {i : Nat} {x : α}, l[i]? = some x → l.take (i + 1) = l.take i ++ [x]
  | [], i, x, h => by simp at h
  | a :: l, 0, x, h => by
    have e : a = x := Option.some.inj h
    subst e
    rfl
  | a :: l, i + 1, x, h => by
    have ih := take_more (l := l) (i := i) (x := x) h
    show a :: l.take (i + 1) = a :: l.take i ++ [x]
    rw [ih]
    rfl
/-! ### the built-in names -/
structure Bn (mg : Str → Option Value) : Prop where
  isinstance : mg "isinstance" = none
  int : mg "int" = none
  bool : mg "bool" = none
  list : mg "list" = none
  tuple : mg "tuple" = none
  all : mg "all" = none
  len : mg "len" = none
  range : mg "range" = none
  abs : mg "abs" = none
  str : mg "str" = none
  sum : mg "sum" = none
  min : mg "min" = none
  enumerate : mg "enumerate" = none
/-- a def that may be called by its name -/
def Callee (P : Program) (w : World) (K : PySem.W.Frag) (mg : Str → Option Value) (base : Heap) (CX : CXT) (k : Nat) (x : Str) (ps : List Str) (sp : Sp) : Prop :=
  ∃ (f : Addr) (fd : FuncData), mg x = some (.ref f) ∧ PySem.W.keepIn K (.ref f) = true ∧ Binds K fd ps [] ∧ FnOk P w K mg base CX k f fd ps sp
def RB (b : Bool) (H : Hp) (Q : VK) : Prop := ∀ H', Same H H' → Q (.bl b) H'
section
variable {P : Program} {w : World} {K : PySem.W.Frag} {mg : Str → Option Value} {base : Heap}
/-! ### is_integer -/
def spInt (K : PySem.W.Frag) : Sp := fun vs H Q _ => ∃ v t, vs = [v] ∧ Kd K H v t ∧ Q (.bl (isI v)) H
abbrev sInt : Stmt := top 13
theorem scInt : FnScope ["value"] ["value"] (defScope sInt) := ⟨rfl, rfl, rfl, by decide +kernel, rfl, by decide +kernel, by decide +kernel⟩
theorem ok_int {f : Addr} {fd : FuncData} (F : Fun K "is_integer" "is_integer" sInt f fd) (B : Bn mg) : FnOk P w K mg base CX0 1 f fd ["value"] (spInt K) := by
  refine F.ok scInt (fun vs H Q E h => ?_) (fun cdv A outer s H vs Q E hr h => ?_)
  · obtain ⟨v, t, rfl, _⟩ := h
    rfl
  · obtain ⟨v, t, rfl, k, q⟩ := h
    refine ⟨_, pss_one (ps_ret (pe_and ((pe_callB (r := rIsi K) call_isi (by rfl) B.isinstance boot_isinstance (pa_cons (pv 0) (pa_cons (pe_bltn (v := .ty "int") (by rfl) B.int (by decide +kernel) rfl) pa_nil)))) (pe_one (pe_not (pe_callB (r := rIsi K) call_isi (by rfl) B.isinstance boot_isinstance (pa_cons (pv 0) (pa_cons (pe_bltn (v := .ty "bool") (by rfl) B.bool (by decide +kernel) rfl) pa_nil))))))), ?_⟩
    obtain ⟨u, b, c, ty, hb, hc, e, _⟩ := k.told
    refine ⟨_, rfl, _, _, _, _, b, rfl, .ty _, ty, hb, b, rfl, ?_⟩
    cases b with
    | true =>
      refine iteT ⟨_, rfl, _, _, _, _, c, rfl, .ty _, ty, hc, c, rfl, ?_⟩
      rw [← e] at q
      simpa using q
    | false =>
      refine iteF ?_
      rw [← e] at q
      simpa using q
/-! ### is_list -/
def spIsList (K : PySem.W.Frag) : Sp := fun vs H Q _ => ∃ v t, vs = [v] ∧ Kd K H v t ∧ RB t H Q
abbrev sIsList : Stmt := top 15
theorem scIsList : FnScope ["value"] ["value"] (defScope sIsList) := ⟨rfl, rfl, rfl, by decide +kernel, rfl, by decide +kernel, by decide +kernel⟩
theorem ok_isList {f : Addr} {fd : FuncData} (F : Fun K "is_list" "is_list" sIsList f fd) (B : Bn mg) : FnOk P w K mg base CX0 1 f fd ["value"] (spIsList K) := by
  refine F.ok scIsList (fun vs H Q E h => ?_) (fun cdv A outer s H vs Q E hr h => ?_)
  · obtain ⟨v, t, rfl, _⟩ := h
    rfl
  · obtain ⟨v, t, rfl, k, q⟩ := h
    refine ⟨_, pss_one (ps_ret (pe_callB call_isiT (by rfl) B.isinstance boot_isinstance (pa_cons (pv 0) (pa_cons (pe_tup (pa_cons (pe_bltn (v := .ty "list") (by rfl) B.list (by decide +kernel) rfl) (pa_cons (pe_bltn (v := .ty "tuple") (by rfl) B.tuple (by decide +kernel) rfl) pa_nil))) pa_nil)))), ?_⟩
    refine ⟨_, rfl, by show 2 ≤ sizeLine; decide, fun p hp => ?_⟩
    obtain ⟨u, _, _, ty, _, _, _, hs⟩ := (k.same (same_new (o := .tup [.ty "list", .ty "tuple"]) hp)).told
    exact ⟨_, p, _, _, _, t, rfl, upd_same, .cons (.ty _) (.cons (.ty _) .nil), ty, hs, q _ (same_new hp)⟩
/-! ### is_within -/
def within (v : V) (l m : Int) : Bool := match v with
  | .int n => decide (l ≤ n) && decide (n ≤ m)
  | _ => false
def spWithin (K : PySem.W.Frag) : Sp := fun vs H Q _ => ∃ v t l m, vs = [v, .int l, .int m] ∧ Kd K H v t ∧ Q (.bl (within v l m)) H
abbrev sWithin : Stmt := top 14
theorem scWithin : FnScope ["value", "least", "most"] ["value", "least", "most"] (defScope sWithin) := ⟨rfl, rfl, rfl, by decide +kernel, rfl, by decide +kernel, by decide +kernel⟩
theorem ok_within {f : Addr} {fd : FuncData} (F : Fun K "is_within" "is_within" sWithin f fd) (C1 : Callee P w K mg base CX0 1 "is_integer" ["value"] (spInt K)) : FnOk P w K mg base CX0 2 f fd ["value", "least", "most"] (spWithin K) := by
  obtain ⟨f1, fd1, m1, k1, b1, G1⟩ := C1
  refine F.ok scWithin (fun vs H Q E h => ?_) (fun cdv A outer s H vs Q E hr h => ?_)
  · obtain ⟨v, t, l, m, rfl, _⟩ := h
    rfl
  · obtain ⟨v, t, l, m, rfl, k, q⟩ := h
    refine ⟨_, (pss_cons (ps_if (pt_not (pt_val (pe_call G1 (hr.mono (by decide)) rfl m1 k1 b1 .nil pass0 (pa_cons (pv 0) pa_nil)))) (pss_one (ps_ret pe_bl)) pss_nil) (pss_one (ps_ret (pe_and ((pe_or (pe_cmpR op_isN (pv 1) pe_non (nomark _)) (pe_one (pe_cmpR op_le (pv 1) (pv 0) (nomark _))))) (pe_one ((pe_or (pe_cmpR op_isN (pv 2) pe_non (nomark _)) (pe_one (pe_cmpR op_le (pv 0) (pv 2) (nomark _)))))))))), ?_⟩
    refine ⟨_, rfl, v, t, rfl, k, _, rfl, ?_⟩
    cases e : isI v with
    | false =>
      refine iteT ?_
      have : within v l m = false := by
        cases v <;> first | rfl | cases e
      rw [this] at q
      exact q
    | true =>
      obtain ⟨n, rfl⟩ : ∃ n, v = .int n := by
        cases v <;> first | exact ⟨_, rfl⟩ | cases e
      have q : Q (.bl (decide (l ≤ n) && decide (n ≤ m))) H := q
      refine iteF ⟨_, rfl, rfl, _, rfl, iteF ⟨_, rfl, _, rfl, _, _, rfl, rfl, _, rfl, ?_⟩⟩
      by_cases hl : l ≤ n
      · rw [decide_eq_true hl] at q ⊢
        exact iteT ⟨_, rfl, rfl, _, rfl, iteF ⟨_, rfl, _, rfl, _, _, rfl, rfl, q⟩⟩
      · rw [decide_eq_false hl] at q ⊢
        exact iteF q
end
end K17

namespace K17
open PySem PySem.Spec PyProof.Rows L2
def G9 : Int := 1000000000
def inB (x : V) : Bool := within x (-G9) G9
def rowB (xs : List V) : Bool := decide (xs.length = 2) && xs.all inB
/-- a value judged as a row of two -/
inductive RowV (K : PySem.W.Frag) (H : Hp) : V → Bool → Prop
  | no {v : V} (k : Kd K H v false) : RowV K H v false
  | seq {a : Addr} {xs : List V} (hs : Sq H a xs) (hk : ∀ x ∈ xs, ∃ t, Kd K H x t) (hl : xs.length ≤ 100) : RowV K H (.ref a) (rowB xs)
theorem RowV.same {K : PySem.W.Frag} {H H' : Hp} {v : V} {b : Bool} (k : RowV K H v b) (s : Same H H') : RowV K H' v b := by
  cases k with
  | no k => exact .no (k.same s)
  | seq hs hk hl => exact .seq (hs.same s) (fun x hx => let ⟨t, k⟩ := hk x hx; ⟨t, k.same s⟩) hl
/-- a value judged as rows of two -/
inductive RowsV (K : PySem.W.Frag) (H : Hp) : V → Option (List Bool) → Prop
  | no {v : V} (k : Kd K H v false) : RowsV K H v none
  | seq {a : Addr} {xs : List V} {bs : List Bool} (hs : Sq H a xs) (hk : Paired (RowV K H) xs bs) (hl : xs.length ≤ 100) : RowsV K H (.ref a) (some bs)
theorem paired_same {K : PySem.W.Frag} {H H' : Hp} {xs : List V} {bs : List Bool} (h : Paired (RowV K H) xs bs) (s : Same H H') : Paired (RowV K H') xs bs := by
  induction h with
  | nil => exact .nil
  | cons a _ ih => exact .cons (a.same s) ih
theorem RowsV.same {K : PySem.W.Frag} {H H' : Hp} {v : V} {b : Option (List Bool)} (k : RowsV K H v b) (s : Same H H') : RowsV K H' v b := by
  cases k with
  | no k => exact .no (k.same s)
  | seq hs hk hl => exact .seq (hs.same s) (paired_same hk s) hl
def rowsB : Option (List Bool) → Bool
  | none => false
  | some bs => bs.all id
def plB : Option (List Bool) → Bool
  | none => false
  | some bs => bs.all id && decide (4 ≤ bs.length) && decide (bs.length ≤ 7)
theorem paired_get {α β : Type} {R : α → β → Prop} {xs : List α} {ys : List β} (h : Paired R xs ys) : ∀ {i : Nat} {x : α}, xs[i]? = some x → ∃ y, ys[i]? = some y ∧ R x y := by
  induction h with
  | nil =>
    intro i x e
    simp at e
  | cons a _ ih =>
    intro i x e
    cases i with
    | zero =>
      have z := Option.some.inj e
      subst z
      exact ⟨_, rfl, a⟩
    | succ i => exact ih (by simpa using e)
theorem len100 {α β : Type} {xs : List α} (h : xs.length ≤ 100) (i : Nat) (f : α → β) : ((xs.take i).map f).length < sizeLine := by
  rw [List.length_map, List.length_take]
  exact small1000 (Nat.le_trans (Nat.min_le_right _ _) (by omega))
theorem all_id {xs : List V} {f : V → Bool} : (xs.map f).all id = xs.all f := by
  rw [List.all_map]
  rfl
/-- the list that a comprehension has made so far -/
def At (H0 : Hp) (D : Addr) (ys : List V) (H : Hp) : Prop := Same H0 H ∧ H D = some (.lst ys)
theorem At.step {H0 H H1 : Hp} {D : Addr} {ys zs : List V} {y : V} (hD : H0 D = none) (p : At H0 D ys H) (s : Same H H1) (e : zs = ys ++ [y]) : At H0 D zs (upd H1 D (.lst (ys ++ [y]))) := by
  refine ⟨fun b o h => ?_, by rw [upd_same, e]⟩
  rw [upd_ne (ne_of_none h hD)]
  exact s _ _ (p.1 b o h)
section
variable {P : Program} {w : World} {K : PySem.W.Frag} {mg : Str → Option Value} {base : Heap}
/-! ### is_row -/
def spRow (K : PySem.W.Frag) : Sp := fun vs H Q _ => ∃ v b, vs = [v, .int 2, .int 2] ∧ RowV K H v b ∧ RB b H Q
abbrev sRow : Stmt := top 24
abbrev nRow : List Str := ["value", "fewest", "most", "item"]
theorem scRow : FnScope nRow ["value", "fewest", "most"] (defScope sRow) := ⟨rfl, rfl, rfl, by decide +kernel, rfl, by decide +kernel, by decide +kernel⟩
theorem ok_row {f : Addr} {fd : FuncData} (F : Fun K "is_row" "is_row" sRow f fd) (B : Bn mg) (L : ∃ t, mg "LIMIT" = some (.int 1000000000 t)) (C1 : Callee P w K mg base CX0 1 "is_list" ["value"] (spIsList K)) (C2 : Callee P w K mg base CX0 2 "is_within" ["value", "least", "most"] (spWithin K)) : FnOk P w K mg base CX0 3 f fd ["value", "fewest", "most"] (spRow K) := by
  obtain ⟨f1, fd1, m1, k1, b1, G1⟩ := C1
  obtain ⟨f2, fd2, m2, k2, b2, G2⟩ := C2
  obtain ⟨tL, mL⟩ := L
  have nd := scRow.nd
  refine F.ok scRow (fun vs H Q E h => ?_) (fun cdv A outer s H vs Q E hr h => ?_)
  · obtain ⟨v, b, rfl, _⟩ := h
    rfl
  · obtain ⟨v, b, rfl, j, q⟩ := h
    cases j with
    | no k =>
      refine ⟨_, (pss_cons (ps_if (PW.pt (pw_or (pt_not (pt_val (pe_call G1 (hr.mono (by decide)) rfl m1 k1 b1 .nil pass0 (pa_cons (pv 0) pa_nil)))) (pw_or1 (pt_not (pt_chain op_le op_le (pv 1) (pe_callB call_len_seq (by rfl) B.len PySem.boot_len (pa_cons (pv 0) pa_nil)) (pv 2)))))) (pss_one (ps_ret pe_bl)) pss_nil) (pss_one (ps_ret (pe_callB (cr_all rfl) (by rfl) B.all boot_all (pa_cons (pe_lc (own := [("item", 3)]) (g := gName 3) (tt := tYes) rfl nd (pi_list (pv 0)) (blkOk_by (N := nRow) (sc := defScope sRow) (by decide +kernel)) (fun _ _ _ _ _ => pg_name (i := 3) nd rfl (Or.inl rfl)) (fun _ _ _ _ _ => pts_nil) (fun _ _ _ _ _ => (pe_call G2 (hr.mono (by decide)) rfl m2 k2 b2 .nil pass0 (pa_cons (pv 3) (pa_cons (pe_un un_neg (pe_glob (v := .int 1000000000) rfl mL ⟨_, rfl⟩)) (pa_cons (pe_glob (v := .int 1000000000) rfl mL ⟨_, rfl⟩) pa_nil)))))) pa_nil))))), ?_⟩
      exact ⟨_, rfl, v, false, rfl, k, fun H1 s1 => ⟨_, rfl, iteT (q _ s1)⟩⟩
    | @seq a xs hs hk hl =>
      have key : ∀ H1, Same H H1 → ∀ D H2, At H1 D (xs.map fun x => V.bl (inB x)) H2 → xs.length = 2 → rAll K [.ref D] H2 Q := fun H1 s1 D H2 p h2 => by
        refine ⟨D, xs.map inB, rfl, SqL.of (by rw [p.2, List.map_map]; rfl), ?_⟩
        have e : rowB xs = (xs.map inB).all id := by
          unfold rowB
          rw [decide_eq_true h2, Bool.true_and, all_id]
        rw [← e]
        exact q _ (s1.trans p.1)
      have nok : xs.length ≠ 2 → rowB xs = false := fun h => by
        unfold rowB
        rw [decide_eq_false h]
        rfl
      have sq := hs
      rcases hs with hs | hs
      · refine ⟨_, (pss_cons (ps_if (PW.pt (pw_or (pt_not (pt_val (pe_call G1 (hr.mono (by decide)) rfl m1 k1 b1 .nil pass0 (pa_cons (pv 0) pa_nil)))) (pw_or1 (pt_not (pt_chain op_le op_le (pv 1) (pe_callB call_len_seq (by rfl) B.len PySem.boot_len (pa_cons (pv 0) pa_nil)) (pv 2)))))) (pss_one (ps_ret pe_bl)) pss_nil) (pss_one (ps_ret (pe_callB (cr_all rfl) (by rfl) B.all boot_all (pa_cons (pe_lc (own := [("item", 3)]) (g := gName 3) (tt := tYes) rfl nd (pi_list (pv 0)) (blkOk_by (N := nRow) (sc := defScope sRow) (by decide +kernel)) (fun _ _ _ _ _ => pg_name (i := 3) nd rfl (Or.inl rfl)) (fun _ _ _ _ _ => pts_nil) (fun _ _ _ _ _ => (pe_call G2 (hr.mono (by decide)) rfl m2 k2 b2 .nil pass0 (pa_cons (pv 3) (pa_cons (pe_un un_neg (pe_glob (v := .int 1000000000) rfl mL ⟨_, rfl⟩)) (pa_cons (pe_glob (v := .int 1000000000) rfl mL ⟨_, rfl⟩) pa_nil)))))) pa_nil))))), ?_⟩
        refine ⟨_, rfl, _, true, rfl, sq.kd, fun H1 s1 => ⟨_, rfl, iteF ?_⟩⟩
        refine ⟨_, rfl, _, rfl, a, xs, rfl, .inl (SqL.of (s1 _ _ hs)), _, _, rfl, rfl, _, rfl, ?_⟩
        by_cases h2 : xs.length = 2
        · rw [decide_eq_true (show (2 : Int) ≤ (xs.length : Int) by omega)]
          refine iteT ⟨_, rfl, _, _, rfl, rfl, _, rfl, ?_⟩
          rw [decide_eq_true (show (xs.length : Int) ≤ 2 by omega)]
          refine iteF ⟨_, rfl, a, rfl, ⟨_, SqL.of (s1 _ _ hs)⟩, fun D hD => ?_⟩
          refine lc_list (K := K) (a := a) (xs := xs) (fun i => At H1 D ((xs.take i).map fun x => V.bl (inB x))) ⟨same_new hD, upd_same⟩ (fun i H' _ p => SqL.of (p.1 _ _ (s1 _ _ hs))) (fun i x H' hx p => ?_) (fun H' p => ?_)
          · obtain ⟨tx, kx⟩ := hk x (List.mem_of_getElem? hx)
            refine ⟨rfl, ?_⟩
            show tCall (spWithin K) [] E0 (tCons (tVar 3) (tCons _ (tCons _ tNil))) _ H' _
            refine ⟨_, rfl, _, rfl, x, tx, _, _, rfl, (kx.same s1).same p.1, _, p.2, len100 hl _ _, p.step hD Same.me ?_⟩
            rw [take_more hx, List.map_append]
            rfl
          · rw [List.take_length] at p
            exact key H1 s1 D H' p h2
        · have q2 := q _ s1
          rw [nok h2] at q2
          by_cases h3 : (2 : Int) ≤ (xs.length : Int)
          · rw [decide_eq_true h3]
            refine iteT ⟨_, rfl, _, _, rfl, rfl, _, rfl, ?_⟩
            rw [decide_eq_false (show ¬ (xs.length : Int) ≤ 2 by omega)]
            exact iteT q2
          · rw [decide_eq_false h3]
            exact iteF ⟨_, rfl, iteT q2⟩
      · refine ⟨_, (pss_cons (ps_if (PW.pt (pw_or (pt_not (pt_val (pe_call G1 (hr.mono (by decide)) rfl m1 k1 b1 .nil pass0 (pa_cons (pv 0) pa_nil)))) (pw_or1 (pt_not (pt_chain op_le op_le (pv 1) (pe_callB call_len_seq (by rfl) B.len PySem.boot_len (pa_cons (pv 0) pa_nil)) (pv 2)))))) (pss_one (ps_ret pe_bl)) pss_nil) (pss_one (ps_ret (pe_callB (cr_all rfl) (by rfl) B.all boot_all (pa_cons (pe_lc (own := [("item", 3)]) (g := gName 3) (tt := tYes) rfl nd (pi_tup (pv 0)) (blkOk_by (N := nRow) (sc := defScope sRow) (by decide +kernel)) (fun _ _ _ _ _ => pg_name (i := 3) nd rfl (Or.inl rfl)) (fun _ _ _ _ _ => pts_nil) (fun _ _ _ _ _ => (pe_call G2 (hr.mono (by decide)) rfl m2 k2 b2 .nil pass0 (pa_cons (pv 3) (pa_cons (pe_un un_neg (pe_glob (v := .int 1000000000) rfl mL ⟨_, rfl⟩)) (pa_cons (pe_glob (v := .int 1000000000) rfl mL ⟨_, rfl⟩) pa_nil)))))) pa_nil))))), ?_⟩
        refine ⟨_, rfl, _, true, rfl, sq.kd, fun H1 s1 => ⟨_, rfl, iteF ?_⟩⟩
        refine ⟨_, rfl, _, rfl, a, xs, rfl, .inr (SqT.of (s1 _ _ hs)), _, _, rfl, rfl, _, rfl, ?_⟩
        by_cases h2 : xs.length = 2
        · rw [decide_eq_true (show (2 : Int) ≤ (xs.length : Int) by omega)]
          refine iteT ⟨_, rfl, _, _, rfl, rfl, _, rfl, ?_⟩
          rw [decide_eq_true (show (xs.length : Int) ≤ 2 by omega)]
          refine iteF ⟨_, rfl, a, rfl, ⟨_, SqT.of (s1 _ _ hs)⟩, fun D hD => ?_⟩
          refine lc_tup (K := K) (a := a) (xs := xs) (fun i => At H1 D ((xs.take i).map fun x => V.bl (inB x))) ⟨same_new hD, upd_same⟩ (fun i H' _ p => SqT.of (p.1 _ _ (s1 _ _ hs))) (fun i x H' hx p => ?_) (fun H' p => ?_)
          · obtain ⟨tx, kx⟩ := hk x (List.mem_of_getElem? hx)
            refine ⟨rfl, ?_⟩
            show tCall (spWithin K) [] E0 (tCons (tVar 3) (tCons _ (tCons _ tNil))) _ H' _
            refine ⟨_, rfl, _, rfl, x, tx, _, _, rfl, (kx.same s1).same p.1, _, p.2, len100 hl _ _, p.step hD Same.me ?_⟩
            rw [take_more hx, List.map_append]
            rfl
          · rw [List.take_length] at p
            exact key H1 s1 D H' p h2
        · have q2 := q _ s1
          rw [nok h2] at q2
          by_cases h3 : (2 : Int) ≤ (xs.length : Int)
          · rw [decide_eq_true h3]
            refine iteT ⟨_, rfl, _, _, rfl, rfl, _, rfl, ?_⟩
            rw [decide_eq_false (show ¬ (xs.length : Int) ≤ 2 by omega)]
            exact iteT q2
          · rw [decide_eq_false h3]
            exact iteF ⟨_, rfl, iteT q2⟩
/-! ### are_rows, are_places -/
def spRows (K : PySem.W.Frag) : Sp := fun vs H Q _ => ∃ v o, vs = [v, .int 2] ∧ RowsV K H v o ∧ RB (rowsB o) H Q
abbrev sRows : Stmt := top 25
abbrev nRows : List Str := ["value", "size", "row"]
theorem scRows : FnScope nRows ["value", "size"] (defScope sRows) := ⟨rfl, rfl, rfl, by decide +kernel, rfl, by decide +kernel, by decide +kernel⟩
theorem ok_rows {f : Addr} {fd : FuncData} (F : Fun K "are_rows" "are_rows" sRows f fd) (B : Bn mg) (C1 : Callee P w K mg base CX0 1 "is_list" ["value"] (spIsList K)) (C2 : Callee P w K mg base CX0 3 "is_row" ["value", "fewest", "most"] (spRow K)) : FnOk P w K mg base CX0 4 f fd ["value", "size"] (spRows K) := by
  obtain ⟨f1, fd1, m1, k1, b1, G1⟩ := C1
  obtain ⟨f2, fd2, m2, k2, b2, G2⟩ := C2
  have nd := scRows.nd
  refine F.ok scRows (fun vs H Q E h => ?_) (fun cdv A outer s H vs Q E hr h => ?_)
  · obtain ⟨v, o, rfl, _⟩ := h
    rfl
  · obtain ⟨v, o, rfl, j, q⟩ := h
    cases j with
    | no k =>
      refine ⟨_, pss_one (ps_ret (pe_and ((pe_call G1 (hr.mono (by decide)) rfl m1 k1 b1 .nil pass0 (pa_cons (pv 0) pa_nil))) (pe_one (pe_callB (cr_all rfl) (by rfl) B.all boot_all (pa_cons (pe_lc (own := [("row", 2)]) (g := gName 2) (tt := tYes) rfl nd (pi_list (pv 0)) (blkOk_by (N := nRows) (sc := defScope sRows) (by decide +kernel)) (fun _ _ _ _ _ => pg_name (i := 2) nd rfl (Or.inl rfl)) (fun _ _ _ _ _ => pts_nil) (fun _ _ _ _ _ => (pe_call G2 (hr.mono (by decide)) rfl m2 k2 b2 .nil pass0 (pa_cons (pv 2) (pa_cons (pv 1) (pa_cons (pv 1) pa_nil)))))) pa_nil))))), ?_⟩
      exact ⟨_, rfl, v, false, rfl, k, fun H1 s1 => ⟨_, rfl, iteF (q _ s1)⟩⟩
    | @seq a xs bs hs hk hl =>
      have sq := hs
      rcases hs with hs | hs
      · refine ⟨_, pss_one (ps_ret (pe_and ((pe_call G1 (hr.mono (by decide)) rfl m1 k1 b1 .nil pass0 (pa_cons (pv 0) pa_nil))) (pe_one (pe_callB (cr_all rfl) (by rfl) B.all boot_all (pa_cons (pe_lc (own := [("row", 2)]) (g := gName 2) (tt := tYes) rfl nd (pi_list (pv 0)) (blkOk_by (N := nRows) (sc := defScope sRows) (by decide +kernel)) (fun _ _ _ _ _ => pg_name (i := 2) nd rfl (Or.inl rfl)) (fun _ _ _ _ _ => pts_nil) (fun _ _ _ _ _ => (pe_call G2 (hr.mono (by decide)) rfl m2 k2 b2 .nil pass0 (pa_cons (pv 2) (pa_cons (pv 1) (pa_cons (pv 1) pa_nil)))))) pa_nil))))), ?_⟩
        refine ⟨_, rfl, _, true, rfl, sq.kd, fun H1 s1 => ⟨_, rfl, iteT ?_⟩⟩
        refine ⟨_, rfl, a, rfl, ⟨_, SqL.of (s1 _ _ hs)⟩, fun D hD => ?_⟩
        refine lc_list (K := K) (a := a) (xs := xs) (fun i => At H1 D ((bs.take i).map V.bl)) ⟨same_new hD, upd_same⟩ (fun i H' _ p => SqL.of (p.1 _ _ (s1 _ _ hs))) (fun i x H' hx p => ?_) (fun H' p => ?_)
        · obtain ⟨b, hb, rx⟩ := paired_get hk hx
          refine ⟨rfl, ?_⟩
          show tCall (spRow K) [] E0 (tCons (tVar 2) (tCons (tVar 1) (tCons (tVar 1) tNil))) _ H' _
          refine ⟨_, rfl, _, rfl, _, rfl, x, b, rfl, (rx.same s1).same p.1, fun H2 s2 => ⟨_, s2 _ _ p.2, len100 (by rw [← Paired.length hk]; exact hl) _ _, p.step hD s2 ?_⟩⟩
          rw [take_more hb, List.map_append]
          rfl
        · rw [Paired.length hk, List.take_length] at p
          exact ⟨D, bs, rfl, SqL.of p.2, q _ (s1.trans p.1)⟩
      · refine ⟨_, pss_one (ps_ret (pe_and ((pe_call G1 (hr.mono (by decide)) rfl m1 k1 b1 .nil pass0 (pa_cons (pv 0) pa_nil))) (pe_one (pe_callB (cr_all rfl) (by rfl) B.all boot_all (pa_cons (pe_lc (own := [("row", 2)]) (g := gName 2) (tt := tYes) rfl nd (pi_tup (pv 0)) (blkOk_by (N := nRows) (sc := defScope sRows) (by decide +kernel)) (fun _ _ _ _ _ => pg_name (i := 2) nd rfl (Or.inl rfl)) (fun _ _ _ _ _ => pts_nil) (fun _ _ _ _ _ => (pe_call G2 (hr.mono (by decide)) rfl m2 k2 b2 .nil pass0 (pa_cons (pv 2) (pa_cons (pv 1) (pa_cons (pv 1) pa_nil)))))) pa_nil))))), ?_⟩
        refine ⟨_, rfl, _, true, rfl, sq.kd, fun H1 s1 => ⟨_, rfl, iteT ?_⟩⟩
        refine ⟨_, rfl, a, rfl, ⟨_, SqT.of (s1 _ _ hs)⟩, fun D hD => ?_⟩
        refine lc_tup (K := K) (a := a) (xs := xs) (fun i => At H1 D ((bs.take i).map V.bl)) ⟨same_new hD, upd_same⟩ (fun i H' _ p => SqT.of (p.1 _ _ (s1 _ _ hs))) (fun i x H' hx p => ?_) (fun H' p => ?_)
        · obtain ⟨b, hb, rx⟩ := paired_get hk hx
          refine ⟨rfl, ?_⟩
          show tCall (spRow K) [] E0 (tCons (tVar 2) (tCons (tVar 1) (tCons (tVar 1) tNil))) _ H' _
          refine ⟨_, rfl, _, rfl, _, rfl, x, b, rfl, (rx.same s1).same p.1, fun H2 s2 => ⟨_, s2 _ _ p.2, len100 (by rw [← Paired.length hk]; exact hl) _ _, p.step hD s2 ?_⟩⟩
          rw [take_more hb, List.map_append]
          rfl
        · rw [Paired.length hk, List.take_length] at p
          exact ⟨D, bs, rfl, SqL.of p.2, q _ (s1.trans p.1)⟩
def spPlaces (K : PySem.W.Frag) : Sp := fun vs H Q _ => ∃ v o, vs = [v, .int 2] ∧ RowsV K H v o ∧ RB (plB o) H Q
abbrev sPlaces : Stmt := top 26
theorem scPlaces : FnScope ["value", "size"] ["value", "size"] (defScope sPlaces) := ⟨rfl, rfl, rfl, by decide +kernel, rfl, by decide +kernel, by decide +kernel⟩
theorem ok_places {f : Addr} {fd : FuncData} (F : Fun K "are_places" "are_places" sPlaces f fd) (B : Bn mg) (C1 : Callee P w K mg base CX0 4 "are_rows" ["value", "size"] (spRows K)) : FnOk P w K mg base CX0 5 f fd ["value", "size"] (spPlaces K) := by
  obtain ⟨f1, fd1, m1, k1, b1, G1⟩ := C1
  refine F.ok scPlaces (fun vs H Q E h => ?_) (fun cdv A outer s H vs Q E hr h => ?_)
  · obtain ⟨v, o, rfl, _⟩ := h
    rfl
  · obtain ⟨v, o, rfl, j, q⟩ := h
    refine ⟨_, pss_one (ps_ret (pe_and ((pe_call G1 (hr.mono (by decide)) rfl m1 k1 b1 .nil pass0 (pa_cons (pv 0) (pa_cons (pv 1) pa_nil)))) (pe_one (pe_chain op_le op_le pe_int (pe_callB call_len_seq (by rfl) B.len PySem.boot_len (pa_cons (pv 0) pa_nil)) pe_int)))), ?_⟩
    refine ⟨_, rfl, _, rfl, v, o, rfl, j, fun H1 s1 => ⟨_, rfl, ?_⟩⟩
    have q2 := q _ s1
    cases hb : rowsB o with
    | false =>
      have e : plB o = false := by
        cases o with
        | none => rfl
        | some bs =>
          have hb : bs.all id = false := hb
          show (bs.all id && _ && _) = false
          rw [hb]
          rfl
      rw [e] at q2
      exact iteF q2
    | true =>
      cases j with
      | no k => cases hb
      | @seq a xs bs hs hk hl =>
        have hb : bs.all id = true := hb
        have el : xs.length = bs.length := Paired.length hk
        have e : plB (some bs) = (decide (4 ≤ bs.length) && decide (bs.length ≤ 7)) := by
          show (bs.all id && _ && _) = _
          rw [hb, Bool.true_and]
        rw [e] at q2
        refine iteT ⟨_, rfl, a, xs, rfl, hs.elim (fun z => .inl (SqL.of (s1 _ _ z))) (fun z => .inr (SqT.of (s1 _ _ z))), _, _, rfl, rfl, _, rfl, ?_⟩
        by_cases h4 : 4 ≤ bs.length
        · rw [decide_eq_true h4, Bool.true_and] at q2
          rw [decide_eq_true (show (4 : Int) ≤ (xs.length : Int) by omega)]
          refine iteT ⟨_, _, rfl, rfl, ?_⟩
          have e7 : decide ((xs.length : Int) ≤ 7) = decide (bs.length ≤ 7) := by
            rw [Bool.eq_iff_iff, decide_eq_true_iff, decide_eq_true_iff]
            omega
          rw [← e7] at q2
          exact q2
        · rw [decide_eq_false h4, Bool.false_and] at q2
          rw [decide_eq_false (show ¬ (4 : Int) ≤ (xs.length : Int) by omega)]
          exact iteF q2
end
end K17

namespace K17
open PySem PySem.Spec PyProof.Rows L2
/-- a tuple of pairs -/
def Pr (H : Hp) (a : Addr) (p : Int × Int) : Prop := H a = some (.tup [.int p.1, .int p.2])
def PT (H : Hp) (t : Addr) (ps : List (Int × Int)) : Prop := ∃ ts : List Addr, H t = some (.tup (ts.map V.ref)) ∧ Paired (Pr H) ts ps
def it (k : Nat) (p : Int × Int) : Int := if k = 0 then p.1 else p.2
/-- the steps from pin 0, across (0) and up (1) -/
def sk (k : Nat) (ps : List (Int × Int)) : List Int := (ps.drop 1).map fun p => it k p - it k (ps.headD (0, 0))
def rTu (K : PySem.W.Frag) : List V → Hp → VK → Prop := fun xs H Q => ∃ p ys, xs = [.ref p] ∧ ((SqL K H p ys ∧ ∀ l, H l = none → Q (.ref l) (upd H l (.tup ys))) ∨ (SqT K H p ys ∧ Q (.ref p) H))
theorem call_tu {X : Cx} : CallR X (.type "tuple") (rTu X.K) := call_tuple_of
def rLi (K : PySem.W.Frag) : List V → Hp → VK → Prop := fun xs H Q => ∃ p ys, xs = [.ref p] ∧ (SqL K H p ys ∨ SqT K H p ys) ∧ ∀ l, H l = none → Q (.ref l) (upd H l (.lst ys))
theorem call_li {X : Cx} : CallR X (.type "list") (rLi X.K) := call_list_of
section
variable {X : Cx} {K : PySem.W.Frag}
theorem call_tuK (h : X.K = K := by rfl) : CallR X (.type "tuple") (rTu K) := by subst h; exact call_tu
theorem call_liK (h : X.K = K := by rfl) : CallR X (.type "list") (rLi K) := by subst h; exact call_li
theorem sl_tupK (h : X.K = K := by rfl) : SlR X (rSlT K) := by subst h; exact sl_tup
theorem sl_listK (h : X.K = K := by rfl) : SlR X (rSlL K) := by subst h; exact sl_list
theorem ix_tupK (h : X.K = K := by rfl) : IxR X (rIxT K) := by subst h; exact ix_tup
theorem ix_listK (h : X.K = K := by rfl) : IxR X (rIxL K) := by subst h; exact ix_list
theorem pi_tupK {tg l : Expr} {tl : TE} (K : PySem.W.Frag) (hl : PE X l tl) (h : X.K = K := by rfl) : PI X tg l (iTup K tl) := by subst h; exact pi_tup hl
theorem pi_listK {tg l : Expr} {tl : TE} (K : PySem.W.Frag) (hl : PE X l tl) (h : X.K = K := by rfl) : PI X tg l (iList K tl) := by subst h; exact pi_list hl
theorem ix_seqK (h : X.K = K := by rfl) : IxR X (rIx K) := by subst h; exact ix_seq
end
theorem sIx1 (n : Nat) : HT.sIx n 0 (some 1) = min 1 n := HT.sIx_nat n 0 1
theorem cut1 {xs : List V} (h : 1 ≤ xs.length) : cutV xs (some 1) none = xs.drop 1 := by
  unfold cutV
  have e : HT.sIx xs.length 0 (some 1) = 1 := by
    rw [sIx1]
    omega
  rw [e]
  show (xs.drop 1).take (xs.length - 1) = _
  rw [List.take_of_length_le (by rw [List.length_drop]; exact Nat.le_refl _)]
theorem it_at {k : Nat} (hk : k < 2) (p : Int × Int) : atI [V.int p.1, V.int p.2] (0 + (k : Int)) = some (.int (it k p)) := by
  match k, hk with
  | 0, _ => rfl
  | 1, _ => rfl
theorem PT.len {H : Hp} {ts : List Addr} {ps : List (Int × Int)} (h : Paired (Pr H) ts ps) : ts.length = ps.length := Paired.length h
theorem paired_of {α β : Type} {R : α → β → Prop} {xs : List α} {ys : List β} (h : Paired R xs ys) {i : Nat} {y : β} (e : ys[i]? = some y) : ∃ x, xs[i]? = some x ∧ R x y := by
  induction h generalizing i with
  | nil => simp at e
  | cons a _ ih =>
    cases i with
    | zero =>
      have z := Option.some.inj e
      subst z
      exact ⟨_, rfl, a⟩
    | succ i => exact ih (by simpa using e)
section
variable {P : Program} {w : World} {K : PySem.W.Frag} {mg : Str → Option Value} {base : Heap}
/-! ### steps_along -/
def spSteps : Sp := fun vs H Q _ => ∃ (t : Addr) (ps : List (Int × Int)), vs = [.ref t] ∧ PT H t ps ∧ 4 ≤ ps.length ∧ ps.length ≤ 7 ∧
  ∀ H' u r0 r1, Same H H' → H' u = some (.tup [.ref r0, .ref r1]) → H' r0 = some (.tup ((sk 0 ps).map V.int)) → H' r1 = some (.tup ((sk 1 ps).map V.int)) → Q (.ref u) H'
abbrev sSteps : Stmt := top 27
abbrev nSteps : List Str := ["places", "start", "k", "place"]
theorem scSteps : FnScope nSteps ["places"] (defScope sSteps) := ⟨rfl, rfl, rfl, by decide +kernel, rfl, by decide +kernel, by decide +kernel⟩
abbrev scS1 : Scope := { kind := .function, names := [(".0", .local), ("k", .cell), ("tuple", .globalImplicit), ("places", .cell), ("start", .cell)], isGenerator := false, isCoroutine := false }
theorem ok_steps {f : Addr} {fd : FuncData} (F : Fun K "steps_along" "steps_along" sSteps f fd) (B : Bn mg) : FnOk P w K mg base CX0 1 f fd ["places"] spSteps := by
  have nd := scSteps.nd
  refine F.ok scSteps (fun vs H Q E h => ?_) (fun cdv A outer s H vs Q E hr h => ?_)
  · obtain ⟨t, ps, rfl, _⟩ := h
    rfl
  · obtain ⟨t, ps, rfl, pt, l4, l7, q⟩ := h
    refine ⟨_, (pss_cons (ps_set (i := 1) nd rfl (Or.inr rfl) (pe_ix ix_tup (pv 0) (pe_int) (fun _ _ => rfl))) (pss_one (ps_ret (pe_callTy (T := "tuple") (r := rTu K) call_tuK (by rfl) B.tuple (by decide +kernel) (pa_cons (pe_lc (own := [("k", 2)]) (g := gName 2) (tt := tYes) rfl nd (pi_range1 rfl B.range (pa_cons ((pe_callB call_len_seq (by rfl) B.len PySem.boot_len (pa_cons (pv 1) pa_nil))) pa_nil)) (blkOk_by (N := nSteps) (sc := defScope sSteps) (by decide +kernel)) (fun _ _ _ _ _ => pg_name (i := 2) nd rfl (Or.inr rfl)) (fun _ _ _ _ _ => pts_nil)
        (fun _ _ _ _ _ => (pe_callTy (T := "tuple") (r := rTu K) call_tuK (by rfl) B.tuple (by decide +kernel) (pa_cons (pe_lc (own := [("place", 3)]) (g := gName 3) (tt := tYes) rfl nd (pi_tupK K (pe_slice (r := rSlT K) sl_tupK (pv 0) (po_some pe_int) (po_none))) (blkOk_by (N := nSteps) (sc := scS1) (by decide +kernel)) (fun _ _ _ _ _ => pg_name (i := 3) nd rfl (Or.inl rfl)) (fun _ _ _ _ _ => pts_nil)
          (fun _ _ _ _ _ => pe_op op_sub (pe_ix (r := rIxT K) ix_tupK (pv 3) (pv 2) (fun _ _ => rfl)) (pe_ix (r := rIxT K) ix_tupK (pv 1) (pv 2) (fun _ _ => rfl)))) pa_nil)))) pa_nil))))), ?_⟩
    obtain ⟨ts, ht, hp⟩ := pt
    have lt : ts.length = ps.length := Paired.length hp
    obtain ⟨p0, pz, rfl⟩ : ∃ p0 pz, ps = p0 :: pz := by
      cases ps with
      | nil => exact absurd l4 (by decide)
      | cons a b => exact ⟨a, b, rfl⟩
    obtain ⟨t0, e0, h0⟩ := paired_of hp (i := 0) (y := p0) rfl
    have h0 : H t0 = some (.tup [.int p0.1, .int p0.2]) := h0
    refine ⟨_, rfl, t, _, 0, .ref t0, rfl, rfl, SqT.of ht, atI_nat (j := 0) (by rw [List.getElem?_map, e0]; rfl), ?_⟩
    refine ⟨_, rfl, t0, _, rfl, .inr (SqT.of h0), 2, rfl, by decide, by decide, fun D hD => ?_⟩
    have sD := same_new (o := .lst []) hD
    refine lc_range (lo := 0) (n := 2) (fun i H' => Same H H' ∧ ∃ rs : List Addr, rs.length = i ∧ H' D = some (.lst (rs.map V.ref)) ∧ ∀ j r, rs[j]? = some r → H' r = some (.tup ((sk j (p0 :: pz)).map V.int))) ⟨sD, [], rfl, upd_same, fun j r e => by simp at e⟩ (fun k H1 hk pk => ?_) (fun H1 pk => ?_)
    · obtain ⟨s1, rs, lr, hd, hr⟩ := pk
      refine ⟨rfl, ?_⟩
      refine ⟨_, rfl, _, rfl, t, _, rfl, SqT.of (s1 _ _ ht), ?_, fun c hc => ?_⟩
      · rw [List.length_map]
        intro z
        have z1 := z.1
        have : HT.sIx ts.length 0 (some 1) = 1 := by
          rw [sIx1]
          simp only [List.length_cons] at lt
          omega
        omega
      have l1 : 1 ≤ (ts.map V.ref).length := by
        rw [List.length_map, lt]
        simp
      rw [cut1 l1]
      have sc := same_new (o := .tup ((ts.map V.ref).drop 1)) hc
      have wc : upd H1 c (.tup ((ts.map V.ref).drop 1)) c = some (.tup ((ts.map V.ref).drop 1)) := upd_same
      generalize upd H1 c (.tup ((ts.map V.ref).drop 1)) = H2 at sc wc ⊢
      have s2 := s1.trans sc
      refine ⟨c, rfl, ⟨_, SqT.of wc⟩, fun D2 hD2 => ?_⟩
      refine lc_tup (K := K) (a := c) (xs := (ts.map V.ref).drop 1) (fun i => At H2 D2 (((sk k (p0 :: pz)).take i).map V.int)) ⟨same_new hD2, upd_same⟩ (fun i H' _ p => SqT.of (p.1 _ _ wc)) (fun i x H' hx p => ?_) (fun H' p => ?_)
      · obtain ⟨z, hz⟩ : ∃ z, pz[i]? = some z := by
          rw [List.getElem?_drop, List.getElem?_map] at hx
          have : 1 + i < ts.length := by
            rcases Nat.lt_or_ge (1 + i) ts.length with h | h
            · exact h
            · rw [List.getElem?_eq_none h] at hx
              cases hx
          simp only [List.length_cons] at lt
          exact ⟨pz[i], List.getElem?_eq_getElem (by omega)⟩
        obtain ⟨tz, ez, hzz⟩ := paired_of hp (i := 1 + i) (y := z) (by rw [Nat.add_comm]; exact hz)
        have hzz : H tz = some (.tup [.int z.1, .int z.2]) := hzz
        have ex : x = .ref tz := by
          rw [List.getElem?_drop, List.getElem?_map, ez] at hx
          exact (Option.some.inj hx).symm
        subst ex
        refine ⟨rfl, ?_⟩
        refine ⟨_, rfl, _, rfl, tz, _, _, _, rfl, rfl, SqT.of ((s2.trans p.1) _ _ hzz), it_at hk z, _, rfl, _, rfl, t0, _, _, _, rfl, rfl, SqT.of ((s2.trans p.1) _ _ h0), it_at hk p0, _, _, rfl, rfl, _, p.2, ?_, p.step hD2 Same.me ?_⟩
        · rw [List.length_map, List.length_take]
          refine small1000 (Nat.le_trans (Nat.min_le_right _ _) ?_)
          simp only [sk, List.length_map, List.length_drop, List.length_cons] at l7 ⊢
          omega
        · have es : (sk k (p0 :: pz))[i]? = some (it k z - it k p0) := by
            show (List.map _ pz)[i]? = _
            rw [List.getElem?_map, hz]
            rfl
          rw [take_more es, List.map_append]
          rfl
      · have el : ((ts.map V.ref).drop 1).length = (sk k (p0 :: pz)).length := by
          simp only [sk, List.length_map, List.length_drop, List.length_cons] at lt ⊢
          omega
        rw [el, List.take_length] at p
        obtain ⟨s3, hD3⟩ := p
        refine ⟨D2, _, rfl, .inl ⟨SqL.of hD3, fun r nr => ?_⟩⟩
        have s4 := s3.trans (same_new (o := .tup ((sk k (p0 :: pz)).map V.int)) nr)
        have s5 := sc.trans s4
        have hd5 := s5 _ _ hd
        refine ⟨_, hd5, by rw [List.length_map]; exact small1000 (by omega), fun b o e => ?_, rs ++ [r], by simp [lr], ?_, fun j u e => ?_⟩
        · rw [upd_ne (ne_of_none e hD)]
          exact s5 _ _ (s1 _ _ e)
        · rw [upd_same, List.map_append]
          rfl
        · have nuD : ∀ {u : Addr} {ys : List V}, (upd H' r (.tup ((sk k (p0 :: pz)).map V.int))) u = some (.tup ys) → u ≠ D := fun h => L2.ne_of h hd5 (by intro z; cases z)
          by_cases hj : j < rs.length
          · rw [List.getElem?_append_left hj] at e
            have e2 := s5 _ _ (hr j u e)
            rw [upd_ne (nuD e2)]
            exact e2
          · have hj2 : j = rs.length := by
              rcases Nat.lt_or_ge j (rs ++ [r]).length with h | h
              · simp at h
                omega
              · rw [List.getElem?_eq_none h] at e
                cases e
            subst hj2
            rw [List.getElem?_append_right (Nat.le_refl _), Nat.sub_self] at e
            have eu : r = u := Option.some.inj e
            subst eu
            rw [upd_ne (nuD upd_same), lr]
            exact upd_same
    · obtain ⟨s1, rs, lr, hd, hr⟩ := pk
      obtain ⟨r0, r1, rfl⟩ : ∃ r0 r1, rs = [r0, r1] := by
        match rs, lr with
        | [a, b], _ => exact ⟨a, b, rfl⟩
      refine ⟨D, _, rfl, .inl ⟨SqL.of hd, fun u nu => ?_⟩⟩
      have s2 := same_new (o := .tup ([r0, r1].map V.ref)) nu
      exact q _ u r0 r1 (s1.trans s2) upd_same (s2 _ _ (hr 0 r0 rfl)) (s2 _ _ (hr 1 r1 rfl))
end
end K17

namespace K17
open PySem PySem.Spec PyProof.Rows L2
def crs (xs ys : List Int) (i j : Nat) : Int := xs.getD i 0 * ys.getD j 0 - ys.getD i 0 * xs.getD j 0
/-- all pins on one line -/
def thin (xs ys : List Int) : Prop := ∀ i j, i < j → j < xs.length → crs xs ys i j = 0
theorem cross_zero {x y a b c d : Int} (hxy : x ≠ 0 ∨ y ≠ 0) (h1 : x * b - y * a = 0) (h2 : x * d - y * c = 0) : a * d - b * c = 0 := by
  have e1 : x * b = y * a := by omega
  have e2 : x * d = y * c := by omega
  rcases hxy with h | h
  · have : x * (a * d - b * c) = 0 := by
      have : x * (a * d - b * c) = a * (x * d) - (x * b) * c := by grind
      rw [this, e1, e2]
      grind
    rcases Int.mul_eq_zero.mp this with z | z
    · exact absurd z h
    · exact z
  · have : y * (a * d - b * c) = 0 := by
      have : y * (a * d - b * c) = (y * a) * d - b * (y * c) := by grind
      rw [this, ← e1, ← e2]
      grind
    rcases Int.mul_eq_zero.mp this with z | z
    · exact absurd z h
    · exact z
theorem thin_all {xs ys : List Int} (h : ∀ i, i < xs.length → xs.getD i 0 = 0 ∧ ys.getD i 0 = 0) : thin xs ys := fun i j hij hj => by
  unfold crs
  rw [(h i (by omega)).1, (h i (by omega)).2]
  omega
theorem thin_one {xs ys : List Int} {a : Nat} (ha : a < xs.length) (hz : ∀ i, i < a → xs.getD i 0 = 0 ∧ ys.getD i 0 = 0) (hn : xs.getD a 0 ≠ 0 ∨ ys.getD a 0 ≠ 0) (hm : ∀ j, a < j → j < xs.length → crs xs ys a j = 0) : thin xs ys := fun i j hij hj => by
  rcases Nat.lt_trichotomy i a with h | h | h
  · unfold crs
    rw [(hz i h).1, (hz i h).2]
    omega
  · rw [h]
    exact hm j (by omega) hj
  · have h1 := hm i h (by omega)
    have h2 := hm j (by omega) hj
    unfold crs at h1 h2 ⊢
    have z := cross_zero (x := xs.getD a 0) (y := ys.getD a 0) (a := xs.getD i 0) (b := ys.getD i 0) (c := xs.getD j 0) (d := ys.getD j 0) hn h1 h2
    exact z
theorem ints_at {ns : List Int} {i : Nat} (h : i < ns.length) : atI (ns.map V.int) (i : Int) = some (.int (ns.getD i 0)) := atI_nat (by rw [List.getElem?_map, List.getElem?_eq_getElem h, List.getD_eq_getElem?_getD, List.getElem?_eq_getElem h]; rfl)
def Bd (ns : List Int) : Prop := ∀ n ∈ ns, -(2 ^ 40) < n ∧ n < 2 ^ 40
theorem Bd.get {ns : List Int} (h : Bd ns) (i : Nat) : -(2 ^ 40) < ns.getD i 0 ∧ ns.getD i 0 < 2 ^ 40 := by
  rw [List.getD_eq_getElem?_getD]
  cases e : ns[i]? with
  | none => exact ⟨by decide, by decide⟩
  | some n => exact h n (List.mem_of_getElem? e)
end K17

namespace K17
open PySem PySem.Spec PyProof.Rows L2
/-- what the products have in row i and column j -/
def pg (xs ys : List Int) (i j : Nat) : Int := xs.getD i 0 * xs.getD j 0 + ys.getD i 0 * ys.getD j 0
theorem pg_sym (xs ys : List Int) (i j : Nat) : pg xs ys i j = pg xs ys j i := by
  unfold pg
  rw [Int.mul_comm (xs.getD i 0), Int.mul_comm (ys.getD i 0)]
def mrow (m : Nat → Nat → Int) (n i : Nat) : List Int := (List.range n).map (m i)
def MatL (fs : List Addr) (m : Nat → Nat → Int) (n : Nat) (H : Hp) : Prop := ∀ (j : Nat) (f : Addr), fs[j]? = some f → H f = some (.lst ((mrow m n j).map V.int))
def MatT (H : Hp) (t : Addr) (m : Nat → Nat → Int) (n : Nat) : Prop := ∃ rs : List Addr, rs.length = n ∧ H t = some (.tup (rs.map V.ref)) ∧ ∀ (j : Nat) (r : Addr), rs[j]? = some r → H r = some (.tup ((mrow m n j).map V.int))
def put (m : Nat → Nat → Int) (a b : Nat) (v : Int) : Nat → Nat → Int := fun i j => if i = a ∧ j = b then v else m i j
theorem mrow_len (m : Nat → Nat → Int) (n i : Nat) : (mrow m n i).length = n := by
  unfold mrow
  rw [List.length_map, List.length_range]
theorem mrow_set {m : Nat → Nat → Int} {n a b : Nat} {v : Int} (hb : b < n) : ((mrow m n a).map V.int).set b (.int v) = (mrow (put m a b v) n a).map V.int := by
  apply List.ext_getElem?
  intro j
  unfold mrow
  rw [List.getElem?_set]
  by_cases hj : b = j
  · subst hj
    rw [if_pos rfl, if_pos (by simp [hb])]
    rw [List.getElem?_map, List.getElem?_map, List.getElem?_range hb]
    simp [put]
  · rw [if_neg hj]
    rw [List.getElem?_map, List.getElem?_map, List.getElem?_map, List.getElem?_map]
    cases e : (List.range n)[j]? with
    | none => rfl
    | some k =>
      have : k = j := by
        have h : j < n := by
          rcases Nat.lt_or_ge j n with h | h
          · exact h
          · rw [List.getElem?_eq_none (by rw [List.length_range]; exact h)] at e
            cases e
        rw [List.getElem?_range h] at e
        exact (Option.some.inj e).symm
      subst this
      simp [put, show ¬ k = b from fun z => hj z.symm]
theorem mrow_put {m : Nat → Nat → Int} {n a b i : Nat} {v : Int} (h : i ≠ a) : mrow (put m a b v) n i = mrow m n i := by
  unfold mrow
  refine List.map_congr_left fun j _ => ?_
  unfold put
  rw [if_neg (fun z => h z.1)]
theorem nodup_at {fs : List Addr} (nd : fs.Nodup) {i j : Nat} {f : Addr} (h1 : fs[i]? = some f) (h2 : fs[j]? = some f) : i = j := by
  have a : i < fs.length := by
    rcases Nat.lt_or_ge i fs.length with h | h
    · exact h
    · rw [List.getElem?_eq_none h] at h1
      cases h1
  exact (List.getElem?_inj a nd).mp (h1.trans h2.symm)
theorem MatL.put {fs : List Addr} {m : Nat → Nat → Int} {n a b : Nat} {H : Hp} {f : Addr} {v : Int} (M : MatL fs m n H) (nd : fs.Nodup) (hf : fs[a]? = some f) (hb : b < n) :
    MatL fs (K17.put m a b v) n (upd H f (.lst (((mrow m n a).map V.int).set b (.int v)))) := fun j g hg => by
  by_cases e : g = f
  · subst e
    have : j = a := nodup_at nd hg hf
    subst this
    rw [upd_same, mrow_set hb]
  · have ne : j ≠ a := fun z => e (by rw [z, hf] at hg; exact (Option.some.inj hg).symm)
    rw [upd_ne e, mrow_put ne]
    exact M j g hg
theorem mrow_congr {m m' : Nat → Nat → Int} {n i : Nat} (h : ∀ j, j < n → m i j = m' i j) : mrow m n i = mrow m' n i := by
  unfold mrow
  exact List.map_congr_left fun j hj => h j (List.mem_range.mp hj)
theorem zeros (n : Nat) : (List.replicate n [V.int 0]).flatten = ((mrow (fun _ _ => 0) n 0).map V.int) := by
  unfold mrow
  induction n with
  | zero => rfl
  | succ n ih =>
    rw [List.replicate_succ', List.flatten_append, ih, List.range_succ, List.map_append, List.map_append]
    rfl
theorem ixN_nat {n j : Nat} (h : j < n) : ixN n (j : Int) = some j := by
  unfold ixN
  first
    | (rw [if_neg (by omega), if_pos (by omega)]; simp)
    | (simp; omega)
    | (split <;> simp_all <;> omega)
end K17

namespace K17
open PySem PySem.Spec PyProof.Rows L2
section
variable {P : Program} {w : World} {K : PySem.W.Frag} {mg : Str → Option Value} {base : Heap}
/-- two rows of as many numbers, in a tuple -/
def Two (H : Hp) (u : Addr) (xs ys : List Int) : Prop := ∃ r0 r1, H u = some (.tup [.ref r0, .ref r1]) ∧ H r0 = some (.tup (xs.map V.int)) ∧ H r1 = some (.tup (ys.map V.int))
theorem Two.same {H H' : Hp} {u : Addr} {xs ys : List Int} (h : Two H u xs ys) (s : Same H H') : Two H' u xs ys := let ⟨r0, r1, a, b, c⟩ := h; ⟨r0, r1, s _ _ a, s _ _ b, s _ _ c⟩
end
end K17

namespace K17
open PySem PySem.Spec PyProof.Rows L2
/-! ### BadPicture -/
structure BrTxt (K : PySem.W.Frag) (mg : Str → Option Value) (C fI : Addr) : Prop where
  oex : OexC K C
  mgC : mg "BadPicture" = some (.ref C)
  noP : PySem.W.findIn K (.ref C) "part" = some none
  iC : PySem.W.findIn K (.ref C) "__init__" = some (some (.ref fI))
  tI : PySem.W.typeIn K (.ref fI) = some (.type "function")
/-- a BadPicture is raised: its own dict d tells the part -/
def Rz (C : Addr) (z : Str) (H : Hp) (E : XK) : Prop := ∀ d H', Same H H' → H d = none → H' d = some (.xd [(("part" : Str), .str z)]) → E (.ref C) (some d) H'
theorem raised {H H1 : Hp} {C a dx : Addr} {z : Str} {E : XK} (h : Rz C z H E) (s1 : Same H H1) (ha : H1 a = none) (hd : upd H1 a (exo a C none) dx = none) (ne : dx ≠ a) :
    E (.ref C) (some dx) (upd (L2.del (upd (upd (upd H1 a (exo a C none)) dx (exd dx [(("part" : Str), V.str z)])) a (exo a C (some dx))) a) dx (.xd [(("part" : Str), V.str z)])) := by
  have hd1 : H1 dx = none := by
    rw [upd_ne ne] at hd
    exact hd
  refine h dx _ (fun b o e => ?_) (s1.free hd1) upd_same
  have e1 := s1 b o e
  have nb : b ≠ dx := ne_of_none e1 hd1
  have na : b ≠ a := ne_of_none e1 ha
  rw [upd_ne nb, del_ne na, upd_ne na, upd_ne nb, upd_ne na]
  exact e1
theorem RB.same {z : Bool} {H H1 : Hp} {Q : VK} (h : RB z H Q) (s : Same H H1) : RB z H1 Q := fun H' s' => h H' (s.trans s')
/-- all but what stands at a -/
def Kp (a : Addr) (H H' : Hp) : Prop := ∀ b o, b ≠ a → H b = some o → H' b = some o
theorem Kp.of {a : Addr} {H H' : Hp} (s : Same H H') : Kp a H H' := fun b o _ e => s b o e
theorem Kp.trans {a : Addr} {H H1 H2 : Hp} (x : Kp a H H1) (y : Kp a H1 H2) : Kp a H H2 := fun b o n e => y b o n (x b o n e)
theorem Kp.set {a : Addr} {H : Hp} {o : HO} : Kp a H (upd H a o) := fun b u n e => by rw [upd_ne n]; exact e
/-! ### places that are right -/
def OkP (ps : List (Int × Int)) : Prop := 4 ≤ ps.length ∧ ps.length ≤ 7 ∧ ∀ p ∈ ps, -G9 ≤ p.1 ∧ p.1 ≤ G9 ∧ -G9 ≤ p.2 ∧ p.2 ≤ G9
def PlA (H : Hp) (x : V) (p : Int × Int) : Prop := ∃ r, x = .ref r ∧ Sq H r [.int p.1, .int p.2]
/-- a list or a tuple of pairs, lists or tuples -/
def Pls (H : Hp) (v : V) (ps : List (Int × Int)) : Prop := ∃ b xs, v = .ref b ∧ Sq H b xs ∧ Paired (PlA H) xs ps
theorem PlA.same {H H' : Hp} {x : V} {p : Int × Int} (h : PlA H x p) (s : Same H H') : PlA H' x p := let ⟨r, e, q⟩ := h; ⟨r, e, q.same s⟩
theorem paired_mono {α β : Type} {R S : α → β → Prop} {xs : List α} {ys : List β} (h : Paired R xs ys) (i : ∀ x y, R x y → S x y) : Paired S xs ys := by
  induction h with
  | nil => exact .nil
  | cons a _ ih => exact .cons (i _ _ a) ih
theorem Pls.same {H H' : Hp} {v : V} {ps : List (Int × Int)} (h : Pls H v ps) (s : Same H H') : Pls H' v ps := let ⟨b, xs, e, q, k⟩ := h; ⟨b, xs, e, q.same s, paired_mono k fun _ _ z => z.same s⟩
theorem inB_of {n : Int} (h : -G9 ≤ n) (h2 : n ≤ G9) : inB (.int n) = true := by
  show (decide (-G9 ≤ n) && decide (n ≤ G9)) = true
  rw [decide_eq_true h, decide_eq_true h2]
  rfl
theorem pl_rows {K : PySem.W.Frag} {H : Hp} {xs : List V} {ps : List (Int × Int)} (h : Paired (PlA H) xs ps) (b : ∀ p ∈ ps, -G9 ≤ p.1 ∧ p.1 ≤ G9 ∧ -G9 ≤ p.2 ∧ p.2 ≤ G9) : Paired (RowV K H) xs (ps.map fun _ => true) := by
  induction h with
  | nil => exact .nil
  | @cons x p xs ps a _ ih =>
    refine .cons ?_ (ih fun q hq => b q (List.mem_cons_of_mem _ hq))
    obtain ⟨r, rfl, q⟩ := a
    obtain ⟨b1, b2, b3, b4⟩ := b p List.mem_cons_self
    have z : RowV K H (.ref r) (rowB [.int p.1, .int p.2]) := .seq q (fun x hx => by
      rcases List.mem_cons.mp hx with e | e
      · rw [e]
        exact ⟨_, .int _⟩
      · rw [List.mem_singleton.mp e]
        exact ⟨_, .int _⟩) (by show 2 ≤ 100; decide)
    have e : rowB [V.int p.1, V.int p.2] = true := by
      show (decide _ && (inB _ && (inB _ && true))) = true
      rw [inB_of b1 b2, inB_of b3 b4]
      rfl
    rw [e] at z
    exact z
theorem Pls.rows {K : PySem.W.Frag} {H : Hp} {v : V} {ps : List (Int × Int)} (h : Pls H v ps) (ok : OkP ps) : RowsV K H v (some (ps.map fun _ => true)) ∧ plB (some (ps.map fun _ => true)) = true := by
  obtain ⟨b, xs, rfl, q, k⟩ := h
  refine ⟨.seq q (pl_rows k ok.2.2) ?_, ?_⟩
  · rw [Paired.length k]
    exact Nat.le_trans ok.2.1 (by decide)
  · have h1 := ok.1
    have h2 := ok.2.1
    have e : (ps.map fun _ => true).all id = true := by
      rw [List.all_map]
      exact List.all_eq_true.mpr fun _ _ => rfl
    show (_ && decide _ && decide _) = true
    rw [e, List.length_map, decide_eq_true h1, decide_eq_true h2]
    rfl
/-! ### pictures -/
structure PicT (K : PySem.W.Frag) (C : Addr) : Prop where
  pc : PicC K C
  n1 : NoAttr K C "places"
  n2 : NoAttr K C "pins"
  n3 : NoAttr K C "rows"
/-- at a: the picture with these places -/
def PicF (H : Hp) (C a : Addr) (ps : List (Int × Int)) : Prop := ∃ dx t u, H a = some (.ins C dx [("places", .ref t), ("pins", .int ps.length), ("rows", .ref u)]) ∧ PT H t ps ∧ Two H u (sk 0 ps) (sk 1 ps)
theorem PT.same {H H' : Hp} {t : Addr} {ps : List (Int × Int)} (h : PT H t ps) (s : Same H H') : PT H' t ps := let ⟨ts, a, b⟩ := h; ⟨ts, s _ _ a, paired_mono b fun _ _ z => s _ _ z⟩
theorem PicF.same {H H' : Hp} {C a : Addr} {ps : List (Int × Int)} (h : PicF H C a ps) (s : Same H H') : PicF H' C a ps := let ⟨dx, t, u, e, p, q⟩ := h; ⟨dx, t, u, s _ _ e, p.same s, q.same s⟩
theorem PT.kp {H H' : Hp} {t a C dx : Addr} {fs : List (Str × V)} {ps : List (Int × Int)} (h : PT H t ps) (ha : H a = some (.ins C dx fs)) (k : Kp a H H') : PT H' t ps := by
  obtain ⟨ts, e, b⟩ := h
  have ne : ∀ {x : Addr} {xs : List V}, H x = some (.tup xs) → x ≠ a := fun h => L2.ne_of h ha (by intro z; cases z)
  exact ⟨ts, k _ _ (ne e) e, paired_mono b fun _ _ z => k _ _ (ne z) z⟩
theorem Two.kp {H H' : Hp} {u a C dx : Addr} {fs : List (Str × V)} {xs ys : List Int} (h : Two H u xs ys) (ha : H a = some (.ins C dx fs)) (k : Kp a H H') : Two H' u xs ys := by
  obtain ⟨r0, r1, e, e0, e1⟩ := h
  have ne : ∀ {x : Addr} {xs : List V}, H x = some (.tup xs) → x ≠ a := fun h => L2.ne_of h ha (by intro z; cases z)
  exact ⟨r0, r1, k _ _ (ne e) e, k _ _ (ne e0) e0, k _ _ (ne e1) e1⟩
section
variable {P : Program} {w : World} {K : PySem.W.Frag} {mg : Str → Option Value} {base : Heap} {C CB fB : Addr}
def spBI (K : PySem.W.Frag) (C : Addr) : Sp := fun vs H Q _ => ∃ (a : Addr) (y : V), vs = [.ref a, y] ∧ OexC K C ∧ PySem.W.findIn K (.ref C) "part" = some none ∧ H a = some (exo a C none) ∧
  ∀ dx, H dx = none → dx ≠ a → Q .non (upd (upd H dx (exd dx [(("part" : Str), y)])) a (exo a C (some dx)))
abbrev sBI : Stmt := inClass (top 3) 0
theorem scBI : FnScope ["self", "part"] ["self", "part"] (defScope sBI) := ⟨rfl, rfl, rfl, by decide +kernel, rfl, by decide +kernel, by decide +kernel⟩
theorem ok_bi {f C : Addr} {fd : FuncData} (F : Fun K "__init__" "BadPicture.__init__" sBI f fd) : FnOk P w K mg base CX0 1 f fd ["self", "part"] (spBI K C) := by
  refine F.ok scBI (fun vs H Q E h => ?_) (fun cdv A outer s H vs Q E hr h => ?_)
  · obtain ⟨a, y, rfl, _⟩ := h
    rfl
  · obtain ⟨a, y, rfl, T, no, ha, q⟩ := h
    refine ⟨_, pss_one (ps_ost (pv 0) (pv 1)), ?_⟩
    exact ⟨_, rfl, _, rfl, a, C, rfl, T, no, .inl ⟨ha, q⟩⟩
/-! ### Picture.__init__ -/
def spPI (K : PySem.W.Frag) (C CB : Addr) : Sp := fun vs H Q E => ∃ (a dx : Addr) (v : V), vs = [.ref a, v] ∧ H a = some (.ins C dx []) ∧
  ((∃ ps, Pls H v ps ∧ OkP ps ∧ ∀ H', Kp a H H' → PicF H' C a ps → Q .non H') ∨ (∃ o, RowsV K H v o ∧ plB o = false ∧ Rz CB "places" H E))
abbrev sPI : Stmt := inClass (top 39) 0
abbrev nPI : List Str := ["self", "places", "place"]
theorem scPI : FnScope nPI ["self", "places"] (defScope sPI) := ⟨rfl, rfl, rfl, by decide +kernel, rfl, by decide +kernel, by decide +kernel⟩
theorem ok_pi {f : Addr} {fd fdB : FuncData} (F : Fun K "__init__" "Picture.__init__" sPI f fd) (B : Bn mg) (T : PicT K C) (TB : BrTxt K mg CB fB) (FB : Fun K "__init__" "BadPicture.__init__" sBI fB fdB) (C1 : Callee P w K mg base CX0 5 "are_places" ["value", "size"] (spPlaces K)) (C2 : Callee P w K mg base CX0 1 "steps_along" ["places"] spSteps) :
    FnOk P w K mg base (L2.CX P w) 6 f fd ["self", "places"] (spPI K C CB) := by
  obtain ⟨f1, fd1, m1, k1, b1, G1⟩ := C1
  obtain ⟨f2, fd2, m2, k2, b2, G2⟩ := C2
  have GB : FnOk P w K mg base CX0 1 fB fdB ["self", "part"] (spBI K CB) := ok_bi FB
  have bB : Binds K fdB ["self", "part"] [] := FB.binds (ps := ["self", "part"]) fun _ _ _ _ _ _ us hl => match us, hl with | [_, _], _ => rfl
  have nd := scPI.nd
  refine F.okX scPI (fun vs H Q E h => ?_) (fun cdv A outer s H vs Q E hr h => ?_)
  · obtain ⟨a, dx, v, rfl, _⟩ := h
    rfl
  · obtain ⟨a, dx, v, rfl, ha, h⟩ := h
    rcases h with ⟨ps, pls, ok, q⟩ | ⟨o, ro, po, r⟩
    · obtain ⟨ro, po⟩ := pls.rows (K := K) ok
      obtain ⟨b, xs, rfl, hs, hk⟩ := pls
      have lx : xs.length = ps.length := Paired.length hk
      have step : ∀ {H1 H' : Hp} {D : Addr} {i : Nat} {x : V} {ts : List Addr}, Same H H1 → H1 D = none → Same H1 H' → xs[i]? = some x → ts.length = i → H' D = some (.lst (ts.map V.ref)) → (∀ (j : Nat) t p, ts[j]? = some t → ps[j]? = some p → Pr H' t p) →
          ∃ g, x = .ref g ∧ ((∃ zs, H' g = some (.lst zs) ∧ (∃ p, ps[i]? = some p ∧ zs = [.int p.1, .int p.2])) ∨ (∃ p, ps[i]? = some p ∧ H' g = some (.tup [.int p.1, .int p.2]))) := fun s1 _ s2 hx _ _ _ => by
        obtain ⟨p, hp, g, rfl, e⟩ := paired_get hk hx
        refine ⟨g, rfl, ?_⟩
        rcases e with e | e
        · exact .inl ⟨_, s2 _ _ (s1 _ _ e), p, hp, rfl⟩
        · exact .inr ⟨p, hp, s2 _ _ (s1 _ _ e)⟩
      have grow : ∀ {H1 H' H2 : Hp} {D g : Addr} {i : Nat} {ts : List Addr} {p : Int × Int}, H1 D = none → Same H1 H' → Same H' H2 → ts.length = i → H' D = some (.lst (ts.map V.ref)) → (∀ (j : Nat) t p, ts[j]? = some t → ps[j]? = some p → Pr H' t p) → ps[i]? = some p → Pr H2 g p →
          ∃ acc, H2 D = some (.lst acc) ∧ acc.length < sizeLine ∧ (Same H1 (upd H2 D (.lst (acc ++ [V.ref g]))) ∧ ∃ ts' : List Addr, ts'.length = i + 1 ∧ (upd H2 D (.lst (acc ++ [V.ref g]))) D = some (.lst (ts'.map V.ref)) ∧ ∀ (j : Nat) t p, ts'[j]? = some t → ps[j]? = some p → Pr (upd H2 D (.lst (acc ++ [V.ref g]))) t p) := fun {H1 H' H2 D g i ts p} hD s2 s3 lt hd ht hp hg => by
        have hd2 := s3 _ _ hd
        have hi : i < ps.length := by
          rcases Nat.lt_or_ge i ps.length with h | h
          · exact h
          · rw [List.getElem?_eq_none h] at hp
            cases hp
        have ok7 := ok.2.1
        refine ⟨_, hd2, by rw [List.length_map]; exact small1000 (by omega), fun c o e => ?_, ts ++ [g], by simp [lt], ?_, fun j t p' et ep => ?_⟩
        · rw [upd_ne (ne_of_none e hD)]
          exact s3 _ _ (s2 _ _ e)
        · rw [upd_same, List.map_append]
          rfl
        · have nD : ∀ {t : Addr} {zs : List V}, H2 t = some (.tup zs) → t ≠ D := fun h => L2.ne_of h hd2 (by intro z; cases z)
          unfold Pr
          by_cases hj : j < ts.length
          · rw [List.getElem?_append_left hj] at et
            have e2 : H2 t = some (.tup [.int p'.1, .int p'.2]) := s3 _ _ (ht j t p' et ep)
            rw [upd_ne (nD e2)]
            exact e2
          · have hj2 : j = ts.length := by
              rcases Nat.lt_or_ge j (ts ++ [g]).length with h | h
              · simp at h
                omega
              · rw [List.getElem?_eq_none h] at et
                cases et
            subst hj2
            rw [List.getElem?_append_right (Nat.le_refl _), Nat.sub_self] at et
            have eu : g = t := Option.some.inj et
            subst eu
            rw [lt] at ep
            rw [hp] at ep
            have e3 : p = p' := Option.some.inj ep
            subst e3
            have hg : H2 g = some (.tup [.int p.1, .int p.2]) := hg
            rw [upd_ne (nD hg)]
            exact hg
      have fin : ∀ {H1 H' : Hp} {D : Addr} {ts : List Addr}, Same H H1 → Same H1 H' → ts.length = ps.length → H' D = some (.lst (ts.map V.ref)) → (∀ (j : Nat) t p, ts[j]? = some t → ps[j]? = some p → Pr H' t p) → ∀ t H2, H' t = none → H2 = upd H' t (.tup (ts.map V.ref)) → (PT H2 t ps ∧ Same H H2) := fun {H1 H' D ts} s1 s2 lt hd ht t H2 nt e2 => by
        subst e2
        have s3 := same_new (o := .tup (ts.map V.ref)) nt
        refine ⟨⟨ts, upd_same, ?_⟩, (s1.trans s2).trans s3⟩
        have : ∀ (as : List Addr) (qs : List (Int × Int)), as.length = qs.length → (∀ (j : Nat) t p, as[j]? = some t → qs[j]? = some p → Pr H' t p) → Paired (Pr (upd H' t (.tup (ts.map V.ref)))) as qs := by
          intro as
          induction as with
          | nil =>
            intro qs l _
            cases qs with
            | nil => exact .nil
            | cons _ _ => cases l
          | cons c as ih =>
            intro qs l h
            cases qs with
            | nil => cases l
            | cons p qs => exact .cons (s3 _ _ (h 0 c p rfl rfl)) (ih qs (by simpa using l) fun j t p e1 e2 => h (j + 1) t p (by simpa using e1) (by simpa using e2))
        exact this ts ps lt ht
      rcases hs with hs | hs
      · refine ⟨_, (pss_cons (ps_if (pt_not (pt_val (pe_call G1 (hr.mono (by decide)) rfl m1 k1 b1 .nil pass0 (pa_cons (pv 1) (pa_cons (pe_int) pa_nil))))) (pss_one (ps_raise rfl (takes_of rfl rfl rfl rfl) (pmk_oex TB.oex TB.iC TB.tI GB (hr.mono (by decide)) bB .nil pass0 rfl TB.mgC (pa_cons pe_str pa_nil)))) pss_nil) (pss_cons (ps_fld (pv 0) (pe_callTy (T := "tuple") (r := rTu K) call_tuK (by rfl) B.tuple (by decide +kernel) (pa_cons (pe_lc (own := [("place", 2)]) (g := gName 2) (tt := tYes) rfl nd (pi_list (pv 1)) (blkOk_by (N := nPI) (sc := defScope sPI) (by decide +kernel)) (fun _ _ _ _ _ => pg_name (i := 2) nd rfl (Or.inl rfl)) (fun _ _ _ _ _ => pts_nil) (fun _ _ _ _ _ => (pe_callTy (T := "tuple") (r := rTu K) call_tuK (by rfl) B.tuple (by decide +kernel) (pa_cons (pv 2) pa_nil)))) pa_nil)) rfl) (pss_cons (ps_fld (pv 0) (pe_callB call_len_seq (by rfl) B.len PySem.boot_len (pa_cons (pe_fld (pv 0) rfl) pa_nil)) rfl) (pss_one (ps_fld (pv 0) (pe_call G2 (hr.mono (by decide)) rfl m2 k2 b2 .nil pass0 (pa_cons (pe_fld (pv 0) rfl) pa_nil)) rfl))))), ?_⟩
        refine ⟨_, rfl, _, _, rfl, ro, fun H1 s1 => ⟨_, rfl, ?_⟩⟩
        rw [po]
        refine iteF ?_
        refine ⟨_, rfl, b, rfl, ⟨_, SqL.of (s1 _ _ hs)⟩, fun D hD => ?_⟩
        refine lc_list (K := K) (a := b) (xs := xs) (fun i H' => Same H1 H' ∧ ∃ ts : List Addr, ts.length = i ∧ H' D = some (.lst (ts.map V.ref)) ∧ ∀ (j : Nat) t p, ts[j]? = some t → ps[j]? = some p → Pr H' t p) ⟨same_new hD, [], rfl, upd_same, fun j t p e => by simp at e⟩ (fun i H' _ p => SqL.of (p.1 _ _ (s1 _ _ hs))) (fun i x H' hx p => ?_) (fun H' p => ?_)
        · obtain ⟨s2, ts, lt, hd, ht⟩ := p
          refine ⟨rfl, ?_⟩
          obtain ⟨g, rfl, ⟨zs, hg, p, hp, rfl⟩ | ⟨p, hp, hg⟩⟩ := step s1 hD s2 hx lt hd ht
          · exact ⟨_, rfl, g, _, rfl, .inl ⟨SqL.of hg, fun r nr => grow hD s2 (same_new nr) lt hd ht hp upd_same⟩⟩
          · exact ⟨_, rfl, g, _, rfl, .inr ⟨SqT.of hg, grow hD s2 Same.me lt hd ht hp hg⟩⟩
        · obtain ⟨s2, ts, lt, hd, ht⟩ := p
          rw [lx] at lt
          refine ⟨D, _, rfl, .inl ⟨SqL.of hd, fun t nt => ?_⟩⟩
          obtain ⟨ptn, s3⟩ := fin s1 s2 lt hd ht t _ nt rfl
          generalize upd H' t (.tup (ts.map V.ref)) = H3 at ptn s3 ⊢
          have ha3 := s3 _ _ ha
          refine ⟨_, rfl, a, C, dx, [], rfl, ha3, T.pc.cls, T.n1, by show 0 < 1000; decide, ?_⟩
          have pt4 := ptn.kp ha3 (Kp.set (o := .ins C dx (putF "places" (.ref t) [])))
          have ha4 : upd H3 a (.ins C dx (putF "places" (.ref t) [])) a = some (.ins C dx [("places", .ref t)]) := upd_same
          have k4 : Kp a H (upd H3 a (.ins C dx (putF "places" (.ref t) []))) := (Kp.of s3).trans Kp.set
          generalize upd H3 a (.ins C dx (putF "places" (.ref t) [])) = H4 at pt4 ha4 k4 ⊢
          obtain ⟨ts2, e2, pr2⟩ := pt4
          have l2 : (ts2.map V.ref).length = ps.length := by
            rw [List.length_map]
            exact Paired.length pr2
          refine ⟨_, rfl, a, C, dx, _, .ref t, rfl, ha4, T.pc.cls, T.n1, rfl, t, _, rfl, .inr (SqT.of e2), ?_⟩
          rw [l2]
          refine ⟨_, rfl, a, C, dx, _, rfl, ha4, T.pc.cls, T.n2, by show 1 < 1000; decide, ?_⟩
          have pt5 := PT.kp ⟨ts2, e2, pr2⟩ ha4 (Kp.set (o := .ins C dx (putF "pins" (.int ps.length) [("places", .ref t)])))
          have ha5 : upd H4 a (.ins C dx (putF "pins" (.int ps.length) [("places", .ref t)])) a = some (.ins C dx [("places", .ref t), ("pins", .int ps.length)]) := upd_same
          have k5 : Kp a H (upd H4 a (.ins C dx (putF "pins" (.int ps.length) [("places", .ref t)]))) := k4.trans Kp.set
          generalize upd H4 a (.ins C dx (putF "pins" (.int ps.length) [("places", .ref t)])) = H5 at pt5 ha5 k5 ⊢
          refine ⟨_, rfl, a, C, dx, _, .ref t, rfl, ha5, T.pc.cls, T.n1, rfl, t, ps, rfl, pt5, ok.1, ok.2.1, fun H6 u r0 r1 s6 hu h0 h1 => ?_⟩
          have ha6 := s6 _ _ ha5
          refine ⟨_, rfl, a, C, dx, _, rfl, ha6, T.pc.cls, T.n3, by show 2 < 1000; decide, ?_⟩
          refine q _ ((k5.trans (Kp.of s6)).trans Kp.set) ⟨dx, t, u, upd_same, (pt5.same s6).kp ha6 Kp.set, Two.kp ⟨r0, r1, hu, h0, h1⟩ ha6 Kp.set⟩
      · refine ⟨_, (pss_cons (ps_if (pt_not (pt_val (pe_call G1 (hr.mono (by decide)) rfl m1 k1 b1 .nil pass0 (pa_cons (pv 1) (pa_cons (pe_int) pa_nil))))) (pss_one (ps_raise rfl (takes_of rfl rfl rfl rfl) (pmk_oex TB.oex TB.iC TB.tI GB (hr.mono (by decide)) bB .nil pass0 rfl TB.mgC (pa_cons pe_str pa_nil)))) pss_nil) (pss_cons (ps_fld (pv 0) (pe_callTy (T := "tuple") (r := rTu K) call_tuK (by rfl) B.tuple (by decide +kernel) (pa_cons (pe_lc (own := [("place", 2)]) (g := gName 2) (tt := tYes) rfl nd (pi_tup (pv 1)) (blkOk_by (N := nPI) (sc := defScope sPI) (by decide +kernel)) (fun _ _ _ _ _ => pg_name (i := 2) nd rfl (Or.inl rfl)) (fun _ _ _ _ _ => pts_nil) (fun _ _ _ _ _ => (pe_callTy (T := "tuple") (r := rTu K) call_tuK (by rfl) B.tuple (by decide +kernel) (pa_cons (pv 2) pa_nil)))) pa_nil)) rfl) (pss_cons (ps_fld (pv 0) (pe_callB call_len_seq (by rfl) B.len PySem.boot_len (pa_cons (pe_fld (pv 0) rfl) pa_nil)) rfl) (pss_one (ps_fld (pv 0) (pe_call G2 (hr.mono (by decide)) rfl m2 k2 b2 .nil pass0 (pa_cons (pe_fld (pv 0) rfl) pa_nil)) rfl))))), ?_⟩
        refine ⟨_, rfl, _, _, rfl, ro, fun H1 s1 => ⟨_, rfl, ?_⟩⟩
        rw [po]
        refine iteF ?_
        refine ⟨_, rfl, b, rfl, ⟨_, SqT.of (s1 _ _ hs)⟩, fun D hD => ?_⟩
        refine lc_tup (K := K) (a := b) (xs := xs) (fun i H' => Same H1 H' ∧ ∃ ts : List Addr, ts.length = i ∧ H' D = some (.lst (ts.map V.ref)) ∧ ∀ (j : Nat) t p, ts[j]? = some t → ps[j]? = some p → Pr H' t p) ⟨same_new hD, [], rfl, upd_same, fun j t p e => by simp at e⟩ (fun i H' _ p => SqT.of (p.1 _ _ (s1 _ _ hs))) (fun i x H' hx p => ?_) (fun H' p => ?_)
        · obtain ⟨s2, ts, lt, hd, ht⟩ := p
          refine ⟨rfl, ?_⟩
          obtain ⟨g, rfl, ⟨zs, hg, p, hp, rfl⟩ | ⟨p, hp, hg⟩⟩ := step s1 hD s2 hx lt hd ht
          · exact ⟨_, rfl, g, _, rfl, .inl ⟨SqL.of hg, fun r nr => grow hD s2 (same_new nr) lt hd ht hp upd_same⟩⟩
          · exact ⟨_, rfl, g, _, rfl, .inr ⟨SqT.of hg, grow hD s2 Same.me lt hd ht hp hg⟩⟩
        · obtain ⟨s2, ts, lt, hd, ht⟩ := p
          rw [lx] at lt
          refine ⟨D, _, rfl, .inl ⟨SqL.of hd, fun t nt => ?_⟩⟩
          obtain ⟨ptn, s3⟩ := fin s1 s2 lt hd ht t _ nt rfl
          generalize upd H' t (.tup (ts.map V.ref)) = H3 at ptn s3 ⊢
          have ha3 := s3 _ _ ha
          refine ⟨_, rfl, a, C, dx, [], rfl, ha3, T.pc.cls, T.n1, by show 0 < 1000; decide, ?_⟩
          have pt4 := ptn.kp ha3 (Kp.set (o := .ins C dx (putF "places" (.ref t) [])))
          have ha4 : upd H3 a (.ins C dx (putF "places" (.ref t) [])) a = some (.ins C dx [("places", .ref t)]) := upd_same
          have k4 : Kp a H (upd H3 a (.ins C dx (putF "places" (.ref t) []))) := (Kp.of s3).trans Kp.set
          generalize upd H3 a (.ins C dx (putF "places" (.ref t) [])) = H4 at pt4 ha4 k4 ⊢
          obtain ⟨ts2, e2, pr2⟩ := pt4
          have l2 : (ts2.map V.ref).length = ps.length := by
            rw [List.length_map]
            exact Paired.length pr2
          refine ⟨_, rfl, a, C, dx, _, .ref t, rfl, ha4, T.pc.cls, T.n1, rfl, t, _, rfl, .inr (SqT.of e2), ?_⟩
          rw [l2]
          refine ⟨_, rfl, a, C, dx, _, rfl, ha4, T.pc.cls, T.n2, by show 1 < 1000; decide, ?_⟩
          have pt5 := PT.kp ⟨ts2, e2, pr2⟩ ha4 (Kp.set (o := .ins C dx (putF "pins" (.int ps.length) [("places", .ref t)])))
          have ha5 : upd H4 a (.ins C dx (putF "pins" (.int ps.length) [("places", .ref t)])) a = some (.ins C dx [("places", .ref t), ("pins", .int ps.length)]) := upd_same
          have k5 : Kp a H (upd H4 a (.ins C dx (putF "pins" (.int ps.length) [("places", .ref t)]))) := k4.trans Kp.set
          generalize upd H4 a (.ins C dx (putF "pins" (.int ps.length) [("places", .ref t)])) = H5 at pt5 ha5 k5 ⊢
          refine ⟨_, rfl, a, C, dx, _, .ref t, rfl, ha5, T.pc.cls, T.n1, rfl, t, ps, rfl, pt5, ok.1, ok.2.1, fun H6 u r0 r1 s6 hu h0 h1 => ?_⟩
          have ha6 := s6 _ _ ha5
          refine ⟨_, rfl, a, C, dx, _, rfl, ha6, T.pc.cls, T.n3, by show 2 < 1000; decide, ?_⟩
          refine q _ ((k5.trans (Kp.of s6)).trans Kp.set) ⟨dx, t, u, upd_same, (pt5.same s6).kp ha6 Kp.set, Two.kp ⟨r0, r1, hu, h0, h1⟩ ha6 Kp.set⟩
    · refine ⟨_, (pss_cons (ps_if (pt_not (pt_val (pe_call G1 (hr.mono (by decide)) rfl m1 k1 b1 .nil pass0 (pa_cons (pv 1) (pa_cons (pe_int) pa_nil))))) (pss_one (ps_raise rfl (takes_of rfl rfl rfl rfl) (pmk_oex TB.oex TB.iC TB.tI GB (hr.mono (by decide)) bB .nil pass0 rfl TB.mgC (pa_cons pe_str pa_nil)))) pss_nil) (pss_cons (ps_fld (pv 0) (pe_callTy (T := "tuple") (r := rTu K) call_tuK (by rfl) B.tuple (by decide +kernel) (pa_cons (pe_lc (own := [("place", 2)]) (g := gName 2) (tt := tYes) rfl nd (pi_list (pv 1)) (blkOk_by (N := nPI) (sc := defScope sPI) (by decide +kernel)) (fun _ _ _ _ _ => pg_name (i := 2) nd rfl (Or.inl rfl)) (fun _ _ _ _ _ => pts_nil) (fun _ _ _ _ _ => (pe_callTy (T := "tuple") (r := rTu K) call_tuK (by rfl) B.tuple (by decide +kernel) (pa_cons (pv 2) pa_nil)))) pa_nil)) rfl) (pss_cons (ps_fld (pv 0) (pe_callB call_len_seq (by rfl) B.len PySem.boot_len (pa_cons (pe_fld (pv 0) rfl) pa_nil)) rfl) (pss_one (ps_fld (pv 0) (pe_call G2 (hr.mono (by decide)) rfl m2 k2 b2 .nil pass0 (pa_cons (pe_fld (pv 0) rfl) pa_nil)) rfl))))), ?_⟩
      refine ⟨_, rfl, _, _, rfl, ro, fun H1 s1 => ⟨_, rfl, ?_⟩⟩
      rw [po]
      refine iteT ⟨by show 1 ≤ 1000; decide, fun e he => ?_⟩
      exact ⟨e, _, rfl, TB.oex, TB.noP, upd_same, fun dx hdx ne => ⟨rfl, dx, _, upd_same, by rw [upd_ne ne]; exact upd_same, by rw [upd_ne ne] at hdx; exact hdx, raised r s1 he hdx ne⟩⟩
end
end K17

namespace K17
open PySem PySem.Spec PyProof.Rows L2
/-! ### places as data -/
def en (p : Int × Int) : PyData := .tuple [.int p.1, .int p.2]
def enc (ps : List (Int × Int)) : PyData := .tuple (ps.map en)
theorem enc_lay : ∀ ps : List (Int × Int), PyData.canLayAll0 (ps.map en) = true
  | [] => rfl
  | p :: ps => by
    show (PyData.canLay0 (en p) && PyData.canLayAll0 (ps.map en)) = true
    rw [enc_lay ps]
    rfl
theorem enc_depth : ∀ ps : List (Int × Int), PyData.depthAll (ps.map en) ≤ 1
  | [] => by decide
  | p :: ps => by
    show max (PyData.depth (en p)) (PyData.depthAll (ps.map en)) ≤ 1
    have h := enc_depth ps
    have e : PyData.depth (en p) = 1 := rfl
    omega
theorem enc_shaped (ps : List (Int × Int)) : SeqAt.shaped (enc ps) = true := by
  show (PyData.canLayAll0 (ps.map en) && decide (PyData.depthAll (ps.map en) + 1 ≤ 64)) = true
  rw [enc_lay, Bool.true_and, decide_eq_true_iff]
  have := enc_depth ps
  omega
theorem en_eqv (p q : Int × Int) : PyData.eqv (en p) (en q) = decide (p = q) := by
  show (p.1 == q.1 && (p.2 == q.2 && true)) = _
  obtain ⟨a, b⟩ := p
  obtain ⟨c, d⟩ := q
  rw [Bool.and_true, Bool.eq_iff_iff, decide_eq_true_iff, Bool.and_eq_true, beq_iff_eq, beq_iff_eq, Prod.mk.injEq]
theorem enc_eqv : ∀ ps qs : List (Int × Int), PyData.eqvAll (ps.map en) (qs.map en) = decide (ps = qs)
  | [], [] => rfl
  | [], _ :: _ => rfl
  | _ :: _, [] => rfl
  | p :: ps, q :: qs => by
    show (PyData.eqv (en p) (en q) && PyData.eqvAll (ps.map en) (qs.map en)) = _
    rw [en_eqv, enc_eqv ps qs, Bool.eq_iff_iff, Bool.and_eq_true, decide_eq_true_iff, decide_eq_true_iff, decide_eq_true_iff, List.cons.injEq]
theorem dp_pairs {K : PySem.W.Frag} {H : Hp} {ts : List Addr} {ps : List (Int × Int)} (h : Paired (Pr H) ts ps) : DpAll K H (ts.map V.ref) (ps.map en) := by
  induction h with
  | nil => exact .nil
  | cons a _ ih => exact .cons (.tup (SqT.of a) (.cons (.int _) (.cons (.int _) .nil))) ih
theorem PT.dp {K : PySem.W.Frag} {H : Hp} {t : Addr} {ps : List (Int × Int)} (h : PT H t ps) : Dp K H (.ref t) (enc ps) := let ⟨_, e, p⟩ := h; .tup (SqT.of e) (dp_pairs p)
theorem sk_bd {ps : List (Int × Int)} (ok : OkP ps) (k : Nat) : Bd (sk k ps) := fun n hn => by
  unfold sk at hn
  obtain ⟨p, hp, rfl⟩ := List.mem_map.mp hn
  have b1 := ok.2.2 p (List.mem_of_mem_drop hp)
  have b2 : -G9 ≤ (ps.headD (0, 0)).1 ∧ (ps.headD (0, 0)).1 ≤ G9 ∧ -G9 ≤ (ps.headD (0, 0)).2 ∧ (ps.headD (0, 0)).2 ≤ G9 := by
    cases ps with
    | nil => exact absurd ok.1 (by decide)
    | cons q qs => exact ok.2.2 q List.mem_cons_self
  unfold it
  have e : G9 = 1000000000 := rfl
  split <;> constructor <;> omega
theorem sk_len (k : Nat) (ps : List (Int × Int)) : (sk k ps).length = ps.length - 1 := by
  unfold sk
  rw [List.length_map, List.length_drop]
/-! ### values that are no pictures -/
inductive Np (H : Hp) : V → String → Prop
  | non : Np H .non "NoneType"
  | str (z : Str) : Np H (.str z) "str"
  | lst {a : Addr} {xs : List V} (e : H a = some (.lst xs)) : Np H (.ref a) "list"
  | tup {a : Addr} {xs : List V} (e : H a = some (.tup xs)) : Np H (.ref a) "tuple"
theorem Np.ty {K : PySem.W.Frag} {H : Hp} {v : V} {t : String} (k : Np H v t) : TyX K H v (.type t) := by
  cases k with
  | non => exact .base .non
  | str z => exact .base (.str z)
  | lst e => exact .base (.lst e)
  | tup e => exact .base (.tup e)
theorem Np.same {H H' : Hp} {v : V} {t : String} (k : Np H v t) (s : Same H H') : Np H' v t := by
  cases k with
  | non => exact .non
  | str z => exact .str z
  | lst e => exact .lst (s _ _ e)
  | tup e => exact .tup (s _ _ e)
/-- what the class tells of other kinds -/
structure PicN (K : PySem.W.Frag) (C : Addr) : Prop where
  k : ∀ t ∈ ["NoneType", "str", "list", "tuple"], PySem.W.kitOne K (.type t) (.ref C) = some false ∧ PySem.W.notFirst K C (.type t) = true
  ne : PySem.W.findIn K (.ref C) "__ne__" = some (some (.builtin "object.__ne__"))
theorem PicN.of {K : PySem.W.Frag} {C : Addr} {H : Hp} {v : V} {t : String} (N : PicN K C) (k : Np H v t) : PySem.W.kitOne K (.type t) (.ref C) = some false ∧ PySem.W.notFirst K C (.type t) = true := by
  cases k with
  | non => exact N.k _ (by decide)
  | str z => exact N.k _ (by decide)
  | lst e => exact N.k _ (by decide)
  | tup e => exact N.k _ (by decide)
/-- whether a picture equals it -/
def Eqs (H : Hp) (C : Addr) (ps : List (Int × Int)) (y : V) (b : Bool) : Prop := (∃ t, Np H y t ∧ b = false) ∨ (∃ q qs, y = .ref q ∧ PicF H C q qs ∧ b = decide (ps = qs))
theorem kit_self {K : PySem.W.Frag} {C : Addr} : PySem.W.kitOne K (.ref C) (.ref C) = some true := by
  unfold PySem.W.kitOne
  rw [if_pos (beq_self_eq_true _)]
theorem PicF.ty {K : PySem.W.Frag} {H : Hp} {C a : Addr} {ps : List (Int × Int)} (h : PicF H C a ps) (T : PicT K C) : TyX K H (.ref a) (.ref C) := let ⟨_, _, _, e, _⟩ := h; .base (.ins e T.pc.cls T.pc.ha T.pc.hn T.pc.ht T.pc.hm)
section
variable {P : Program} {w : World} {K : PySem.W.Frag} {mg : Str → Option Value} {base : Heap} {C : Addr}
/-! ### Picture.__eq__ -/
def spEqP (C : Addr) : Sp := fun vs H Q _ => ∃ (a : Addr) (y : V) (ps : List (Int × Int)) (b : Bool), vs = [.ref a, y] ∧ PicF H C a ps ∧ Eqs H C ps y b ∧ Q (.bl b) H
abbrev sEqP : Stmt := inClass (top 39) 1
theorem scEqP : FnScope ["self", "other"] ["self", "other"] (defScope sEqP) := ⟨rfl, rfl, rfl, by decide +kernel, rfl, by decide +kernel, by decide +kernel⟩
theorem ok_eqP {f : Addr} {fd : FuncData} (F : Fun K "__eq__" "Picture.__eq__" sEqP f fd) (B : Bn mg) (T : PicT K C) (N : PicN K C) (mC : mg "Picture" = some (.ref C)) : FnOk P w K mg base CX0 1 f fd ["self", "other"] (spEqP C) := by
  refine F.ok scEqP (fun vs H Q E h => ?_) (fun cdv A outer s H vs Q E hr h => ?_)
  · obtain ⟨a, y, ps, b, rfl, _⟩ := h
    rfl
  · obtain ⟨a, y, ps, b, rfl, hp, he, q⟩ := h
    refine ⟨_, pss_one (ps_ret (pe_and (pe_callB (r := rIsi K) call_isi (by rfl) B.isinstance boot_isinstance (pa_cons (pv 1) (pa_cons (pe_glob (v := .ref C) rfl mC rfl) pa_nil))) (pe_one (pe_cmpR (op_eqD hr.units) (pe_fld (pv 0) rfl) (pe_fld (pv 1) rfl) (nomark _))))), ?_⟩
    rcases he with ⟨t, np, rfl⟩ | ⟨c, qs, rfl, hq, rfl⟩
    · exact ⟨_, rfl, _, _, _, _, false, rfl, .own _, np.ty, (N.of np).1, _, rfl, iteF q⟩
    · refine ⟨_, rfl, _, _, _, _, true, rfl, .own _, hq.ty T, kit_self, _, rfl, iteT ?_⟩
      obtain ⟨dx, t, u, ha, ht, _⟩ := hp
      obtain ⟨dx2, t2, u2, hc, ht2, _⟩ := hq
      refine ⟨_, rfl, a, C, dx, _, .ref t, rfl, ha, T.pc.cls, T.n1, rfl, _, rfl, c, C, dx2, _, .ref t2, rfl, hc, T.pc.cls, T.n1, rfl, _, _, ht.dp, ht2.dp, enc_shaped _, enc_shaped _, ?_⟩
      have e : PyData.eqv (enc ps) (enc qs) = decide (ps = qs) := enc_eqv ps qs
      rw [e]
      exact q
end
end K17

namespace K17
open PySem PySem.Spec PyProof.Rows L2
theorem str_len (a b : Str) : (a ++ b).length = a.length + b.length := by
  show (a.cps ++ b.cps).size = a.cps.size + b.cps.size
  exact Array.size_append
def tJoined (ts : List TE) : TE := fun σ H Q => tJs ts Str.empty σ H fun out H1 => Q (.str out) H1
theorem pe_joinedN {X : Cx} {v1 v2 : Expr} {rest : List Expr} {ts : List TE} {pos : Pos} (h : PJ X (v1 :: v2 :: rest) ts) : PE X (.JoinedStr (v1 :: v2 :: rest) pos) (tJoined ts) := pe_joined h
def rJn (K : PySem.W.Frag) : V → List V → Hp → VK → Prop := fun x xs H Q => ∃ a p, ∃ ys : List Str, x = .str a ∧ xs = [.ref p] ∧ (SqL K H p (ys.map V.str) ∨ SqT K H p (ys.map V.str)) ∧ (ys.map (·.length)).sum + ys.length * a.length ≤ 16777216 ∧ Q (.str (Txt.join a ys)) H
theorem pe_joinN {X : Cx} {o e : Expr} {to te : TE} {apos pos : Pos} (ho : PE X o to) (he : PE X e te) (hs : starEach [e] X.env = [(false, eval e X.env)] := by rfl) (hbase : attributeBase o "join" X.env (eval o X.env) = eval o X.env := by rfl) (hline : (apos.endLine == pos.line) = true := by rfl) :
    PE X (.Call (.Attribute o "join" apos) [e] [] pos) (tM1 (rJn X.K) to te) := pe_join ho he hs hbase hline
theorem sum_le (B : Nat) : ∀ ys : List Str, (∀ y ∈ ys, y.length ≤ B) → (ys.map (·.length)).sum ≤ B * ys.length
  | [], _ => Nat.zero_le _
  | y :: ys, h => by
    have h1 := h y List.mem_cons_self
    have h2 := sum_le B ys fun z hz => h z (List.mem_cons_of_mem _ hz)
    rw [List.map_cons, List.sum_cons, List.length_cons, Nat.mul_add]
    omega
theorem str_join_le (sep : Str) : ∀ ys : List Str, (Str.join sep ys).length ≤ (ys.map (·.length)).sum + ys.length * sep.length
  | [] => Nat.zero_le _
  | [y] => by
    show y.length ≤ (y.length + 0) + 1 * sep.length
    omega
  | y :: z :: ys => by
    have ih := str_join_le sep (z :: ys)
    have e : Str.join sep (y :: z :: ys) = y ++ sep ++ Str.join sep (z :: ys) := rfl
    rw [e, str_len, str_len, List.map_cons, List.sum_cons, List.length_cons, Nat.add_mul]
    omega
theorem txt_join_le (sep : Str) (ys : List Str) : (Txt.join sep ys).length ≤ (ys.map (·.length)).sum + ys.length * sep.length := by
  show (Builtin.Str.glued sep ys).length ≤ _
  rw [StrLaws.glued_eq_join]
  exact str_join_le sep ys
section
variable {P : Program} {w : World} {K : PySem.W.Frag} {mg : Str → Option Value} {base : Heap} {C : Addr}
/-! ### Picture.__str__ -/
/-- a number's text, a place's, a picture's -/
def shN (n : Int) : Str := Str.ofString (toString n)
def plT (p : Int × Int) : Str := Str.empty ++ shN p.1 ++ Str.ofString " " ++ shN p.2
def picT (ps : List (Int × Int)) : Str := Txt.join (Str.ofString " / ") (ps.map plT)
def spStrP (C : Addr) : Sp := fun vs H Q _ => ∃ (a : Addr) (ps : List (Int × Int)), vs = [.ref a] ∧ PicF H C a ps ∧ OkP ps ∧ ∀ H', Same H H' → (picT ps).length ≤ 40000 → Q (.str (picT ps)) H'
abbrev sStrP : Stmt := inClass (top 39) 2
abbrev nStrP : List Str := ["self", "x", "y"]
theorem scStrP : FnScope nStrP ["self"] (defScope sStrP) := ⟨rfl, rfl, rfl, by decide +kernel, rfl, by decide +kernel, by decide +kernel⟩
theorem log_small {n : Int} (h : -G9 ≤ n) (h2 : n ≤ G9) : n.natAbs.log2 < 1920 := Nat.lt_trans (PySem.Flt.log2_lt_of (k := 31) (by decide) (by have : G9 = 1000000000 := rfl; omega)) (by decide)
theorem ok_strP {f : Addr} {fd : FuncData} (F : Fun K "__str__" "Picture.__str__" sStrP f fd) (T : PicT K C) : FnOk P w K mg base CX0 1 f fd ["self"] (spStrP C) := by
  have nd := scStrP.nd
  refine F.ok scStrP (fun vs H Q E h => ?_) (fun cdv A outer s H vs Q E hr h => ?_)
  · obtain ⟨a, ps, rfl, _⟩ := h
    rfl
  · obtain ⟨a, ps, rfl, hp, ok, q⟩ := h
    refine ⟨_, pss_one (ps_ret (pe_joinN pe_str (pe_lc (own := [("x", 1), ("y", 2)]) (g := gTup K 2 (gCons (gName 1) (gCons (gName 2) gNil))) (tt := tYes) rfl nd (pi_tup (pe_fld (pv 0) rfl)) (blkOk_by (N := nStrP) (sc := defScope sStrP) (by decide +kernel)) (fun _ _ _ _ _ => pg_tup rfl (pgs_cons (pg_name (i := 1) nd rfl (Or.inl rfl)) (pgs_cons (pg_name (i := 2) nd rfl (Or.inl rfl)) pgs_nil))) (fun _ _ _ _ _ => pts_nil)
      (fun _ _ _ _ _ => pe_joinedN (.cons (pe_fmt (pv 1)) (.cons pe_str (.cons (pe_fmt (pv 2)) .nil))))))), ?_⟩
    obtain ⟨dx, t, u, ha, ⟨ts, ht, hk⟩, hu⟩ := hp
    have lt : ts.length = ps.length := Paired.length hk
    have l7 := ok.2.1
    refine ⟨⟨_, rfl⟩, ?_⟩
    refine ⟨_, rfl, a, C, dx, _, .ref t, rfl, ha, T.pc.cls, T.n1, rfl, t, rfl, ⟨_, SqT.of ht⟩, fun D hD => ?_⟩
    refine lc_tup (K := K) (a := t) (xs := ts.map V.ref) (fun i H' => Same H H' ∧ ∃ ys : List Str, ys = (ps.take i).map plT ∧ ys.length = i ∧ H' D = some (.lst (ys.map V.str)) ∧ ∀ y ∈ ys, y.length ≤ 4000) ⟨same_new hD, [], rfl, rfl, upd_same, fun y h => absurd h List.not_mem_nil⟩ (fun i H' _ p => SqT.of (p.1 _ _ ht)) (fun i x H' hx p => ?_) (fun H' p => ?_)
    · obtain ⟨s1, ys, ey, ly, hd, hb⟩ := p
      have hi : i < ts.length := by
        rcases Nat.lt_or_ge i ts.length with h | h
        · exact h
        · rw [List.getElem?_eq_none (by rw [List.length_map]; exact h)] at hx
          cases hx
      obtain ⟨pp, hpp, hpr⟩ := paired_get hk (i := i) (x := ts[i]) (List.getElem?_eq_getElem hi)
      have hpr : H ts[i] = some (.tup [.int pp.1, .int pp.2]) := hpr
      have ex : x = .ref ts[i] := by
        rw [List.getElem?_map, List.getElem?_eq_getElem hi] at hx
        exact (Option.some.inj hx).symm
      subst ex
      obtain ⟨g1, g2, g3, g4⟩ := ok.2.2 pp (List.mem_of_getElem? hpp)
      have lx := log_small g1 g2
      have ly2 := log_small g3 g4
      have tx := int_text_len_1921 lx
      have ty := int_text_len_1921 ly2
      refine ⟨ts[i], _, rfl, SqT.of (s1 _ _ hpr), rfl, _, _, rfl, _, _, rfl, rfl, ?_⟩
      refine ⟨rfl, ?_⟩
      have e0 : (Str.empty).length = 0 := rfl
      have e1 : (Str.ofString " ").length = 1 := by decide +kernel
      have big : ∀ n, n ≤ 4000 → n ≤ sizeLine := fun n h => Nat.le_of_lt (Nat.lt_of_le_of_lt h (by decide))
      refine ⟨_, rfl, .inr ⟨_, rfl, lx, _, rfl, ?_, _, rfl, ?_, _, rfl, .inr ⟨_, rfl, ly2, _, rfl, ?_, _, hd, by rw [List.length_map]; exact small1000 (by omega), fun b o e => ?_, ys ++ [_], ?_, by simp [ly], by rw [upd_same, List.map_append]; rfl, fun y hy => ?_⟩⟩⟩
      · rw [str_len]
        exact big _ (by omega)
      · rw [str_len, str_len]
        exact big _ (by omega)
      · rw [str_len, str_len, str_len]
        exact big _ (by omega)
      · rw [upd_ne (ne_of_none e hD)]
        exact s1 _ _ e
      · rw [take_more hpp, List.map_append, ey]
        rfl
      · rcases List.mem_append.mp hy with h | h
        · exact hb y h
        · rw [List.mem_singleton.mp h, str_len, str_len, str_len]
          omega
    · obtain ⟨s1, ys, ey, ly, hd, hb⟩ := p
      rw [List.length_map, lt] at ly ey
      rw [List.take_length] at ey
      have et : Txt.join (Str.ofString " / ") ys = picT ps := by
        rw [ey]
        rfl
      have e3 : (Str.ofString " / ").length = 3 := by decide +kernel
      have h1 := sum_le 4000 ys hb
      rw [← et] at q
      refine ⟨_, D, ys, rfl, rfl, .inl (SqL.of hd), ?_, q _ s1 ?_⟩
      · rw [e3]
        omega
      · have := txt_join_le (Str.ofString " / ") ys
        rw [e3] at this
        omega
end
end K17

namespace K17
open PySem PySem.Spec PyProof.Rows L2
/-! ### a call of a def in places where no expression stands -/
section
variable {X : Cx} {k : Nat} {f : Addr} {fd : FuncData} {ps : List Str} {sp : Sp}
theorem Env0.around {P : Program} {w : World} {K : PySem.W.Frag} {mg : Str → Option Value} {base : Heap} {A A' : Around} {st : List Env} {s : Shared} {H : Hp} (e : Env0 P w K mg base A st s H) (h : A'.frames = A.frames) : Env0 P w K mg base A' st s H := ⟨by rw [h]; exact e.frames, e.mod, e.bs, e.bsz, e.funs, e.frf, e.hok, e.bare⟩
theorem run_at {A : Around} {pins : List (Addr × Obj)} {σ : L2.St} {H : Hp} {s : Shared} {Q : VK} {us : List Value} {vs : List V} (F : FnOk X.prog X.w X.K X.mg X.base CX0 k f fd ps sp) (hr : Room k A) (hf : A.frames = X.A.frames) (hb : Binds X.K fd ps [])
    (I : Inv X pins σ H s) (r : Vals vs us) (h : sp vs H Q (fun _ _ _ => False)) : wpAny (model X.prog X.w) A (call (.ref f) us) (EP X pins σ Q) X.xe s := by
  have hl := F.len _ _ _ _ h
  refine wpAny_call (codeAny_mono (F.run A X.stack s H ⟨us, []⟩ us vs Q _ hr (Env0.around I.env0 hf) (by
    have := hb s us I.kIn (by rw [List.append_nil, ← r.length]; exact hl)
    rw [List.append_nil] at this
    exact this) r h) fun r s' hq => ?_)
  cases r with
  | error e => exact False.elim hq
  | ok fl =>
    cases fl with
    | ret u => exact I.after hq
    | next => exact False.elim hq
    | brk => exact False.elim hq
    | cont => exact False.elim hq
end
section
variable {prog : Program} {w : World} {A : Around} {E : Value → Shared → Prop} {h : Heap} {g : Array GenState} {d : Drawn} {t : Nat} {os : OsState} {K : PySem.W.Frag} {x C : Addr} {ob : Obj} {od : Option Obj}
theorem special_in {name : Str} {id : String} {args : List Value} {Q : Option Value → Shared → Prop} (Y : K.In h) (J : PySem.W.InstAt h x ob C od) (ha : PySem.W.findIn K (.ref C) name = some (some (.builtin id))) (S : Slot "object" name id)
    (go : wpAny (model prog w) A (call (.builtin id) (.ref x :: args)) (fun v => Q (some v)) E ⟨h, g, d, t, os⟩) : wpAny (model prog w) A (callSpecialIfBound? (.ref x) name args) Q E ⟨h, g, d, t, os⟩ := by
  simp only [callSpecialIfBound?, bindSpecialIfBound?]
  refine wpAny_holding (wpAny_bind (wpAny_bind ?_))
  unfold specialOf
  refine wpAny_bind (J.type.at ((PySem.W.looks_findIn Y ha).at ?_))
  simp only [S.bind]
  refine wpAny_bind (wpAny_askSetting (wpAny_ite ?_))
  have fin : wpAny (model prog w) A (call (.builtin id) ([.ref x] ++ args) >>= fun v => pure (some v)) Q E ⟨h, g, d, t, os⟩ :=
    wpAny_bind (wpAny_mono go (fun v z hz => wpAny_pure hz) fun _ _ hz => hz)
  split
  · exact wpAny_bind (wpAny_pure (wpAny_pure fin))
  · exact wpAny_tryCatch (wpAny_bind (wpAny_pure (wpAny_pure fin)))
end
/-! ### == and != of pictures -/
def rEqP (K : PySem.W.Frag) (C : Addr) : R2 := fun x y H Q => ∃ (a : Addr) (ps : List (Int × Int)) (b : Bool), x = .ref a ∧ PicF H C a ps ∧ Eqs H C ps y b ∧ Q (.bl b) H
def rNeP (K : PySem.W.Frag) (C : Addr) : R2 := fun x y H Q => ∃ (a : Addr) (ps : List (Int × Int)) (b : Bool), x = .ref a ∧ PicF H C a ps ∧ Eqs H C ps y b ∧ Q (.bl (!b)) H
section
variable {X : Cx} {C fE : Addr} {fd : FuncData}
theorem pic_inst {pins : List (Addr × Obj)} {σ : L2.St} {H : Hp} {s : Shared} {a : Addr} {ps : List (Int × Int)} (I : Inv X pins σ H s) (h : PicF H C a ps) : ∃ (ob : Obj) (od : Obj), PySem.W.InstAt s.heap a ob C (some od) := by
  obtain ⟨dx, t, u, e, _⟩ := h
  obtain ⟨mA, J, _⟩ := ins_get I.hok e
  obtain ⟨od, J, _⟩ := J.look
  exact ⟨_, od, J⟩
theorem eqs_type {pins : List (Addr × Obj)} {σ : L2.St} {H : Hp} {s : Shared} {y : V} {u : Value} {b : Bool} {ps : List (Int × Int)} (I : Inv X pins σ H s) (N : PicN X.K C) (ry : RelV y u) (h : Eqs H C ps y b) :
    ∃ tb, PySem.W.Looks (model X.prog X.w) s.heap (typeOf u) tb ∧ PySem.W.notFirst X.K C tb = true := by
  rcases h with ⟨t, np, _⟩ | ⟨q, qs, rfl, hq, _⟩
  · obtain ⟨P, Z, p, _⟩ := kit_of I ry np.ty
    exact ⟨_, Z.ty _ _ I.kIn p, (N.of np).2⟩
  · obtain rfl : u = Value.ref q := ry
    obtain ⟨ob, od, J⟩ := pic_inst I hq
    exact ⟨_, J.type, by simp [PySem.W.notFirst]⟩
theorem op_eqP (G : FnOk X.prog X.w X.K X.mg X.base CX0 1 fE fd ["self", "other"] (spEqP C)) (hs : PySem.W.findIn X.K (.ref C) "__eq__" = some (some (.ref fE))) (hf : PySem.W.isFn X.K (.ref fE) = true) (hb : Binds X.K fd ["self", "other"] []) (N : PicN X.K C) (hr : Room 2 X.A) :
    OpR X (compareOp .Eq) (rEqP X.K C) := by
  intro pins s σ H x y v u Q I rx ry h
  obtain ⟨a, ps, b, rfl, hp, he, q⟩ := h
  obtain rfl : v = Value.ref a := rx
  obtain ⟨ob, od, J⟩ := pic_inst I hp
  obtain ⟨tb, L, nf⟩ := eqs_type I N ry he
  obtain ⟨m, hF⟩ := I.fr
  refine PySem.W.cmp_K (op := .Eq) (tb := tb) hr.units0 hF I.ok.mod.kin J L nf hs hf ?_
  refine wpAny_mono (run_at (vs := [.ref a, y]) (us := [.ref a, u]) (Q := fun r H' => r = .bl b ∧ Q (.bl b) H') G (hr.mono (by decide)) rfl hb I (.cons rfl (.cons ry .nil)) ⟨a, y, ps, b, rfl, hp, he, rfl, q⟩) (fun r s' hq => ?_) fun _ _ z => z
  obtain ⟨v, H', I', rv, ev, q'⟩ := hq
  subst ev
  obtain rfl : r = Value.bool b := rv
  exact ⟨.bl b, H', I', rfl, q'⟩
theorem op_neP (G : FnOk X.prog X.w X.K X.mg X.base CX0 1 fE fd ["self", "other"] (spEqP C)) (hs : PySem.W.findIn X.K (.ref C) "__eq__" = some (some (.ref fE))) (hf : PySem.W.isFn X.K (.ref fE) = true) (hb : Binds X.K fd ["self", "other"] []) (N : PicN X.K C) (T : PicT X.K C) (hr : Room 3 X.A) :
    OpR X (compareOp .NotEq) (rNeP X.K C) := by
  intro pins s σ H x y v u Q I rx ry h
  obtain ⟨a, ps, b, rfl, hp, he, q⟩ := h
  obtain rfl : v = Value.ref a := rx
  obtain ⟨ob, od, J⟩ := pic_inst I hp
  obtain ⟨tb, L, nf⟩ := eqs_type I N ry he
  have hu : X.A.units + 1 < cLine := hu_of hr
  have isO : PySem.W.Looks (model X.prog X.w) s.heap (isInstance (.ref a) (.type "object")) true := J.type.andThen (PySem.W.looks_mroIn I.kIn T.pc.hm)
  have neDone : ∀ {Q' : Fin → Shared → Prop}, (∀ s', (∃ H', Inv X pins σ H' s' ∧ Q (.bl (!b)) H') → Q' (.done (.ret (.bool (!b)))) s') → wpAny (model X.prog X.w) X.A.in1 (Builtin.«object.__ne__» ⟨[.ref a, u], []⟩) Q' X.xe s := fun {Q'} k => by
    unfold Builtin.«object.__ne__»
    have go : wpAny (model X.prog X.w) X.A.in1 (callSpecialIfBound? (.ref a) (Str.ofString "__eq__") [u]) (fun r s' => r = some (.bool b) ∧ ∃ H', Inv X pins σ H' s' ∧ Q (.bl (!b)) H') X.xe s :=
      PySem.W.ifBound_K I.kIn J hs hf (wpAny_mono (run_at (A := X.A.in1) (vs := [.ref a, y]) (us := [.ref a, u]) (Q := fun r H' => r = .bl b ∧ Q (.bl (!b)) H') G (hr.mono (by decide : 2 ≤ 3)).in1 rfl hb I (.cons rfl (.cons ry .nil)) ⟨a, y, ps, b, rfl, hp, he, rfl, q⟩) (fun r s' hq => by
        obtain ⟨v, H', I', rv, ev, q'⟩ := hq
        subst ev
        obtain rfl : r = Value.bool b := rv
        exact ⟨rfl, H', I', q'⟩) fun _ _ z => z)
    repeat (first
      | with_reducible refine wpAny_cRoomFor (show X.A.in1.units < cLine from hu) ?_
      | (refine wpAny_bind (m := callSpecialIfBound? (.ref a) (Str.ofString "__eq__") [u]) (wpAny_mono go (fun r s' hr => by
          obtain ⟨rfl, hq⟩ := hr
          have z := k s' hq
          repeat (first | exact z | exact wpAny_pure z | exact wpAny_truthy_bool z | (refine wpAny_bind (m := truthy (.bool _)) (wpAny_truthy_bool ?_)) | wp_step)) fun _ _ e => e))
      | wp_step)
  have tryDone : wpAny (model X.prog X.w) X.A (tryCompare (.ref a) "__ne__" u) (fun r s' => r = some (.bool (!b)) ∧ ∃ H', Inv X pins σ H' s' ∧ Q (.bl (!b)) H') X.xe s := by
    simp only [tryCompare]
    obtain ⟨hp', g, d, t, os⟩ := s
    refine wpAny_bind (special_in I.kIn J N.ne F.cmp_object.ne (wpAny_call (codeAny_call_builtin F.cmp_object.ne.plain F.cmpEntry_ne (PySem.W.check_slot F.cmpKind_ne F.cmpSplit_ne isO (F.cmpArgs_ne _ _) (neDone (fun s' hq => ?_))))))
    exact wpAny_pure ⟨rfl, hq⟩
  show wpAny _ _ (richCompare .NotEq (.ref a) u) _ _ s
  unfold richCompare
  simp only [oneThing_ref, cmpInfo_NotEq]
  refine wpAny_holding (wpAny_bind (wpAny_cRoomFor (Nat.lt_of_succ_lt hu) ?_))
  refine wpAny_bind (J.type.here (wpAny_bind (L.here ?_)))
  split
  · rename_i q'
    have e : PySem.W.subIn X.K tb (.ref C) = some false := by
      unfold PySem.W.notFirst at nf
      rcases Bool.or_eq_true_iff.mp nf with e | e
      · rw [beq_iff_eq.mp e] at q'; simp at q'
      · exact beq_iff_eq.mp e
    refine wpAny_bind ((PySem.W.looks_subIn I.kIn e).here ?_)
    simp only [Bool.false_eq_true, if_false]
    refine wpAny_bind (wpAny_mono tryDone (fun r s' z => ?_) fun _ _ e => e)
    obtain ⟨rfl, H', I', hq⟩ := z
    exact wpAny_pure ⟨.bl (!b), H', I', rfl, hq⟩
  · refine wpAny_bind (wpAny_pure ?_)
    simp only [Bool.false_eq_true, if_false]
    refine wpAny_bind (wpAny_mono tryDone (fun r s' z => ?_) fun _ _ e => e)
    obtain ⟨rfl, H', I', hq⟩ := z
    exact wpAny_pure ⟨.bl (!b), H', I', rfl, hq⟩
end
end K17

namespace K17
open PySem PySem.Spec PyProof.Rows L2
/-! ### str(picture) -/
def rStrP (C : Addr) : List V → Hp → VK → Prop := fun xs H Q => ∃ (a : Addr) (ps : List (Int × Int)), xs = [.ref a] ∧ PicF H C a ps ∧ OkP ps ∧ ∀ H', Same H H' → (picT ps).length ≤ 40000 → Q (.str (picT ps)) H'
section
variable {X : Cx} {C fS : Addr} {fd : FuncData}
theorem call_strP (G : FnOk X.prog X.w X.K X.mg X.base CX0 1 fS fd ["self"] (spStrP C)) (hs : PySem.W.findIn X.K (.ref C) "__str__" = some (some (.ref fS))) (hf : PySem.W.isFn X.K (.ref fS) = true) (hb : Binds X.K fd ["self"] []) (hr : Room 3 X.A) : CallR X (.type "str") (rStrP C) := by
  intro pins s σ H xs us Q I r h
  obtain ⟨a, ps, rfl, hp, ok, q⟩ := h
  obtain ⟨u, rfl, ru⟩ := vals1 r
  obtain rfl : u = Value.ref a := ru
  obtain ⟨ob, od, J⟩ := pic_inst I hp
  have hu : X.A.in1.in1.units < cLine := by
    have := hr.un
    show X.A.units + 1 + 1 < cLine
    omega
  refine PySem.W.kso_call hu I.kIn J hs hf (wpAny_mono (run_at (A := X.A.in1.in1) (vs := [.ref a]) (us := [.ref a]) (Q := fun r H' => ∃ z, r = .str z ∧ Q (.str z) H') G (hr.in1.in1) rfl hb I (.cons rfl .nil) ⟨a, ps, rfl, hp, ok, fun H' s' hz => ⟨_, rfl, q H' s' hz⟩⟩) (fun r s' hq => ?_) fun _ _ z => z)
  obtain ⟨v, H', I', rv, z, ev, q'⟩ := hq
  subst ev
  obtain ⟨t, rfl⟩ := rv
  exact ⟨.str z, H', I', ⟨t, rfl⟩, q'⟩
end
/-! ### a picture is made -/
/-- a new picture with these places -/
def NewP (C : Addr) (ps : List (Int × Int)) (H : Hp) (Q : VK) : Prop := ∀ a H', Same H H' → H a = none → PicF H' C a ps → Q (.ref a) H'
/-- how a picture is made of a value: of places, or refused -/
def MkP (K : PySem.W.Frag) (C CB : Addr) (v : V) (H : Hp) (Q : VK) (E : XK) : Prop := (∃ ps, Pls H v ps ∧ OkP ps ∧ NewP C ps H Q) ∨ (∃ o, RowsV K H v o ∧ plB o = false ∧ Rz CB "places" H E)
theorem rz_same {C : Addr} {z : Str} {H H1 : Hp} {E : XK} (h : Rz C z H E) (s : Same H H1) : Rz C z H1 E := fun d H' s' n e => h d H' (s.trans s') (s.free n) e
theorem mk_in {K : PySem.W.Frag} {C CB : Addr} {v : V} {H : Hp} {Q : VK} {E : XK} (m : MkP K C CB v H Q E) : ∀ x dx, H x = none → H dx = none → dx ≠ x → spPI K C CB [.ref x, v] (upd (upd H dx (.own x)) x (.ins C dx [])) (fun r H2 => r = .non ∧ Q (.ref x) H2) E := fun x dx hx hdx ne => by
  have s0 : Same H (upd (upd H dx (.own x)) x (.ins C dx [])) := fun b o e => by
    rw [upd_ne (ne_of_none e hx), upd_ne (ne_of_none e hdx)]
    exact e
  refine ⟨x, dx, v, rfl, upd_same, ?_⟩
  rcases m with ⟨ps, pls, ok, n⟩ | ⟨o, ro, po, r⟩
  · exact .inl ⟨ps, pls.same s0, ok, fun H' k p => ⟨rfl, n x H' (fun b o e => k b o (ne_of_none e hx) (s0 _ _ e)) hx p⟩⟩
  · exact .inr ⟨o, ro.same s0, po, rz_same r s0⟩
/-- the class of pictures, as its callers see it -/
structure Pc (P : Program) (w : World) (K : PySem.W.Frag) (mg : Str → Option Value) (base : Heap) (C CB : Addr) : Prop where
  mgC : mg "Picture" = some (.ref C)
  t : PicT K C
  n : PicN K C
  ini : ∃ (fI : Addr) (fd : FuncData), Mk K C fI ∧ FnOk P w K mg base (L2.CX P w) 6 fI fd ["self", "places"] (spPI K C CB) ∧ Binds K fd ["self", "places"] [] ∧ KBn K fd ["self", "places"] 1 ["places"] (fun us ws => us ++ ws) (fun vs zs => vs ++ zs)
  eq : ∃ (fE : Addr) (fd : FuncData), FnOk P w K mg base CX0 1 fE fd ["self", "other"] (spEqP C) ∧ PySem.W.findIn K (.ref C) "__eq__" = some (some (.ref fE)) ∧ PySem.W.isFn K (.ref fE) = true ∧ Binds K fd ["self", "other"] []
  st : ∃ (fS : Addr) (fd : FuncData), FnOk P w K mg base CX0 1 fS fd ["self"] (spStrP C) ∧ PySem.W.findIn K (.ref C) "__str__" = some (some (.ref fS)) ∧ PySem.W.isFn K (.ref fS) = true ∧ Binds K fd ["self"] []
section
variable {X : Cx} {C CB : Addr} {x : Str} {e : Expr} {es : List Expr} {kws : List Keyword} {t tk : TA} {p pos : Pos}
/-- Picture(e), which is not refused -/
def tMkP (K : PySem.W.Frag) (C CB : Addr) (E : XK) (t : TA) : TE := fun σ H Q => t σ H fun vs H1 => ∃ v, vs = [v] ∧ MkP K C CB v H1 Q E
theorem pe_mkP {E : XK} (T : Pc X.prog X.w X.K X.mg X.base C CB) (hr : Room 7 X.A) (hx : Passes (L2.CX X.prog X.w) X E) (hg : Gl X "Picture") (ha : PA X (e :: es) t) (he : starEach (e :: es) X.env = (false, eval e X.env) :: starEach es X.env := by rfl) (hpl : (backTo pos (starEach es X.env)).any (·.1) = false := by rfl) :
    PE X (.Call (.Name "Picture" p) (e :: es) [] pos) (tMkP X.K C CB E t) := by
  obtain ⟨fI, fd, M, G, b, _⟩ := T.ini
  refine ⟨fun pins s σ H Q I h => ?_⟩
  refine wpAny_Call_Name_kw (ld_glob I hg T.mgC ?_ (by decide))
  refine PySem.W.callWith_K (h₀ := X.base) I.ok.mod.kin M.kp (thn (ha.run pos pins s σ H _ I h) fun us s1 ⟨vs, H1, I1, r, v, ev, m⟩ => ⟨I1.kIn, ?_⟩) he hpl
  subst ev
  exact run_make (dvs := []) (ds := []) M G hr b .nil hx I1 r (mk_in m)
/-- Picture(places=e) -/
theorem pe_mkPK {E : XK} (T : Pc X.prog X.w X.K X.mg X.base C CB) (hr : Room 7 X.A) (hx : Passes (L2.CX X.prog X.w) X E) (hg : Gl X "Picture") (hkw : PK X kws tk)
    (hall : (backToKw pos (keywordEach kws X.env)).all (·.1.isSome) = true := by rfl) (hks : (backToKw pos (keywordEach kws X.env)).filterMap (·.1) = (["places"] : List Str) := by rfl)
    (hpl : ((backTo pos (starEach [] X.env)).any (·.1) || (backToKw pos (keywordEach kws X.env)).any (·.1.isNone)) = false := by rfl) :
    PE X (.Call (.Name "Picture" p) [] kws pos) (tMkP X.K C CB E tk) := by
  obtain ⟨fI, fd, M, G, _, b⟩ := T.ini
  refine ⟨fun pins s σ H Q I h => ?_⟩
  refine wpAny_Call_Name_kw (ld_glob I hg T.mgC ?_ (by decide))
  refine PySem.W.callWith_KW0 (h₀ := X.base) I.ok.mod.kin M.kp hall ?_ hpl
  refine thn (hkw.run pos pins s σ H _ I h) fun ws s2 ⟨zs, H2, I2, rz, v, ev, m⟩ => ⟨I2.kIn, ?_⟩
  subst ev
  rw [hks]
  exact run_makeN (n := 0) (us := []) (vs := []) M G hr b hx I2 .nil rz rfl rfl (mk_in m)
/-- as run_make, what is raised being wished for at the caller's slots -/
def tMkPS (K : PySem.W.Frag) (C CB : Addr) (E : L2.St → XK) (t : TA) : TE := fun σ H Q => t σ H fun vs H1 => ∃ v, vs = [v] ∧ MkP K C CB v H1 Q (E σ)
theorem pe_mkPS {E : L2.St → XK} (T : Pc X.prog X.w X.K X.mg X.base C CB) (hr : Room 7 X.A) (hx : ∀ σ, PassesAt (L2.CX X.prog X.w) X σ (E σ)) (hg : Gl X "Picture") (ha : PA X (e :: es) t) (he : starEach (e :: es) X.env = (false, eval e X.env) :: starEach es X.env := by rfl) (hpl : (backTo pos (starEach es X.env)).any (·.1) = false := by rfl) :
    PE X (.Call (.Name "Picture" p) (e :: es) [] pos) (tMkPS X.K C CB E t) := by
  obtain ⟨fI, fd, M, G, b, _⟩ := T.ini
  refine ⟨fun pins s σ H Q I h => ?_⟩
  refine wpAny_Call_Name_kw (ld_glob I hg T.mgC ?_ (by decide))
  refine PySem.W.callWith_K (h₀ := X.base) I.ok.mod.kin M.kp (thn (ha.run pos pins s σ H _ I h) fun us s1 ⟨vs, H1, I1, r, v, ev, m⟩ => ⟨I1.kIn, ?_⟩) he hpl
  subst ev
  have hq := mk_in m (s1.heap.objs.size + 1) s1.heap.objs.size (I1.hok.fresh (Nat.le_succ _)) (I1.hok.fresh (Nat.le_refl _)) (Nat.ne_of_lt (Nat.lt_succ_self _))
  have I2 := Inv.made (C := C) I1
  have r2 : Vals [V.ref (s1.heap.objs.size + 1), v] (Value.ref (s1.heap.objs.size + 1) :: us) := .cons rfl r
  have hl : (Value.ref (s1.heap.objs.size + 1) :: us ++ []).length = (["self", "places"] : List Str).length := by
    rw [List.append_nil, ← r2.length]
    rfl
  have bb := b _ (Value.ref (s1.heap.objs.size + 1) :: us) I2.kIn hl
  rw [List.append_nil] at bb
  refine wpAny_call (make_map (f := fI) I1.kIn M.makes M.init (beq_iff_eq.mp M.fn) (codeAny_mono (G.run _ X.stack _ _ ⟨Value.ref (s1.heap.objs.size + 1) :: us, []⟩ (Value.ref (s1.heap.objs.size + 1) :: us) _ _ (E σ) (hr.make C us [])
    (I2.env0.make C us []) bb r2 hq) fun r s' hq' => ?_))
  cases r with
  | error e => exact hx σ pins _ _ e s' I2 hq'
  | ok fl =>
    cases fl with
    | ret u =>
      obtain ⟨v, H', I3, rv, ev, q3⟩ := I2.after hq'
      subst ev
      exact ⟨rv, ⟨V.ref (s1.heap.objs.size + 1), H', I3, rfl, q3⟩⟩
    | next => exact False.elim hq'
    | brk => exact False.elim hq'
    | cont => exact False.elim hq'
end
end K17

namespace K17
open PySem PySem.Spec PyProof.Rows L2
/-! ### floor division by any divisor but 0 -/
def CDivWN (_ j : Int) : Prop := j ≠ 0 ∧ j.natAbs.log2 < 9000
theorem op_fdivWN {X : Cx} : OpR X (binaryOp .FloorDiv) (rI CDivWN fun i j => .int (i.fdiv j)) := opI fun _ _ _ _ _ _ _ hc q => floordiv_int hc.1 q (.inl (PyProof.noPylong_of_log2 hc.2))
theorem cdiv_of {i j : Int} {b : Nat} (h : j ≠ 0) (hb : j.natAbs < 2 ^ b) (h0 : 0 < b) (h9 : b ≤ 9000) : CDivWN i j := ⟨h, Nat.lt_of_lt_of_le (PySem.Flt.log2_lt_of h0 hb) h9⟩
/-! ### the lens -/
/-- but at p all stands as it stood, and what draws keeps its cells -/
def SB (p : Addr) (H H' : Hp) : Prop := (∀ b o, b ≠ p → H b = some o → H' b = some o) ∧ ∀ c x y, H p = some (.lst [.ref c, x, y]) → ∃ x' y', H' p = some (.lst [.ref c, x', y'])
theorem SB.refl (p : Addr) (H : Hp) : SB p H H := ⟨fun _ _ _ h => h, fun _ _ _ h => ⟨_, _, h⟩⟩
theorem SB.trans {p : Addr} {H H1 H2 : Hp} (a : SB p H H1) (b : SB p H1 H2) : SB p H H2 := ⟨fun c o n h => b.1 c o n (a.1 c o n h), fun c x y h => let ⟨_, _, h1⟩ := a.2 c x y h; b.2 _ _ _ h1⟩
theorem SB.of {p : Addr} {H H' : Hp} (s : Same H H') : SB p H H' := ⟨fun b o _ h => s b o h, fun _ _ _ h => ⟨_, _, s _ _ h⟩⟩
theorem SB.set {p c : Addr} {x y x' y' : V} {H : Hp} (e : H p = some (.lst [.ref c, x, y])) : SB p H (upd H p (.lst [.ref c, x', y'])) := ⟨fun b o n h => by
  rw [upd_ne n]
  exact h, fun d _ _ h => by
  rw [e] at h
  have z := V.ref.inj (List.cons.inj (HO.lst.inj (Option.some.inj h))).1
  exact ⟨x', y', by rw [upd_same, z]⟩⟩
/-- the lens at p, of n turns at most -/
def Lens (H : Hp) (p : Addr) (n : Nat) : Prop := ∃ (c : Addr) (ns : List Int) (spot store : Int), H p = some (.lst [.ref c, .int spot, .int store]) ∧ H c = some (.lst (ns.map V.int)) ∧ c ≠ p ∧ 0 ≤ spot ∧ spot ≤ n
theorem Lens.same {H H' : Hp} {p : Addr} {n : Nat} (v : Lens H p n) (s : Same H H') : Lens H' p n := by
  obtain ⟨c, ns, a, b, h1, h2, h⟩ := v
  exact ⟨c, ns, a, b, s _ _ h1, s _ _ h2, h⟩
theorem Lens.le {H : Hp} {p : Addr} {n m : Nat} (v : Lens H p n) (h : n ≤ m) : Lens H p m := by
  obtain ⟨c, ns, a, b, h1, h2, h3, h4, h5⟩ := v
  exact ⟨c, ns, a, b, h1, h2, h3, h4, by omega⟩
theorem Lens.at {H : Hp} {p : Addr} {n : Nat} (v : Lens H p n) : ∃ (c : Addr) (a b : Int), H p = some (.lst [.ref c, .int a, .int b]) := by
  obtain ⟨c, ns, a, b, h1, _⟩ := v
  exact ⟨c, a, b, h1⟩
/-- a thing made later is no part of what draws -/
theorem Lens.upd {H4 H : Hp} {p D : Addr} {n n4 : Nat} {o : HO} (v : Lens H p n) (v4 : Lens H4 p n4) (s : SB p H4 H) (hD : H4 D = none) : Lens (upd H D o) p n := by
  obtain ⟨c, ns, x, y, h1, h2, h3, h4, h5⟩ := v
  obtain ⟨c4, ms, x4, y4, g1, g2, g3, _⟩ := v4
  obtain ⟨x', y', e⟩ := s.2 _ _ _ g1
  rw [h1] at e
  have z : c = c4 := V.ref.inj (List.cons.inj (HO.lst.inj (Option.some.inj e))).1
  subst z
  exact ⟨c, ns, x, y, by rw [upd_ne (ne_of_none g1 hD)]; exact h1, by rw [upd_ne (ne_of_none g2 hD)]; exact h2, h3, h4, h5⟩
/-- a comprehension without a test keeps every item -/
theorem yes_of {T N : Hp → Prop} {σ : L2.St} {H : Hp} (h : T H) : tYes σ H fun b H3 => if b = true then T H3 else N H3 := by
  show if true = true then T H else N H
  rw [if_pos rfl]
  exact h
theorem cut_ints (ns : List Int) (lo hi : Option Int) : ∃ ms : List Int, cutV (ns.map V.int) lo hi = ms.map V.int ∧ ms.length ≤ ns.length := by
  refine ⟨(ns.drop (HT.sIx (ns.map V.int).length 0 lo)).take (HT.sIx (ns.map V.int).length (ns.map V.int).length hi - HT.sIx (ns.map V.int).length 0 lo), ?_, ?_⟩
  · unfold cutV
    rw [List.map_take, List.map_drop]
  · rw [List.length_take, List.length_drop]
    omega
theorem get_ints {ns : List Int} {i : Nat} {x : V} (h : (ns.map V.int)[i]? = some x) : ∃ z, ns[i]? = some z ∧ x = .int z := by
  rw [List.getElem?_map] at h
  cases e : ns[i]? with
  | none =>
    rw [e] at h
    cases h
  | some z =>
    rw [e] at h
    exact ⟨z, rfl, (Option.some.inj h).symm⟩
theorem dp_ints {K : PySem.W.Frag} {H : Hp} : ∀ ns : List Int, DpAll K H (ns.map V.int) (ns.map PyData.int)
  | [] => .nil
  | n :: ns => .cons (.int n) (dp_ints ns)
theorem ix_cells {ns : List Int} {spot : Int} (h0 : 0 ≤ spot) (hn : ns ≠ []) : ∃ z, atI (ns.map V.int) (spot % (ns.map V.int).length) = some (.int z) := by
  have hl : 0 < ns.length := List.length_pos_iff.mpr hn
  have e1 := Int.emod_nonneg spot (show ((ns.map V.int).length : Int) ≠ 0 by rw [List.length_map]; omega)
  have e2 := Int.emod_lt_of_pos spot (show (0 : Int) < ((ns.map V.int).length : Int) by rw [List.length_map]; omega)
  obtain ⟨j, hj⟩ := Int.eq_ofNat_of_zero_le e1
  have hj2 : j < ns.length := by
    rw [List.length_map] at hj e2
    omega
  refine ⟨ns[j], ?_⟩
  rw [hj]
  refine atI_nat ?_
  rw [List.getElem?_map, List.getElem?_eq_getElem hj2]
  rfl
section
variable {P : Program} {w : World} {K : PySem.W.Frag} {mg : Str → Option Value} {base : Heap}
def spLens (K : PySem.W.Frag) : Sp := fun vs H Q _ => ∃ (a : Addr) (ns : List Int), vs = [.ref a] ∧ SqL K H a (ns.map V.int) ∧ ns.length ≤ 63 ∧ ∀ H' p, Same H H' → H p = none → Lens H' p 0 → Q (.ref p) H'
abbrev sLens : Stmt := top 45
theorem scLens : FnScope ["_law_script", "_law_cell"] ["_law_script"] (defScope sLens) := ⟨rfl, rfl, rfl, by decide +kernel, rfl, by decide +kernel, by decide +kernel⟩
theorem ok_lens {f : Addr} {fd : FuncData} (F : Fun K "_law_lens" "_law_lens" sLens f fd) (B : Bn mg) : FnOk P w K mg base CX0 1 f fd ["_law_script"] (spLens K) := by
  refine F.ok scLens (fun vs H Q E h => ?_) (fun cdv A outer s H vs Q E hr h => ?_)
  · obtain ⟨a, ns, rfl, _⟩ := h
    rfl
  · obtain ⟨a, ns, rfl, hS, hl, q⟩ := h
    refine ⟨_, pss_one (ps_ret (pe_lst (pa_cons (pe_lc (own := [("_law_cell", 1)]) (g := gName 1) (tt := tYes) rfl scLens.nd (pi_list (pe_slice sl_list (pv 0) po_none (po_some pe_int))) (blkOk_by (N := ["_law_script", "_law_cell"]) (sc := defScope sLens) (by decide +kernel)) (fun _ _ _ _ _ => pg_name (i := 1) scLens.nd rfl (Or.inl rfl)) (fun _ _ _ _ _ => pts_nil)
      (fun _ _ _ _ _ => pe_callTy call_int1 (by rfl) B.int boot_int (pa_cons (pv 1) pa_nil))) (pa_cons pe_int (pa_cons pe_int pa_nil))))), ?_⟩
    obtain ⟨ms, em, hm⟩ := cut_ints ns none (some 61)
    refine ⟨_, rfl, 61, rfl, a, _, rfl, hS, fun p hp => ?_⟩
    rw [em]
    refine ⟨p, rfl, ⟨_, SqL.of upd_same⟩, fun D hD => ?_⟩
    refine lc_list (K := K) (a := p) (xs := ms.map V.int) (fun i H' => Same (upd H p (.lst (ms.map V.int))) H' ∧ H' D = some (.lst ((ms.map V.int).take i))) ⟨same_new hD, upd_same⟩ (fun i H' _ p' => SqL.of (p'.1 _ _ upd_same)) (fun i x H' hx p' => ?_) (fun H' p' => ?_)
    · obtain ⟨z, _, rfl⟩ := get_ints hx
      refine ⟨rfl, yes_of ?_⟩
      refine ⟨_, rfl, .inl ⟨z, rfl, _, p'.2, ?_, ?_, ?_⟩⟩
      · rw [List.length_take, List.length_map]
        exact small1000 (by omega)
      · intro b o e
        rw [upd_ne (ne_of_none e hD)]
        exact p'.1 b o e
      · rw [upd_same, take_more hx]
    · have e := p'.2
      rw [List.take_length] at e
      refine ⟨by show 3 ≤ sizeLine; decide, fun t ht => ?_⟩
      have s0 : Same H (upd H p (.lst (ms.map V.int))) := same_new hp
      refine q _ t ((s0.trans p'.1).trans (same_new ht)) (s0.free (p'.1.free ht)) ⟨D, ms, 0, 0, upd_same, ?_, ne_of_none e ht, by decide, by decide⟩
      rw [upd_ne (ne_of_none e ht)]
      exact e
theorem mix_lt (x : Int) : 0 ≤ x % 2147483629 ∧ x % 2147483629 < 2147483629 := ⟨Int.emod_nonneg _ (by decide), Int.emod_lt_of_pos _ (by decide)⟩
theorem mixmul (x j : Int) : CMul (x % 2147483629) j := .inl ⟨by have := mix_lt x; omega, by have := mix_lt x; omega⟩
theorem pw5 (x : Int) {spot : Int} (h0 : 0 ≤ spot) (h1 : spot < 60000) : CPow (x % 2147483563 + 81041 * spot + 3181) 5 := by
  have a := Int.emod_nonneg x (show (2147483563 : Int) ≠ 0 by decide)
  have b := Int.emod_lt_of_pos x (show (0 : Int) < 2147483563 by decide)
  exact ⟨by decide, by decide, by omega⟩
theorem pw3 (y spot : Int) (a : 0 ≤ y) (b : y < 2147483629) (h0 : 0 ≤ spot) (h1 : spot < 60000) : CPow (y * (2 * spot + 1973) + 40193 * spot * spot + 81041) 3 := by
  have c1 : y * (2 * spot + 1973) ≤ 2147483629 * 121973 := Int.mul_le_mul (by omega) (by omega) (by omega) (by omega)
  have c0 : 0 ≤ y * (2 * spot + 1973) := Int.mul_nonneg a (by omega)
  have d1 : 40193 * spot * spot ≤ 40193 * 60000 * 60000 := Int.mul_le_mul (by omega) (by omega) (by omega) (by omega)
  have d0 : 0 ≤ 40193 * spot * spot := Int.mul_nonneg (by omega) h0
  exact ⟨by decide, by decide, by omega⟩
def spShot : Sp := fun vs H Q _ => ∃ (p : Addr) (m : Int) (n : Nat), vs = [.ref p, .int m] ∧ Lens H p n ∧ n < 60000 ∧ 0 < m ∧ m.natAbs < 2 ^ 64 ∧ ∀ H' d, SB p H H' → Lens H' p (n + 1) → 0 ≤ d → d < m → Q (.int d) H'
abbrev sShot : Stmt := top 46
abbrev nShot : List Str := ["_law_lens_here", "_law_many", "_law_rest", "_law_turn", "_law_cell", "_law_mixed"]
theorem scShot : FnScope nShot ["_law_lens_here", "_law_many"] (defScope sShot) := ⟨rfl, rfl, rfl, by decide +kernel, rfl, by decide +kernel, by decide +kernel⟩
theorem ok_shot {f : Addr} {fd : FuncData} (F : Fun K "_law_shot" "_law_shot" sShot f fd) (B : Bn mg) : FnOk P w K mg base CX0 1 f fd ["_law_lens_here", "_law_many"] spShot := by
  refine F.ok scShot (fun vs H Q E h => ?_) (fun cdv A outer s H vs Q E hr h => ?_)
  · obtain ⟨p, m, n, rfl, _⟩ := h
    rfl
  · obtain ⟨p, m, n, rfl, ⟨c, ns, spot, store, hp, hc, npc, h0, h1⟩, hn, hm0, hm, q⟩ := h
    have nd := scShot.nd
    refine ⟨_, (pss_cons (ps_if (pt_cmpR op_gt (pe_ix ix_list (pv 0) (pe_int) (fun _ _ => rfl)) pe_int (nomark _))
        (pss_cons ((ps_set (i := 2) nd rfl (Or.inl rfl) ((pe_ix ix_list (pv 0) (pe_int) (fun _ _ => rfl))))) (pss_cons (ps_asg (pe_op op_fdivWN (pe_callTy call_int1 (by rfl) B.int boot_int (pa_cons (pv 2) pa_nil)) (pv 1)) (pg_sub (pv 0) pe_int set_list)) (pss_one (ps_ret (pe_op op_mod (pe_callTy call_int1 (by rfl) B.int boot_int (pa_cons (pv 2) pa_nil)) (pv 1)))))) pss_nil) (pss_cons ((ps_set (i := 3) nd rfl (Or.inl rfl) ((pe_ix ix_list (pv 0) (pe_int) (fun _ _ => rfl))))) (pss_cons (ps_asg (pe_op op_add (pv 3) pe_int) (pg_sub (pv 0) pe_int set_list)) (pss_cons ((ps_set (i := 4) nd rfl (Or.inl rfl) (pe_op op_add (pe_op op_mul pe_int (pv 3)) pe_int))) (pss_cons (ps_if (pt_cmpR (op_neD hr.units) (pe_ix ix_list (pv 0) (pe_int) (fun _ _ => rfl)) (pe_lst pa_nil) (nomark _))
        (pss_one ((ps_set (i := 4) nd rfl (Or.inl rfl) ((pe_ix ix_list ((pe_ix ix_list (pv 0) (pe_int) (fun _ _ => rfl))) (pe_op op_mod (pe_callTy call_int1 (by rfl) B.int boot_int (pa_cons (pv 3) pa_nil)) (pe_callB call_len_seq (by rfl) B.len PySem.boot_len (pa_cons ((pe_ix ix_list (pv 0) (pe_int) (fun _ _ => rfl))) pa_nil))) (fun _ _ => rfl)))))) pss_nil) (pss_cons (ps_if (PW.pt (pw_and (pt_cmpR op_lt (pv 3) (pe_callB call_len_seq (by rfl) B.len PySem.boot_len (pa_cons ((pe_ix ix_list (pv 0) (pe_int) (fun _ _ => rfl))) pa_nil)) (nomark _)) (pw_and1 (pt_cmpR op_ge (pe_callB call_abs (by rfl) B.abs (by decide +kernel) (pa_cons (pv 4) pa_nil)) (pe_op op_pow pe_int pe_int) (nomark _)))))
        (pss_cons ((ps_set (i := 2) nd rfl (Or.inl rfl) (pe_op op_add (pe_op op_mul pe_int (pe_op op_sub (pe_callB call_abs (by rfl) B.abs (by decide +kernel) (pa_cons (pv 4) pa_nil)) (pe_op op_pow pe_int pe_int))) (pe_callTy call_int1 (by rfl) B.int boot_int (pa_cons (pe_cmpR op_lt (pv 4) pe_int (nomark _)) pa_nil))))) (pss_cons (ps_asg (pe_op op_fdivWN (pe_callTy call_int1 (by rfl) B.int boot_int (pa_cons (pv 2) pa_nil)) (pv 1)) (pg_sub (pv 0) pe_int set_list)) (pss_one (ps_ret (pe_op op_mod (pe_callTy call_int1 (by rfl) B.int boot_int (pa_cons (pv 2) pa_nil)) (pv 1)))))) pss_nil) (pss_cons ((ps_set (i := 5) nd rfl (Or.inl rfl) (pe_op op_mod (pe_callTy call_int1 (by rfl) B.int boot_int (pa_cons (pe_op op_pow (pe_op op_add (pe_op op_add (pe_op op_mod (pe_callTy call_int1 (by rfl) B.int boot_int (pa_cons (pv 4) pa_nil)) pe_int) (pe_op op_mul pe_int (pv 3))) pe_int) pe_int) pa_nil)) pe_int))) (pss_cons ((ps_set (i := 5) nd rfl (Or.inl rfl) (pe_op op_mod (pe_callTy call_int1 (by rfl) B.int boot_int (pa_cons (pe_op op_pow (pe_op op_add (pe_op op_add (pe_op op_mul (pv 5) (pe_op op_add (pe_op op_mul pe_int (pv 3)) pe_int)) (pe_op op_mul (pe_op op_mul pe_int (pv 3)) (pv 3))) pe_int) pe_int) pa_nil)) pe_int))) (pss_one (ps_ret (pe_op op_mod (pe_callTy call_int1 (by rfl) B.int boot_int (pa_cons (pe_op op_fdiv (pv 5) pe_int) pa_nil)) (pv 1)))))))))))), ?_⟩
    have hdm : ∀ x : Int, CDivWN x m := fun x => cdiv_of (by omega) hm (by decide) (by decide)
    refine ⟨_, rfl, p, _, 2, _, rfl, rfl, SqL.of hp, rfl, _, _, rfl, rfl, _, rfl, ?_⟩
    have fin : ∀ (x st sp : Int) (H1 : Hp), H1 p = some (.lst [.ref c, .int sp, .int st]) → SB p H H1 → 0 ≤ sp → sp ≤ (n + 1 : Nat) → Q (.int (x % m)) H1 := fun x st sp H1 e s1 h0 h1 =>
      q _ _ s1 ⟨c, ns, sp, st, e, s1.1 _ _ npc hc, npc, h0, h1⟩ (Int.emod_nonneg _ (by omega)) (Int.emod_lt_of_pos _ hm0)
    by_cases hpos : 0 < store
    · rw [decide_eq_true hpos]
      refine iteT ⟨_, rfl, p, _, 2, _, rfl, rfl, SqL.of hp, rfl, ?_⟩
      refine ⟨_, rfl, .inl ⟨_, rfl, _, rfl, _, _, rfl, rfl, hdm _, ?_⟩⟩
      refine ⟨_, rfl, p, _, 2, 2, rfl, rfl, hp, rfl, ?_⟩
      refine ⟨_, rfl, .inl ⟨_, rfl, _, rfl, _, _, rfl, rfl, hm0, ?_⟩⟩
      exact fin store _ spot _ upd_same (SB.set hp) h0 (by omega)
    · rw [decide_eq_false hpos]
      refine iteF ⟨_, rfl, p, _, 1, _, rfl, rfl, SqL.of hp, rfl, ?_⟩
      refine ⟨_, rfl, _, _, rfl, rfl, _, rfl, p, _, 1, 1, rfl, rfl, hp, rfl, ?_⟩
      have hp1 : (upd H p (.lst [.ref c, .int (spot + 1), .int store])) p = some (.lst [.ref c, .int (spot + 1), .int store]) := upd_same
      have s1 : SB p H (upd H p (.lst [.ref c, .int (spot + 1), .int store])) := SB.set hp
      have e1 : upd H p (.lst (List.set [V.ref c, V.int spot, V.int store] 1 (V.int (spot + 1)))) = upd H p (.lst [.ref c, .int (spot + 1), .int store]) := rfl
      generalize hH1 : upd H p (.lst [.ref c, .int (spot + 1), .int store]) = H1 at hp1 s1 e1
      rw [e1]
      refine ⟨_, rfl, _, _, rfl, rfl, .inl ⟨by decide, by decide⟩, _, _, rfl, rfl, ?_⟩
      have hc1 := s1.1 _ _ npc hc
      refine ⟨_, rfl, p, _, 0, _, rfl, rfl, SqL.of hp1, rfl, Nat.zero_le _, fun l hl' => ?_⟩
      have hp2 : upd H1 l (.lst []) p = some (.lst [.ref c, .int (spot + 1), .int store]) := same_new hl' _ _ hp1
      have hc2 : upd H1 l (.lst []) c = some (.lst (ns.map V.int)) := same_new hl' _ _ hc1
      have s2 : SB p H (upd H1 l (.lst [])) := s1.trans (SB.of (same_new hl'))
      have hl2 : upd H1 l (.lst []) l = some (.lst []) := upd_same
      have hsn : spot < 60000 := by omega
      clear hl'
      generalize upd H1 l (.lst []) = H2 at hp2 hc2 s2 hl2
      refine ⟨.list (ns.map PyData.int), .list [], .lst (SqL.of hc2) (dp_ints ns), .lst (SqL.of hl2) .nil, PySem.W.ke_shaped_ints ns, by decide, _, rfl, ?_⟩
      by_cases hnn : ns = []
      · have e : (!PyData.eqv (.list (ns.map PyData.int)) (.list [])) = false := by subst hnn; rfl
        rw [e]
        refine iteF ?_
        generalize 40193 * spot + 3181 = x
        refine ⟨_, rfl, _, rfl, p, _, 0, _, rfl, rfl, SqL.of hp2, rfl, c, _, rfl, .inl (SqL.of hc2), _, _, rfl, rfl, _, rfl, ?_⟩
        refine ite2 (fun ha => ?_) (fun ha => ?_)
        · refine ⟨_, rfl, _, rfl, _, _, rfl, rfl, ⟨by decide, by decide, by decide⟩, _, _, rfl, rfl, _, rfl, ?_⟩
          refine ite2 (fun hb => ?_) (fun hb => ?_)
          · refine ⟨_, rfl, _, rfl, _, _, rfl, rfl, ⟨by decide, by decide, by decide⟩, _, _, rfl, rfl, _, _, rfl, rfl, .inl ⟨by decide, by decide⟩, _, rfl, _, _, rfl, rfl, .inr ⟨_, rfl, _, _, rfl, rfl, ?_⟩⟩
            refine ⟨_, rfl, .inl ⟨_, rfl, _, rfl, _, _, rfl, rfl, hdm _, ?_⟩⟩
            refine ⟨_, rfl, p, _, 2, 2, rfl, rfl, hp2, rfl, ?_⟩
            refine ⟨_, rfl, .inl ⟨_, rfl, _, rfl, _, _, rfl, rfl, hm0, ?_⟩⟩
            exact fin _ _ (spot + 1) _ upd_same (s2.trans (SB.set hp2)) (by omega) (by omega)
          · refine ⟨_, rfl, .inl ⟨_, rfl, _, _, rfl, rfl, (by show (0 : Int) < 2147483563; decide), _, rfl, _, _, rfl, rfl, .inl ⟨by decide, by decide⟩, _, _, rfl, rfl, _, _, rfl, rfl, _, _, rfl, rfl, pw5 _ h0 hsn, .inl ⟨_, rfl, _, _, rfl, rfl, (by show (0 : Int) < 2147483629; decide), ?_⟩⟩⟩
            refine ⟨_, rfl, _, rfl, _, _, rfl, rfl, .inl ⟨by decide, by decide⟩, _, _, rfl, rfl, _, _, rfl, rfl, mixmul _ _, _, rfl, _, _, rfl, rfl, .inl ⟨by decide, by decide⟩, _, rfl, _, _, rfl, rfl, .inr ⟨by omega, by omega⟩, _, _, rfl, rfl, _, _, rfl, rfl, _, _, rfl, rfl, pw3 _ spot (mix_lt _).1 (mix_lt _).2 h0 hsn, .inl ⟨_, rfl, _, _, rfl, rfl, (by show (0 : Int) < 2147483549; decide), ?_⟩⟩
            refine ⟨_, rfl, _, _, rfl, rfl, ⟨by decide, by decide⟩, .inl ⟨_, rfl, _, rfl, _, _, rfl, rfl, hm0, ?_⟩⟩
            exact fin _ _ _ _ hp2 s2 (by omega) (by omega)
        · refine iteF ?_
          refine ⟨_, rfl, .inl ⟨_, rfl, _, _, rfl, rfl, (by show (0 : Int) < 2147483563; decide), _, rfl, _, _, rfl, rfl, .inl ⟨by decide, by decide⟩, _, _, rfl, rfl, _, _, rfl, rfl, _, _, rfl, rfl, pw5 _ h0 hsn, .inl ⟨_, rfl, _, _, rfl, rfl, (by show (0 : Int) < 2147483629; decide), ?_⟩⟩⟩
          refine ⟨_, rfl, _, rfl, _, _, rfl, rfl, .inl ⟨by decide, by decide⟩, _, _, rfl, rfl, _, _, rfl, rfl, mixmul _ _, _, rfl, _, _, rfl, rfl, .inl ⟨by decide, by decide⟩, _, rfl, _, _, rfl, rfl, .inr ⟨by omega, by omega⟩, _, _, rfl, rfl, _, _, rfl, rfl, _, _, rfl, rfl, pw3 _ spot (mix_lt _).1 (mix_lt _).2 h0 hsn, .inl ⟨_, rfl, _, _, rfl, rfl, (by show (0 : Int) < 2147483549; decide), ?_⟩⟩
          refine ⟨_, rfl, _, _, rfl, rfl, ⟨by decide, by decide⟩, .inl ⟨_, rfl, _, rfl, _, _, rfl, rfl, hm0, ?_⟩⟩
          exact fin _ _ _ _ hp2 s2 (by omega) (by omega)
      · have e : (!PyData.eqv (.list (ns.map PyData.int)) (.list [])) = true := by
          cases ns with
          | nil => exact absurd rfl hnn
          | cons => rfl
        rw [e]
        obtain ⟨z, hz⟩ := ix_cells (ns := ns) h0 hnn
        refine iteT ⟨_, rfl, p, _, 0, _, rfl, rfl, SqL.of hp2, rfl, _, rfl, .inl ⟨_, rfl, _, rfl, p, _, 0, _, rfl, rfl, SqL.of hp2, rfl, c, _, rfl, .inl (SqL.of hc2), _, _, rfl, rfl, ?_, c, _, _, _, rfl, rfl, SqL.of hc2, hz, ?_⟩⟩
        · rw [List.length_map]
          have := List.length_pos_iff.mpr hnn
          omega
        generalize z = x
        refine ⟨_, rfl, _, rfl, p, _, 0, _, rfl, rfl, SqL.of hp2, rfl, c, _, rfl, .inl (SqL.of hc2), _, _, rfl, rfl, _, rfl, ?_⟩
        refine ite2 (fun ha => ?_) (fun ha => ?_)
        · refine ⟨_, rfl, _, rfl, _, _, rfl, rfl, ⟨by decide, by decide, by decide⟩, _, _, rfl, rfl, _, rfl, ?_⟩
          refine ite2 (fun hb => ?_) (fun hb => ?_)
          · refine ⟨_, rfl, _, rfl, _, _, rfl, rfl, ⟨by decide, by decide, by decide⟩, _, _, rfl, rfl, _, _, rfl, rfl, .inl ⟨by decide, by decide⟩, _, rfl, _, _, rfl, rfl, .inr ⟨_, rfl, _, _, rfl, rfl, ?_⟩⟩
            refine ⟨_, rfl, .inl ⟨_, rfl, _, rfl, _, _, rfl, rfl, hdm _, ?_⟩⟩
            refine ⟨_, rfl, p, _, 2, 2, rfl, rfl, hp2, rfl, ?_⟩
            refine ⟨_, rfl, .inl ⟨_, rfl, _, rfl, _, _, rfl, rfl, hm0, ?_⟩⟩
            exact fin _ _ (spot + 1) _ upd_same (s2.trans (SB.set hp2)) (by omega) (by omega)
          · refine ⟨_, rfl, .inl ⟨_, rfl, _, _, rfl, rfl, (by show (0 : Int) < 2147483563; decide), _, rfl, _, _, rfl, rfl, .inl ⟨by decide, by decide⟩, _, _, rfl, rfl, _, _, rfl, rfl, _, _, rfl, rfl, pw5 _ h0 hsn, .inl ⟨_, rfl, _, _, rfl, rfl, (by show (0 : Int) < 2147483629; decide), ?_⟩⟩⟩
            refine ⟨_, rfl, _, rfl, _, _, rfl, rfl, .inl ⟨by decide, by decide⟩, _, _, rfl, rfl, _, _, rfl, rfl, mixmul _ _, _, rfl, _, _, rfl, rfl, .inl ⟨by decide, by decide⟩, _, rfl, _, _, rfl, rfl, .inr ⟨by omega, by omega⟩, _, _, rfl, rfl, _, _, rfl, rfl, _, _, rfl, rfl, pw3 _ spot (mix_lt _).1 (mix_lt _).2 h0 hsn, .inl ⟨_, rfl, _, _, rfl, rfl, (by show (0 : Int) < 2147483549; decide), ?_⟩⟩
            refine ⟨_, rfl, _, _, rfl, rfl, ⟨by decide, by decide⟩, .inl ⟨_, rfl, _, rfl, _, _, rfl, rfl, hm0, ?_⟩⟩
            exact fin _ _ _ _ hp2 s2 (by omega) (by omega)
        · refine iteF ?_
          refine ⟨_, rfl, .inl ⟨_, rfl, _, _, rfl, rfl, (by show (0 : Int) < 2147483563; decide), _, rfl, _, _, rfl, rfl, .inl ⟨by decide, by decide⟩, _, _, rfl, rfl, _, _, rfl, rfl, _, _, rfl, rfl, pw5 _ h0 hsn, .inl ⟨_, rfl, _, _, rfl, rfl, (by show (0 : Int) < 2147483629; decide), ?_⟩⟩⟩
          refine ⟨_, rfl, _, rfl, _, _, rfl, rfl, .inl ⟨by decide, by decide⟩, _, _, rfl, rfl, _, _, rfl, rfl, mixmul _ _, _, rfl, _, _, rfl, rfl, .inl ⟨by decide, by decide⟩, _, rfl, _, _, rfl, rfl, .inr ⟨by omega, by omega⟩, _, _, rfl, rfl, _, _, rfl, rfl, _, _, rfl, rfl, pw3 _ spot (mix_lt _).1 (mix_lt _).2 h0 hsn, .inl ⟨_, rfl, _, _, rfl, rfl, (by show (0 : Int) < 2147483549; decide), ?_⟩⟩
          refine ⟨_, rfl, _, _, rfl, rfl, ⟨by decide, by decide⟩, .inl ⟨_, rfl, _, rfl, _, _, rfl, rfl, hm0, ?_⟩⟩
          exact fin _ _ _ _ hp2 s2 (by omega) (by omega)
/-! ### _law_pick -/
def spPick : Sp := fun vs H Q _ => ∃ (p a : Addr) (n : Nat) (xs : List V), vs = [.ref p, .ref a] ∧ Lens H p n ∧ n < 60000 ∧ H a = some (.lst xs) ∧ a ≠ p ∧ 0 < xs.length ∧ xs.length ≤ 1000 ∧ ∀ H' x, SB p H H' → Lens H' p (n + 1) → x ∈ xs → Q x H'
abbrev sPick : Stmt := top 47
theorem scPick : FnScope ["_law_lens_here", "_law_some"] ["_law_lens_here", "_law_some"] (defScope sPick) := ⟨rfl, rfl, rfl, by decide +kernel, rfl, by decide +kernel, by decide +kernel⟩
theorem ok_pick {f : Addr} {fd : FuncData} (F : Fun K "_law_pick" "_law_pick" sPick f fd) (B : Bn mg) (C1 : Callee P w K mg base CX0 1 "_law_shot" ["_law_lens_here", "_law_many"] spShot) : FnOk P w K mg base CX0 2 f fd ["_law_lens_here", "_law_some"] spPick := by
  obtain ⟨f1, fd1, m1, k1, b1, G1⟩ := C1
  refine F.ok scPick (fun vs H Q E h => ?_) (fun cdv A outer s H vs Q E hr h => ?_)
  · obtain ⟨p, a, n, xs, rfl, _⟩ := h
    rfl
  · obtain ⟨p, a, n, xs, rfl, hv, hn, ha, nap, h0, h1, q⟩ := h
    refine ⟨_, pss_one (ps_ret (pe_ix ix_list (pv 1) ((pe_call G1 (hr.mono (by decide)) rfl m1 k1 b1 .nil pass0 (pa_cons (pv 0) (pa_cons ((pe_callB call_len_seq (by rfl) B.len PySem.boot_len (pa_cons (pv 1) pa_nil))) pa_nil)))) (fun _ _ => rfl))), ?_⟩
    refine ⟨_, rfl, _, rfl, _, rfl, a, xs, rfl, .inl (SqL.of ha), p, _, n, rfl, hv, hn, by omega, by rw [Int.natAbs_natCast]; exact Nat.lt_of_le_of_lt h1 (by decide), fun H' d s1 v1 d0 d1 => ?_⟩
    obtain ⟨j, rfl⟩ := Int.eq_ofNat_of_zero_le d0
    have hj : j < xs.length := by omega
    exact ⟨a, xs, _, xs[j], rfl, rfl, SqL.of (s1.1 _ _ nap ha), atI_nat (List.getElem?_eq_getElem hj), q _ _ s1 v1 (List.getElem_mem hj)⟩
end
end K17

namespace K17
open PySem PySem.Spec PyProof.Rows L2
def LP (H : Hp) (a : Addr) (ts : List Addr) (ps : List (Int × Int)) : Prop := H a = some (.lst (ts.map V.ref)) ∧ Paired (Pr H) ts ps
theorem Lens.not_tup {H : Hp} {p a : Addr} {n : Nat} {xs : List V} (v : Lens H p n) (h : H a = some (.tup xs)) : a ≠ p := by
  obtain ⟨c, x, y, e⟩ := v.at
  exact L2.ne_of h e (by intro z; cases z)
theorem Lens.not_none {H : Hp} {p a : Addr} {n : Nat} (v : Lens H p n) (h : H a = none) : a ≠ p := by
  obtain ⟨c, x, y, e⟩ := v.at
  exact (ne_of_none e h).symm
theorem Pr.sb {H H' : Hp} {p a : Addr} {n : Nat} {q : Int × Int} (h : Pr H a q) (v : Lens H p n) (s : SB p H H') : Pr H' a q := s.1 _ _ (v.not_tup h) h
theorem prs_sb {H H' : Hp} {p : Addr} {n : Nat} {ts : List Addr} {ps : List (Int × Int)} (h : Paired (Pr H) ts ps) (v : Lens H p n) (s : SB p H H') : Paired (Pr H') ts ps := paired_mono h fun _ _ z => z.sb v s
theorem LP.sb {H H' : Hp} {p a : Addr} {n : Nat} {ts : List Addr} {ps : List (Int × Int)} (h : LP H a ts ps) (v : Lens H p n) (na : a ≠ p) (s : SB p H H') : LP H' a ts ps := ⟨s.1 _ _ na h.1, prs_sb h.2 v s⟩
theorem LP.same {H H' : Hp} {a : Addr} {ts : List Addr} {ps : List (Int × Int)} (h : LP H a ts ps) (s : Same H H') : LP H' a ts ps := ⟨s _ _ h.1, paired_mono h.2 fun _ _ z => s _ _ z⟩
theorem paired_snoc {α β : Type} {R : α → β → Prop} {xs : List α} {ys : List β} {x : α} {y : β} (h : Paired R xs ys) (r : R x y) : Paired R (xs ++ [x]) (ys ++ [y]) := by
  induction h with
  | nil => exact .cons r .nil
  | cons a _ ih => exact .cons a ih
theorem prs_upd {H : Hp} {D : Addr} {xs zs : List V} {ts : List Addr} {ps : List (Int × Int)} (hd : H D = some (.lst xs)) (h : Paired (Pr H) ts ps) : Paired (Pr (upd H D (.lst zs))) ts ps := paired_mono h fun t q z => by
  have z : H t = some (.tup [.int q.1, .int q.2]) := z
  show upd H D (.lst zs) t = _
  rw [upd_ne (L2.ne_of z hd (by intro z; cases z))]
  exact z
theorem LP.len {H : Hp} {D : Addr} {ts : List Addr} {ps : List (Int × Int)} (h : LP H D ts ps) : ts.length = ps.length := Paired.length h.2
/-- all in reach -/
def InB (B : Int) (ps : List (Int × Int)) : Prop := ∀ p ∈ ps, -B ≤ p.1 ∧ p.1 ≤ B ∧ -B ≤ p.2 ∧ p.2 ≤ B
theorem InB.set {B : Int} {ps : List (Int × Int)} {j : Nat} {a b : Int} (h : InB B ps) (h1 : -B ≤ a) (h2 : a ≤ B) (h3 : -B ≤ b) (h4 : b ≤ B) : InB B (ps.set j (a, b)) := fun p hp => by
  rcases List.mem_or_eq_of_mem_set hp with e | e
  · exact h p e
  · rw [e]
    exact ⟨h1, h2, h3, h4⟩
theorem paired_set {α β : Type} {R : α → β → Prop} {xs : List α} {ys : List β} {x : α} {y : β} (h : Paired R xs ys) (r : R x y) : ∀ j, Paired R (xs.set j x) (ys.set j y) := by
  induction h with
  | nil => exact fun _ => .nil
  | cons a t ih => exact fun j => match j with
    | 0 => .cons r t
    | j + 1 => .cons a (ih j)
theorem LP.set {H : Hp} {D g : Addr} {ts : List Addr} {ps : List (Int × Int)} {q : Int × Int} (h : LP H D ts ps) (r : Pr H g q) (j : Nat) : LP (upd H D (.lst ((ts.map V.ref).set j (V.ref g)))) D (ts.set j g) (ps.set j q) :=
  ⟨by rw [upd_same, List.map_set], prs_upd h.1 (paired_set h.2 r j)⟩
theorem LP.mem {H : Hp} {D : Addr} {ts : List Addr} {ps : List (Int × Int)} {x : V} (h : LP H D ts ps) (hx : x ∈ ts.map V.ref) : ∃ g q, x = .ref g ∧ q ∈ ps ∧ Pr H g q := by
  obtain ⟨g, hg, rfl⟩ := List.mem_map.mp hx
  obtain ⟨i, hi⟩ := List.mem_iff_getElem?.mp hg
  obtain ⟨q, hq, r⟩ := paired_get h.2 hi
  exact ⟨g, q, rfl, List.mem_of_getElem? hq, r⟩
theorem LP.at {H : Hp} {D : Addr} {ts : List Addr} {ps : List (Int × Int)} {i : Nat} (h : LP H D ts ps) (hi : i < ps.length) : ∃ g q, (ts.map V.ref)[i]? = some (.ref g) ∧ ps[i]? = some q ∧ Pr H g q := by
  obtain ⟨g, hg, r⟩ := paired_of h.2 (List.getElem?_eq_getElem hi)
  exact ⟨g, _, by rw [List.getElem?_map, hg]; rfl, List.getElem?_eq_getElem hi, r⟩
end K17

namespace K17
open PySem PySem.Spec PyProof.Rows L2
/-- numbers of pins as values -/
def nV (ns : List Nat) : List V := (ns.map fun n => ((n : Nat) : Int)).map V.int
theorem rg_nV (k : Nat) : rgV 0 (k : Int) = nV (List.range k) := by
  unfold rgV nV
  rw [show ((k : Int) - 0).toNat = k by omega, List.map_map]
  refine List.map_congr_left fun i _ => ?_
  show V.int (0 + (i : Int)) = V.int (i : Int)
  rw [Int.zero_add]
end K17

namespace K17
open PySem PySem.Spec PyProof.Rows L2
section
variable {P : Program} {w : World} {K : PySem.W.Frag} {mg : Str → Option Value} {base : Heap} {C : Addr}
def rv : Option Key → V
  | none => .non
  | some k => kV k
end
/-- the exception at a has these fields, its own dict is new -/
def ErN (H H' : Hp) (C : Addr) (fs : List (Str × V)) (a : Addr) : Prop := ∃ d, H d = none ∧ d ≠ a ∧ H' a = some (exo a C (some d)) ∧ H' d = some (exd d fs)
def spIn2 (K : PySem.W.Frag) (f g : Str) : Sp := fun vs H Q _ => ∃ (a C : Addr) (v u : V), vs = [.ref a, v, u] ∧ OexC K C ∧ PySem.W.findIn K (.ref C) f = some none ∧ PySem.W.findIn K (.ref C) g = some none ∧ H a = some (exo a C none) ∧
  ∀ H', (∀ b o, b ≠ a → H b = some o → H' b = some o) → ErN H H' C [(g, u), (f, v)] a → Q .non H'
theorem two_fields {H : Hp} {a C : Addr} {f g : Str} {v u : V} {Q : VK} (q : ∀ H', (∀ b o, b ≠ a → H b = some o → H' b = some o) → ErN H H' C [(g, u), (f, v)] a → Q .non H') :
    ∀ dx, H dx = none → dx ≠ a → Q .non (upd (upd (upd H dx (exd dx [(f, v)])) a (exo a C (some dx))) dx (exd dx [(g, u), (f, v)])) := fun dx n ne => by
  refine q _ (fun b o nb e => ?_) ⟨dx, n, ne, ?_, upd_same⟩
  · rw [upd_ne (ne_of_none e n), upd_ne nb, upd_ne (ne_of_none e n)]
    exact e
  · rw [upd_ne ne.symm]
    exact upd_same
/-- an error of the class at C with these fields is raised -/
def RzF (C : Addr) (fs : List (Str × V)) (H : Hp) (E : XK) : Prop := ∀ d H', Same H H' → H' d = some (.xd fs) → E (.ref C) (some d) H'
theorem rzf_of {C a d : Addr} {fs : List (Str × V)} {H H2 : Hp} {E : XK} (r : RzF C fs H E) (na : H a = none) (k : ∀ b o, b ≠ a → upd H a (exo a C none) b = some o → H2 b = some o) (nd : upd H a (exo a C none) d = none) (ne : d ≠ a) :
    E (.ref C) (some d) (upd (L2.del H2 a) d (.xd fs)) := by
  have hd : H d = none := by
    rw [upd_ne ne] at nd
    exact nd
  refine r d _ (fun b o e => ?_) upd_same
  have b1 : b ≠ d := ne_of_none e hd
  have b2 : b ≠ a := ne_of_none e na
  rw [upd_ne b1, del_ne b2]
  exact k b o b2 (by rw [upd_ne b2]; exact e)
/-- what the top has written of TooMany -/
structure TmT (K : PySem.W.Frag) (mg : Str → Option Value) (C fI : Addr) : Prop where
  oex : OexC K C
  mgC : mg "TooMany" = some (.ref C)
  no1 : PySem.W.findIn K (.ref C) "what" = some none
  no2 : PySem.W.findIn K (.ref C) "most" = some none
  iC : PySem.W.findIn K (.ref C) "__init__" = some (some (.ref fI))
  tI : PySem.W.typeIn K (.ref fI) = some (.type "function")
structure ErT (K : PySem.W.Frag) (mg : Str → Option Value) (x fld : Str) (C fI : Addr) : Prop where
  oex : OexC K C
  mgC : mg x = some (.ref C)
  noF : PySem.W.findIn K (.ref C) fld = some none
  iC : PySem.W.findIn K (.ref C) "__init__" = some (some (.ref fI))
  tI : PySem.W.typeIn K (.ref fI) = some (.type "function")
/-- an error of the class at C with this one field is raised: its own dict is new -/
def RzV (C : Addr) (fld : Str) (v : V) (H : Hp) (E : XK) : Prop := ∀ d H', Same H H' → H d = none → H' d = some (.xd [(fld, v)]) → E (.ref C) (some d) H'
theorem RzV.same {C : Addr} {fld : Str} {v : V} {H H1 : Hp} {E : XK} (h : RzV C fld v H E) (s : Same H H1) : RzV C fld v H1 E := fun d H' s' n e => h d H' (s.trans s') (s.free n) e
theorem raisedV {H H1 : Hp} {C a dx : Addr} {fld : Str} {v : V} {E : XK} (h : RzV C fld v H E) (s1 : Same H H1) (ha : H1 a = none) (hd : upd H1 a (exo a C none) dx = none) (ne : dx ≠ a) :
    E (.ref C) (some dx) (upd (L2.del (upd (upd (upd H1 a (exo a C none)) dx (exd dx [(fld, v)])) a (exo a C (some dx))) a) dx (.xd [(fld, v)])) := by
  have hd1 : H1 dx = none := by
    rw [upd_ne ne] at hd
    exact hd
  refine h dx _ (fun b o e => ?_) (s1.free hd1) upd_same
  have e1 := s1 b o e
  have nb : b ≠ dx := ne_of_none e1 hd1
  have na : b ≠ a := ne_of_none e1 ha
  rw [upd_ne nb, del_ne na, upd_ne na, upd_ne nb, upd_ne na]
  exact e1
section
variable {P : Program} {w : World} {K : PySem.W.Frag} {mg : Str → Option Value} {base : Heap}
/-- an __init__ that keeps one field -/
def spE1 (K : PySem.W.Frag) (fld : Str) (C : Addr) : Sp := fun vs H Q _ => ∃ (a : Addr) (y : V), vs = [.ref a, y] ∧ OexC K C ∧ PySem.W.findIn K (.ref C) fld = some none ∧ H a = some (exo a C none) ∧
  ∀ dx, H dx = none → dx ≠ a → Q .non (upd (upd H dx (exd dx [(fld, y)])) a (exo a C (some dx)))
abbrev sFI : Stmt := inClass (top 5) 0
theorem scFI : FnScope ["self", "part"] ["self", "part"] (defScope sFI) := ⟨rfl, rfl, rfl, by decide +kernel, rfl, by decide +kernel, by decide +kernel⟩
theorem ok_fi {f C : Addr} {fd : FuncData} (F : Fun K "__init__" "Misfit.__init__" sFI f fd) : FnOk P w K mg base CX0 1 f fd ["self", "part"] (spE1 K "part" C) := by
  refine F.ok scFI (fun vs H Q E h => ?_) (fun cdv A outer s H vs Q E hr h => ?_)
  · obtain ⟨a, y, rfl, _⟩ := h
    rfl
  · obtain ⟨a, y, rfl, T, no, ha, q⟩ := h
    exact ⟨_, pss_one (ps_ost (pv 0) (pv 1)), _, rfl, _, rfl, a, C, rfl, T, no, .inl ⟨ha, q⟩⟩
abbrev sTI : Stmt := inClass (top 10) 0
theorem scTI : FnScope ["self", "what", "most"] ["self", "what", "most"] (defScope sTI) := ⟨rfl, rfl, rfl, by decide +kernel, rfl, by decide +kernel, by decide +kernel⟩
theorem ok_ti {f : Addr} {fd : FuncData} (F : Fun K "__init__" "TooMany.__init__" sTI f fd) : FnOk P w K mg base CX0 1 f fd ["self", "what", "most"] (spIn2 K "what" "most") := by
  refine F.ok scTI (fun vs H Q E h => ?_) (fun cdv A outer s H vs Q E hr h => ?_)
  · obtain ⟨a, C, v, u, rfl, _⟩ := h
    rfl
  · obtain ⟨a, C, v, u, rfl, T, no1, no2, ha, q⟩ := h
    refine ⟨_, pss_cons (ps_ost (pv 0) (pv 1)) (pss_one (ps_ost (pv 0) (pv 2))), _, rfl, _, rfl, a, C, rfl, T, no1, .inl ⟨ha, fun dx n ne => ?_⟩⟩
    exact ⟨_, rfl, _, rfl, a, C, rfl, T, no2, .inr ⟨dx, _, upd_same, by rw [upd_ne ne]; exact upd_same, (by show 1 ≤ 900; decide), two_fields q dx n ne⟩⟩
end
end K17

namespace K17
open PySem PySem.Spec PyProof.Rows L2
def pinOk (k : Nat) (x : V) : Bool := within x 0 ((k : Int) - 1)
inductive WJ (K : PySem.W.Frag) (H : Hp) (k : Nat) : V → Option V → Prop
  | no {v : V} (h : Kd K H v false) : WJ K H k v (some v)
  | seq {a : Addr} {xs : List V} (hs : Sq H a xs) (hk : ∀ x ∈ xs, ∃ t, Kd K H x t) (hl : xs.length ≤ 100) : WJ K H k (.ref a) (xs.find? fun x => !pinOk k x)
theorem WJ.same {K : PySem.W.Frag} {H H' : Hp} {k : Nat} {v : V} {r : Option V} (j : WJ K H k v r) (s : Same H H') : WJ K H' k v r := by
  cases j with
  | no h => exact .no (h.same s)
  | seq hs hk hl => exact .seq (hs.same s) (fun x hx => let ⟨t, h⟩ := hk x hx; ⟨t, h.same s⟩) hl
/-- a list or a tuple of these numbers, each of a pin -/
structure PinL (H : Hp) (a : Addr) (ns : List Nat) (k : Nat) : Prop where
  sq : Sq H a (nV ns)
  len : ns.length ≤ 100
  lt : ∀ n ∈ ns, n < k
theorem PinL.same {H H' : Hp} {a : Addr} {ns : List Nat} {k : Nat} (h : PinL H a ns k) (s : Same H H') : PinL H' a ns k := ⟨h.sq.same s, h.len, h.lt⟩
section
variable {P : Program} {w : World} {K : PySem.W.Frag} {mg : Str → Option Value} {base : Heap}
end
end K17

namespace K17
open PySem PySem.Spec PyProof.Rows L2
/-- a class of errors with one field, as it is raised -/
def ErM (P : Program) (w : World) (K : PySem.W.Frag) (mg : Str → Option Value) (base : Heap) (x fld : Str) (C : Addr) : Prop :=
  ∃ (fI : Addr) (fd : FuncData), ErT K mg x fld C fI ∧ FnOk P w K mg base CX0 1 fI fd ["self", fld] (spE1 K fld C) ∧ Binds K fd ["self", fld] []
section
variable {P : Program} {w : World} {K : PySem.W.Frag} {mg : Str → Option Value} {base : Heap} {CP CW CF : Addr}
end
end K17

namespace K17
open PySem PySem.Spec PyProof.Rows L2
theorem pla_prs {H : Hp} {ts : List Addr} {ps : List (Int × Int)} (h : Paired (Pr H) ts ps) : Paired (PlA H) (ts.map V.ref) ps := by
  induction h with
  | nil => exact .nil
  | cons a _ ih => exact .cons ⟨_, rfl, .inr a⟩ ih
theorem LP.pls {H : Hp} {a : Addr} {ts : List Addr} {ps : List (Int × Int)} (h : LP H a ts ps) : Pls H (.ref a) ps := ⟨a, _, rfl, .inl h.1, pla_prs h.2⟩

theorem pe_fldK {X : Cx} {e : Expr} {ta : TE} {f : Str} {pos : Pos} (K : PySem.W.Frag) (he : PE X e ta) (hb : attributeBase e f X.env (eval e X.env) = eval e X.env) (h : X.K = K := by rfl) : PE X (.Attribute e f pos) (tFld K ta f) := by subst h; exact pe_fld he hb
theorem cut_from {xs : List V} {k : Nat} (h : k ≤ xs.length) : cutV xs (some (k : Int)) none = xs.drop k := by
  unfold cutV
  have e : HT.sIx xs.length 0 (some (k : Int)) = k := by
    rw [HT.sIx_nat]
    omega
  rw [e]
  show (xs.drop k).take (xs.length - k) = _
  rw [List.take_of_length_le (by rw [List.length_drop]; exact Nat.le_refl _)]
theorem cut_to {xs : List V} {k : Nat} (h : k ≤ xs.length) : cutV xs none (some (k : Int)) = xs.take k := by
  unfold cutV
  have e : HT.sIx xs.length xs.length (some (k : Int)) = k := by
    rw [HT.sIx_nat]
    omega
  rw [e]
  rfl
section
variable {P : Program} {w : World} {K : PySem.W.Frag} {mg : Str → Option Value} {base : Heap} {C CB CP CW CF CN CT : Addr}
theorem paired_take {α β : Type} {R : α → β → Prop} {xs : List α} {ys : List β} (h : Paired R xs ys) : ∀ n, Paired R (xs.take n) (ys.take n) ∧ Paired R (xs.drop n) (ys.drop n) := by
  induction h with
  | nil => exact fun n => ⟨by rw [List.take_nil, List.take_nil]; exact .nil, by rw [List.drop_nil, List.drop_nil]; exact .nil⟩
  | cons a t ih => exact fun n => match n with
    | 0 => ⟨.nil, .cons a t⟩
    | n + 1 => ⟨.cons a (ih n).1, (ih n).2⟩
theorem paired_app {α β : Type} {R : α → β → Prop} {xs us : List α} {ys vs : List β} (h : Paired R xs ys) (k : Paired R us vs) : Paired R (xs ++ us) (ys ++ vs) := by
  induction h with
  | nil => exact k
  | cons a _ ih => exact .cons a ih
end
end K17

namespace K17
open PySem PySem.Spec PyProof.Rows L2
theorem RzF.same {C : Addr} {fs : List (Str × V)} {H H1 : Hp} {E : XK} (h : RzF C fs H E) (s : Same H H1) : RzF C fs H1 E := fun d H' s' e => h d H' (s.trans s') e
section
variable {P : Program} {w : World} {K : PySem.W.Frag} {mg : Str → Option Value} {base : Heap} {C CB CP CW CF CN CT fT : Addr}
/-- a promise that is not looked into -/
inductive Bx (sp : Sp) : List V → Hp → VK → XK → Prop
  | mk {vs : List V} {H : Hp} {Q : VK} {E : XK} (h : sp vs H Q E) : Bx sp vs H Q E
theorem Bx.un {sp : Sp} {vs : List V} {H : Hp} {Q : VK} {E : XK} (h : Bx sp vs H Q E) : sp vs H Q E := by
  cases h with
  | mk h => exact h
end
end K17

namespace K17
open PySem PySem.Spec PyProof.Rows L2
section
variable {K : PySem.W.Frag} {C CP CW CF CN CT : Addr} {ps : List (Int × Int)} {H : Hp} {Q : VK} {E : XK} {a c : Addr} {ns : List Nat}
end
theorem PicF.sb {H H' : Hp} {C a p : Addr} {n : Nat} {ps : List (Int × Int)} (h : PicF H C a ps) (v : Lens H p n) (s : SB p H H') : PicF H' C a ps := by
  obtain ⟨c, x, y, e⟩ := v.at
  obtain ⟨dx, t, u, ha, ⟨ts, ht, pr⟩, r0, r1, hu, h0, h1⟩ := h
  exact ⟨dx, t, u, s.1 _ _ (L2.ne_of ha e (by intro z; cases z)) ha, ⟨ts, s.1 _ _ (v.not_tup ht) ht, paired_mono pr fun _ _ z => s.1 _ _ (v.not_tup z) z⟩, r0, r1, s.1 _ _ (v.not_tup hu) hu, s.1 _ _ (v.not_tup h0) h0, s.1 _ _ (v.not_tup h1) h1⟩
theorem PicF.updl {H : Hp} {C a l : Addr} {xs : List V} {o : HO} {ps : List (Int × Int)} (h : PicF H C a ps) (hl : H l = some (.lst xs)) : PicF (upd H l o) C a ps := by
  have nt : ∀ {b : Addr} {ys : List V}, H b = some (.tup ys) → upd H l o b = some (.tup ys) := fun e => by
    rw [upd_ne (L2.ne_of e hl (by intro z; cases z))]
    exact e
  obtain ⟨dx, t, u, ha, ⟨ts, ht, pr⟩, r0, r1, hu, h0, h1⟩ := h
  exact ⟨dx, t, u, by rw [upd_ne (L2.ne_of ha hl (by intro z; cases z))]; exact ha, ⟨ts, nt ht, paired_mono pr fun _ _ z => nt z⟩, r0, r1, nt hu, nt h0, nt h1⟩
theorem if_join {tb : TT} {t1 t2 : TS} {u : TS} {D : Ends} {σ : L2.St} {H : Hp} {P : L2.St → Hp → Prop} (rest : ∀ σ' H', P σ' H' → u D σ' H') (h : (∀ σ' H', P σ' H' → u D σ' H') → tSeq (tIfS tb t1 t2) u D σ H) : tSeq (tIfS tb t1 t2) u D σ H := h rest
end K17

namespace K17
open PySem PySem.Spec PyProof.Rows L2
theorem SB.free {p l : Addr} {H H' : Hp} {n : Nat} (v : Lens H p n) (s : SB p H H') (h : H' l = none) : H l = none := by
  cases e : H l with
  | none => rfl
  | some o =>
    by_cases z : l = p
    · obtain ⟨c, x, y, g⟩ := v.at
      obtain ⟨x', y', g'⟩ := s.2 _ _ _ g
      rw [← z, h] at g'
      cases g'
    · rw [s.1 _ _ z e] at h
      cases h
end K17

namespace GG
open PySem PySem.Spec PyProof.Rows L2
/-! ### defs that are called while nothing is being shown: the text of a value hangs on it -/
/-- no text of a list, a tuple, a dict is being made -/
def Shy (A : Around) : Prop := A.guards = some []
theorem Shy.deeper {A : Around} (h : Shy A) (env : Env) : Shy (A.deeper env) := h
/-- as FnOk, for calls while nothing is being shown -/
def FnG (P : Program) (w : World) (K : PySem.W.Frag) (mg : Str → Option Value) (base : Heap) (CX : CXT) (k : Nat) (f : Addr) (fd : FuncData) (ps : List Str) (sp : Sp) : Prop :=
  (∀ (xs : List V) (H : Hp) (Q : VK) (E : XK), sp xs H Q E → xs.length = ps.length) ∧
  ∀ (A : Around) (out : List Env) (z : Shared) (H : Hp) (g : Args) (us : List Value) (xs : List V) (Q : VK) (E : XK), Shy A → Room k A → Env0 P w K mg base A out z H → BindsTo z fd g (ps.zip us) → Vals xs us → sp xs H Q E →
    codeAny (model P w) A (.call (.ref f) g) (CR CX out P w H z Q E) z
section
variable {P : Program} {w : World} {K : PySem.W.Frag} {mg : Str → Option Value} {base : Heap} {CX : CXT} {k : Nat} {f : Addr} {fd : FuncData} {ps : List Str} {sp : Sp}
theorem FnG.of (F : FnOk P w K mg base CX k f fd ps sp) : FnG P w K mg base CX k f fd ps sp := ⟨F.len, fun A out z H g us xs Q E _ => F.run A out z H g us xs Q E⟩
theorem fn_g {x q : Str} {pr : Arguments} {bd : List Stmt} {sc : Scope} {dV kV dc pm cd ct oc : Value} {an od : Option Addr} {sl : Array (Option Value)} {N : List Str}
    (lk : K.lookup f = some ⟨oc, od, .func (PySem.W.fnOf x q pr bd sc dV kV dc pm an cd ct), sl⟩) (hc : PySem.W.codeIn K cd q = true) (S : FnScope N ps sc) (ln : ∀ (xs : List V) (H : Hp) (Q : VK) (E : XK), sp xs H Q E → xs.length = ps.length)
    (go : ∀ (A : Around) (out : List Env) (z : Shared) (H : Hp) (xs : List V) (Q : VK) (E : XK), Shy A → Room k (A.deeper (envOfC q sc z.heap.objs.size f cd)) → sp xs H Q E →
      ∃ t, PSs (cxOf CX P w K mg base N q sc f cd A out z H E) bd t ∧ t { nx := fun _ H' => Q .non H', rt := Q } (start N xs) H) :
    FnG P w K mg base CX (k + 1) f (PySem.W.fnOf x q pr bd sc dV kV dc pm an cd ct) ps sp := by
  refine ⟨ln, fun A out z H g us xs Q E sh hr e0 hb r h => ?_⟩
  have up : ∀ (b : Addr) (o : Obj), base.get? b = some o → z.heap.get? b = some o := fun b o e => (e0.bs b o e).1
  have kIn : K.In z.heap := e0.mod.kin.keeps up
  have kinds : ∀ y ∈ ps.zip us, sc.names.lookup y.1 = some .local ∨ (sc.names.lookup y.1 = some .cell ∧ ((cellsFrom (z.heap.objs.size + 1) sc.names []).lookup y.1).isSome = true) := by
    rintro ⟨n, v⟩ hy
    exact (S.par n (List.of_mem_zip hy).1).imp id fun e => ⟨e, PySem.W.cellsFrom_some _ _ _ (.inl e)⟩
  refine codeAny_call_function hr.depth (kIn _ _ lk) rfl S.co S.gen rfl (PySem.W.codeRec_of kIn hc) (hb _ _ _ _ (wpAny_newFunctionEnv_cells S.kind kinds fun e he s1 x => ?_))
  subst he
  refine ⟨(e0.mod.nolimit.keeps up).keeps x.toInCall.keep, codeAny_func ?_⟩
  obtain ⟨t, ht, hq⟩ := go A out z H xs Q E sh (hr.deeper _) h
  refine wpAny_mono (ht.run [] s1 (start N xs) H _ (inv_start S hr.hd e0 (ln _ _ _ _ h) r x) hq) (fun fl s' e => ?_) fun _ _ e => e
  cases fl with
  | ret u =>
    obtain ⟨v, σ, H', J, rv, qv⟩ := e
    exact ⟨v, H', J.os, J.bare, J.base, J.hok, rv, qv⟩
  | next =>
    obtain ⟨σ, H', J, qv⟩ := e
    exact ⟨V.non, H', J.os, J.bare, J.base, J.hok, rfl, qv⟩
  | brk =>
    obtain ⟨_, _, _, no⟩ := e
    exact no.elim
  | cont =>
    obtain ⟨_, _, _, no⟩ := e
    exact no.elim
end
section
variable {X : Cx} {CX : CXT} {k : Nat} {f : Addr} {fd : FuncData} {ps : List Str} {sp : Sp} {ds : List Value} {dvs : List V} {E : XK} {x : Str} {p pos : Pos} {e : Expr} {es : List Expr} {t : TA}
/-- f(e, ..) where nothing is being shown -/
theorem pe_cg (F : FnG X.prog X.w X.K X.mg X.base CX k f fd ps sp) (sh : Shy X.A) (hr : Room k X.A) (gl : Gl X x) (hm : X.mg x = some (.ref f)) (kp : PySem.W.keepIn X.K (.ref f) = true) (hb : Binds X.K fd ps ds) (hd : Vals dvs ds) (hx : Passes CX X E)
    (ha : PA X (e :: es) t) (nb : (x == ("__debug__" : Str)) = false := by decide) (st : starEach (e :: es) X.env = (false, eval e X.env) :: starEach es X.env := by rfl) (np : (backTo pos (starEach es X.env)).any (·.1) = false := by rfl) :
    PE X (.Call (.Name x p) (e :: es) [] pos) (tCall sp dvs E t) := by
  refine ⟨fun pins s σ H Q I h => wpAny_Call_Name_kw (ld_glob I gl hm ?_ nb)⟩
  refine PySem.W.callWith_K (h₀ := X.base) I.ok.mod.kin kp (thn (ha.run pos pins s σ H _ I h) ?_) st np
  rintro us s1 ⟨vs, H1, I1, r, q⟩
  have rr : Vals (vs ++ dvs) (us ++ ds) := r.append hd
  refine ⟨I1.kIn, wpAny_call (codeAny_mono (F.2 X.A X.stack s1 H1 ⟨us, []⟩ (us ++ ds) (vs ++ dvs) Q E sh hr I1.env0 (hb s1 us I1.kIn (by rw [← rr.length]; exact F.1 _ _ _ _ q)) rr q) ?_)⟩
  intro r' s2 hq
  cases r' with
  | error a => exact hx pins σ H1 s1 a s2 I1 hq
  | ok fl => cases fl with
    | ret u => exact I1.after hq
    | next => exact hq.elim
    | brk => exact hq.elim
    | cont => exact hq.elim
end
end GG

namespace GG
open PySem PySem.Spec PyProof.Rows L2
/-! ### repr(v) where nothing is being shown -/
/-- a dict from integers to integers -/
def dI (ms : List (Int × Int)) : PyData := .dict (ms.map fun m => (.int m.1, .int m.2))
/-- what is shown of v -/
def Rp (K : PySem.W.Frag) (H : Hp) (v : V) (d : PyData) : Prop := (Dp K H v d ∧ d.hasDict = false) ∨ ∃ (a : Addr) (ms : List (Int × Int)), v = .ref a ∧ H a = some (.dK (ms.map fun m => (Sum.inl m.1, V.int m.2))) ∧ d = dI ms
def rRep (K : PySem.W.Frag) : List V → Hp → VK → Prop := fun xs H Q => ∃ (v : V) (d : PyData), xs = [v] ∧ Rp K H v d ∧ d.showable = true ∧ d.shown.length ≤ sizeLine ∧ d.depth ≤ 10 ∧ Q (.str d.shown) H
section
variable {P : Program} {w : World} {h : Heap}
theorem reads_ints {es : List DictEntry} {kvs : List (Key × Value)} (p : Pairs (mixKind P w) es kvs) : ∀ {ms : List (Int × Int)}, KV (ms.map fun m => ((Sum.inl m.1 : Key), V.int m.2)) kvs → ReadsAll h (es.map (·.key)) (ms.map fun m => PyData.int m.1) [] ∧ ReadsAll h (es.map (·.val)) (ms.map fun m => PyData.int m.2) [] := by
  induction p with
  | nil =>
    intro ms r
    cases ms with
    | nil => exact ⟨.nil, .nil⟩
    | cons _ _ => cases r
  | @cons e kv es kvs h1 h2 _ ih =>
    intro ms r
    cases ms with
    | nil => cases r
    | cons m ms =>
      cases r with
      | cons r0 r1 =>
        obtain ⟨a, b⟩ := ih r1
        obtain ⟨k, v⟩ := kv
        obtain ⟨z1, z2⟩ := r0
        have z1 : Sum.inl m.1 = k := z1
        subst z1
        obtain ⟨t, rfl⟩ := z2
        rcases keyIs_shape (k := Sum.inl m.1) (v := e.key) h1 with ⟨i, u, q1, q2⟩ | ⟨_, _, q1, _⟩
        · cases q1
          refine ⟨?_, ?_⟩
          · show ReadsAll h (e.key :: _) _ ([] ++ [])
            rw [q2]
            exact .cons (.int _ _) a
          · show ReadsAll h (e.val :: _) _ ([] ++ [])
            rw [h2]
            exact .cons (.int _ _) b
        · cases q1
end
section
variable {X : Cx}
theorem call_repr (sh : Shy X.A) (hu : X.A.units + 40 < cLine) : CallR X (.builtin "repr") (rRep X.K) := by
  intro pins s σ H xs us Q I r h
  obtain ⟨v, d, rfl, rp, sw, sz, dp, q⟩ := h
  obtain ⟨u, rfl, ru⟩ := vals1 r
  have fin : ∀ (h' : Heap) (t tk : Tok), (∀ b o, s.heap.get? b = some o → h'.get? b = some o) → EP X pins σ Q (.str d.shown t) { s with heap := h', toks := tk } := fun h' t tk k => ⟨.str d.shown, H, I.kept k, ⟨t, rfl⟩, q⟩
  have fin0 : EP X pins σ Q (.str d.shown s.toks) { s with toks := s.toks + 1 } := fin s.heap s.toks _ fun _ _ e => e
  rcases rp with ⟨hd, nd⟩ | ⟨a, ms, rfl, ha, rfl⟩
  · obtain ⟨as, rd⟩ := Dp.reads I d v u hd ru
    cases rd with
    | none => exact PySem.P.repr_of_none fin0
    | bool b => exact PySem.P.repr_of_bool fin0
    | int i t => exact PySem.P.repr_of_int (by simpa [PyData.showable] using sw) fin0
    | str x t => exact PySem.P.repr_of_str fin0 sz
    | list h1 h2 h3 h4 => exact repr_of_reads' (.list h1 h2 h3 h4) sw (fun z => by rw [nd] at z; cases z) sh (by omega) (fun _ _ e => e) fin sz
    | tuple h1 h2 h3 h4 => exact repr_of_reads' (.tuple h1 h2 h3 h4) sw (fun z => by rw [nd] at z; cases z) sh (by omega) (fun _ _ e => e) fin sz
    | dict _ _ _ _ _ => cases hd
  · obtain rfl : u = Value.ref a := ru
    obtain ⟨_, low, vs, kv, o, es, ep, h1, h2, h3, _, pr, _⟩ := dk_of I.hok ha
    obtain ⟨rk, rv⟩ := reads_ints (h := s.heap) pr kv
    have rd : Reads s.heap (.ref a) (dI ms) (a :: [] ++ []) := .dict h1 h2.1 h3 (by rw [List.map_map]; exact rk) (by rw [List.map_map]; exact rv)
    exact repr_of_reads' rd sw (fun _ z => by
      rw [List.append_nil, List.mem_singleton] at z
      rw [z] at low
      simp at low) sh (by omega) (fun _ _ e => e) fin sz
end
end GG

namespace GG
open PySem PySem.Spec PyProof.Rows L2
/-! ### the end, for a law that is such a def -/
/-- what is tracked at the start: the script, unless it is written, and tables -/
structure Begun (K : PySem.W.Frag) (h : Heap) (a : Addr) (vs : List Value) (ns : List Int) (cs : List (Addr × Addr)) (H : Hp) : Prop where
  tb : ∀ p ∈ cs, H p.2 = some (.tbl #[])
  al : ∀ b u, H b = some u → (u = .tbl #[] ∧ h.get? b = some { cls := .none, data := .fields #[] } ∧ K.lookup b = none ∧ b ∈ cs.map (·.2)) ∨ (b = a ∧ u = .frz { cls := .type "list", data := .seq vs.toArray } (.lst (ns.map V.int)) ∧ K.lookup a = none)
  sq : SqL K H a (ns.map V.int)
section
variable {P : Program} {w : World} {K : PySem.W.Frag} {a : Addr} {vs : List Value} {ns : List Int} {cs : List (Addr × Addr)} {H : Hp} {h : Heap}
theorem begun (KX : K.In h) (hT : ∀ p ∈ cs, h.get? p.2 = some { cls := .none, data := .fields #[] }) (nT : ∀ p ∈ cs, K.lookup p.2 = none) (ha : h.get? a = some { cls := .type "list", data := .seq vs.toArray }) (rv : Vals (ns.map V.int) vs) (hl : ns.length ≤ sizeLine) : ∃ H, Begun K h a vs ns cs H := by
  classical
  have isT : ∀ b, b ∈ cs.map (·.2) → h.get? b = some { cls := .none, data := .fields #[] } ∧ K.lookup b = none := fun b hb => by
    obtain ⟨p, hp, rfl⟩ := List.mem_map.mp hb
    exact ⟨hT p hp, nT p hp⟩
  have na : a ∉ cs.map (·.2) := fun z => by
    have q := (isT a z).1
    rw [ha] at q
    exact absurd (congrArg Obj.data (Option.some.inj q)) (by intro z; cases z)
  have mem : ∀ p ∈ cs, p.2 ∈ cs.map (·.2) := fun p hp => List.mem_map_of_mem hp
  have lv : vs.length = ns.length := by
    rw [← rv.length, List.length_map]
  cases e : K.lookup a with
  | none =>
    refine ⟨fun b => if b ∈ cs.map (·.2) then some (.tbl #[]) else if b = a then some (.frz { cls := .type "list", data := .seq vs.toArray } (.lst (ns.map V.int))) else none, fun p hp => if_pos (mem p hp), fun b u hb => ?_, .inl (.inr ⟨{ cls := .type "list", data := .seq vs.toArray }, ?_⟩)⟩
    · by_cases m : b ∈ cs.map (·.2)
      · rw [if_pos m] at hb
        exact .inl ⟨(Option.some.inj hb).symm, (isT b m).1, (isT b m).2, m⟩
      · rw [if_neg m] at hb
        by_cases eb : b = a
        · rw [if_pos eb] at hb
          exact .inr ⟨eb, (Option.some.inj hb).symm, e⟩
        · rw [if_neg eb] at hb
          cases hb
    · show (if a ∈ cs.map (·.2) then _ else _) = _
      rw [if_neg na, if_pos rfl]
  | some o =>
    have eo : o = { cls := .type "list", data := .seq vs.toArray } := by
      have q := KX a o e
      rw [ha] at q
      exact (Option.some.inj q).symm
    subst eo
    refine ⟨fun b => if b ∈ cs.map (·.2) then some (.tbl #[]) else none, fun p hp => if_pos (mem p hp), fun b u hb => ?_, .inr ⟨_, vs.toArray, _, e, rfl, rfl, rfl, by rw [List.size_toArray, lv]; exact hl, by simpa using rv⟩⟩
    by_cases m : b ∈ cs.map (·.2)
    · rw [if_pos m] at hb
      exact .inl ⟨(Option.some.inj hb).symm, (isT b m).1, (isT b m).2, m⟩
    · rw [if_neg m] at hb
      cases hb
variable {b : Addr} {o : Obj}
/-- what is neither a list nor an empty table is not tracked -/
theorem Begun.off (B : Begun K h a vs ns cs H) (ha : h.get? a = some { cls := .type "list", data := .seq vs.toArray }) (e : h.get? b = some o) (n1 : ∀ us n, o.data ≠ .seq us n) (n2 : o.data ≠ .fields #[]) : H b = none := by
  cases q : H b with
  | none => rfl
  | some u =>
    rcases B.al b u q with ⟨_, g, _⟩ | ⟨rfl, _⟩
    · rw [e] at g
      cases g
      exact absurd rfl n2
    · rw [e] at ha
      cases ha
      exact absurd rfl (n1 _ _)
theorem Begun.get (B : Begun K h a vs ns cs H) (ha : h.get? a = some { cls := .type "list", data := .seq vs.toArray }) (e : h.get? b = some o) (n1 : ∀ us n, o.data ≠ .seq us n) (n2 : o.data ≠ .fields #[]) : (hidT h H).get? b = some o := hidT_get e (B.off ha e n1 n2)
theorem Begun.nsp (B : Begun K h a vs ns cs H) (ha : h.get? a = some { cls := .type "list", data := .seq vs.toArray }) {m : Str → Option Value} (n : h.Ns b m) : (hidT h H).Ns b m := by
  obtain ⟨o, es, ep, e, d, r⟩ := n
  exact ⟨o, es, ep, B.get ha e (by rw [d]; intro _ _ z; cases z) (by rw [d]; intro z; cases z), d, r⟩
theorem Begun.kin (B : Begun K h a vs ns cs H) (KX : K.In h) : K.In (hidT h H) := fun b o e => hidT_get (KX b o e) (by
  cases q : H b with
  | none => rfl
  | some u =>
    rcases B.al b u q with ⟨_, _, g, _⟩ | ⟨rfl, _, g⟩
    · rw [e] at g
      cases g
    · rw [e] at g
      cases g)
theorem Begun.hok (B : Begun K h a vs ns cs H) (ha : h.get? a = some { cls := .type "list", data := .seq vs.toArray }) (rv : Vals (ns.map V.int) vs) (hl : ns.length ≤ sizeLine) : HOk P w H h := fun b u q => by
  rcases B.al b u q with ⟨rfl, g, _⟩ | ⟨rfl, rfl, _⟩
  · exact g
  · exact ⟨ha, by rw [List.length_map]; exact hl, vs, _, rv, ha⟩
end
theorem top_g {P : Program} {w : World} {K : PySem.W.Frag} {mg mb : Str → Option Value} {CX : CXT} {k : Nat} {fa a : Addr} {cs : List (Addr × Addr)} {fd : FuncData} {x : Str} {sp : Sp} {s : Shared} {vs : List Value} {ns : List Int}
    (KX : K.In s.heap) (gn : s.heap.Ns mainGlobals mg) (bn : s.heap.Ns builtinsNs mb) (bb : ∀ y : Str, y ≠ "__name__" → mb y = bootBuiltins y) (nl : s.heap.NoLimit) (ge : s.gens = #[])
    (hT : ∀ p ∈ cs, s.heap.get? p.2 = some { cls := .none, data := .fields #[] }) (nT : ∀ p ∈ cs, K.lookup p.2 = none) (hC : ∀ p ∈ cs, PySem.W.CodeHd s.heap p.1 p.2)
    (hM : ∃ (m : Addr) (om : Obj), mg "__builtins__" = some (.ref m) ∧ m ≠ builtinsNs ∧ s.heap.get? m = some om ∧ om.cls = .type "module" ∧ om.dict = some builtinsNs ∧ om.data = .plain)
    (ha : s.heap.get? a = some { cls := .type "list", data := .seq vs.toArray }) (hi : IntsAre vs ns) (hl : ns.length ≤ sizeLine) (hr : Room k callerA)
    (F : ∀ bs : Heap, K.In bs → bs.Ns mainGlobals mg → (∀ p ∈ cs, LamX.TabB bs mg p.1 p.2) → FnG P w K mg bs CX k fa fd [x] sp) (bi : ∀ (z : Shared) (u : Value), BindsTo z fd ⟨[u], []⟩ [(x, u)])
    (hs : ∀ H : Hp, (∀ p ∈ cs, H p.2 = some (.tbl #[])) → SqL K H a (ns.map V.int) → sp [.ref a] H (fun v _ => v = .bl true) fun _ _ _ => False)
    (hX : ∀ H e z, CX [] H s (fun _ _ _ => False) e z → False) :
    codeAny (model P w) callerA (.call (.ref fa) ⟨[.ref a], []⟩) (fun r z => r = .ok (.ret (.bool true)) ∧ OldK s.heap z.heap ∧ z.os = s.os ∧ AllBare z.gens) s := by
  have rv := vals_ints hi
  obtain ⟨H, B⟩ := begun KX hT nT ha rv hl
  have md : L2.Mod K mg (hidT s.heap H) := ⟨B.kin KX, B.nsp ha gn, ⟨mb, B.nsp ha bn, bb⟩, let ⟨mc, h1, h2⟩ := nl; ⟨mc, B.nsp ha h1, h2⟩⟩
  have tabs : ∀ p ∈ cs, LamX.TabB (hidT s.heap H) mg p.1 p.2 := fun p hp => by
    have tp := hT p hp
    obtain ⟨m, om, b1, b2, b3, b4, b5, b6⟩ := hM
    refine ⟨?_, ⟨m, om, b1, b2, fun q => ?_, fun q => ?_, B.get ha b3 (by rw [b6]; intro _ _ z; cases z) (by rw [b6]; intro z; cases z), b4, b5, b6⟩, fun q => ?_⟩
    · obtain ⟨o, us, fl, tf, fg, tg, iF, tx, tt, e1, r1, r2, r3, rest⟩ := hC p hp
      refine ⟨o, us, fl, tf, fg, tg, iF, tx, tt, B.get ha e1 (by rw [r2]; intro _ _ z; cases z) (fun z => ?_), r1, r2, r3, rest⟩
      rw [r2] at z
      cases z
      simp at r3
    · obtain ⟨o, es, ep, e, hd, _⟩ := gn
      rw [q, e] at b3
      cases b3
      rw [hd] at b6
      cases b6
    · rw [q, tp] at b3
      cases b3
      cases b6
    · obtain ⟨o, es, ep, e, hd, _⟩ := gn
      rw [q, tp] at e
      cases e
      cases hd
  have e0 : Env0 P w K mg (hidT s.heap H) callerA [] s H := ⟨rfl, md, fun b o e => of_hidT e, Nat.le_of_eq (hidT_size _ _), trivial, (fun b hb => absurd hb List.not_mem_nil), B.hok ha rv hl, AllBare.of_eq ge⟩
  refine codeAny_mono ((F _ md.kin md.glob tabs).2 callerA [] s H ⟨[.ref a], []⟩ [.ref a] [.ref a] _ _ rfl hr e0 (bi s (.ref a)) (.cons rfl .nil) (hs H B.tb B.sq)) ?_
  intro r z hz
  cases r with
  | error e => exact (hX H e z hz).elim
  | ok fl => cases fl with
    | next => exact hz.elim
    | brk => exact hz.elim
    | cont => exact hz.elim
    | ret u =>
      obtain ⟨v, H', os, bare, un, hok, rvu, qv⟩ := hz
      have qv : v = .bl true := qv
      subst qv
      obtain rfl : u = Value.bool true := rvu
      have stays : ∀ (b : Addr) (o : Obj), (∀ u, H b = some u → ¬ (u = .tbl #[])) → s.heap.get? b = some o → z.heap.get? b = some o := fun b o nt e => by
        cases q : H b with
        | none => exact un.keep b o e q (fun z => nomatch z) (fun z => nomatch z)
        | some u =>
          rcases B.al b u q with ⟨t, _⟩ | ⟨rfl, rfl, _⟩
          · exact absurd t (nt u q)
          · rw [ha] at e
            cases e
            exact (hok b _ (un.frzs b _ _ q)).1
      have grows : ∀ p ∈ cs, ∃ more : Array Value, z.heap.get? p.2 = some { cls := .none, data := .fields more } := fun p hp => by
        obtain ⟨more, q⟩ := un.tbls p.2 #[] (B.tb p hp)
        exact ⟨_, hok p.2 _ q⟩
      have one : ∀ (b : Addr) (o : Obj), s.heap.get? b = some o → z.heap.get? b = some o ∨ ∃ p ∈ cs, b = p.2 := fun b o e => by
        by_cases t : H b = some (.tbl #[])
        · rcases B.al b _ t with ⟨_, _, _, m⟩ | ⟨_, y, _⟩
          · obtain ⟨p, hp, ep⟩ := List.mem_map.mp m
            exact .inr ⟨p, hp, ep.symm⟩
          · cases y
        · exact .inl (stays b o (fun u q t2 => t (by rw [q, t2])) e)
      refine ⟨rfl, ⟨fun b o e => ?_, fun b o e => ?_⟩, os, bare⟩
      · rcases one b o e with g | ⟨p, hp, rfl⟩
        · exact .inl g
        · obtain ⟨more, g⟩ := grows p hp
          rw [hT p hp] at e
          cases e
          exact .inr (.inl ⟨((hC p hp).tab (hT p hp)).isCodeTable, rfl, #[], more, rfl, by rw [Array.empty_append]; exact g⟩)
      · rcases one b o e with g | ⟨p, hp, rfl⟩
        · exact ⟨o, g⟩
        · obtain ⟨more, g⟩ := grows p hp
          exact ⟨_, g⟩
/-- what is known of the law's promise at the head's heap -/
def LawG (l : PySem.W.OpenLaw) (w : World) (K : PySem.W.Frag) (CX : CXT) (k n : Nat) (x : Str) (mg : Str → Option Value) (fa : Addr) (h : Heap) : Prop :=
  ∃ (fd : FuncData) (cs : List (Addr × Addr)) (sp : Sp), ((∀ p ∈ cs, h.get? p.2 = some { cls := .none, data := .fields #[] }) ∧ (∀ p ∈ cs, K.lookup p.2 = none) ∧ (∀ p ∈ cs, PySem.W.CodeHd h p.1 p.2)) ∧ (∀ (z : Shared) (u : Value), BindsTo z fd ⟨[u], []⟩ [(x, u)]) ∧
    (∀ (H : Hp) (a : Addr) (ns : List Int), ns.length ≤ n → (∀ i ∈ ns, Builtin.Int.intBits i ≤ 1048576) → (∀ p ∈ cs, H p.2 = some (.tbl #[])) → SqL K H a (ns.map V.int) → sp [.ref a] H (fun v _ => v = .bl true) fun _ _ _ => False) ∧
    ∀ bs : Heap, K.In bs → bs.Ns mainGlobals mg → (∀ p ∈ cs, LamX.TabB bs mg p.1 p.2) → FnG l.prog w K mg bs CX k fa fd [x] sp
theorem walk_g {l : PySem.W.OpenLaw} {n k : Nat} {q : Program} {loose : List Str} {XP : (Str → Option Value) → Heap → Prop} {YP : World → Heap → Prop} {d : DefRec} {K : Params → PySem.W.Frag} {CX : World → CXT} {x : Str}
    (hn : l.most = some n) (n2 : n ≤ sizeLine) (df : d.params.defaults = []) (hr : Room k callerA) (hY : ∀ (w : World) (h : Heap), YP w h → (K w.params).In h)
    (F : ∀ (w : World) (mg : Str → Option Value) (fa : Addr) (h : Heap), YP w h → (K w.params).In h → h.Ns mainGlobals mg → mg d.name = some (.ref fa) → LawG l w (K w.params) (CX w) k n x mg fa h)
    (hX : ∀ (w : World) (H : Hp) (s : Shared) (e : Value) (z : Shared), CX w [] H s (fun _ _ _ => False) e z → False) :
    PySem.W.WalkO q loose XP YP l.row.toRowW d [] (fun f vs => PySem.call f vs) := by
  refine Att.attach_callB hn df ?_
  intro w s0 s mg mb fa o pm cd dc a vs ns G Y _ _ _ hm hob his hle hbi hge
  obtain ⟨fd, cs, sp, ⟨hT, nT, hC⟩, bi, hs, hF⟩ := F w mg fa _ Y (hY w _ Y) G.T.g hm
  exact top_g (hY w _ Y) G.T.g G.T.b G.T.builtins G.T.nolimit hge hT nT hC G.T.bmain hob his (Nat.le_trans hle n2) hr hF bi (fun H t q => hs H a ns hle hbi t q) fun H e z => hX w H s e z
end GG

namespace GG
open PySem PySem.Spec PyProof.Rows L2 LamX NdefX
/-! ### a lambda with parameters, kept as a value -/
/-- f is the lambda of F's words, its body e -/
def LamO (f : Addr) (F : NF) (e : Expr) : HO := .ext fun h => ∃ u v : Value, h.get? f = some (PySem.W.kla_obj "<lambda>" F.qual F.params e F.scope F.cl u F.c v)
theorem lamO_at {P : Program} {w : World} {H : Hp} {h : Heap} {f : Addr} {F : NF} {e : Expr} (hok : HOk P w H h) (z : H f = some (LamO f F e)) : ∃ u v : Value, h.get? f = some (PySem.W.kla_obj "<lambda>" F.qual F.params e F.scope F.cl u F.c v) := (hok f _ z).1
theorem lamO_no {f : Addr} {F : NF} {e : Expr} {o : HO} (h : ∀ φ, o ≠ .ext φ) : LamO f F e ≠ o := fun z => h _ z.symm
/-- the words of such a lambda -/
abbrev lamF (X : Cx) (ar : Arguments) (sc : Scope) (c' : Addr) : NF := ⟨"<lambda>", X.env.qual ++ "<lambda>", ar, [], sc, cloFrom X.env.cells sc.names [], c'⟩
abbrev tbUp (H : Hp) (P c' : Addr) (ps : Array Value) (z : Pos) (q : Str) : Hp := upd (upd H P (.tbl (ps ++ #[rawInt z.line, rawInt z.col, .ref c']))) c' (CodeO c' q)
section
variable {T : List (Addr × Str)} {H : Hp} {P c' : Addr} {q : Str} {ps : Array Value} {z : Pos}
theorem ext_more (hP : H P = some (.tbl ps)) (nC : H c' = none) : ExtN H (tbUp H P c' ps z q) := fun b o e n => by
  have n1 : b ≠ c' := ne_of_none e nC
  have n2 : b ≠ P := fun y => n ps (by rw [y, hP] at e; exact (Option.some.inj e).symm)
  show upd (upd H P _) c' _ b = _
  rw [upd_ne n1, upd_ne n2, e]
theorem tabs_more (hT : Tabs T H) (hP : H P = some (.tbl ps)) (nC : H c' = none) (hu : ∀ p ∈ T, p.1 = P → p.2 = q) : Tabs T (tbUp H P c' ps z q) := by
  intro p hp
  have st := ext_more (z := z) (q := q) hP nC
  have nPc : P ≠ c' := ne_of_none hP nC
  obtain ⟨qs, g1, g2, g3⟩ := hT p hp
  by_cases y : p.1 = P
  · rw [y, hP] at g1
    cases g1
    have eL : (ps ++ #[rawInt z.line, rawInt z.col, Value.ref c']).toList = ps.toList ++ [rawInt z.line, rawInt z.col, Value.ref c'] := by simp
    refine ⟨_, by rw [y]; exact (upd_ne nPc).trans upd_same, by rw [eL]; exact PySem.TriplesOk_snoc _ _ _ _ g2, fun pos cv hcv => ?_⟩
    rw [eL] at hcv
    refine (among_app _ g2 hcv).elim (fun k => ?_) fun k => ⟨c', k, by rw [hu p hp y]; exact upd_same⟩
    obtain ⟨c0, e1, e2⟩ := g3 pos cv k
    exact ⟨c0, e1, st _ _ e2 codeO_ne⟩
  · refine ⟨qs, (upd_ne (ne_of_none g1 nC)).trans ((upd_ne y).trans g1), g2, fun pos cv hcv => ?_⟩
    obtain ⟨c0, e1, e2⟩ := g3 pos cv hcv
    exact ⟨c0, e1, st _ _ e2 codeO_ne⟩
end
section
variable {X : Cx} {pins : List (Addr × Obj)} {σ : L2.St} {H : Hp} {s : Shared}
/-- a lambda's object is laid behind all else -/
theorem inv_lam {F : NF} {e : Expr} {h : Heap} {t : Nat} {u v : Value} (I : Inv X pins σ H { s with heap := h, toks := t }) :
    Inv X pins σ (upd H h.objs.size (LamO h.objs.size F e)) { s with heap := h.push (PySem.W.kla_obj "<lambda>" F.qual F.params e F.scope F.cl u F.c v), toks := t } := by
  refine I.laid (a := h.objs.size) (fun b o z => Heap.get?_push_of_some _ z) (Nat.le_refl _) ?_
  have k : (h.push (PySem.W.kla_obj "<lambda>" F.qual F.params e F.scope F.cl u F.c v)).get? h.objs.size = some (PySem.W.kla_obj "<lambda>" F.qual F.params e F.scope F.cl u F.c v) := Heap.get?_push_size _ rfl
  exact ⟨⟨u, v, k⟩, ⟨_, k⟩, fun h1 h2 ⟨x, y, z⟩ st => ⟨x, y, st _ z⟩⟩
/-- the reading of a lambda that is kept -/
def tLamV (T : List (Addr × Str)) (mk : Addr → NF) (e : Expr) : TE := fun _ H Q => Tabs T H ∧ ∀ (f c' : Addr) (H1 : Hp), ExtN H H1 → Tabs T H1 → H f = none → H1 f = some (LamO f (mk c') e) → H1 c' = some (CodeO c' (mk c').qual) → Q (.ref f) H1
theorem pe_lamv {T : List (Addr × Str)} {c P : Addr} {ar : Arguments} {e : Expr} {sc : Scope} {z : Pos} (TB : TabB X.base X.mg c P) (hcode : X.env.code = .ref c) (hm : (P, X.env.qual ++ "<lambda>") ∈ T) (hu : ∀ p ∈ T, p.1 = P → p.2 = X.env.qual ++ "<lambda>")
    (hdef : defaultsOf ar X.env = ([], [])) (hfree : ∀ y ∈ sc.names, y.2 = .free → X.env.scope.names.lookup y.1 = some .cell ∨ X.env.scope.names.lookup y.1 = some .free) : PE X (.Lambda ar e sc z) (tLamV T (lamF X ar sc) e) := by
  refine ⟨fun pins s σ H Q I h => PySem.W.kla_eval hdef ?_⟩
  obtain ⟨hT, h⟩ := h
  have hf : ∀ y ∈ sc.names, y.2 = .free → ∃ c, X.env.cells.lookup y.1 = some c := fun y hy k => (hfree y hy k).elim (fun z => I.ok.has _ (.inl z)) fun z => I.ok.has _ (.inr z)
  obtain ⟨ps, hP, ht, ha⟩ := hT _ hm
  have bP : s.heap.BuiltinsAt X.mg P := TB.bm.keeps I.bk
  have gP : s.heap.get? P = some { cls := .none, data := .fields ps } := I.hok P _ hP
  cases hc : codeAmong z ps.toList with
  | some cv =>
    obtain ⟨c', k, hco⟩ := ha z cv hc
    subst k
    refine PySem.W.kla_makeFunctionHit (ps := ps) (mg := X.mg) (P := P) (c := c) (closure_ok hf) I.ok.glob (I.mod.glob.keeps I.bk) hcode (TB.code.keeps I.bk) gP ht hc bP fun v h' t hx hsz => ?_
    have I1 : Inv X pins σ H { s with heap := h', toks := t } := I.kept hx
    have nF : H h'.objs.size = none := I1.hok.fresh (Nat.le_refl _)
    have sm : ∀ b o, H b = some o → upd H h'.objs.size (LamO h'.objs.size (lamF X ar sc c') e) b = some o := fun b o k => by
      rw [upd_ne (ne_of_none k nF)]
      exact k
    exact ⟨.ref h'.objs.size, _, inv_lam (F := lamF X ar sc c') I1, rfl, h _ c' _ (ExtN.of sm) (hT.ext sm) nF upd_same (sm _ _ hco)⟩
  | none =>
    refine PySem.W.kla_makeFunction (ps := ps) (mg := X.mg) (P := P) (c := c) (closure_ok hf) I.ok.glob (I.mod.glob.keeps I.bk) hcode (TB.code.keeps I.bk) gP ht hc TB.gP bP fun c' v h' t hx hge hlt hrec htb => ?_
    obtain ⟨c2, oc, vs, tq, k, hoc, hd, hv⟩ := hrec
    cases k
    have I1 := inv_table (h' := h') (t' := t) (more := #[rawInt z.line, rawInt z.col, .ref c']) I hP (fun b o hb k => hx b o hb k) htb hge ⟨oc, vs, tq, hoc, hd, hv⟩
    have nC : H c' = none := I.hok.fresh hge
    have nF := I1.hok.fresh (a := h'.objs.size) (Nat.le_refl _)
    have sm : ∀ b o, tbUp H P c' ps z (X.env.qual ++ "<lambda>") b = some o → upd (tbUp H P c' ps z (X.env.qual ++ "<lambda>")) h'.objs.size (LamO h'.objs.size (lamF X ar sc c') e) b = some o := fun b o k => by
      rw [upd_ne (ne_of_none k nF)]
      exact k
    refine ⟨.ref h'.objs.size, _, inv_lam (F := lamF X ar sc c') I1, rfl, h _ c' _ ((ext_more hP nC).trans (ExtN.of sm)) ((tabs_more hT hP nC hu).ext sm) (I.hok.fresh (Nat.le_trans hge (Nat.le_of_lt hlt))) upd_same (sm _ _ upd_same)⟩
end
/-! ### it is called -/
theorem cells_un {cl : List (Str × Addr)} {fr : List Str} {ws : List (Option V)} {h h' : Heap} {H H' : Hp} {fs : List Addr} (C : CellsAt cl fr ws h H) (u : Un fs [] H H' h h') : CellsAt cl fr ws h' H' := by
  have kp : ∀ {c : Addr} {v : Option Value}, H c = none → h.IsCell c v → h'.IsCell c v ∧ H' c = none := fun {c v} n ⟨o, ho, hd⟩ => by
    obtain ⟨sl, k⟩ := u.any ho n (by simp)
    exact ⟨⟨_, k, hd⟩, u.free c o ho n (by simp)⟩
  refine ⟨C.len, fun y c e => ?_, C.inj, fun i y e => ?_⟩
  · obtain ⟨n, v, z⟩ := C.all y c e
    exact ⟨(kp n z).2, v, (kp n z).1⟩
  · obtain ⟨c, hc, hv⟩ := C.has i y e
    refine ⟨c, hc, fun v ev => ?_⟩
    obtain ⟨u, r, z⟩ := hv v ev
    exact ⟨u, r, (kp (C.all y c hc).1 z).1⟩
section
variable {CX : CXT} {P : Program} {w : World} {K : PySem.W.Frag} {mg : Str → Option Value} {base : Heap} {N ps fr : List Str} {F : NF} {e : Expr} {f : Addr} {tb : TE} {k : Nat} {A : Around} {outer : List Env} {s : Shared} {H : Hp} {us : List Value} {vs : List V} {ws : List (Option V)} {Q : VK} {E : XK}
theorem run_lam (S : NScope N ps fr F.scope) (hb : ∀ (u v : Value) (us : List Value), us.length = ps.length → bindArgs (PySem.W.kla_fn "<lambda>" F.qual F.params e F.scope F.cl u (.ref F.c) v) ⟨us, []⟩ = pure (ps.zip us)) (hr : Room (k + 1) A) (e0 : Env0 P w K mg base A outer s H)
    (hf : H f = some (LamO f F e)) (hc : H F.c = some (CodeO F.c F.qual)) (C : CellsAt F.cl fr ws s.heap H) (r : Vals vs us) (hl : vs.length = ps.length) (hbody : Room k (A.deeper (envF F f s.heap.objs.size)) → PE (ncx CX P w K mg base N F f A outer s H E) e tb) (q : tb (startF N vs ws) H Q) :
    codeAny (model P w) A (.call (.ref f) ⟨us, []⟩) (CR CX outer P w H s Q E) s := by
  obtain ⟨u, v, ho⟩ := lamO_at e0.hok hf
  have lim : s.heap.NoLimit := e0.mod.nolimit.keeps fun b o z => (e0.bs b o z).1
  refine PySem.W.kla_callFunE hr.depth ho rfl S.co S.gen rfl (codeO_at e0.hok hc) ?_
  rw [hb u v us (by rw [← r.length]; exact hl)]
  refine wpAny_pure (wpAny_newFunctionEnv S.nocell (fun ⟨n, _⟩ hy => S.par n (List.of_mem_zip hy).1) (fun h₁ hns hsb => ⟨lim.fresh _ hsb, ?_⟩) S.kind)
  have I : Inv (ncx CX P w K mg base N F f A outer s H E) [] (startF N vs ws) H { s with heap := h₁, toks := s.toks + (ps.zip us).length } := inv_startN S hr.hd e0 hl r C hns fun b o z => hsb.extBut b o (Nat.ne_of_lt (Heap.lt_size z)) (Heap.get?_push_of_some _ z)
  show codeAny (model P w) A (.expr e (envF F f s.heap.objs.size)) _ _
  refine PySem.W.kla_codeExpr (wpAny_mono ((hbody (hr.deeper _)).run [] _ _ H Q I q) (fun x s' hq => ?_) fun x s' hq => hq)
  obtain ⟨y, H', J, rv, q'⟩ := hq
  exact ⟨y, H', J.os, J.bare, J.base, J.hok, rv, q'⟩
end
/-- x(..), x a name that holds one of such lambdas; ws: what each has captured -/
def tCallV {ι : Type} (mk : ι → Addr → NF) (e : ι → Expr) (i : Nat) (N : ι → List Str) (n : Nat) (ws : List (Option V)) (tb : ι → TE) (t : TA) : TE := fun σ H Q => ∃ (b : ι) (f c' : Addr), σ[i]? = some (some (.ref f)) ∧ H f = some (LamO f (mk b c') (e b)) ∧ t σ H fun vs H1 => vs.length = n ∧ H1 f = some (LamO f (mk b c') (e b)) ∧ H1 (mk b c').c = some (CodeO (mk b c').c (mk b c').qual) ∧ tb b (startF (N b) vs ws) H1 Q
section
variable {ι : Type} {X : Cx} {CX : CXT} {mk : ι → Addr → NF} {e : ι → Expr} {cl : List (Str × Addr)} {N ps : ι → List Str} {fr : List Str} {i k m : Nat} {ws : List (Option V)} {x : Str} {E : XK} {t : TA} {tb : ι → TE} {a : Expr} {as : List Expr} {p pos : Pos}
theorem lamAt {pins : List (Addr × Obj)} {σ : L2.St} {H : Hp} {s : Shared} {f : Addr} {F : NF} {e : Expr} (I : Inv X pins σ H s) (z : H f = some (LamO f F e)) : PySem.W.FnAt f s.heap := by
  obtain ⟨u, v, ho⟩ := lamO_at I.hok z
  exact ⟨_, _, _, _, ho⟩
theorem pe_callv (C0 : CellsAt cl fr ws X.s_0.heap X.H_0) (hex : X.ex = []) (hcl : ∀ b c', (mk b c').cl = cl) (hm : ∀ b, (ps b).length = m) (S : ∀ b c', NScope (N b) (ps b) fr (mk b c').scope)
    (hb : ∀ (b : ι) (c' : Addr) (u v : Value) (us : List Value), us.length = (ps b).length → bindArgs (PySem.W.kla_fn "<lambda>" (mk b c').qual (mk b c').params (e b) (mk b c').scope (mk b c').cl u (.ref (mk b c').c) v) ⟨us, []⟩ = pure ((ps b).zip us)) (hr : Room (k + 1) X.A) (hx : Passes CX X E) (hN : X.N[i]? = some x) (hv : Vis X.env.scope x) (ha : PA X (a :: as) t)
    (hbody : ∀ (b : ι) (c' f : Addr) (s : Shared) (H : Hp), Room k (X.A.deeper (envF (mk b c') f s.heap.objs.size)) → PE (ncx CX X.prog X.w X.K X.mg X.base (N b) (mk b c') f X.A X.stack s H E) (e b) (tb b))
    (hd : (x == ("__debug__" : Str)) = false := by decide) (hcd : (x == ("__classdict__" : Str)) = false := by decide)
    (he : starEach (a :: as) X.env = (false, eval a X.env) :: starEach as X.env := by rfl) (hpl : (backTo pos (starEach as X.env)).any (·.1) = false := by rfl) :
    PE X (.Call (.Name x p) (a :: as) [] pos) (tCallV mk e i N m ws tb t) := by
  refine ⟨fun pins s σ H Q I h => ?_⟩
  obtain ⟨b, f, c', hs, hf, ht⟩ := h
  refine wpAny_Call_Name_kw (thn ((pe_var (i := i) (pos := p) hN hv hd hcd).run pins s σ H (fun v H1 => v = .ref f ∧ H1 = H) I ⟨.ref f, hs, rfl, rfl⟩) fun u s1 ⟨v, H1, I1, r1, ev, eH⟩ => ?_)
  subst ev
  rw [eH] at I1
  cases (show u = Value.ref f from r1)
  refine PySem.W.callWith_F (first := []) (lamAt I1 hf) (thn (ha.run pos pins s1 σ H _ I1 ht) fun us s2 ⟨vs, H2, I2, r, hl, h1, h2, q⟩ => ⟨lamAt I2 h1, ?_⟩) he hpl
  have un : Un X.fs [] X.H_0 H2 X.s_0.heap s2.heap := by
    have := I2.base
    rw [hex] at this
    exact this
  have C2 : CellsAt (mk b c').cl fr ws s2.heap H2 := by
    rw [hcl]
    exact cells_un C0 un
  refine wpAny_call (codeAny_mono (run_lam (N := N b) (ps := ps b) (S b c') (hb b c') hr I2.env0 h1 h2 C2 r (hl.trans (hm b).symm) (fun hr2 => hbody b c' f s2 H2 hr2) q) fun y s' hq => ?_)
  match y, hq with
  | .error er, hq => exact hx pins σ H2 s2 er s' I2 hq
  | .ok (.ret u), hq => exact I2.after hq
  | .ok .next, hq => exact False.elim hq
  | .ok .brk, hq => exact False.elim hq
  | .ok .cont, hq => exact False.elim hq
end
/-! ### a lambda without parameters that calls it, handed to a def -/
section
variable {X : Cx} {pins : List (Addr × Obj)} {σ : L2.St} {H : Hp} {s : Shared}
theorem act_v {CXg : CXT} {Eg : XK} {Ng : List Str} {qg : Str} {sg : Scope} {g f c' : Addr} {cdg pm ctv : Value} {ar : Arguments} {e : Expr} {sc : Scope} {k i : Nat} {x : Str} {pn : List (Addr × Obj)} {xe : Value → Shared → Prop} {W : WX} {E : XK} {tb : TE} {p1 p2 : Pos} {cl : List (Str × Addr)} {fr : List Str} {ws : List (Option V)}
    (C0 : CellsAt cl fr ws s.heap H) (I : Inv X pins σ H s) (L : LamS X.env.scope sc) (hf : s.heap.get? f = some (PySem.W.kla_obj "<lambda>" (X.env.qual ++ "<lambda>") ar e sc (cloFrom X.env.cells sc.names []) pm c' ctv)) (hfn : H f = none) (hfr : f ∉ frs X.stack)
    (hbind : bindArgs (PySem.W.kla_fn "<lambda>" (X.env.qual ++ "<lambda>") ar e sc (cloFrom X.env.cells sc.names []) pm (.ref c') ctv) ⟨[], []⟩ = pure [])
    (tk : Takes ((cxOf CXg X.prog X.w X.K X.mg X.base Ng qg sg g cdg X.A X.stack s H Eg).tr pn xe) W) (hW : ∀ cls d σ' H', E cls d H' → W cls d σ' H') (hr : Room (k + 1) (X.A.deeper (envOfC qg sg s.heap.objs.size g cdg)))
    (hbody : ∀ (A : Around) (outer : List Env) (s : Shared) (H : Hp), CellsAt cl fr ws s.heap H → Room k (A.deeper (lamEnv X sc s.heap.objs.size f c')) → PE (lamCx X A outer s H E sc f c') e tb)
    (hN : Ng[i]? = some x) (hv : Vis sg x) (hd : (x == ("__debug__" : Str)) = false) (hcd : (x == ("__classdict__" : Str)) = false) :
    PE ((cxOf CXg X.prog X.w X.K X.mg X.base Ng qg sg g cdg X.A X.stack s H Eg).tr pn xe) (.Call (.Name x p1) [] [] p2) (fun τ HZ Q => τ[i]? = some (some (.ref f)) ∧ HZ c' = some (CodeO c' (X.env.qual ++ "<lambda>")) ∧ tb σ HZ Q) := by
  refine ⟨fun pz sz τ HZ Q IZ ⟨hs, hc, ht⟩ => ?_⟩
  refine wpAny_Call_Name_kw (thn ((pe_var (i := i) (pos := p1) hN hv hd hcd).run pz sz τ HZ (fun v H1 => v = .ref f ∧ H1 = HZ) IZ ⟨.ref f, hs, rfl, rfl⟩) fun u s1 ⟨v, H1, I1, r1, ev, eH⟩ => ?_)
  subst ev
  rw [eH] at I1
  cases (show u = Value.ref f from r1)
  have un : Un (frs X.stack) [] H HZ s.heap s1.heap := I1.base
  have of1 := un.keep f _ hf hfn hfr (fun z => nomatch z)
  have hx : Passes (L2.CX X.prog X.w) ((cxOf CXg X.prog X.w X.K X.mg X.base Ng qg sg g cdg X.A X.stack s H Eg).tr pn xe) E := passes_call tk hW
  refine PySem.W.callWith_F0 ⟨_, _, _, _, of1⟩ (wpAny_call (codeAny_mono (R := CR (L2.CX X.prog X.w) (envOfC qg sg s.heap.objs.size g cdg :: X.stack) X.prog X.w HZ s1 Q E) ?_ fun y s' hq => ?_))
  · refine PySem.W.kla_callFunE hr.depth of1 rfl L.co L.gen rfl (codeO_at I1.hok hc) ?_
    show wpAny _ _ (bindArgs _ ⟨[], []⟩) _ _ _
    rw [hbind]
    refine wpAny_pure (wpAny_newFunctionEnv (fun y hy => (L.own y hy).2) (fun y hy => absurd hy (by simp)) (fun h₁ hns hsb => ⟨I1.nolimit.fresh _ hsb, ?_⟩) L.kind)
    have J : Inv (lamCx X (X.A.deeper (envOfC qg sg s.heap.objs.size g cdg)) (envOfC qg sg s.heap.objs.size g cdg :: X.stack) s1 HZ E sc f c') [] σ HZ { s1 with heap := h₁, toks := s1.toks + ([] : List (Str × Value)).length } :=
      lam_start2 I L I1.env0 hr.hd un hns fun b o z => hsb.extBut b o (Nat.ne_of_lt (Heap.lt_size z)) (Heap.get?_push_of_some _ z)
    show codeAny _ _ (.expr e (lamEnv X sc s1.heap.objs.size f c')) _ _
    refine PySem.W.kla_codeExpr (wpAny_mono ((hbody _ _ s1 HZ (cells_un C0 un) (hr.deeper _)).run [] _ _ HZ Q J ht) (fun v s' hq => ?_) fun v s' hq => hq)
    obtain ⟨y, H', J', rv, q⟩ := hq
    exact ⟨y, H', J'.os, J'.bare, J'.base, J'.hok, rv, q⟩
  · match y, hq with
    | .error er, hq => exact hx pz τ HZ s1 er s' I1 hq
    | .ok (.ret u), hq => exact I1.after hq
    | .ok .next, hq => exact False.elim hq
    | .ok .brk, hq => exact False.elim hq
    | .ok .cont, hq => exact False.elim hq
/-- x(lambda: e), e asks what such a lambda has captured -/
theorem pe_lamcallv {T : List (Addr × Str)} {TT : (XK → Hp → VK → Prop) → Hp → VK → Prop} {x a : Str} {g c P : Addr} {k : Nat} {pg : Arguments} {bg : List Stmt} {sg : Scope} {dV kV doc pm cdv ct oc : Value} {an od : Option Addr} {osl : Array (Option Value)} {Ng : List Str}
    {ar : Arguments} {e : Expr} {sc : Scope} {t : List (Option V) → XK → TE} {p lpos pos : Pos} {cl : List (Str × Addr)} {fr : List Str} {js : List Nat} (cp : X.Ok → Caps X cl fr js) (hg : Gl X x) (hm : X.mg x = some (.ref g)) (hk : PySem.W.keepIn X.K (.ref g) = true)
    (lk : X.K.lookup g = some ⟨oc, od, .func (PySem.W.fnOf x x pg bg sg dV kV doc pm an cdv ct), osl⟩) (hcg : PySem.W.codeIn X.K cdv x = true) (hb : L2.Binds X.K (PySem.W.fnOf x x pg bg sg dV kV doc pm an cdv ct) [a] []) (Sg : FnScope Ng [a] sg) (hNg : Ng[0]? = some a) (hva : Vis sg a)
    (hG : GivesTo X Ng x sg g cdv bg a (X.env.qual ++ "<lambda>") TT) (TB : TabB X.base X.mg c P) (hcode : X.env.code = .ref c) (hmT : (P, X.env.qual ++ "<lambda>") ∈ T) (hu : ∀ p ∈ T, p.1 = P → p.2 = X.env.qual ++ "<lambda>") (hr : Room (k + 2) X.A) (L : LamS X.env.scope sc) (hdef : defaultsOf ar X.env = ([], []))
    (hbind : ∀ (q : Str) (cl : List (Str × Addr)) (pm cv ctv : Value), bindArgs (PySem.W.kla_fn "<lambda>" q ar e sc cl pm cv ctv) ⟨[], []⟩ = pure [])
    (hbody : ∀ (ws : List (Option V)) (A : Around) (outer : List Env) (s : Shared) (H : Hp) (E : XK) (f c' : Addr), CellsAt cl fr ws s.heap H → Room k (A.deeper (lamEnv X sc s.heap.objs.size f c')) → PE (lamCx X A outer s H E sc f c') e (t ws E))
    (hdb : (x == ("__debug__" : Str)) = false := by decide) (hd : (a == ("__debug__" : Str)) = false := by decide) (hcd : (a == ("__classdict__" : Str)) = false := by decide) :
    PE X (.Call (.Name x p) [.Lambda ar e sc lpos] [] pos) (fun σ => tLam T TT (fun E => t (js.map (slotAt σ)) E) σ) := by
  refine ⟨fun pins s σ H Q I h => ?_⟩
  obtain ⟨hT, h⟩ := h
  refine wpAny_Call_Name_kw (ld_glob I hg hm ?_ hdb)
  refine PySem.W.callWith_K (h₀ := X.base) I.ok.mod.kin hk ?_ (by rfl) (by rfl)
  show wpAny _ _ (spliced ((false, eval (.Lambda ar e sc lpos) X.env) :: backTo pos (starEach [] X.env))) _ _ s
  refine Calls.spliced_cons (lam_make2 I TB hcode hmT hu hT hdef (L.has I.ok) fun f c' pm' ctv H1 s' I1 eN T1 hf hfn hfr hco => Calls.spliced_nil ⟨I1.kIn, ?_⟩)
  refine wpAny_call (codeAny_mono (R := CR C8.CX0 X.stack X.prog X.w H1 s' Q C8.E0) ?_ fun r s2 hq => ?_)
  · refine run_ofS (N := Ng) (ps := [a]) (us := [.ref f]) (vs := [.ref f]) lk hcg Sg hr I1.env0 (hb s' [.ref f] I1.kIn rfl) (.cons rfl .nil) rfl fun hr' => ?_
    obtain ⟨t', ht', hq'⟩ := hG f c' s' H1 Q (fun E H' Q' => t (js.map (slotAt σ)) E σ H' Q') (fun W pn xe E p1 p2 tk hW => act_v (i := 0) (cells_of I1 (cp I1.ok)) I1 L hf hfn hfr (hbind _ _ _ _ _) tk hW hr' (fun A outer s H hC hr2 => hbody _ A outer s H E f c' hC hr2) hNg hva hd hcd) hco (h H1 eN T1)
    exact ⟨t', ht'.nox, hq'⟩
  · match r, hq with
    | .error er, hq => exact (show False from hq).elim
    | .ok (.ret u), hq => exact I1.after hq
    | .ok .next, hq => exact False.elim hq
    | .ok .brk, hq => exact False.elim hq
    | .ok .cont, hq => exact False.elim hq
end
end GG

namespace K17
open PySem PySem.Spec PyProof.Rows L2
section
variable {X : Cx}
end
/-- what is shown of v, from here on -/
def Sh (K : PySem.W.Frag) (H : Hp) (v : V) (d : PyData) : Prop := d.showable = true ∧ d.shown.length ≤ sizeLine ∧ d.depth ≤ 10 ∧ ∀ H', Same H H' → GG.Rp K H' v d
theorem Sh.same {K : PySem.W.Frag} {H H1 : Hp} {v : V} {d : PyData} (h : Sh K H v d) (s : Same H H1) : Sh K H1 v d := ⟨h.1, h.2.1, h.2.2.1, fun H' s' => h.2.2.2 H' (s.trans s')⟩
end K17

namespace K17
open PySem PySem.Spec PyProof.Rows L2
abbrev Ext := LamX.ExtN
theorem ext_of {H H' : Hp} (s : Same H H') : Ext H H' := LamX.ExtN.of s
section
variable {H H' : Hp} {a C p : Addr} {xs : List V} {ps : List (Int × Int)} {ts : List Addr} {n : Nat}
theorem Ext.tup (s : Ext H H') (h : H a = some (.tup xs)) : H' a = some (.tup xs) := s _ _ h (by intro ps z; cases z)
theorem Ext.lst (s : Ext H H') (h : H a = some (.lst xs)) : H' a = some (.lst xs) := s _ _ h (by intro ps z; cases z)
theorem LP.ext (h : LP H a ts ps) (s : Ext H H') : LP H' a ts ps := ⟨Ext.lst s h.1, paired_mono h.2 fun _ _ z => Ext.tup s z⟩
theorem PT.ext (h : PT H a ps) (s : Ext H H') : PT H' a ps := let ⟨ts, e, b⟩ := h; ⟨ts, Ext.tup s e, paired_mono b fun _ _ z => Ext.tup s z⟩
theorem Two.ext {us vs : List Int} (h : Two H a us vs) (s : Ext H H') : Two H' a us vs := let ⟨r0, r1, e, e0, e1⟩ := h; ⟨r0, r1, Ext.tup s e, Ext.tup s e0, Ext.tup s e1⟩
theorem PicF.ext (h : PicF H C a ps) (s : Ext H H') : PicF H' C a ps := let ⟨dx, t, u, e, q, r⟩ := h; ⟨dx, t, u, s _ _ e (by intro ps z; cases z), q.ext s, r.ext s⟩
theorem Lens.ext (v : Lens H p n) (s : Ext H H') : Lens H' p n := by
  obtain ⟨c, ns, x, y, h1, h2, h⟩ := v
  exact ⟨c, ns, x, y, Ext.lst s h1, Ext.lst s h2, h⟩
theorem Kd.ext {K : PySem.W.Frag} {v : V} {t : Bool} (k : Kd K H v t) (s : Ext H H') : Kd K H' v t := by
  cases k with
  | non => exact .non
  | bl b => exact .bl b
  | int i => exact .int i
  | str x => exact .str x
  | lst e => exact .lst (Ext.lst s e)
  | tup e => exact .tup (Ext.tup s e)
  | dK e => exact .dK (s _ _ e (by intro ps z; cases z))
  | ins e P => exact .ins (s _ _ e (by intro ps z; cases z)) P
end
/-- but at p, and but tables, all stands as it stood -/
def Kq (p : Addr) (H H' : Hp) : Prop := ∀ b o, b ≠ p → (∀ ps, o ≠ .tbl ps) → H b = some o → H' b = some o
theorem Kq.refl (p : Addr) (H : Hp) : Kq p H H := fun _ _ _ _ h => h
theorem Kq.trans {p : Addr} {H H1 H2 : Hp} (a : Kq p H H1) (b : Kq p H1 H2) : Kq p H H2 := fun c o n t h => b c o n t (a c o n t h)
theorem Kq.ofS {p : Addr} {H H' : Hp} (s : SB p H H') : Kq p H H' := fun b o n _ h => s.1 b o n h
theorem Kq.ofE {p : Addr} {H H' : Hp} (s : Ext H H') : Kq p H H' := fun b o _ t h => s b o h t
theorem LP.kq {p a : Addr} {H H' : Hp} {ts : List Addr} {ps : List (Int × Int)} {n : Nat} (h : LP H a ts ps) (v : Lens H p n) (na : a ≠ p) (k : Kq p H H') : LP H' a ts ps :=
  ⟨k _ _ na (by intro ps z; cases z) h.1, paired_mono h.2 fun _ _ z => k _ _ (v.not_tup z) (by intro ps z; cases z) z⟩
theorem codeO_no {c : Addr} {q : Str} {xs : List V} : LamX.CodeO c q ≠ .lst xs := fun z => by
  unfold LamX.CodeO at z
  cases z
theorem tabs_sb {T : List (Addr × Str)} {H H' : Hp} {p : Addr} {n : Nat} (t : LamX.Tabs T H) (v : Lens H p n) (s : SB p H H') : LamX.Tabs T H' := fun x hx => by
  obtain ⟨_, _, _, hp⟩ := v.at
  obtain ⟨ps, h1, h2, h3⟩ := t x hx
  refine ⟨ps, s.1 _ _ (L2.ne_of h1 hp (by intro z; cases z)) h1, h2, fun pos cv hc => ?_⟩
  obtain ⟨c, e1, e2⟩ := h3 pos cv hc
  exact ⟨c, e1, s.1 _ _ (L2.ne_of e2 hp codeO_no) e2⟩
theorem kq_same {p : Addr} {H H' : Hp} (s : Same H H') : Kq p H H' := Kq.ofE (ext_of s)
theorem PicF.kq {H H' : Hp} {C a p : Addr} {n : Nat} {ps : List (Int × Int)} (h : PicF H C a ps) (v : Lens H p n) (s : Kq p H H') : PicF H' C a ps := by
  obtain ⟨c, x, y, e⟩ := v.at
  obtain ⟨dx, t, u, ha, ⟨ts, ht, pr⟩, r0, r1, hu, h0, h1⟩ := h
  have tp : ∀ {b : Addr} {xs : List V}, H b = some (.tup xs) → H' b = some (.tup xs) := fun e => s _ _ (v.not_tup e) (by intro ps z; cases z) e
  exact ⟨dx, t, u, s _ _ (L2.ne_of ha e (by intro z; cases z)) (by intro ps z; cases z) ha, ⟨ts, tp ht, paired_mono pr fun _ _ z => tp z⟩, r0, r1, tp hu, tp h0, tp h1⟩
theorem keptl {H H' : Hp} {a p : Addr} {xs : List V} (h : H a = some (.lst xs)) (n : a ≠ p) (s : Kq p H H') : H' a = some (.lst xs) := s _ _ n (by intro ps z; cases z) h
/-- but at p, and but tables, all stands; what draws keeps its cells -/
structure Kz (p : Addr) (H H' : Hp) : Prop where
  k : Kq p H H'
  c : ∀ c x y, H p = some (.lst [.ref c, x, y]) → ∃ x' y', H' p = some (.lst [.ref c, x', y'])
theorem Kz.refl (p : Addr) (H : Hp) : Kz p H H := ⟨Kq.refl p H, fun _ _ _ h => ⟨_, _, h⟩⟩
theorem Kz.trans {p : Addr} {H H1 H2 : Hp} (a : Kz p H H1) (b : Kz p H1 H2) : Kz p H H2 := ⟨a.k.trans b.k, fun c x y h => let ⟨_, _, h1⟩ := a.c c x y h; b.c _ _ _ h1⟩
theorem Kz.ofS {p : Addr} {H H' : Hp} (s : SB p H H') : Kz p H H' := ⟨Kq.ofS s, s.2⟩
theorem Kz.ofE {p : Addr} {H H' : Hp} (s : Ext H H') : Kz p H H' := ⟨Kq.ofE s, fun _ _ _ h => ⟨_, _, Ext.lst s h⟩⟩
theorem Kz.same {p : Addr} {H H' : Hp} (s : Same H H') : Kz p H H' := Kz.ofE (ext_of s)
structure Val (p : Addr) (K : PySem.W.Frag) (H : Hp) (x : V) (t : Bool) (D : PyData) : Prop where
  w : D.showable = true
  z : D.shown.length ≤ sizeLine
  d : D.depth ≤ 10
  o : PyData.strOk D.shown = true
  r : ∀ H', Kq p H H' → Kd K H' x t ∧ GG.Rp K H' x D
theorem Val.kq {p : Addr} {K : PySem.W.Frag} {H H' : Hp} {x : V} {t : Bool} {D : PyData} (v : Val p K H x t D) (k : Kq p H H') : Val p K H' x t D := ⟨v.w, v.z, v.d, v.o, fun H2 k2 => v.r H2 (k.trans k2)⟩
theorem Val.kd {p : Addr} {K : PySem.W.Frag} {H : Hp} {x : V} {t : Bool} {D : PyData} (v : Val p K H x t D) : Kd K H x t := (v.r H (Kq.refl p H)).1
section
variable {p a : Addr} {K : PySem.W.Frag} {H : Hp}
end
abbrev Ee := Option (Str × V)
def T2 (H : Hp) (x : V) : Ee → Prop
  | none => x = .non
  | some e => ∃ t, x = .ref t ∧ H t = some (.tup [.str e.1, e.2])
def HsP (H : Hp) (l : Addr) (es : List Ee) : Prop := ∃ xs, H l = some (.lst xs) ∧ Paired (T2 H) xs es
theorem T2.tup {H H' : Hp} {x : V} {e : Ee} (h : T2 H x e) (s : ∀ t xs, H t = some (.tup xs) → H' t = some (.tup xs)) : T2 H' x e := by
  cases e with
  | none => exact h
  | some e =>
    obtain ⟨t, rfl, g⟩ := h
    exact ⟨t, rfl, s _ _ g⟩
theorem HsP.kq {H H' : Hp} {p l : Addr} {n : Nat} {es : List Ee} (h : HsP H l es) (v : Lens H p n) (nl : l ≠ p) (k : Kq p H H') : HsP H' l es := by
  obtain ⟨xs, g, pr⟩ := h
  exact ⟨xs, keptl g nl k, paired_mono pr fun _ _ z => z.tup fun t ys e => k _ _ (v.not_tup e) (by intro ps z; cases z) e⟩
/-- since H0: what stood there stands but what draws; the list at l has these, the lists of ds have theirs -/
structure St (TL : List (Addr × Str)) (p : Addr) (H0 : Hp) (l : Addr) (es : List Ee) (ds : List (Addr × List Ee)) (n : Nat) (H : Hp) : Prop where
  z : Kz p H0 H
  v : Lens H p n
  T : LamX.Tabs TL H
  h : HsP H l es
  nl : l ≠ p
  nl0 : H0 l = none
  ds : ∀ x ∈ ds, HsP H x.1 x.2 ∧ x.1 ≠ l ∧ x.1 ≠ p
section
variable {TL : List (Addr × Str)} {p l : Addr} {H0 H H' HC HD : Hp} {es : List Ee} {ds : List (Addr × List Ee)} {n n0 : Nat}
theorem St.at (s : St TL p H0 l es ds n H) : ∃ xs, H l = some (.lst xs) ∧ xs.length = es.length := by
  obtain ⟨xs, g, pr⟩ := s.h
  exact ⟨xs, g, Paired.length pr⟩
theorem St.ext (s : St TL p H0 l es ds n H) (x : Ext H H') (T' : LamX.Tabs TL H') : St TL p H0 l es ds n H' := ⟨s.z.trans (Kz.ofE x), s.v.ext x, T', s.h.kq s.v s.nl (Kq.ofE x), s.nl, s.nl0, fun d hd => ⟨(s.ds d hd).1.kq s.v (s.ds d hd).2.2 (Kq.ofE x), (s.ds d hd).2⟩⟩
theorem St.same (s : St TL p H0 l es ds n H) (x : Same H H') : St TL p H0 l es ds n H' := s.ext (ext_of x) (s.T.ext x)
end
end K17

namespace K17
open PySem PySem.Spec PyProof.Rows L2
abbrev PSS := List (List (Int × Int))
def LPx (H : Hp) (a : Addr) (ps : List (Int × Int)) : Prop := ∃ ts, LP H a ts ps
def Told (H : Hp) (D : Addr) (as : List Addr) (pss : PSS) : Prop := H D = some (.lst (as.map V.ref)) ∧ Paired (LPx H) as pss
/-- so many pins each, all in reach -/
def Tok (k : Nat) (pss : PSS) : Prop := ∀ ps ∈ pss, ps.length = k ∧ OkP ps
theorem Lens.not_refs {H : Hp} {p a : Addr} {n : Nat} {as : List Addr} (v : Lens H p n) (h : H a = some (.lst (as.map V.ref))) : a ≠ p := by
  obtain ⟨c, x, y, e⟩ := v.at
  rintro rfl
  rw [e] at h
  have z := HO.lst.inj (Option.some.inj h)
  cases as with
  | nil => cases z
  | cons b bs =>
    cases bs with
    | nil => cases z
    | cons c cs => cases z
theorem LPx.same {H H' : Hp} {a : Addr} {ps : List (Int × Int)} (h : LPx H a ps) (s : Same H H') : LPx H' a ps := let ⟨ts, l⟩ := h; ⟨ts, l.same s⟩
theorem LPx.sb {H H' : Hp} {p a : Addr} {n : Nat} {ps : List (Int × Int)} (h : LPx H a ps) (v : Lens H p n) (s : SB p H H') : LPx H' a ps := let ⟨ts, l⟩ := h; ⟨ts, l.sb v (v.not_refs l.1) s⟩
theorem Told.same {H H' : Hp} {D : Addr} {as : List Addr} {pss : PSS} (h : Told H D as pss) (s : Same H H') : Told H' D as pss := ⟨s _ _ h.1, paired_mono h.2 fun _ _ z => z.same s⟩
theorem Told.sb {H H' : Hp} {p D : Addr} {n : Nat} {as : List Addr} {pss : PSS} (h : Told H D as pss) (v : Lens H p n) (s : SB p H H') : Told H' D as pss := ⟨s.1 _ _ (v.not_refs h.1) h.1, paired_mono h.2 fun _ _ z => z.sb v s⟩
theorem Told.len {H : Hp} {D : Addr} {as : List Addr} {pss : PSS} (h : Told H D as pss) : as.length = pss.length := Paired.length h.2
theorem Told.at {H : Hp} {D : Addr} {as : List Addr} {pss : PSS} {i : Nat} {ps : List (Int × Int)} (h : Told H D as pss) (hi : pss[i]? = some ps) : ∃ a, (as.map V.ref)[i]? = some (.ref a) ∧ LPx H a ps := by
  obtain ⟨g, hg, r⟩ := paired_of h.2 hi
  exact ⟨g, by rw [List.getElem?_map, hg]; rfl, r⟩
theorem Told.mem {H : Hp} {D : Addr} {as : List Addr} {pss : PSS} {i : Nat} {x : V} (h : Told H D as pss) (hx : (as.map V.ref)[i]? = some x) : ∃ a ps, as[i]? = some a ∧ x = .ref a ∧ pss[i]? = some ps ∧ LPx H a ps := by
  rw [List.getElem?_map] at hx
  cases e : as[i]? with
  | none => rw [e] at hx; cases hx
  | some a =>
    rw [e] at hx
    obtain ⟨ps, hp, r⟩ := paired_get h.2 e
    exact ⟨a, ps, rfl, (Option.some.inj hx).symm, hp, r⟩
/-- pictures in a list or a tuple -/
def Pics (H : Hp) (C : Addr) (cs : List Addr) (pss : PSS) : Prop := Paired (PicF H C) cs pss
theorem Pics.same {H H' : Hp} {C : Addr} {cs : List Addr} {pss : PSS} (h : Pics H C cs pss) (s : Same H H') : Pics H' C cs pss := paired_mono h fun _ _ z => z.same s
theorem Pics.sb {H H' : Hp} {C p : Addr} {n : Nat} {cs : List Addr} {pss : PSS} (h : Pics H C cs pss) (v : Lens H p n) (s : SB p H H') : Pics H' C cs pss := paired_mono h fun _ _ z => z.sb v s
theorem Pics.updl {H : Hp} {C l : Addr} {o : HO} {xs : List V} {cs : List Addr} {pss : PSS} (h : Pics H C cs pss) (hl : H l = some (.lst xs)) : Pics (upd H l o) C cs pss := paired_mono h fun _ _ z => z.updl hl
theorem Pics.len {H : Hp} {C : Addr} {cs : List Addr} {pss : PSS} (h : Pics H C cs pss) : cs.length = pss.length := Paired.length h
/-- pictures in a list -/
def PicL (H : Hp) (C D : Addr) (cs : List Addr) (pss : PSS) : Prop := H D = some (.lst (cs.map V.ref)) ∧ Pics H C cs pss
theorem PicL.same {H H' : Hp} {C D : Addr} {cs : List Addr} {pss : PSS} (h : PicL H C D cs pss) (s : Same H H') : PicL H' C D cs pss := ⟨s _ _ h.1, h.2.same s⟩
theorem PicL.sb {H H' : Hp} {C D p : Addr} {n : Nat} {cs : List Addr} {pss : PSS} (h : PicL H C D cs pss) (v : Lens H p n) (s : SB p H H') : PicL H' C D cs pss := ⟨s.1 _ _ (v.not_refs h.1) h.1, h.2.sb v s⟩
theorem pe_mkPc {X : Cx} {C CB : Addr} {e : Expr} {es : List Expr} {t : TA} {p pos : Pos} {E : XK} (K : PySem.W.Frag) (T : Pc X.prog X.w X.K X.mg X.base C CB) (hr : Room 7 X.A) (hx : Passes (L2.CX X.prog X.w) X E) (hg : Gl X "Picture") (ha : PA X (e :: es) t) (h : X.K = K := by rfl) (he : starEach (e :: es) X.env = (false, eval e X.env) :: starEach es X.env := by rfl) (hpl : (backTo pos (starEach es X.env)).any (·.1) = false := by rfl) :
    PE X (.Call (.Name "Picture" p) (e :: es) [] pos) (tMkP K C CB E t) := by
  subst h
  exact pe_mkP T hr hx hg ha he hpl
section
variable {P : Program} {w : World} {K : PySem.W.Frag} {mg : Str → Option Value} {base : Heap} {C CB : Addr}
end
end K17

namespace K17
open PySem PySem.Spec PyProof.Rows L2
def IsA (K : PySem.W.Frag) (C : Addr) (H : Hp) (v : V) (b : Bool) : Prop := ∃ u, PySem.W.kitOne K u (.ref C) = some b ∧ ∀ H', Same H H' → TyX K H' v u
theorem IsA.same {K : PySem.W.Frag} {C : Addr} {H H1 : Hp} {v : V} {b : Bool} (h : IsA K C H v b) (s : Same H H1) : IsA K C H1 v b := let ⟨u, k, t⟩ := h; ⟨u, k, fun H' s' => t H' (s.trans s')⟩
theorem PicF.isA {K : PySem.W.Frag} {C a : Addr} {H : Hp} {ps : List (Int × Int)} (h : PicF H C a ps) (T : PicT K C) : IsA K C H (.ref a) true := ⟨_, kit_self, fun _ s => (h.same s).ty T⟩
section
variable {P : Program} {w : World} {K : PySem.W.Frag} {mg : Str → Option Value} {base : Heap} {C CA CB CX' CP CW : Addr}
abbrev sAI : Stmt := inClass (top 4) 0
theorem scAI : FnScope ["self", "part"] ["self", "part"] (defScope sAI) := ⟨rfl, rfl, rfl, by decide +kernel, rfl, by decide +kernel, by decide +kernel⟩
theorem ok_ai {f C : Addr} {fd : FuncData} (F : Fun K "__init__" "BadAlbum.__init__" sAI f fd) : FnOk P w K mg base CX0 1 f fd ["self", "part"] (spE1 K "part" C) := by
  refine F.ok scAI (fun vs H Q E h => ?_) (fun cdv A outer s H vs Q E hr h => ?_)
  · obtain ⟨a, y, rfl, _⟩ := h
    rfl
  · obtain ⟨a, y, rfl, T, no, ha, q⟩ := h
    exact ⟨_, pss_one (ps_ost (pv 0) (pv 1)), _, rfl, _, rfl, a, C, rfl, T, no, .inl ⟨ha, q⟩⟩
end
end K17

namespace K17
open PySem PySem.Spec PyProof.Rows L2
/-- a walk over a tuple, whatever is done with each item -/
theorem wk_tup {K : PySem.W.Frag} {a : Addr} {xs : List V} {Qd : Hp → Prop} {BODY : V → Hp → (Hp → Prop) → Prop} {H0 : Hp} (Pv : Nat → Hp → Prop) (h0 : Pv 0 H0) (hl : ∀ i H, i ≤ xs.length → Pv i H → SqT K H a xs) (hs : ∀ i x H, xs[i]? = some x → Pv i H → BODY x H (Pv (i + 1))) (hd : ∀ H, Pv xs.length H → Qd H) :
    ∃ W : Nat → Nat → Hp → Prop, (∃ m, W 0 m H0) ∧ ∀ i m H, W i m H → ((Itt K a).stop i H ∧ Qd H) ∨ ((Itt K a).go i H ∧ ∃ Nx : Hp → Prop, (∀ H', Nx H' → ∃ m', m' < m ∧ W (i + 1) m' H') ∧ ∀ x H', (Itt K a).yld i H x H' → BODY x H' Nx) := by
  refine ⟨fun i m H => m + i = xs.length ∧ Pv i H, ⟨xs.length, Nat.add_zero _, h0⟩, ?_⟩
  rintro i m H ⟨em, p⟩
  have q := hl i H (by omega) p
  by_cases hlt : i < xs.length
  · refine .inr ⟨⟨xs, xs[i], q, List.getElem?_eq_getElem hlt⟩, Pv (i + 1), fun H' p' => ⟨m - 1, by omega, by omega, p'⟩, ?_⟩
    rintro x H' ⟨rfl, y⟩
    exact hs i x _ (y xs q) p
  · have e : i = xs.length := by omega
    subst e
    exact .inl ⟨⟨xs, q, Nat.le_refl _⟩, hd H p⟩
/-- the rows of pictures, one behind another -/
def rowsOf (pss : PSS) : List (List Int) := pss.flatMap fun ps => [sk 0 ps, sk 1 ps]
def RowT (H : Hp) (r : Addr) (xs : List Int) : Prop := H r = some (.tup (xs.map V.int))
theorem RowT.updl {H : Hp} {r D : Addr} {xs : List Int} {ys : List V} {o : HO} (h : RowT H r xs) (hd : H D = some (.lst ys)) : RowT (upd H D o) r xs := by
  unfold RowT at h ⊢
  rw [upd_ne (L2.ne_of h hd (by intro z; cases z))]
  exact h
/-- at a: the album of these pictures -/
def AlbF (H : Hp) (CA C a : Addr) (cs : List Addr) (pss : PSS) : Prop := ∃ dx t u rs, H a = some (.ins CA dx [("pins", .int ((pss.headD []).length : Nat)), ("pictures", .ref t), ("rows", .ref u)]) ∧ H t = some (.tup (cs.map V.ref)) ∧ Pics H C cs pss ∧ H u = some (.tup (rs.map V.ref)) ∧ Paired (RowT H) rs (rowsOf pss)
theorem AlbF.same {H H' : Hp} {CA C a : Addr} {cs : List Addr} {pss : PSS} (h : AlbF H CA C a cs pss) (s : Same H H') : AlbF H' CA C a cs pss := let ⟨dx, t, u, rs, e, et, p, eu, r⟩ := h; ⟨dx, t, u, rs, s _ _ e, s _ _ et, p.same s, s _ _ eu, paired_mono r fun _ _ z => s _ _ z⟩
structure AlbT (K : PySem.W.Frag) (CA : Addr) : Prop where
  pc : PicC K CA
  n1 : NoAttr K CA "pins"
  n2 : NoAttr K CA "pictures"
  n3 : NoAttr K CA "rows"
/-- as many pins in each -/
def alike (pss : PSS) : Bool := pss.all fun ps => decide (ps.length = (pss.headD []).length)
def fullA : List (Str × V) := [("most", .int 8), ("what", .str "pictures")]
theorem PicF.kp {H H' : Hp} {C CA a c dx : Addr} {ps : List (Int × Int)} (h : PicF H C c ps) (ha : H a = some (.ins CA dx [])) (k : Kp a H H') : PicF H' C c ps := by
  obtain ⟨dc, t, u, e, pt, tw⟩ := h
  refine ⟨dc, t, u, k _ _ (fun z => ?_) e, pt.kp ha k, tw.kp ha k⟩
  rw [z, ha] at e
  cases e
theorem Pics.kp {H H' : Hp} {C CA a dx : Addr} {cs : List Addr} {pss : PSS} (h : Pics H C cs pss) (ha : H a = some (.ins CA dx [])) (k : Kp a H H') : Pics H' C cs pss := paired_mono h fun _ _ z => z.kp ha k
theorem Pics.isA {K : PySem.W.Frag} {H : Hp} {C : Addr} {cs : List Addr} {pss : PSS} (h : Pics H C cs pss) (T : PicT K C) : Paired (IsA K C H) (cs.map V.ref) (pss.map fun _ => true) := by
  unfold Pics at h
  induction h with
  | nil => exact .nil
  | cons a _ ih => exact .cons (a.isA T) ih
theorem isA_all {K : PySem.W.Frag} {C : Addr} {H H' : Hp} {xs : List V} {bs : List Bool} (h : Paired (IsA K C H) xs bs) (s : Same H H') : Paired (IsA K C H') xs bs := paired_mono h fun _ _ z => z.same s
theorem Pics.mem {H : Hp} {C : Addr} {cs : List Addr} {pss : PSS} {i : Nat} {x : V} (h : Pics H C cs pss) (hx : (cs.map V.ref)[i]? = some x) : ∃ c ps, cs[i]? = some c ∧ x = .ref c ∧ pss[i]? = some ps ∧ PicF H C c ps := by
  rw [List.getElem?_map] at hx
  cases e : cs[i]? with
  | none => rw [e] at hx; cases hx
  | some a =>
    rw [e] at hx
    obtain ⟨ps, hp, r⟩ := paired_get h e
    exact ⟨a, ps, rfl, (Option.some.inj hx).symm, hp, r⟩
theorem rowsOf_take {pss : PSS} {i : Nat} {ps : List (Int × Int)} (h : pss[i]? = some ps) : rowsOf (pss.take (i + 1)) = rowsOf (pss.take i) ++ [sk 0 ps, sk 1 ps] := by
  unfold rowsOf
  rw [take_more h, List.flatMap_append]
  simp
theorem rowsOf_len (pss : PSS) : (rowsOf pss).length = 2 * pss.length := by
  induction pss with
  | nil => rfl
  | cons p ps ih =>
    have e : rowsOf (p :: ps) = [sk 0 p, sk 1 p] ++ rowsOf ps := rfl
    rw [e, List.length_append, ih]
    show 2 + 2 * ps.length = 2 * (ps.length + 1)
    omega
def nq (p0 ps : List (Int × Int)) : Bool := !decide (V.int (ps.length : Nat) = V.int (p0.length : Nat))
theorem nq_any (p0 : List (Int × Int)) : ∀ pss : PSS, pss.any (id ∘ nq p0) = !pss.all fun ps => decide (ps.length = p0.length)
  | [] => rfl
  | ps :: pss => by
    rw [List.any_cons, List.all_cons, nq_any p0 pss]
    have e : (id ∘ nq p0) ps = !decide (ps.length = p0.length) := by
      show (!decide (V.int (ps.length : Nat) = V.int (p0.length : Nat))) = _
      congr 1
      rw [Bool.eq_iff_iff, decide_eq_true_iff, decide_eq_true_iff]
      exact ⟨fun z => by have := V.int.inj z; omega, fun z => by rw [z]⟩
    rw [e, Bool.not_and]
section
variable {P : Program} {w : World} {K : PySem.W.Frag} {mg : Str → Option Value} {base : Heap} {C CA CB CF CT fT : Addr}
/-- how an album is made of a value: refused, or of pictures -/
def AlbJ (K : PySem.W.Frag) (C CA CB CF CT : Addr) (v : V) (H : Hp) (OK : List Addr → PSS → Prop) (RZ : (Hp → XK → Prop) → Prop) : Prop :=
  ((Kd K H v false ∨ (∃ b, v = .ref b ∧ Sq H b []) ∨ ∃ b xs bs, v = .ref b ∧ Sq H b xs ∧ xs ≠ [] ∧ xs.length ≤ 100 ∧ Paired (IsA K C H) xs bs ∧ bs.all id = false) ∧ RZ (RzV CB "part" (.str "pictures"))) ∨
  (∃ b cs pss, v = .ref b ∧ Sq H b (cs.map V.ref) ∧ Pics H C cs pss ∧ cs ≠ [] ∧ pss.length ≤ 100 ∧ (alike pss = false → RZ (RzV CF "part" (.str "pins"))) ∧ (alike pss = true → 8 < pss.length → RZ (RzF CT fullA)) ∧ (alike pss = true → pss.length ≤ 8 → OK cs pss))
def spAI (K : PySem.W.Frag) (C CA CB CF CT : Addr) : Sp := fun vs H Q E => ∃ (a dx : Addr) (v : V), vs = [.ref a, v] ∧ H a = some (.ins CA dx []) ∧
  AlbJ K C CA CB CF CT v H (fun cs pss => ∀ H', Kp a H H' → AlbF H' CA C a cs pss → Q .non H') (fun R => ∀ H1, Kp a H H1 → R H1 E)
abbrev sAlI : Stmt := inClass (top 43) 0
abbrev nAlI : List Str := ["self", "pictures", "picture", "row"]
theorem scAlI : FnScope nAlI ["self", "pictures"] (defScope sAlI) := ⟨rfl, rfl, rfl, by decide +kernel, rfl, by decide +kernel, by decide +kernel⟩
theorem ok_ali {f : Addr} {fd fdT : FuncData} (F : Fun K "__init__" "Album.__init__" sAlI f fd) (B : Bn mg) (hany : mg "any" = none) (T : PicT K C) (TA : AlbT K CA) (mC : mg "Picture" = some (.ref C)) (L8 : ∃ t, mg "MOST_PICTURES" = some (.int 8 t)) (M1 : ErM P w K mg base "BadAlbum" "part" CB) (M2 : ErM P w K mg base "Misfit" "part" CF) (TT : TmT K mg CT fT) (FT : Fun K "__init__" "TooMany.__init__" sTI fT fdT) (C1 : Callee P w K mg base CX0 1 "is_list" ["value"] (spIsList K)) :
    FnOk P w K mg base (L2.CX P w) 4 f fd ["self", "pictures"] (spAI K C CA CB CF CT) := by
  obtain ⟨f1, fd1, m1, k1, b1, G1⟩ := C1
  obtain ⟨fE1, fdE1, T1, GE1, bE1⟩ := M1
  obtain ⟨fE2, fdE2, T2, GE2, bE2⟩ := M2
  obtain ⟨t8, m8⟩ := L8
  have GT : FnOk P w K mg base CX0 1 fT fdT ["self", "what", "most"] (spIn2 K "what" "most") := ok_ti FT
  have bT : Binds K fdT ["self", "what", "most"] [] := FT.binds (ps := ["self", "what", "most"]) fun _ _ _ _ _ _ us hl => match us, hl with | [_, _, _], _ => rfl
  have nd := scAlI.nd
  have cA := TA.pc.cls
  have cP := T.pc.cls
  have bad : ∀ {H H1 : Hp} {E : XK}, (∀ z, RzV CB "part" z H1 E → True) := fun _ _ => trivial
  refine F.okX scAlI (fun vs H Q E h => ?_) (fun cdv A outer s H vs Q E hr h => ?_)
  · obtain ⟨a, dx, v, rfl, _⟩ := h
    rfl
  · obtain ⟨a, dx, v, rfl, ha, h⟩ := h
    rcases h with ⟨h, r⟩ | ⟨b, cs, pss, rfl, hs, hp, hne, h100, r1, r2, q⟩
    · rcases h with h | ⟨b, rfl, hs⟩ | ⟨b, xs, bs, rfl, hs, hne, h100, hj, hb⟩
      · refine ⟨_, pss_cons (ps_if (PW.pt (pw_or (pt_not (pt_val (pe_call G1 (hr.mono (by decide)) rfl m1 k1 b1 .nil pass0 (pa_cons (pv 1) pa_nil)))) (pw_or1 (pt_not (pt_truth (pv 1) (fun _ => rfl)))))) (pss_one (ps_raise rfl (takes_of rfl rfl rfl rfl) (pmk_oex T1.oex T1.iC T1.tI GE1 (hr.mono (by decide)) bE1 .nil pass0 rfl T1.mgC (pa_cons (pe_str) pa_nil)))) pss_nil) pss_never, ?_⟩
        refine ⟨_, rfl, v, false, rfl, h, fun H1 s1 => ⟨_, rfl, ?_⟩⟩
        refine iteT ⟨by show 1 ≤ 1000; decide, fun e he => ?_⟩
        exact ⟨e, _, rfl, T1.oex, T1.noF, upd_same, fun dx hdx ne => ⟨rfl, dx, _, upd_same, by rw [upd_ne ne]; exact upd_same, by rw [upd_ne ne] at hdx; exact hdx, raisedV (r _ (Kp.of s1)) Same.me he hdx ne⟩⟩
      · refine ⟨_, pss_cons (ps_if (PW.pt (pw_or (pt_not (pt_val (pe_call G1 (hr.mono (by decide)) rfl m1 k1 b1 .nil pass0 (pa_cons (pv 1) pa_nil)))) (pw_or1 (pt_not (pt_truth (pv 1) (fun _ => rfl)))))) (pss_one (ps_raise rfl (takes_of rfl rfl rfl rfl) (pmk_oex T1.oex T1.iC T1.tI GE1 (hr.mono (by decide)) bE1 .nil pass0 rfl T1.mgC (pa_cons (pe_str) pa_nil)))) pss_nil) pss_never, ?_⟩
        refine ⟨_, rfl, _, true, rfl, hs.kd, fun H1 s1 => ⟨_, rfl, iteF ?_⟩⟩
        refine ⟨_, rfl, false, (hs.same s1).elim (fun z => .inl ⟨_, SqL.of z, rfl⟩) (fun z => .inr (.inl ⟨_, SqT.of z, rfl⟩)), ?_⟩
        refine iteT ⟨by show 1 ≤ 1000; decide, fun e he => ?_⟩
        exact ⟨e, _, rfl, T1.oex, T1.noF, upd_same, fun dx hdx ne => ⟨rfl, dx, _, upd_same, by rw [upd_ne ne]; exact upd_same, by rw [upd_ne ne] at hdx; exact hdx, raisedV (r _ (Kp.of s1)) Same.me he hdx ne⟩⟩
      · have trT : ∀ H1, Same H H1 → Sq H1 b xs := fun H1 s1 => hs.same s1
        have ne1 : (!xs.isEmpty) = true := by
          cases xs with
          | nil => exact absurd rfl hne
          | cons => rfl
        rcases hs with hs | hs
        · refine ⟨_, pss_cons (ps_if (PW.pt (pw_or (pt_not (pt_val (pe_call G1 (hr.mono (by decide)) rfl m1 k1 b1 .nil pass0 (pa_cons (pv 1) pa_nil)))) (pw_or1 (pt_not (pt_truth (pv 1) (fun _ => rfl)))))) (pss_one (ps_raise rfl (takes_of rfl rfl rfl rfl) (pmk_oex T1.oex T1.iC T1.tI GE1 (hr.mono (by decide)) bE1 .nil pass0 rfl T1.mgC (pa_cons (pe_str) pa_nil)))) pss_nil) (pss_cons (ps_if (pt_not (pt_val (pe_callB (cr_all rfl) (by rfl) B.all boot_all (pa_cons ((pe_lc (own := [("picture", 2)]) (g := gName 2) (tt := tYes) rfl nd (pi_list (pv 1)) (blkOk_by (N := nAlI) (sc := defScope sAlI) (by decide +kernel)) (fun _ _ _ _ _ => (pg_name (i := 2) nd rfl (Or.inl rfl))) (fun _ _ _ _ _ => pts_nil) (fun _ _ _ _ _ => pe_callB (r := rIsi K) call_isi (by rfl) B.isinstance boot_isinstance (pa_cons (pv 2) (pa_cons (pe_glob (v := .ref C) rfl mC rfl) pa_nil))))) pa_nil)))) (pss_one (ps_raise rfl (takes_of rfl rfl rfl rfl) (pmk_oex T1.oex T1.iC T1.tI GE1 (hr.mono (by decide)) bE1 .nil pass0 rfl T1.mgC (pa_cons (pe_str) pa_nil)))) pss_nil) pss_never), ?_⟩
          refine ⟨_, rfl, _, true, rfl, .lst hs, fun H1 s1 => ⟨_, rfl, iteF ?_⟩⟩
          refine ⟨_, rfl, true, .inl ⟨_, SqL.of (s1 _ _ hs), ?_⟩, ?_⟩
          · exact ne1.symm
          refine iteF ?_
          refine ⟨_, rfl, b, rfl, ⟨_, SqL.of (s1 _ _ hs)⟩, fun D hD => ?_⟩
          refine lc_list (K := K) (a := b) (xs := xs) (fun i => At H1 D ((bs.take i).map V.bl)) ⟨same_new hD, upd_same⟩ (fun i H' _ p => SqL.of (p.1 _ _ (s1 _ _ hs))) (fun i x H' hx p => ?_) (fun H' p => ?_)
          · obtain ⟨bx, hbx, u, hk, ht⟩ := paired_get hj hx
            refine ⟨rfl, yes_of ?_⟩
            refine ⟨_, rfl, _, _, _, _, bx, rfl, .own _, ht H' (s1.trans p.1), hk, _, p.2, len100 (by rw [← Paired.length hj]; exact h100) _ _, p.step hD Same.me ?_⟩
            rw [take_more hbx, List.map_append]
            rfl
          · rw [Paired.length hj, List.take_length] at p
            refine ⟨D, bs, rfl, SqL.of p.2, _, rfl, ?_⟩
            rw [hb]
            refine iteT ⟨by show 1 ≤ 1000; decide, fun e he => ?_⟩
            exact ⟨e, _, rfl, T1.oex, T1.noF, upd_same, fun dx hdx ne => ⟨rfl, dx, _, upd_same, by rw [upd_ne ne]; exact upd_same, by rw [upd_ne ne] at hdx; exact hdx, raisedV (r _ (Kp.of (s1.trans p.1))) Same.me he hdx ne⟩⟩
        · refine ⟨_, pss_cons (ps_if (PW.pt (pw_or (pt_not (pt_val (pe_call G1 (hr.mono (by decide)) rfl m1 k1 b1 .nil pass0 (pa_cons (pv 1) pa_nil)))) (pw_or1 (pt_not (pt_truth (pv 1) (fun _ => rfl)))))) (pss_one (ps_raise rfl (takes_of rfl rfl rfl rfl) (pmk_oex T1.oex T1.iC T1.tI GE1 (hr.mono (by decide)) bE1 .nil pass0 rfl T1.mgC (pa_cons (pe_str) pa_nil)))) pss_nil) (pss_cons (ps_if (pt_not (pt_val (pe_callB (cr_all rfl) (by rfl) B.all boot_all (pa_cons ((pe_lc (own := [("picture", 2)]) (g := gName 2) (tt := tYes) rfl nd (pi_tup (pv 1)) (blkOk_by (N := nAlI) (sc := defScope sAlI) (by decide +kernel)) (fun _ _ _ _ _ => (pg_name (i := 2) nd rfl (Or.inl rfl))) (fun _ _ _ _ _ => pts_nil) (fun _ _ _ _ _ => pe_callB (r := rIsi K) call_isi (by rfl) B.isinstance boot_isinstance (pa_cons (pv 2) (pa_cons (pe_glob (v := .ref C) rfl mC rfl) pa_nil))))) pa_nil)))) (pss_one (ps_raise rfl (takes_of rfl rfl rfl rfl) (pmk_oex T1.oex T1.iC T1.tI GE1 (hr.mono (by decide)) bE1 .nil pass0 rfl T1.mgC (pa_cons (pe_str) pa_nil)))) pss_nil) pss_never), ?_⟩
          refine ⟨_, rfl, _, true, rfl, .tup hs, fun H1 s1 => ⟨_, rfl, iteF ?_⟩⟩
          refine ⟨_, rfl, true, .inr (.inl ⟨_, SqT.of (s1 _ _ hs), ?_⟩), ?_⟩
          · exact ne1.symm
          refine iteF ?_
          refine ⟨_, rfl, b, rfl, ⟨_, SqT.of (s1 _ _ hs)⟩, fun D hD => ?_⟩
          refine lc_tup (K := K) (a := b) (xs := xs) (fun i => At H1 D ((bs.take i).map V.bl)) ⟨same_new hD, upd_same⟩ (fun i H' _ p => SqT.of (p.1 _ _ (s1 _ _ hs))) (fun i x H' hx p => ?_) (fun H' p => ?_)
          · obtain ⟨bx, hbx, u, hk, ht⟩ := paired_get hj hx
            refine ⟨rfl, yes_of ?_⟩
            refine ⟨_, rfl, _, _, _, _, bx, rfl, .own _, ht H' (s1.trans p.1), hk, _, p.2, len100 (by rw [← Paired.length hj]; exact h100) _ _, p.step hD Same.me ?_⟩
            rw [take_more hbx, List.map_append]
            rfl
          · rw [Paired.length hj, List.take_length] at p
            refine ⟨D, bs, rfl, SqL.of p.2, _, rfl, ?_⟩
            rw [hb]
            refine iteT ⟨by show 1 ≤ 1000; decide, fun e he => ?_⟩
            exact ⟨e, _, rfl, T1.oex, T1.noF, upd_same, fun dx hdx ne => ⟨rfl, dx, _, upd_same, by rw [upd_ne ne]; exact upd_same, by rw [upd_ne ne] at hdx; exact hdx, raisedV (r _ (Kp.of (s1.trans p.1))) Same.me he hdx ne⟩⟩
    · obtain ⟨c0, cr, rfl⟩ : ∃ c0 cr, cs = c0 :: cr := by
        cases cs with
        | nil => exact absurd rfl hne
        | cons c0 cr => exact ⟨c0, cr, rfl⟩
      obtain ⟨p0, pr, rfl⟩ : ∃ p0 pr, pss = p0 :: pr := by
        cases pss with
        | nil => cases hp
        | cons p0 pr => exact ⟨p0, pr, rfl⟩
      have lcs := hp.len
      have hpc := hp
      have hc0 : PicF H C c0 p0 := by
        cases hp with
        | cons a _ => exact a
      have al : ((p0 :: pr).map (nq p0)).any id = !alike (p0 :: pr) := by
        rw [List.any_map, nq_any]
        rfl
      rcases hs with hs | hs
      · have nb : b ≠ a := L2.ne_of hs ha (by intro z; cases z)
        refine ⟨_, (pss_cons (ps_if (PW.pt (pw_or (pt_not (pt_val (pe_call G1 (hr.mono (by decide)) rfl m1 k1 b1 .nil pass0 (pa_cons (pv 1) pa_nil)))) (pw_or1 (pt_not (pt_truth (pv 1) (fun _ => rfl)))))) (pss_one (ps_raise rfl (takes_of rfl rfl rfl rfl) (pmk_oex T1.oex T1.iC T1.tI GE1 (hr.mono (by decide)) bE1 .nil pass0 rfl T1.mgC (pa_cons (pe_str) pa_nil)))) pss_nil) (pss_cons (ps_if (pt_not (pt_val (pe_callB (cr_all rfl) (by rfl) B.all boot_all (pa_cons ((pe_lc (own := [("picture", 2)]) (g := gName 2) (tt := tYes) rfl nd (pi_list (pv 1)) (blkOk_by (N := nAlI) (sc := defScope sAlI) (by decide +kernel)) (fun _ _ _ _ _ => (pg_name (i := 2) nd rfl (Or.inl rfl))) (fun _ _ _ _ _ => pts_nil) (fun _ _ _ _ _ => pe_callB (r := rIsi K) call_isi (by rfl) B.isinstance boot_isinstance (pa_cons (pv 2) (pa_cons (pe_glob (v := .ref C) rfl mC rfl) pa_nil))))) pa_nil)))) (pss_one (ps_raise rfl (takes_of rfl rfl rfl rfl) (pmk_oex T1.oex T1.iC T1.tI GE1 (hr.mono (by decide)) bE1 .nil pass0 rfl T1.mgC (pa_cons (pe_str) pa_nil)))) pss_nil) (pss_cons (ps_fld (pv 0) (pe_fld (pe_ix ix_seq (pv 1) (pe_int) (fun _ _ => rfl)) rfl) rfl) (pss_cons (ps_if (pt_val (pe_callB (cr_any rfl) (by rfl) hany boot_any (pa_cons ((pe_lc (own := [("picture", 2)]) (g := gName 2) (tt := tYes) rfl nd (pi_list (pv 1)) (blkOk_by (N := nAlI) (sc := defScope sAlI) (by decide +kernel)) (fun _ _ _ _ _ => (pg_name (i := 2) nd rfl (Or.inl rfl))) (fun _ _ _ _ _ => pts_nil) (fun _ _ _ _ _ => pe_cmpR op_ne (pe_fldK K (pv 2) rfl) (pe_fldK K (pv 0) rfl) (nomark _)))) pa_nil))) (pss_one (ps_raise rfl (takes_of rfl rfl rfl rfl) (pmk_oex T2.oex T2.iC T2.tI GE2 (hr.mono (by decide)) bE2 .nil pass0 rfl T2.mgC (pa_cons (pe_str) pa_nil)))) pss_nil) (pss_cons (ps_if (pt_cmpR op_gt (pe_callB call_len_seq (by rfl) B.len PySem.boot_len (pa_cons (pv 1) pa_nil)) (pe_glob (v := .int 8) rfl m8 ⟨_, rfl⟩) (nomark _)) (pss_one (ps_raise rfl (takes_of rfl rfl rfl rfl) (pmk_oex TT.oex TT.iC TT.tI GT (hr.mono (by decide)) bT .nil pass0 rfl TT.mgC (pa_cons (pe_str) (pa_cons (pe_glob (v := .int 8) rfl m8 ⟨_, rfl⟩) pa_nil))))) pss_nil) (pss_cons (ps_fld (pv 0) (pe_callTy (T := "tuple") (r := rTu K) call_tuK (by rfl) B.tuple (by decide +kernel) (pa_cons (pv 1) pa_nil)) rfl) (pss_one (ps_fld (pv 0) (pe_callTy (T := "tuple") (r := rTu K) call_tuK (by rfl) B.tuple (by decide +kernel) (pa_cons (pe_lc2 (own := [("picture", 2), ("row", 3)]) (vs1 := [3]) (g := gName 2) (tt := tYes) (g1 := gName 3) (tt1 := tYes) rfl nd (pi_tup (pe_fld (pv 0) rfl)) (blkOk_by (N := nAlI) (sc := defScope sAlI) (by decide +kernel)) (by decide) (fun _ _ _ _ _ => (pg_name (i := 2) nd rfl (Or.inl rfl))) (fun _ _ _ _ _ => pts_nil) (fun _ _ _ _ _ => pi_tupK K (pe_fldK K (pv 2) rfl)) (fun _ _ _ _ _ => (pg_name (i := 3) nd rfl (Or.inl rfl))) (fun _ _ _ _ _ => pts_nil) (fun _ _ _ _ _ => pv 3)) pa_nil)) rfl)))))))), ?_⟩
        refine ⟨_, rfl, _, true, rfl, .lst hs, fun H1 s1 => ⟨_, rfl, iteF ?_⟩⟩
        refine ⟨_, rfl, true, .inl ⟨_, SqL.of (s1 _ _ hs), rfl⟩, ?_⟩
        refine iteF ?_
        refine ⟨_, rfl, b, rfl, ⟨_, SqL.of (s1 _ _ hs)⟩, fun D hD => ?_⟩
        refine lc_list (K := K) (a := b) (xs := (c0 :: cr).map V.ref) (fun i => At H1 D (((p0 :: pr).take i).map fun _ => V.bl true)) ⟨same_new hD, upd_same⟩ (fun i H' _ p => SqL.of (p.1 _ _ (s1 _ _ hs))) (fun i x H' hx p => ?_) (fun H2 p => ?_)
        · obtain ⟨c, ps, _, rfl, hps, pf⟩ := hp.mem hx
          refine ⟨rfl, yes_of ?_⟩
          refine ⟨_, rfl, _, _, _, _, true, rfl, .own _, ((pf.same s1).same p.1).ty T, kit_self, _, p.2, len100 h100 _ _, p.step hD Same.me ?_⟩
          rw [take_more hps, List.map_append]
          rfl
        · rw [List.length_map, lcs, List.take_length] at p
          refine ⟨D, (p0 :: pr).map fun _ => true, rfl, SqL.of (by rw [p.2, List.map_map]; rfl), _, rfl, ?_⟩
          have e1 : ((p0 :: pr).map fun _ => true).all id = true := by
            rw [List.all_map]
            exact List.all_eq_true.mpr fun _ _ => rfl
          rw [e1]
          refine iteF ?_
          have s12 := s1.trans p.1
          have hb2 := s12 _ _ hs
          have ha2 := s12 _ _ ha
          obtain ⟨dx0, t0, u0, e0, _⟩ := hc0.same s12
          refine ⟨_, rfl, .inl (⟨b, _, 0, .ref c0, rfl, rfl, SqL.of hb2, atI_nat (j := 0) rfl, ?_⟩)⟩
          refine ⟨c0, C, dx0, _, .int p0.length, rfl, e0, cP, T.n2, rfl, _, rfl, a, CA, dx, [], rfl, ha2, cA, TA.n1, by show 0 < 1000; decide, ?_⟩
          have k3 : Kp a H (upd H2 a (.ins CA dx (putF "pins" (.int p0.length) []))) := (Kp.of s12).trans Kp.set
          have ha3 : upd H2 a (.ins CA dx (putF "pins" (.int p0.length) [])) a = some (.ins CA dx [("pins", .int p0.length)]) := upd_same
          generalize upd H2 a (.ins CA dx (putF "pins" (.int p0.length) [])) = H3 at k3 ha3 ⊢
          have hb3 := k3 _ _ nb hs
          refine ⟨_, rfl, b, rfl, ⟨_, SqL.of hb3⟩, fun D2 hD2 => ?_⟩
          refine lc_list (K := K) (a := b) (xs := (c0 :: cr).map V.ref) (fun i => At H3 D2 ((((p0 :: pr).map (nq p0)).take i).map V.bl)) ⟨same_new hD2, upd_same⟩ (fun i H' _ p => SqL.of (p.1 _ _ hb3)) (fun i x H' hx p => ?_) (fun H4 p => ?_)
          · obtain ⟨c, ps, _, rfl, hps, pf⟩ := hp.mem hx
            obtain ⟨dc, tc, uc, ec, _⟩ := (pf.kp ha k3).same p.1
            refine ⟨rfl, yes_of ?_⟩
            refine ⟨_, rfl, c, C, dc, _, .int ps.length, rfl, ec, cP, T.n2, rfl, _, rfl, a, CA, dx, _, .int p0.length, rfl, p.1 _ _ ha3, cA, TA.n1, rfl, rfl, _, p.2, ?_, p.step hD2 Same.me ?_⟩
            · rw [List.length_map]
              exact small1000 (Nat.le_trans (List.length_take_le' _ _) (by rw [List.length_map]; exact Nat.le_trans h100 (by decide)))
            · rw [take_more (show ((p0 :: pr).map (nq p0))[i]? = some (nq p0 ps) by rw [List.getElem?_map, hps]; rfl), List.map_append]
              rfl
          · have el : ((c0 :: cr).map V.ref).length = ((p0 :: pr).map (nq p0)).length := by rw [List.length_map, List.length_map, lcs]
            rw [el, List.take_length] at p
            refine ⟨D2, _, rfl, SqL.of p.2, _, rfl, ?_⟩
            rw [al]
            have k4 : Kp a H H4 := k3.trans (Kp.of p.1)
            have ha4 := p.1 _ _ ha3
            have hb4 := p.1 _ _ hb3
            cases ea : alike (p0 :: pr) with
            | false =>
              refine iteT ⟨by show 1 ≤ 1000; decide, fun e he => ?_⟩
              exact ⟨e, _, rfl, T2.oex, T2.noF, upd_same, fun dx hdx ne => ⟨rfl, dx, _, upd_same, by rw [upd_ne ne]; exact upd_same, by rw [upd_ne ne] at hdx; exact hdx, raisedV (r1 ea _ k4) Same.me he hdx ne⟩⟩
            | true =>
              refine iteF ⟨_, rfl, b, _, rfl, .inl (SqL.of hb4), _, _, rfl, rfl, _, rfl, ?_⟩
              rw [List.length_map, lcs]
              by_cases h8 : 8 < (p0 :: pr).length
              · rw [decide_eq_true (show (8 : Int) < (((p0 :: pr).length : Nat) : Int) by omega)]
                refine iteT ⟨by show 2 ≤ 1000; decide, fun e na => ?_⟩
                refine ⟨e, CT, _, _, rfl, TT.oex, TT.no1, TT.no2, upd_same, fun H5 k ⟨d, nd, ne, h1, h2⟩ => ⟨rfl, d, _, h1, h2, ?_, rzf_of (r2 ea h8 _ k4) na k nd ne⟩⟩
                rw [upd_ne ne] at nd
                exact nd
              rw [decide_eq_false (show ¬ (8 : Int) < (((p0 :: pr).length : Nat) : Int) by omega)]
              refine iteF ⟨_, rfl, b, _, rfl, .inl ⟨SqL.of hb4, fun t nt => ?_⟩⟩
              have st : Same H4 (upd H4 t (.tup ((c0 :: cr).map V.ref))) := same_new nt
              have ht5 : upd H4 t (.tup ((c0 :: cr).map V.ref)) t = some (.tup ((c0 :: cr).map V.ref)) := upd_same
              generalize upd H4 t (.tup ((c0 :: cr).map V.ref)) = H5 at st ht5 ⊢
              have ha5 := st _ _ ha4
              have k5 : Kp a H H5 := k4.trans (Kp.of st)
              refine ⟨_, rfl, a, CA, dx, _, rfl, ha5, cA, TA.n2, by show 1 < 1000; decide, ?_⟩
              have k6 : Kp a H (upd H5 a (.ins CA dx (putF "pictures" (.ref t) [("pins", .int p0.length)]))) := k5.trans Kp.set
              have ha6 : upd H5 a (.ins CA dx (putF "pictures" (.ref t) [("pins", .int p0.length)])) a = some (.ins CA dx [("pins", .int p0.length), ("pictures", .ref t)]) := upd_same
              have nt : t ≠ a := L2.ne_of ht5 ha5 (by intro z; cases z)
              have ht6 : upd H5 a (.ins CA dx (putF "pictures" (.ref t) [("pins", .int p0.length)])) t = some (.tup ((c0 :: cr).map V.ref)) := by rw [upd_ne nt]; exact ht5
              generalize upd H5 a (.ins CA dx (putF "pictures" (.ref t) [("pins", .int p0.length)])) = H6 at k6 ha6 ht6 ⊢
              have hp6 := hpc.kp ha k6
              refine ⟨_, rfl, a, CA, dx, _, .ref t, rfl, ha6, cA, TA.n2, rfl, t, rfl, ⟨_, SqT.of ht6⟩, fun D hD => ?_⟩
              refine wk_tup (K := K) (a := t) (xs := (c0 :: cr).map V.ref) (fun i H' => Same H6 H' ∧ ∃ rs : List Addr, H' D = some (.lst (rs.map V.ref)) ∧ Paired (RowT H') rs (rowsOf ((p0 :: pr).take i))) ⟨same_new hD, [], upd_same, .nil⟩ (fun i H' _ p => SqT.of (p.1 _ _ ht6)) (fun i x H' hx p => ?_) (fun H7 p => ?_)
              · obtain ⟨s7, rs, hD7, rt⟩ := p
                obtain ⟨c, ps, _, rfl, hps, pf⟩ := hp6.mem hx
                obtain ⟨dc, tc, uc, ec, _, r0, r1, hu, h0, h1⟩ := pf
                refine ⟨rfl, yes_of ?_⟩
                refine ⟨_, rfl, c, C, dc, _, .ref uc, rfl, s7 _ _ ec, cP, T.n3, rfl, uc, rfl, ⟨_, SqT.of (s7 _ _ hu)⟩, ?_⟩
                refine wk_tup (K := K) (a := uc) (xs := [V.ref r0, V.ref r1]) (fun j H' => Same H6 H' ∧ ∃ rs : List Addr, H' D = some (.lst (rs.map V.ref)) ∧ Paired (RowT H') rs (rowsOf ((p0 :: pr).take i) ++ [sk 0 ps, sk 1 ps].take j)) ⟨s7, rs, hD7, by rw [List.take_zero, List.append_nil]; exact rt⟩ (fun j H' _ p => SqT.of (p.1 _ _ hu)) (fun j y H' hy p => ?_) (fun H8 p => ?_)
                · obtain ⟨s8, rs, hD8, rt⟩ := p
                  have i100 : (rowsOf ((p0 :: pr).take i)).length ≤ 200 := by
                    rw [rowsOf_len]
                    have := List.length_take_le' i (p0 :: pr)
                    omega
                  have two : ∃ r xs, y = .ref r ∧ H6 r = some (.tup (xs.map V.int)) ∧ [sk 0 ps, sk 1 ps][j]? = some xs := by
                    match j, hy with
                    | 0, hy => exact ⟨r0, _, (Option.some.inj hy).symm, h0, rfl⟩
                    | 1, hy => exact ⟨r1, _, (Option.some.inj hy).symm, h1, rfl⟩
                  obtain ⟨r, xs, rfl, hr6, hxs⟩ := two
                  refine ⟨rfl, yes_of ?_⟩
                  refine ⟨_, rfl, _, hD8, ?_, ?_, rs ++ [r], by rw [upd_same, List.map_append]; rfl, ?_⟩
                  · rw [List.length_map, Paired.length rt, List.length_append]
                    exact small1000 (by
                      have := List.length_take_le' j [sk 0 ps, sk 1 ps]
                      have z : [sk 0 ps, sk 1 ps].length = 2 := rfl
                      omega)
                  · intro b o e
                    rw [upd_ne (ne_of_none e hD)]
                    exact s8 _ _ e
                  · rw [take_more hxs, ← List.append_assoc]
                    exact paired_snoc (paired_mono rt fun _ _ z => z.updl hD8) (RowT.updl (s8 _ _ hr6) hD8)
                · obtain ⟨s8, rs, hD8, rt⟩ := p
                  refine ⟨s8, rs, hD8, ?_⟩
                  rw [rowsOf_take hps]
                  exact rt
              · obtain ⟨s7, rs, hD7, rt⟩ := p
                rw [List.length_map, lcs, List.take_length] at rt
                refine ⟨D, _, rfl, .inl ⟨SqL.of hD7, fun u nu => ?_⟩⟩
                have su := same_new (o := .tup (rs.map V.ref)) nu
                have hu8 : upd H7 u (.tup (rs.map V.ref)) u = some (.tup (rs.map V.ref)) := upd_same
                generalize upd H7 u (.tup (rs.map V.ref)) = H8 at su hu8 ⊢
                have s68 := s7.trans su
                have ha8 := s68 _ _ ha6
                refine ⟨_, rfl, a, CA, dx, _, rfl, ha8, cA, TA.n3, by show 2 < 1000; decide, ?_⟩
                have k9 : Kp a H (upd H8 a (.ins CA dx (putF "rows" (.ref u) [("pins", .int p0.length), ("pictures", .ref t)]))) := (k6.trans (Kp.of s68)).trans Kp.set
                have nu8 : u ≠ a := L2.ne_of hu8 ha8 (by intro z; cases z)
                refine q ea (by omega) _ k9 ⟨dx, t, u, rs, upd_same, ?_, hpc.kp ha k9, ?_, paired_mono rt fun r xs z => ?_⟩
                · rw [upd_ne nt]
                  exact s68 _ _ ht6
                · rw [upd_ne nu8]
                  exact hu8
                · have z8 : H8 r = some (.tup (xs.map V.int)) := su _ _ z
                  show upd H8 a _ r = _
                  rw [upd_ne (L2.ne_of z8 ha8 (by intro z; cases z))]
                  exact z8
      · have nb : b ≠ a := L2.ne_of hs ha (by intro z; cases z)
        refine ⟨_, (pss_cons (ps_if (PW.pt (pw_or (pt_not (pt_val (pe_call G1 (hr.mono (by decide)) rfl m1 k1 b1 .nil pass0 (pa_cons (pv 1) pa_nil)))) (pw_or1 (pt_not (pt_truth (pv 1) (fun _ => rfl)))))) (pss_one (ps_raise rfl (takes_of rfl rfl rfl rfl) (pmk_oex T1.oex T1.iC T1.tI GE1 (hr.mono (by decide)) bE1 .nil pass0 rfl T1.mgC (pa_cons (pe_str) pa_nil)))) pss_nil) (pss_cons (ps_if (pt_not (pt_val (pe_callB (cr_all rfl) (by rfl) B.all boot_all (pa_cons ((pe_lc (own := [("picture", 2)]) (g := gName 2) (tt := tYes) rfl nd (pi_tup (pv 1)) (blkOk_by (N := nAlI) (sc := defScope sAlI) (by decide +kernel)) (fun _ _ _ _ _ => (pg_name (i := 2) nd rfl (Or.inl rfl))) (fun _ _ _ _ _ => pts_nil) (fun _ _ _ _ _ => pe_callB (r := rIsi K) call_isi (by rfl) B.isinstance boot_isinstance (pa_cons (pv 2) (pa_cons (pe_glob (v := .ref C) rfl mC rfl) pa_nil))))) pa_nil)))) (pss_one (ps_raise rfl (takes_of rfl rfl rfl rfl) (pmk_oex T1.oex T1.iC T1.tI GE1 (hr.mono (by decide)) bE1 .nil pass0 rfl T1.mgC (pa_cons (pe_str) pa_nil)))) pss_nil) (pss_cons (ps_fld (pv 0) (pe_fld (pe_ix ix_seq (pv 1) (pe_int) (fun _ _ => rfl)) rfl) rfl) (pss_cons (ps_if (pt_val (pe_callB (cr_any rfl) (by rfl) hany boot_any (pa_cons ((pe_lc (own := [("picture", 2)]) (g := gName 2) (tt := tYes) rfl nd (pi_tup (pv 1)) (blkOk_by (N := nAlI) (sc := defScope sAlI) (by decide +kernel)) (fun _ _ _ _ _ => (pg_name (i := 2) nd rfl (Or.inl rfl))) (fun _ _ _ _ _ => pts_nil) (fun _ _ _ _ _ => pe_cmpR op_ne (pe_fldK K (pv 2) rfl) (pe_fldK K (pv 0) rfl) (nomark _)))) pa_nil))) (pss_one (ps_raise rfl (takes_of rfl rfl rfl rfl) (pmk_oex T2.oex T2.iC T2.tI GE2 (hr.mono (by decide)) bE2 .nil pass0 rfl T2.mgC (pa_cons (pe_str) pa_nil)))) pss_nil) (pss_cons (ps_if (pt_cmpR op_gt (pe_callB call_len_seq (by rfl) B.len PySem.boot_len (pa_cons (pv 1) pa_nil)) (pe_glob (v := .int 8) rfl m8 ⟨_, rfl⟩) (nomark _)) (pss_one (ps_raise rfl (takes_of rfl rfl rfl rfl) (pmk_oex TT.oex TT.iC TT.tI GT (hr.mono (by decide)) bT .nil pass0 rfl TT.mgC (pa_cons (pe_str) (pa_cons (pe_glob (v := .int 8) rfl m8 ⟨_, rfl⟩) pa_nil))))) pss_nil) (pss_cons (ps_fld (pv 0) (pe_callTy (T := "tuple") (r := rTu K) call_tuK (by rfl) B.tuple (by decide +kernel) (pa_cons (pv 1) pa_nil)) rfl) (pss_one (ps_fld (pv 0) (pe_callTy (T := "tuple") (r := rTu K) call_tuK (by rfl) B.tuple (by decide +kernel) (pa_cons (pe_lc2 (own := [("picture", 2), ("row", 3)]) (vs1 := [3]) (g := gName 2) (tt := tYes) (g1 := gName 3) (tt1 := tYes) rfl nd (pi_tup (pe_fld (pv 0) rfl)) (blkOk_by (N := nAlI) (sc := defScope sAlI) (by decide +kernel)) (by decide) (fun _ _ _ _ _ => (pg_name (i := 2) nd rfl (Or.inl rfl))) (fun _ _ _ _ _ => pts_nil) (fun _ _ _ _ _ => pi_tupK K (pe_fldK K (pv 2) rfl)) (fun _ _ _ _ _ => (pg_name (i := 3) nd rfl (Or.inl rfl))) (fun _ _ _ _ _ => pts_nil) (fun _ _ _ _ _ => pv 3)) pa_nil)) rfl)))))))), ?_⟩
        refine ⟨_, rfl, _, true, rfl, .tup hs, fun H1 s1 => ⟨_, rfl, iteF ?_⟩⟩
        refine ⟨_, rfl, true, .inr (.inl ⟨_, SqT.of (s1 _ _ hs), rfl⟩), ?_⟩
        refine iteF ?_
        refine ⟨_, rfl, b, rfl, ⟨_, SqT.of (s1 _ _ hs)⟩, fun D hD => ?_⟩
        refine lc_tup (K := K) (a := b) (xs := (c0 :: cr).map V.ref) (fun i => At H1 D (((p0 :: pr).take i).map fun _ => V.bl true)) ⟨same_new hD, upd_same⟩ (fun i H' _ p => SqT.of (p.1 _ _ (s1 _ _ hs))) (fun i x H' hx p => ?_) (fun H2 p => ?_)
        · obtain ⟨c, ps, _, rfl, hps, pf⟩ := hp.mem hx
          refine ⟨rfl, yes_of ?_⟩
          refine ⟨_, rfl, _, _, _, _, true, rfl, .own _, ((pf.same s1).same p.1).ty T, kit_self, _, p.2, len100 h100 _ _, p.step hD Same.me ?_⟩
          rw [take_more hps, List.map_append]
          rfl
        · rw [List.length_map, lcs, List.take_length] at p
          refine ⟨D, (p0 :: pr).map fun _ => true, rfl, SqL.of (by rw [p.2, List.map_map]; rfl), _, rfl, ?_⟩
          have e1 : ((p0 :: pr).map fun _ => true).all id = true := by
            rw [List.all_map]
            exact List.all_eq_true.mpr fun _ _ => rfl
          rw [e1]
          refine iteF ?_
          have s12 := s1.trans p.1
          have hb2 := s12 _ _ hs
          have ha2 := s12 _ _ ha
          obtain ⟨dx0, t0, u0, e0, _⟩ := hc0.same s12
          refine ⟨_, rfl, .inr <| .inl (⟨b, _, 0, .ref c0, rfl, rfl, SqT.of hb2, atI_nat (j := 0) rfl, ?_⟩)⟩
          refine ⟨c0, C, dx0, _, .int p0.length, rfl, e0, cP, T.n2, rfl, _, rfl, a, CA, dx, [], rfl, ha2, cA, TA.n1, by show 0 < 1000; decide, ?_⟩
          have k3 : Kp a H (upd H2 a (.ins CA dx (putF "pins" (.int p0.length) []))) := (Kp.of s12).trans Kp.set
          have ha3 : upd H2 a (.ins CA dx (putF "pins" (.int p0.length) [])) a = some (.ins CA dx [("pins", .int p0.length)]) := upd_same
          generalize upd H2 a (.ins CA dx (putF "pins" (.int p0.length) [])) = H3 at k3 ha3 ⊢
          have hb3 := k3 _ _ nb hs
          refine ⟨_, rfl, b, rfl, ⟨_, SqT.of hb3⟩, fun D2 hD2 => ?_⟩
          refine lc_tup (K := K) (a := b) (xs := (c0 :: cr).map V.ref) (fun i => At H3 D2 ((((p0 :: pr).map (nq p0)).take i).map V.bl)) ⟨same_new hD2, upd_same⟩ (fun i H' _ p => SqT.of (p.1 _ _ hb3)) (fun i x H' hx p => ?_) (fun H4 p => ?_)
          · obtain ⟨c, ps, _, rfl, hps, pf⟩ := hp.mem hx
            obtain ⟨dc, tc, uc, ec, _⟩ := (pf.kp ha k3).same p.1
            refine ⟨rfl, yes_of ?_⟩
            refine ⟨_, rfl, c, C, dc, _, .int ps.length, rfl, ec, cP, T.n2, rfl, _, rfl, a, CA, dx, _, .int p0.length, rfl, p.1 _ _ ha3, cA, TA.n1, rfl, rfl, _, p.2, ?_, p.step hD2 Same.me ?_⟩
            · rw [List.length_map]
              exact small1000 (Nat.le_trans (List.length_take_le' _ _) (by rw [List.length_map]; exact Nat.le_trans h100 (by decide)))
            · rw [take_more (show ((p0 :: pr).map (nq p0))[i]? = some (nq p0 ps) by rw [List.getElem?_map, hps]; rfl), List.map_append]
              rfl
          · have el : ((c0 :: cr).map V.ref).length = ((p0 :: pr).map (nq p0)).length := by rw [List.length_map, List.length_map, lcs]
            rw [el, List.take_length] at p
            refine ⟨D2, _, rfl, SqL.of p.2, _, rfl, ?_⟩
            rw [al]
            have k4 : Kp a H H4 := k3.trans (Kp.of p.1)
            have ha4 := p.1 _ _ ha3
            have hb4 := p.1 _ _ hb3
            cases ea : alike (p0 :: pr) with
            | false =>
              refine iteT ⟨by show 1 ≤ 1000; decide, fun e he => ?_⟩
              exact ⟨e, _, rfl, T2.oex, T2.noF, upd_same, fun dx hdx ne => ⟨rfl, dx, _, upd_same, by rw [upd_ne ne]; exact upd_same, by rw [upd_ne ne] at hdx; exact hdx, raisedV (r1 ea _ k4) Same.me he hdx ne⟩⟩
            | true =>
              refine iteF ⟨_, rfl, b, _, rfl, .inr (SqT.of hb4), _, _, rfl, rfl, _, rfl, ?_⟩
              rw [List.length_map, lcs]
              by_cases h8 : 8 < (p0 :: pr).length
              · rw [decide_eq_true (show (8 : Int) < (((p0 :: pr).length : Nat) : Int) by omega)]
                refine iteT ⟨by show 2 ≤ 1000; decide, fun e na => ?_⟩
                refine ⟨e, CT, _, _, rfl, TT.oex, TT.no1, TT.no2, upd_same, fun H5 k ⟨d, nd, ne, h1, h2⟩ => ⟨rfl, d, _, h1, h2, ?_, rzf_of (r2 ea h8 _ k4) na k nd ne⟩⟩
                rw [upd_ne ne] at nd
                exact nd
              rw [decide_eq_false (show ¬ (8 : Int) < (((p0 :: pr).length : Nat) : Int) by omega)]
              refine iteF ⟨_, rfl, b, _, rfl, .inr ⟨SqT.of hb4, ?_⟩⟩
              have ht5 := hb4
              have st : Same H4 H4 := Same.me
              have ha5 := st _ _ ha4
              have k5 : Kp a H H4 := k4.trans (Kp.of st)
              refine ⟨_, rfl, a, CA, dx, _, rfl, ha5, cA, TA.n2, by show 1 < 1000; decide, ?_⟩
              have k6 : Kp a H (upd H4 a (.ins CA dx (putF "pictures" (.ref b) [("pins", .int p0.length)]))) := k5.trans Kp.set
              have ha6 : upd H4 a (.ins CA dx (putF "pictures" (.ref b) [("pins", .int p0.length)])) a = some (.ins CA dx [("pins", .int p0.length), ("pictures", .ref b)]) := upd_same
              have nt : b ≠ a := L2.ne_of ht5 ha5 (by intro z; cases z)
              have ht6 : upd H4 a (.ins CA dx (putF "pictures" (.ref b) [("pins", .int p0.length)])) b = some (.tup ((c0 :: cr).map V.ref)) := by rw [upd_ne nt]; exact ht5
              generalize upd H4 a (.ins CA dx (putF "pictures" (.ref b) [("pins", .int p0.length)])) = H6 at k6 ha6 ht6 ⊢
              have hp6 := hpc.kp ha k6
              refine ⟨_, rfl, a, CA, dx, _, .ref b, rfl, ha6, cA, TA.n2, rfl, b, rfl, ⟨_, SqT.of ht6⟩, fun D hD => ?_⟩
              refine wk_tup (K := K) (a := b) (xs := (c0 :: cr).map V.ref) (fun i H' => Same H6 H' ∧ ∃ rs : List Addr, H' D = some (.lst (rs.map V.ref)) ∧ Paired (RowT H') rs (rowsOf ((p0 :: pr).take i))) ⟨same_new hD, [], upd_same, .nil⟩ (fun i H' _ p => SqT.of (p.1 _ _ ht6)) (fun i x H' hx p => ?_) (fun H7 p => ?_)
              · obtain ⟨s7, rs, hD7, rt⟩ := p
                obtain ⟨c, ps, _, rfl, hps, pf⟩ := hp6.mem hx
                obtain ⟨dc, tc, uc, ec, _, r0, r1, hu, h0, h1⟩ := pf
                refine ⟨rfl, yes_of ?_⟩
                refine ⟨_, rfl, c, C, dc, _, .ref uc, rfl, s7 _ _ ec, cP, T.n3, rfl, uc, rfl, ⟨_, SqT.of (s7 _ _ hu)⟩, ?_⟩
                refine wk_tup (K := K) (a := uc) (xs := [V.ref r0, V.ref r1]) (fun j H' => Same H6 H' ∧ ∃ rs : List Addr, H' D = some (.lst (rs.map V.ref)) ∧ Paired (RowT H') rs (rowsOf ((p0 :: pr).take i) ++ [sk 0 ps, sk 1 ps].take j)) ⟨s7, rs, hD7, by rw [List.take_zero, List.append_nil]; exact rt⟩ (fun j H' _ p => SqT.of (p.1 _ _ hu)) (fun j y H' hy p => ?_) (fun H8 p => ?_)
                · obtain ⟨s8, rs, hD8, rt⟩ := p
                  have i100 : (rowsOf ((p0 :: pr).take i)).length ≤ 200 := by
                    rw [rowsOf_len]
                    have := List.length_take_le' i (p0 :: pr)
                    omega
                  have two : ∃ r xs, y = .ref r ∧ H6 r = some (.tup (xs.map V.int)) ∧ [sk 0 ps, sk 1 ps][j]? = some xs := by
                    match j, hy with
                    | 0, hy => exact ⟨r0, _, (Option.some.inj hy).symm, h0, rfl⟩
                    | 1, hy => exact ⟨r1, _, (Option.some.inj hy).symm, h1, rfl⟩
                  obtain ⟨r, xs, rfl, hr6, hxs⟩ := two
                  refine ⟨rfl, yes_of ?_⟩
                  refine ⟨_, rfl, _, hD8, ?_, ?_, rs ++ [r], by rw [upd_same, List.map_append]; rfl, ?_⟩
                  · rw [List.length_map, Paired.length rt, List.length_append]
                    exact small1000 (by
                      have := List.length_take_le' j [sk 0 ps, sk 1 ps]
                      have z : [sk 0 ps, sk 1 ps].length = 2 := rfl
                      omega)
                  · intro b o e
                    rw [upd_ne (ne_of_none e hD)]
                    exact s8 _ _ e
                  · rw [take_more hxs, ← List.append_assoc]
                    exact paired_snoc (paired_mono rt fun _ _ z => z.updl hD8) (RowT.updl (s8 _ _ hr6) hD8)
                · obtain ⟨s8, rs, hD8, rt⟩ := p
                  refine ⟨s8, rs, hD8, ?_⟩
                  rw [rowsOf_take hps]
                  exact rt
              · obtain ⟨s7, rs, hD7, rt⟩ := p
                rw [List.length_map, lcs, List.take_length] at rt
                refine ⟨D, _, rfl, .inl ⟨SqL.of hD7, fun u nu => ?_⟩⟩
                have su := same_new (o := .tup (rs.map V.ref)) nu
                have hu8 : upd H7 u (.tup (rs.map V.ref)) u = some (.tup (rs.map V.ref)) := upd_same
                generalize upd H7 u (.tup (rs.map V.ref)) = H8 at su hu8 ⊢
                have s68 := s7.trans su
                have ha8 := s68 _ _ ha6
                refine ⟨_, rfl, a, CA, dx, _, rfl, ha8, cA, TA.n3, by show 2 < 1000; decide, ?_⟩
                have k9 : Kp a H (upd H8 a (.ins CA dx (putF "rows" (.ref u) [("pins", .int p0.length), ("pictures", .ref b)]))) := (k6.trans (Kp.of s68)).trans Kp.set
                have nu8 : u ≠ a := L2.ne_of hu8 ha8 (by intro z; cases z)
                refine q ea (by omega) _ k9 ⟨dx, b, u, rs, upd_same, ?_, hpc.kp ha k9, ?_, paired_mono rt fun r xs z => ?_⟩
                · rw [upd_ne nt]
                  exact s68 _ _ ht6
                · rw [upd_ne nu8]
                  exact hu8
                · have z8 : H8 r = some (.tup (xs.map V.int)) := su _ _ z
                  show upd H8 a _ r = _
                  rw [upd_ne (L2.ne_of z8 ha8 (by intro z; cases z))]
                  exact z8
end
end K17

namespace K17
open PySem PySem.SeqAt
open AutoSeq1 (wpAny_loadPart')
open MeetsSeq MeetsSeq2 MeetsSeq3 SeqRoads2
section
variable {prog : Program} {w : World} {A : Around} {R : Result → Shared → Prop} {s : Shared}
theorem tuple_eqB (l b : Addr) (items items2 : Array Value) (n n2 : Nat) (dd dd2 : Option Addr) (sl sl2 : Array (Option Value)) (e : Nat → Bool) (I : Shared → Prop)
    (turn : ∀ i (h1 : i < items.size) (h2 : i < items2.size) s, I s → wpAny (model prog w) A.in1 (eqBool items[i] items2[i]) (fun r s' => r = e i ∧ I s') (fun e s' => R (.error e) s') s)
    (fin : ∀ s, I s → R (.ok (.ret (.bool ((List.range (min items.size items2.size)).all e && items.size == items2.size)))) s)
    (hl1 : s.heap.get? l = some { cls := .type "tuple", dict := dd, data := .seq items n, slots := sl }) (hb1 : s.heap.get? b = some { cls := .type "tuple", dict := dd2, data := .seq items2 n2, slots := sl2 }) (h0 : I s) :
    wpAny (model prog w) A.in1 (Builtin.«tuple.__eq__» ⟨[.ref l, .ref b], []⟩) (GQ.FinOf prog w A R) (fun e s' => R (.error e) s') s := by
  have f2 := AutoSeq1.sub_tuple_tuple
  have lz : (items.toList.zip items2.toList).length = min items.size items2.size := by rw [List.length_zip, Array.length_toList, Array.length_toList]
  have whole : (∀ j, j < min items.size items2.size → e j = true) → (List.range (min items.size items2.size)).all e = true := fun h => List.all_eq_true.mpr fun j hj => h j (List.mem_range.mp hj)
  have broke : ∀ k, k < min items.size items2.size → e k = false → (List.range (min items.size items2.size)).all e = false := fun k hk h => by
    cases q : (List.range (min items.size items2.size)).all e with
    | false => rfl
    | true =>
      rw [List.all_eq_true.mp q k (List.mem_range.mpr hk)] at h
      cases h
  wp_walk using wpAny_loadPart' hl1, wpAny_loadPart' hb1, wpAny_forIn_list _ (fun rest b s' => b.1 = none ∧ I s' ∧ ∃ k, rest = (items.toList.zip items2.toList).drop k ∧ ∀ j, j < k → e j = true) _
  case turn =>
    rintro ⟨u, v⟩ rest b s' ⟨nb, hI, k, hr, al⟩
    have at_k : (items.toList.zip items2.toList)[k]? = some (u, v) := by
      have z := congrArg (fun l => l[0]?) hr
      simpa [List.getElem?_drop] using z.symm
    obtain ⟨hk, ek⟩ := List.getElem?_eq_some_iff.mp at_k
    have hk' : k < min items.size items2.size := by omega
    have k1 : k < items.size := by omega
    have k2 : k < items2.size := by omega
    rw [List.getElem_zip, Prod.mk.injEq, Array.getElem_toList, Array.getElem_toList] at ek
    obtain ⟨rfl, rfl⟩ := ek
    refine wpAny_bind (wpAny_mono (turn k k1 k2 s' hI) (fun r s2 q2 => ?_) fun _ _ x => x)
    obtain ⟨rfl, q2⟩ := q2
    have hF := fin s2 q2
    cases ek : e k with
    | true =>
      wp_walk
      refine ⟨rfl, q2, k + 1, ?_, fun j hj => ?_⟩
      · have z := congrArg List.tail hr
        rw [List.tail_drop] at z
        exact z
      · rcases Nat.lt_succ_iff_lt_or_eq.mp hj with h | h
        · exact al j h
        · rw [h]
          exact ek
    | false =>
      rw [broke k hk' ek, Bool.false_and] at hF
      wp_walk
      exact hF
  case fin =>
    rintro ⟨b1, b2⟩ s' ⟨nb, hI, k, hr, al⟩
    have nb : b1 = none := nb
    subst nb
    have hk : min items.size items2.size ≤ k := by
      have z := congrArg List.length hr
      rw [List.length_drop, lz] at z
      have z0 : ([] : List (Value × Value)).length = 0 := rfl
      omega
    have hF := fin s' hI
    rw [whole fun j hj => al j (by omega), Bool.true_and] at hF
    wp_walk
    simpa [Builtin.Tuple.tupleCompareSizes] using hF
  case h =>
    exact ⟨rfl, h0, 0, rfl, fun j hj => absurd hj (Nat.not_lt_zero _)⟩
end
section
variable {prog : Program} {w : World} {A : Around} {E : Value → Shared → Prop} {s : Shared}
theorem rc_tupB {l b : Addr} {items items2 : Array Value} {Q : Value → Shared → Prop} (e : Nat → Bool) (hu : A.units < cLine) (I : Shared → Prop) (hl : s.heap.IsTuple l items) (hb : s.heap.IsTuple b items2)
    (turn : ∀ i (h1 : i < items.size) (h2 : i < items2.size) s, I s → wpAny (model prog w) A.in1 (eqBool items[i] items2[i]) (fun r s' => r = e i ∧ I s') E s)
    (fin : ∀ s, I s → Q (.bool ((List.range (min items.size items2.size)).all e && items.size == items2.size)) s) (h : I s) : wpAny (model prog w) A (richCompare .Eq (.ref l) (.ref b)) Q E s := by
  obtain ⟨⟨cls, dd, data, sl⟩, ho, hc, n, hd⟩ := id hl
  obtain ⟨⟨cls2, dd2, data2, sl2⟩, ho2, hc2, n2, hd2⟩ := id hb
  simp only at hc hd hc2 hd2
  subst hc hd hc2 hd2
  refine wpAny_richCompare_same_room (op := .Eq) ⟨_, ho, rfl⟩ ⟨_, ho2, rfl⟩ F.slot_tuple_eq (GQ.call_here F.slot_tuple_eq ⟨_, ho, rfl⟩ F.entry_tuple_eq (F.args_tuple_eq_2 _ _) ?_) hu
  exact tuple_eqB (R := wants (fun v s' => v ≠ .notImplemented ∧ Q v s') E) l b items items2 n n2 dd dd2 sl sl2 e I turn (fun s' q => ⟨(fun x => nomatch x), fin s' q⟩) ho ho2 h
end
end K17

namespace K17
open PySem PySem.Spec PyProof.Rows L2
def rEqI (K : PySem.W.Frag) (C : Addr) (sp : Sp) : R2 := fun x y H Q => ∃ (a dx : Addr) (fs : List (Str × V)) (tb : Value), x = .ref a ∧ H a = some (.ins C dx fs) ∧ TyX K H y tb ∧ PySem.W.notFirst K C tb = true ∧ sp [.ref a, y] H (fun r H' => ∃ b : Bool, r = .bl b ∧ Q (.bl b) H') (fun _ _ _ => False)
def rNeI (K : PySem.W.Frag) (C : Addr) (sp : Sp) : R2 := fun x y H Q => ∃ (a dx : Addr) (fs : List (Str × V)) (tb : Value), x = .ref a ∧ H a = some (.ins C dx fs) ∧ TyX K H y tb ∧ PySem.W.notFirst K C tb = true ∧ sp [.ref a, y] H (fun r H' => ∃ b : Bool, r = .bl b ∧ Q (.bl (!b)) H') (fun _ _ _ => False)
section
variable {X : Cx} {C fE : Addr} {fd : FuncData} {sp : Sp} {k : Nat}
theorem ins_inst {pins : List (Addr × Obj)} {σ : L2.St} {H : Hp} {s : Shared} {a dx : Addr} {fs : List (Str × V)} (I : Inv X pins σ H s) (h : H a = some (.ins C dx fs)) : ∃ (ob : Obj) (od : Obj), PySem.W.InstAt s.heap a ob C (some od) := by
  obtain ⟨mA, J, _⟩ := ins_get I.hok h
  obtain ⟨od, J, _⟩ := J.look
  exact ⟨_, od, J⟩
theorem ty_look {pins : List (Addr × Obj)} {σ : L2.St} {H : Hp} {s : Shared} {y : V} {u tb : Value} (I : Inv X pins σ H s) (ry : RelV y u) (t : TyX X.K H y tb) : PySem.W.Looks (model X.prog X.w) s.heap (typeOf u) tb := by
  obtain ⟨P, Z, p, _⟩ := kit_of I ry t
  exact Z.ty _ _ I.kIn p
theorem rc_own {A' : Around} {pins : List (Addr × Obj)} {σ : L2.St} {H : Hp} {s : Shared} {a dx : Addr} {fs : List (Str × V)} {y : V} {u tb : Value} {Q : VK} (G : FnOk X.prog X.w X.K X.mg X.base CX0 k fE fd ["self", "other"] sp) (hs : PySem.W.findIn X.K (.ref C) "__eq__" = some (some (.ref fE))) (hf : PySem.W.isFn X.K (.ref fE) = true) (hb : Binds X.K fd ["self", "other"] []) (hr : Room (k + 1) A') (hA : A'.frames = X.A.frames)
    (I : Inv X pins σ H s) (ry : RelV y u) (ha : H a = some (.ins C dx fs)) (ht : TyX X.K H y tb) (nf : PySem.W.notFirst X.K C tb = true) (h : sp [.ref a, y] H (fun r H' => ∃ b : Bool, r = .bl b ∧ Q (.bl b) H') (fun _ _ _ => False)) :
    wpAny (model X.prog X.w) A' (richCompare .Eq (.ref a) u) (fun r s' => ∃ b, r = .bool b ∧ ∃ H', Inv X pins σ H' s' ∧ Q (.bl b) H') X.xe s := by
  obtain ⟨ob, od, J⟩ := ins_inst I ha
  obtain ⟨m, hF⟩ := I.fr
  refine PySem.W.cmp_K (op := .Eq) (tb := tb) hr.units0 hF I.ok.mod.kin J (ty_look I ry ht) nf hs hf ?_
  refine wpAny_mono (run_at (vs := [.ref a, y]) (us := [.ref a, u]) G (hr.mono (Nat.le_succ k)) hA hb I (.cons rfl (.cons ry .nil)) h) (fun r s' hq => ?_) fun _ _ z => z
  obtain ⟨v, H', I', rv, b, ev, q'⟩ := hq
  subst ev
  obtain rfl : r = Value.bool b := rv
  exact ⟨b, rfl, H', I', q'⟩
theorem op_eqI (G : FnOk X.prog X.w X.K X.mg X.base CX0 k fE fd ["self", "other"] sp) (hs : PySem.W.findIn X.K (.ref C) "__eq__" = some (some (.ref fE))) (hf : PySem.W.isFn X.K (.ref fE) = true) (hb : Binds X.K fd ["self", "other"] []) (hr : Room (k + 1) X.A) : OpR X (compareOp .Eq) (rEqI X.K C sp) := by
  intro pins s σ H x y v u Q I rx ry h
  obtain ⟨a, dx, fs, tb, rfl, ha, ht, nf, h⟩ := h
  obtain rfl : v = Value.ref a := rx
  show wpAny _ _ (richCompare .Eq (.ref a) u) _ _ s
  refine wpAny_mono (rc_own G hs hf hb hr rfl I ry ha ht nf h) (fun r s' hq => ?_) fun _ _ z => z
  obtain ⟨b, rfl, H', I', q⟩ := hq
  exact ⟨.bl b, H', I', rfl, q⟩
theorem op_neI (G : FnOk X.prog X.w X.K X.mg X.base CX0 k fE fd ["self", "other"] sp) (hs : PySem.W.findIn X.K (.ref C) "__eq__" = some (some (.ref fE))) (hf : PySem.W.isFn X.K (.ref fE) = true) (hb : Binds X.K fd ["self", "other"] []) (hne : PySem.W.findIn X.K (.ref C) "__ne__" = some (some (.builtin "object.__ne__"))) (hm : PySem.W.mroIn X.K C (.type "object") = some true) (hr : Room (k + 2) X.A) : OpR X (compareOp .NotEq) (rNeI X.K C sp) := by
  intro pins s σ H x y v u Q I rx ry h
  obtain ⟨a, dx, fs, tb, rfl, ha, ht, nf, h⟩ := h
  obtain rfl : v = Value.ref a := rx
  obtain ⟨ob, od, J⟩ := ins_inst I ha
  have L := ty_look I ry ht
  have hu : X.A.units + 1 < cLine := by
    have := hr.un
    omega
  have isO : PySem.W.Looks (model X.prog X.w) s.heap (isInstance (.ref a) (.type "object")) true := J.type.andThen (PySem.W.looks_mroIn I.kIn hm)
  have neDone : ∀ {Q' : Fin → Shared → Prop}, (∀ s' b, (∃ H', Inv X pins σ H' s' ∧ Q (.bl (!b)) H') → Q' (.done (.ret (.bool (!b)))) s') → wpAny (model X.prog X.w) X.A.in1 (Builtin.«object.__ne__» ⟨[.ref a, u], []⟩) Q' X.xe s := fun {Q'} k' => by
    unfold Builtin.«object.__ne__»
    have go : wpAny (model X.prog X.w) X.A.in1 (callSpecialIfBound? (.ref a) (Str.ofString "__eq__") [u]) (fun r s' => ∃ b, r = some (.bool b) ∧ ∃ H', Inv X pins σ H' s' ∧ Q (.bl (!b)) H') X.xe s :=
      PySem.W.ifBound_K I.kIn J hs hf (wpAny_mono (run_at (A := X.A.in1) (vs := [.ref a, y]) (us := [.ref a, u]) G (hr.mono (Nat.le_succ (k + 1))).in1 rfl hb I (.cons rfl (.cons ry .nil)) h) (fun r s' hq => by
        obtain ⟨v, H', I', rv, b, ev, q'⟩ := hq
        subst ev
        obtain rfl : r = Value.bool b := rv
        exact ⟨b, rfl, H', I', q'⟩) fun _ _ z => z)
    repeat (first
      | with_reducible refine wpAny_cRoomFor (show X.A.in1.units < cLine from hu) ?_
      | (refine wpAny_bind (m := callSpecialIfBound? (.ref a) (Str.ofString "__eq__") [u]) (wpAny_mono go (fun r s' hr => by
          obtain ⟨b, rfl, hq⟩ := hr
          have z := k' s' b hq
          repeat (first | exact z | exact wpAny_pure z | exact wpAny_truthy_bool z | (refine wpAny_bind (m := truthy (.bool _)) (wpAny_truthy_bool ?_)) | wp_step)) fun _ _ e => e))
      | wp_step)
  have tryDone : wpAny (model X.prog X.w) X.A (tryCompare (.ref a) "__ne__" u) (fun r s' => ∃ b, r = some (.bool (!b)) ∧ ∃ H', Inv X pins σ H' s' ∧ Q (.bl (!b)) H') X.xe s := by
    simp only [tryCompare]
    obtain ⟨hp', g, d, t, os⟩ := s
    refine wpAny_bind (special_in I.kIn J hne F.cmp_object.ne (wpAny_call (codeAny_call_builtin F.cmp_object.ne.plain F.cmpEntry_ne (PySem.W.check_slot F.cmpKind_ne F.cmpSplit_ne isO (F.cmpArgs_ne _ _) (neDone (fun s' b hq => ?_))))))
    exact wpAny_pure ⟨b, rfl, hq⟩
  show wpAny _ _ (richCompare .NotEq (.ref a) u) _ _ s
  unfold richCompare
  simp only [oneThing_ref, cmpInfo_NotEq]
  refine wpAny_holding (wpAny_bind (wpAny_cRoomFor (Nat.lt_of_succ_lt hu) ?_))
  refine wpAny_bind (J.type.here (wpAny_bind (L.here ?_)))
  split
  · rename_i q'
    have e : PySem.W.subIn X.K tb (.ref C) = some false := by
      unfold PySem.W.notFirst at nf
      rcases Bool.or_eq_true_iff.mp nf with e | e
      · rw [beq_iff_eq.mp e] at q'; simp at q'
      · exact beq_iff_eq.mp e
    refine wpAny_bind ((PySem.W.looks_subIn I.kIn e).here ?_)
    simp only [Bool.false_eq_true, if_false]
    refine wpAny_bind (wpAny_mono tryDone (fun r s' z => ?_) fun _ _ e => e)
    obtain ⟨b, rfl, H', I', hq⟩ := z
    exact wpAny_pure ⟨.bl (!b), H', I', rfl, hq⟩
  · refine wpAny_bind (wpAny_pure ?_)
    simp only [Bool.false_eq_true, if_false]
    refine wpAny_bind (wpAny_mono tryDone (fun r s' z => ?_) fun _ _ e => e)
    obtain ⟨b, rfl, H', I', hq⟩ := z
    exact wpAny_pure ⟨.bl (!b), H', I', rfl, hq⟩
/-- two tuples of instances of C, each judged equal to its fellow or not -/
def rEqT (K : PySem.W.Frag) (C : Addr) (sp : Sp) : R2 := fun x y H Q => ∃ (t1 t2 : Addr) (cs ds : List Addr) (e : Nat → Bool), x = .ref t1 ∧ y = .ref t2 ∧ H t1 = some (.tup (cs.map V.ref)) ∧ H t2 = some (.tup (ds.map V.ref)) ∧
  (∀ (j : Nat) c d, cs[j]? = some c → ds[j]? = some d → (c = d → e j = true) ∧ ∃ dx fs tb, H c = some (.ins C dx fs) ∧ TyX K H (.ref d) tb ∧ PySem.W.notFirst K C tb = true ∧ sp [.ref c, .ref d] H (fun r H' => r = .bl (e j) ∧ H' = H) (fun _ _ _ => False)) ∧
  Q (.bl ((List.range (min cs.length ds.length)).all e && cs.length == ds.length)) H
theorem op_eqT (G : FnOk X.prog X.w X.K X.mg X.base CX0 k fE fd ["self", "other"] sp) (hmono : ∀ vs H Q1 Q2 E, (∀ v H', Q1 v H' → Q2 v H') → sp vs H Q1 E → sp vs H Q2 E) (hs : PySem.W.findIn X.K (.ref C) "__eq__" = some (some (.ref fE))) (hf : PySem.W.isFn X.K (.ref fE) = true) (hb : Binds X.K fd ["self", "other"] []) (hr : Room (k + 2) X.A) : OpR X (compareOp .Eq) (rEqT X.K C sp) := by
  intro pins s σ H x y v u Q I rx ry h
  obtain ⟨t1, t2, cs, ds, e, rfl, rfl, h1, h2, he, q⟩ := h
  obtain rfl : v = Value.ref t1 := rx
  obtain rfl : u = Value.ref t2 := ry
  obtain ⟨its, r, i1, _⟩ := I.tuple (SqT.of h1)
  obtain ⟨its2, r2, i2, _⟩ := I.tuple (SqT.of h2)
  have l1 : its.length = cs.length := by rw [← r.length, List.length_map]
  have l2 : its2.length = ds.length := by rw [← r2.length, List.length_map]
  show wpAny _ _ (richCompare .Eq (.ref t1) (.ref t2)) _ _ s
  refine rc_tupB e hr.units0 (fun s' => Inv X pins σ H s') i1 i2 (fun i g1 g2 s' I' => ?_) (fun s' I' => ?_) I
  · have g1' : i < its.length := by simpa using g1
    have g2' : i < its2.length := by simpa using g2
    have c1 : cs[i]? = some cs[i] := List.getElem?_eq_getElem (by omega)
    have c2 : ds[i]? = some ds[i] := List.getElem?_eq_getElem (by omega)
    obtain ⟨u1, hu1, ru1⟩ := r.get (show (cs.map V.ref)[i]? = some (.ref cs[i]) by rw [List.getElem?_map, c1]; rfl)
    obtain ⟨u2, hu2, ru2⟩ := r2.get (show (ds.map V.ref)[i]? = some (.ref ds[i]) by rw [List.getElem?_map, c2]; rfl)
    have e1 : its.toArray[i] = u1 := by
      rw [List.getElem?_eq_getElem g1'] at hu1
      simpa using Option.some.inj hu1
    have e2 : its2.toArray[i] = u2 := by
      rw [List.getElem?_eq_getElem g2'] at hu2
      simpa using Option.some.inj hu2
    rw [e1, e2]
    obtain rfl : u1 = Value.ref cs[i] := ru1
    obtain rfl : u2 = Value.ref ds[i] := ru2
    have same : cs[i] = ds[i] → e i = true → wpAny (model X.prog X.w) X.A.in1 (eqBool (.ref cs[i]) (.ref ds[i])) (fun r s' => r = e i ∧ Inv X pins σ H s') X.xe s' := fun h ht => by
      rw [← h, ht]
      exact SeqAt.EqAt.same (A := X.A.in1) (s := s') (.ref cs[i]) X.prog X.w X.xe _ ⟨rfl, I'⟩
    obtain ⟨eqd, dx, fs, tb, hc, ht, nf, hsp⟩ := he i _ _ c1 c2
    by_cases ec : cs[i] = ds[i]
    · exact same ec (eqd ec)
    · refine GQ.eqBool_refG ec (wpAny_mono (rc_own (A' := X.A.in1) (Q := fun r H' => r = .bl (e i) ∧ H' = H) G hs hf hb hr.in1 rfl I' (show L2.RelV (V.ref ds[i]) (Value.ref ds[i]) from rfl) hc ht nf (hmono _ _ _ _ _ (fun v H' z => ⟨e i, z.1, rfl, z.2⟩) hsp)) (fun r s2 q => ?_) fun _ _ z => z)
      obtain ⟨b, rfl, H', I2, eb, rfl⟩ := q
      exact ⟨b, rfl, V.bl.inj eb, I2⟩
  · rw [List.size_toArray, List.size_toArray, l1, l2]
    exact ⟨.bl _, H, I', rfl, q⟩
end
end K17

namespace K17
open PySem PySem.Spec PyProof.Rows L2
theorem map_ref_inj {as bs : List Addr} (h : as.map V.ref = bs.map V.ref) : as = bs := by
  induction as generalizing bs with
  | nil =>
    cases bs with
    | nil => rfl
    | cons _ _ => cases h
  | cons a as ih =>
    cases bs with
    | nil => cases h
    | cons b bs =>
      rw [List.map_cons, List.map_cons, List.cons.injEq] at h
      rw [V.ref.inj h.1, ih h.2]
theorem prs_inj {H : Hp} {ts : List Addr} {ps : List (Int × Int)} (h : Paired (Pr H) ts ps) : ∀ {qs : List (Int × Int)}, Paired (Pr H) ts qs → ps = qs := by
  induction h with
  | nil =>
    intro qs k
    cases k
    rfl
  | @cons t p ts ps a _ ih =>
    intro qs k
    cases k with
    | @cons _ q _ qs b k =>
      have a : H t = some (.tup [.int p.1, .int p.2]) := a
      have b : H t = some (.tup [.int q.1, .int q.2]) := b
      rw [a] at b
      have z := HO.tup.inj (Option.some.inj b)
      rw [List.cons.injEq, List.cons.injEq] at z
      have e : p = q := Prod.ext (V.int.inj z.1) (V.int.inj z.2.1)
      rw [e, ih k]
theorem pic_inj {H : Hp} {C a : Addr} {ps qs : List (Int × Int)} (h : PicF H C a ps) (k : PicF H C a qs) : ps = qs := by
  obtain ⟨dx, t, u, e, ⟨ts, et, pt⟩, _⟩ := h
  obtain ⟨dy, t', u', e', ⟨ts', et', pt'⟩, _⟩ := k
  rw [e] at e'
  have z := HO.ins.inj (Option.some.inj e')
  have z := z.2.2
  rw [List.cons.injEq, Prod.mk.injEq] at z
  have tt := V.ref.inj z.1.2
  subst tt
  rw [et] at et'
  have w := map_ref_inj (HO.tup.inj (Option.some.inj et'))
  subst w
  exact prs_inj pt pt'
theorem all_eq {α : Type} [DecidableEq α] (xs ys : List α) : ((List.range (min xs.length ys.length)).all (fun j => decide (xs[j]? = ys[j]?)) && xs.length == ys.length) = decide (xs = ys) := by
  rw [Bool.eq_iff_iff, Bool.and_eq_true, beq_iff_eq, decide_eq_true_iff, List.all_eq_true]
  constructor
  · rintro ⟨h, l⟩
    refine List.ext_getElem? fun i => ?_
    rcases Nat.lt_or_ge i xs.length with z | z
    · exact of_decide_eq_true (h i (List.mem_range.mpr (by omega)))
    · rw [List.getElem?_eq_none z, List.getElem?_eq_none (by omega)]
  · rintro rfl
    exact ⟨fun j _ => decide_eq_true rfl, rfl⟩
/-- whether an album equals it -/
def EqA (K : PySem.W.Frag) (CA C : Addr) (H : Hp) (pss : PSS) (y : V) (b : Bool) : Prop :=
  (b = false ∧ ∃ u, PySem.W.kitOne K u (.ref CA) = some false ∧ PySem.W.notFirst K CA u = true ∧ TyX K H y u) ∨ (∃ q ds qss, y = .ref q ∧ AlbF H CA C q ds qss ∧ b = decide (pss = qss))
theorem AlbF.ty {K : PySem.W.Frag} {H : Hp} {C CA a : Addr} {cs : List Addr} {pss : PSS} (h : AlbF H CA C a cs pss) (T : AlbT K CA) : TyX K H (.ref a) (.ref CA) := let ⟨_, _, _, _, e, _⟩ := h; .base (.ins e T.pc.cls T.pc.ha T.pc.hn T.pc.ht T.pc.hm)
theorem AlbF.isA {K : PySem.W.Frag} {H : Hp} {C CA a : Addr} {cs : List Addr} {pss : PSS} (h : AlbF H CA C a cs pss) (T : AlbT K CA) : IsA K CA H (.ref a) true := ⟨_, kit_self, fun _ s => (h.same s).ty T⟩
theorem eqP_mono {C : Addr} : ∀ vs H (Q1 Q2 : VK) E, (∀ v H', Q1 v H' → Q2 v H') → spEqP C vs H Q1 E → spEqP C vs H Q2 E := fun vs H Q1 Q2 E i h => by
  obtain ⟨a, y, ps, b, e, p, q, h⟩ := h
  exact ⟨a, y, ps, b, e, p, q, i _ _ h⟩
section
variable {P : Program} {w : World} {K : PySem.W.Frag} {mg : Str → Option Value} {base : Heap} {C CA CB : Addr}
def spEqA (K : PySem.W.Frag) (CA C : Addr) : Sp := fun vs H Q _ => ∃ (a : Addr) (y : V) (cs : List Addr) (pss : PSS) (b : Bool), vs = [.ref a, y] ∧ AlbF H CA C a cs pss ∧ EqA K CA C H pss y b ∧ Q (.bl b) H
abbrev sEqA : Stmt := inClass (top 43) 2
theorem scEqA : FnScope ["self", "other"] ["self", "other"] (defScope sEqA) := ⟨rfl, rfl, rfl, by decide +kernel, rfl, by decide +kernel, by decide +kernel⟩
theorem ok_eqA {f : Addr} {fd : FuncData} (F : Fun K "__eq__" "Album.__eq__" sEqA f fd) (B : Bn mg) (TA : AlbT K CA) (T : Pc P w K mg base C CB) (mA : mg "Album" = some (.ref CA)) : FnOk P w K mg base CX0 4 f fd ["self", "other"] (spEqA K CA C) := by
  obtain ⟨fE, fdE, GE, hsE, hfE, bE⟩ := T.eq
  have cA := TA.pc.cls
  refine F.ok scEqA (fun vs H Q E h => ?_) (fun cdv A outer s H vs Q E hr h => ?_)
  · obtain ⟨a, y, cs, pss, b, rfl, _⟩ := h
    rfl
  · obtain ⟨a, y, cs, pss, b, rfl, hp, he, q⟩ := h
    refine ⟨_, pss_one (ps_ret (pe_and (pe_callB (r := rIsi K) call_isi (by rfl) B.isinstance boot_isinstance (pa_cons (pv 1) (pa_cons (pe_glob (v := .ref CA) rfl mA rfl) pa_nil))) (pe_one (pe_cmpR (op_eqT GE eqP_mono hsE hfE bE (hr.mono (by decide))) (pe_fld (pv 0) rfl) (pe_fld (pv 1) rfl) (nomark _))))), ?_⟩
    rcases he with ⟨rfl, u, hk, _, ht⟩ | ⟨c, ds, qss, rfl, hq, rfl⟩
    · exact ⟨_, rfl, _, _, _, _, false, rfl, .own _, ht, hk, _, rfl, iteF q⟩
    · refine ⟨_, rfl, _, _, _, _, true, rfl, .own _, hq.ty TA, kit_self, _, rfl, iteT ?_⟩
      obtain ⟨dx, t, u, rs, ha, ht, pa, _⟩ := hp
      obtain ⟨dx2, t2, u2, rs2, hc, ht2, pb, _⟩ := hq
      refine ⟨_, rfl, a, CA, dx, _, .ref t, rfl, ha, cA, TA.n2, rfl, _, rfl, c, CA, dx2, _, .ref t2, rfl, hc, cA, TA.n2, rfl, t, t2, cs, ds, (fun j => decide (pss[j]? = qss[j]?)), rfl, rfl, ht, ht2, fun j c d ec ed => ?_, ?_⟩
      · obtain ⟨ps, eps, pf⟩ := paired_get pa ec
        obtain ⟨qs, eqs, qf⟩ := paired_get pb ed
        have e : decide (pss[j]? = qss[j]?) = decide (ps = qs) := by
          rw [eps, eqs, Bool.eq_iff_iff, decide_eq_true_iff, decide_eq_true_iff, Option.some.injEq]
        refine ⟨fun h => ?_, ?_⟩
        · subst h
          exact e.trans (decide_eq_true (pic_inj pf qf))
        · obtain ⟨dp, tp, up, ep, _⟩ := id pf
          exact ⟨dp, _, _, ep, qf.ty T.t, by simp [PySem.W.notFirst], c, .ref d, ps, decide (ps = qs), rfl, pf, .inr ⟨d, qs, rfl, qf, rfl⟩, congrArg V.bl e.symm, rfl⟩
      · rw [pa.length, pb.length, all_eq]
        exact q
def albT (pss : PSS) : Str := Txt.join (Str.ofString " ; ") (pss.map picT)
def spStrA (CA C : Addr) : Sp := fun vs H Q _ => ∃ (a : Addr) (cs : List Addr) (pss : PSS), vs = [.ref a] ∧ AlbF H CA C a cs pss ∧ (∀ ps ∈ pss, OkP ps) ∧ pss.length ≤ 8 ∧ ∀ H', Same H H' → Q (.str (albT pss)) H'
abbrev sStrA : Stmt := inClass (top 43) 3
abbrev nStrA : List Str := ["self", "picture"]
theorem scStrA : FnScope nStrA ["self"] (defScope sStrA) := ⟨rfl, rfl, rfl, by decide +kernel, rfl, by decide +kernel, by decide +kernel⟩
theorem ok_strA {f : Addr} {fd : FuncData} (F : Fun K "__str__" "Album.__str__" sStrA f fd) (B : Bn mg) (TA : AlbT K CA) (T : Pc P w K mg base C CB) : FnOk P w K mg base CX0 5 f fd ["self"] (spStrA CA C) := by
  obtain ⟨fS, fdS, GS, hsS, hfS, bS⟩ := T.st
  have nd := scStrA.nd
  refine F.ok scStrA (fun vs H Q E h => ?_) (fun cdv A outer s H vs Q E hr h => ?_)
  · obtain ⟨a, cs, pss, rfl, _⟩ := h
    rfl
  · obtain ⟨a, cs, pss, rfl, hp, ok, h8, q⟩ := h
    refine ⟨_, pss_one (ps_ret (pe_joinN pe_str (pe_lc (own := [("picture", 1)]) (g := gName 1) (tt := tYes) rfl nd (pi_tup (pe_fld (pv 0) rfl)) (blkOk_by (N := nStrA) (sc := defScope sStrA) (by decide +kernel)) (fun _ _ _ _ _ => (pg_name (i := 1) nd rfl (Or.inl rfl))) (fun _ _ _ _ _ => pts_nil) (fun _ _ _ _ _ => pe_callTy (T := "str") (call_strP GS hsS hfS bS (hr.mono (by decide))) (by rfl) B.str (by decide +kernel) (pa_cons (pv 1) pa_nil))))), ?_⟩
    obtain ⟨dx, t, u, rs, ha, ht, pa, _⟩ := hp
    refine ⟨⟨_, rfl⟩, ?_⟩
    refine ⟨_, rfl, a, CA, dx, _, .ref t, rfl, ha, TA.pc.cls, TA.n2, rfl, t, rfl, ⟨_, SqT.of ht⟩, fun D hD => ?_⟩
    refine lc_tup (K := K) (a := t) (xs := cs.map V.ref) (fun i H' => Same H H' ∧ ∃ ys : List Str, ys = (pss.take i).map picT ∧ ys.length = i ∧ H' D = some (.lst (ys.map V.str)) ∧ ∀ y ∈ ys, y.length ≤ 40000) ⟨same_new hD, [], rfl, rfl, upd_same, fun y h => absurd h List.not_mem_nil⟩ (fun i H' _ p => SqT.of (p.1 _ _ ht)) (fun i x H' hx p => ?_) (fun H' p => ?_)
    · obtain ⟨s1, ys, ey, ly, hd, hb⟩ := p
      obtain ⟨c, ps, ec, rfl, eps, pf⟩ := pa.mem hx
      have hi : i < pss.length := (List.getElem?_eq_some_iff.mp eps).1
      refine ⟨rfl, yes_of ?_⟩
      refine ⟨_, rfl, c, ps, rfl, pf.same s1, ok ps (List.mem_of_getElem? eps), fun H2 s2 hz => ⟨_, s2 _ _ hd, by rw [List.length_map]; exact small1000 (by omega), fun b o e => ?_, ys ++ [picT ps], by rw [take_more eps, List.map_append, ey]; rfl, by rw [List.length_append, ly]; rfl, by rw [upd_same, List.map_append]; rfl, fun y hy => ?_⟩⟩
      · rw [upd_ne (ne_of_none e hD)]
        exact s2 _ _ (s1 _ _ e)
      · rcases List.mem_append.mp hy with h | h
        · exact hb y h
        · rw [List.mem_singleton.mp h]
          exact hz
    · obtain ⟨s1, ys, ey, ly, hd, hb⟩ := p
      have h1 := sum_le 40000 ys hb
      rw [List.length_map, pa.len] at ly ey
      rw [List.take_length] at ey
      have et : Txt.join (Str.ofString " ; ") ys = albT pss := by
        rw [ey]
        rfl
      rw [← et] at q
      have e3 : (Str.ofString " ; ").length = 3 := by decide +kernel
      refine ⟨_, D, ys, rfl, rfl, .inl (SqL.of hd), ?_, q _ s1⟩
      rw [e3]
      omega
end
end K17

namespace K17
open PySem PySem.Spec PyProof.Rows L2
/-- wishes about what is raised that outlast what is made -/
def Mon (R : Hp → XK → Prop) : Prop := ∀ H H1 E, Same H H1 → R H E → R H1 E
theorem mon_V {C : Addr} {f : Str} {v : V} : Mon (RzV C f v) := fun _ _ _ s h => h.same s
theorem mon_F {C : Addr} {fs : List (Str × V)} : Mon (RzF C fs) := fun _ _ _ s h => h.same s
section
variable {K : PySem.W.Frag} {C CA CB CF CT : Addr} {v : V} {H H' : Hp} {OK OK' : List Addr → PSS → Prop} {RZ RZ' : (Hp → XK → Prop) → Prop}
theorem AlbJ.imp (h : AlbJ K C CA CB CF CT v H OK RZ) (s : Same H H') (i : ∀ cs pss, OK cs pss → OK' cs pss) (r : ∀ R, Mon R → RZ R → RZ' R) : AlbJ K C CA CB CF CT v H' OK' RZ' := by
  rcases h with ⟨h, z⟩ | ⟨b, cs, pss, e, hs, hp, hne, h100, z1, z2, q⟩
  · refine .inl ⟨?_, r _ mon_V z⟩
    rcases h with h | ⟨b, e, hs⟩ | ⟨b, xs, bs, e, hs, hne, h100, hj, hb⟩
    · exact .inl (h.same s)
    · exact .inr (.inl ⟨b, e, hs.same s⟩)
    · exact .inr (.inr ⟨b, xs, bs, e, hs.same s, hne, h100, isA_all hj s, hb⟩)
  · exact .inr ⟨b, cs, pss, e, hs.same s, hp.same s, hne, h100, fun a => r _ mon_V (z1 a), fun a l => r _ mon_F (z2 a l), fun a l => i _ _ (q a l)⟩
end
/-- a new album of these pictures -/
def NewA (CA C : Addr) (H : Hp) (Q : VK) (cs : List Addr) (pss : PSS) : Prop := ∀ a H', Same H H' → H a = none → AlbF H' CA C a cs pss → Q (.ref a) H'
theorem NewA.same {CA C : Addr} {H H1 : Hp} {Q : VK} {cs : List Addr} {pss : PSS} (h : NewA CA C H Q cs pss) (s : Same H H1) : NewA CA C H1 Q cs pss := fun a H' s' n f => h a H' (s.trans s') (s.free n) f
/-- how an album is made of a value, or refused -/
def MkA (K : PySem.W.Frag) (C CA CB CF CT : Addr) (v : V) (H : Hp) (Q : VK) (E : XK) : Prop := AlbJ K C CA CB CF CT v H (NewA CA C H Q) (fun R => R H E)
/-- of pictures: what comes of it -/
def ARes (C CA CF CT : Addr) (cs : List Addr) (pss : PSS) (H : Hp) (Q : VK) (E : XK) : Prop := (alike pss = false → RzV CF "part" (.str "pins") H E) ∧ (alike pss = true → 8 < pss.length → RzF CT fullA H E) ∧ (alike pss = true → pss.length ≤ 8 → NewA CA C H Q cs pss)
theorem ARes.same {C CA CF CT : Addr} {cs : List Addr} {pss : PSS} {H H1 : Hp} {Q : VK} {E : XK} (h : ARes C CA CF CT cs pss H Q E) (s : Same H H1) : ARes C CA CF CT cs pss H1 Q E := ⟨fun a => (h.1 a).same s, fun a l => (h.2.1 a l).same s, fun a l => (h.2.2 a l).same s⟩
theorem ARes.mk {K : PySem.W.Frag} {C CA CB CF CT b : Addr} {cs : List Addr} {pss : PSS} {H : Hp} {Q : VK} {E : XK} (h : ARes C CA CF CT cs pss H Q E) (hs : Sq H b (cs.map V.ref)) (hp : Pics H C cs pss) (hne : cs ≠ []) (h100 : pss.length ≤ 100) : MkA K C CA CB CF CT (.ref b) H Q E := .inr ⟨b, cs, pss, rfl, hs, hp, hne, h100, h.1, h.2.1, h.2.2⟩
theorem mkA_in {K : PySem.W.Frag} {C CA CB CF CT : Addr} {v : V} {H : Hp} {Q : VK} {E : XK} (m : MkA K C CA CB CF CT v H Q E) : ∀ x dx, H x = none → H dx = none → dx ≠ x → spAI K C CA CB CF CT [.ref x, v] (upd (upd H dx (.own x)) x (.ins CA dx [])) (fun r H2 => r = .non ∧ Q (.ref x) H2) E := fun x dx hx hdx ne => by
  have s0 : Same H (upd (upd H dx (.own x)) x (.ins CA dx [])) := fun b o e => by
    rw [upd_ne (ne_of_none e hx), upd_ne (ne_of_none e hdx)]
    exact e
  have sk : ∀ {H1 : Hp}, Kp x (upd (upd H dx (.own x)) x (.ins CA dx [])) H1 → Same H H1 := fun k b o e => k b o (ne_of_none e hx) (s0 _ _ e)
  exact ⟨x, dx, v, rfl, upd_same, m.imp s0 (fun cs pss n H' k f => ⟨rfl, n x H' (sk k) hx f⟩) fun R mo z H1 k => mo _ _ _ (sk k) z⟩
/-- the class of albums, as its callers see it -/
structure Ac (P : Program) (w : World) (K : PySem.W.Frag) (mg : Str → Option Value) (base : Heap) (C CA CB CF CT : Addr) : Prop where
  mgC : mg "Album" = some (.ref CA)
  t : AlbT K CA
  n : PicN K CA
  np : PySem.W.kitOne K (.ref C) (.ref CA) = some false ∧ PySem.W.notFirst K CA (.ref C) = true
  pn : PySem.W.kitOne K (.ref CA) (.ref C) = some false
  ini : ∃ (fI : Addr) (fd : FuncData), Mk K CA fI ∧ FnOk P w K mg base (L2.CX P w) 4 fI fd ["self", "pictures"] (spAI K C CA CB CF CT) ∧ Binds K fd ["self", "pictures"] [] ∧ KBn K fd ["self", "pictures"] 1 ["pictures"] (fun us ws => us ++ ws) (fun vs zs => vs ++ zs)
  eq : ∃ (fE : Addr) (fd : FuncData), FnOk P w K mg base CX0 4 fE fd ["self", "other"] (spEqA K CA C) ∧ PySem.W.findIn K (.ref CA) "__eq__" = some (some (.ref fE)) ∧ PySem.W.isFn K (.ref fE) = true ∧ Binds K fd ["self", "other"] []
  st : ∃ (fS : Addr) (fd : FuncData), FnOk P w K mg base CX0 5 fS fd ["self"] (spStrA CA C) ∧ PySem.W.findIn K (.ref CA) "__str__" = some (some (.ref fS)) ∧ PySem.W.isFn K (.ref fS) = true ∧ Binds K fd ["self"] []
section
variable {X : Cx} {C CA CB CF CT : Addr} {x : Str} {e : Expr} {es : List Expr} {kws : List Keyword} {t tk : TA} {p pos : Pos}
/-- Album(e) -/
def tMkA (K : PySem.W.Frag) (C CA CB CF CT : Addr) (E : XK) (t : TA) : TE := fun σ H Q => t σ H fun vs H1 => ∃ v, vs = [v] ∧ MkA K C CA CB CF CT v H1 Q E
theorem pe_mkA {E : XK} (K : PySem.W.Frag) (mA : X.mg "Album" = some (.ref CA)) (ini : ∃ (fI : Addr) (fd : FuncData), Mk X.K CA fI ∧ FnOk X.prog X.w X.K X.mg X.base (L2.CX X.prog X.w) 4 fI fd ["self", "pictures"] (spAI X.K C CA CB CF CT) ∧ Binds X.K fd ["self", "pictures"] []) (hr : Room 5 X.A) (hx : Passes (L2.CX X.prog X.w) X E) (hg : Gl X "Album") (ha : PA X (e :: es) t) (h : X.K = K := by rfl) (he : starEach (e :: es) X.env = (false, eval e X.env) :: starEach es X.env := by rfl) (hpl : (backTo pos (starEach es X.env)).any (·.1) = false := by rfl) :
    PE X (.Call (.Name "Album" p) (e :: es) [] pos) (tMkA K C CA CB CF CT E t) := by
  subst h
  obtain ⟨fI, fd, M, G, b⟩ := ini
  refine ⟨fun pins s σ H Q I h => ?_⟩
  refine wpAny_Call_Name_kw (ld_glob I hg mA ?_ (by decide))
  refine PySem.W.callWith_K (h₀ := X.base) I.ok.mod.kin M.kp (thn (ha.run pos pins s σ H _ I h) fun us s1 ⟨vs, H1, I1, r, v, ev, m⟩ => ⟨I1.kIn, ?_⟩) he hpl
  subst ev
  exact run_make (dvs := []) (ds := []) M G hr b .nil hx I1 r (mkA_in m)
/-- Album(pictures=e) -/
theorem pe_mkAK {E : XK} (K : PySem.W.Frag) (T : Ac X.prog X.w X.K X.mg X.base C CA CB CF CT) (hr : Room 5 X.A) (hx : Passes (L2.CX X.prog X.w) X E) (hg : Gl X "Album") (hkw : PK X kws tk) (h : X.K = K := by rfl)
    (hall : (backToKw pos (keywordEach kws X.env)).all (·.1.isSome) = true := by rfl) (hks : (backToKw pos (keywordEach kws X.env)).filterMap (·.1) = (["pictures"] : List Str) := by rfl)
    (hpl : ((backTo pos (starEach [] X.env)).any (·.1) || (backToKw pos (keywordEach kws X.env)).any (·.1.isNone)) = false := by rfl) :
    PE X (.Call (.Name "Album" p) [] kws pos) (tMkA K C CA CB CF CT E tk) := by
  subst h
  obtain ⟨fI, fd, M, G, _, b⟩ := T.ini
  refine ⟨fun pins s σ H Q I h => ?_⟩
  refine wpAny_Call_Name_kw (ld_glob I hg T.mgC ?_ (by decide))
  refine PySem.W.callWith_KW0 (h₀ := X.base) I.ok.mod.kin M.kp hall ?_ hpl
  refine thn (hkw.run pos pins s σ H _ I h) fun ws s2 ⟨zs, H2, I2, rz, v, ev, m⟩ => ⟨I2.kIn, ?_⟩
  subst ev
  rw [hks]
  exact run_makeN (n := 0) (us := []) (vs := []) M G hr b hx I2 .nil rz rfl rfl (mkA_in m)
end
end K17

namespace K17
open PySem PySem.Spec PyProof.Rows L2
/-- so many pins in each -/
def Eqn (k : Nat) (pss : PSS) : Prop := ∀ ps ∈ pss, ps.length = k
theorem Eqn.alike {k : Nat} {pss : PSS} (h : Eqn k pss) : alike pss = true := by
  cases pss with
  | nil => rfl
  | cons p ps =>
    refine List.all_eq_true.mpr fun q hq => decide_eq_true ?_
    show q.length = p.length
    rw [h q hq, h p List.mem_cons_self]
def rStrI (C : Addr) (sp : Sp) : List V → Hp → VK → Prop := fun xs H Q => ∃ (a dx : Addr) (fs : List (Str × V)), xs = [.ref a] ∧ H a = some (.ins C dx fs) ∧ sp [.ref a] H (fun r H' => ∃ z : Str, r = .str z ∧ Q (.str z) H') (fun _ _ _ => False)
section
variable {X : Cx} {C fS : Addr} {fd : FuncData} {sp : Sp} {k : Nat}
theorem call_strI (G : FnOk X.prog X.w X.K X.mg X.base CX0 k fS fd ["self"] sp) (hs : PySem.W.findIn X.K (.ref C) "__str__" = some (some (.ref fS))) (hf : PySem.W.isFn X.K (.ref fS) = true) (hb : Binds X.K fd ["self"] []) (hr : Room (k + 2) X.A) : CallR X (.type "str") (rStrI C sp) := by
  intro pins s σ H xs us Q I r h
  obtain ⟨a, dx, fs, rfl, ha, h⟩ := h
  obtain ⟨u, rfl, ru⟩ := vals1 r
  obtain rfl : u = Value.ref a := ru
  obtain ⟨ob, od, J⟩ := ins_inst I ha
  have hu : X.A.in1.in1.units < cLine := by
    have := hr.un
    show X.A.units + 1 + 1 < cLine
    omega
  refine PySem.W.kso_call hu I.kIn J hs hf (wpAny_mono (run_at (A := X.A.in1.in1) (vs := [.ref a]) (us := [.ref a]) G hr.in1.in1 rfl hb I (.cons rfl .nil) h) (fun r s' hq => ?_) fun _ _ z => z)
  obtain ⟨v, H', I', rv, z, ev, q'⟩ := hq
  subst ev
  obtain ⟨t, rfl⟩ := rv
  exact ⟨.str z, H', I', ⟨t, rfl⟩, q'⟩
end
theorem pe_revLK {X : Cx} {e : Expr} {te : TE} {k : Nat} {p1 p2 p3 pos : Pos} (K : PySem.W.Frag) (he : PE X e te) (h : X.K = K := by rfl) : PE X (.Subscript e (.Slice none none (some (.UnaryOp .USub (.Constant (.int 1) k p1) p2)) p3) pos) (tRevL K te) := by
  subst h
  exact pe_revL he
theorem Tok.ok {k : Nat} {pss : PSS} (h : Tok k pss) : ∀ ps ∈ pss, OkP ps := fun ps hp => (h ps hp).2
/-- an album, and no more than it holds, in a list that grows -/
theorem AlbF.updl {H : Hp} {CA C a l : Addr} {o : HO} {xs : List V} {cs : List Addr} {pss : PSS} (h : AlbF H CA C a cs pss) (hl : H l = some (.lst xs)) : AlbF (upd H l o) CA C a cs pss := by
  obtain ⟨dx, t, u, rs, e, et, p, eu, r⟩ := h
  have nt : ∀ {b : Addr} {ys : List V}, H b = some (.tup ys) → upd H l o b = some (.tup ys) := fun e => by
    rw [upd_ne (L2.ne_of e hl (by intro z; cases z))]
    exact e
  exact ⟨dx, t, u, rs, by rw [upd_ne (L2.ne_of e hl (by intro z; cases z))]; exact e, nt et, p.updl hl, nt eu, paired_mono r fun _ _ z => nt z⟩
theorem AlbF.sb {H H' : Hp} {CA C a p : Addr} {n : Nat} {cs : List Addr} {pss : PSS} (h : AlbF H CA C a cs pss) (v : Lens H p n) (s : SB p H H') : AlbF H' CA C a cs pss := by
  obtain ⟨c, x, y, e0⟩ := v.at
  obtain ⟨dx, t, u, rs, e, et, pp, eu, r⟩ := h
  exact ⟨dx, t, u, rs, s.1 _ _ (L2.ne_of e e0 (by intro z; cases z)) e, s.1 _ _ (v.not_tup et) et, pp.sb v s, s.1 _ _ (v.not_tup eu) eu, paired_mono r fun _ _ z => s.1 _ _ (v.not_tup z) z⟩
/-- what is not refused -/
theorem mkA_of {K : PySem.W.Frag} {C CA CB CF CT b : Addr} {cs : List Addr} {pss : PSS} {k : Nat} {H : Hp} {Q : VK} {E : XK} (hs : Sq H b (cs.map V.ref)) (hp : Pics H C cs pss) (he : Eqn k pss) (hne : pss ≠ []) (h8 : pss.length ≤ 8) (n : NewA CA C H Q cs pss) : MkA K C CA CB CF CT (.ref b) H Q E := by
  have ee := he.alike
  refine .inr ⟨b, cs, pss, rfl, hs, hp, fun z => ?_, by omega, fun z => ?_, fun _ z => absurd z (by omega), fun _ _ => n⟩
  · have := hp.len
    rw [z] at this
    exact hne (List.length_eq_zero_iff.mp this.symm)
  · rw [ee] at z
    cases z
/-- == and != of albums, by their places -/
theorem eqA_in {K : PySem.W.Frag} {CA C : Addr} {H : Hp} {Q : VK} {a b : Addr} {cs ds : List Addr} {pss qss : PSS} (T : AlbT K CA) (h : AlbF H CA C a cs pss) (g : AlbF H CA C b ds qss) (q : Q (.bl (decide (pss = qss))) H) : rEqI K CA (spEqA K CA C) (.ref a) (.ref b) H Q := by
  obtain ⟨dx, t, u, rs, e, _⟩ := id h
  exact ⟨a, dx, _, _, rfl, e, g.ty T, by simp [PySem.W.notFirst], a, .ref b, cs, pss, _, rfl, h, .inr ⟨b, ds, qss, rfl, g, rfl⟩, _, rfl, q⟩
theorem neA_in {K : PySem.W.Frag} {CA C : Addr} {H : Hp} {Q : VK} {a b : Addr} {cs ds : List Addr} {pss qss : PSS} (T : AlbT K CA) (h : AlbF H CA C a cs pss) (g : AlbF H CA C b ds qss) (q : Q (.bl (!decide (pss = qss))) H) : rNeI K CA (spEqA K CA C) (.ref a) (.ref b) H Q := by
  obtain ⟨dx, t, u, rs, e, _⟩ := id h
  exact ⟨a, dx, _, _, rfl, e, g.ty T, by simp [PySem.W.notFirst], a, .ref b, cs, pss, _, rfl, h, .inr ⟨b, ds, qss, rfl, g, rfl⟩, _, rfl, q⟩
end K17

namespace K17
open PySem PySem.Spec PyProof.Rows L2
/-! ### numbers written -/
abbrev Cd := List Nat
def dgs (a : Cd) : Cd := if a.head? = some 45 then a.drop 1 else a
def isDg (c : Nat) : Bool := decide (48 ≤ c) && decide (c ≤ 57)
def wrt (a : Cd) : Bool := decide (1 ≤ (dgs a).length) && decide ((dgs a).length ≤ 60) && (dgs a).all isDg && (decide (a = [48]) || decide ((dgs a).head? ≠ some 48))
def vlu (a : Cd) : Int := if a.head? = some 45 then -((NumText.digitsVal (dgs a) : Nat) : Int) else ((NumText.digitsVal (dgs a) : Nat) : Int)
def num (a : Cd) : Option Int := if (wrt a && decide (-G9 ≤ vlu a) && decide (vlu a ≤ G9)) = true then some (vlu a) else none
/-- a number's signs -/
def shL (n : Int) : Cd := if n < 0 then 45 :: TL.numL n.natAbs else TL.numL n.natAbs
theorem all_dg {a : Cd} (h : a.all isDg = true) : NumText.AllDigits a := fun c hc => by
  have := List.all_eq_true.mp h c hc
  unfold isDg at this
  rw [Bool.and_eq_true, decide_eq_true_iff, decide_eq_true_iff] at this
  exact this
theorem dg_all {a : Cd} (h : NumText.AllDigits a) : a.all isDg = true := List.all_eq_true.mpr fun c hc => by
  unfold isDg
  rw [decide_eq_true (h c hc).1, decide_eq_true (h c hc).2]
  rfl
structure Wr (a : Cd) : Prop where
  l1 : 1 ≤ (dgs a).length
  l2 : (dgs a).length ≤ 60
  d : NumText.AllDigits (dgs a)
  z : a = [48] ∨ (dgs a).head? ≠ some 48
theorem wr_of {a : Cd} (h : wrt a = true) : Wr a := by
  unfold wrt at h
  simp only [Bool.and_eq_true, Bool.or_eq_true, decide_eq_true_eq] at h
  exact ⟨h.1.1.1, h.1.1.2, all_dg h.1.2, h.2⟩
theorem of_wr {a : Cd} (h : Wr a) : wrt a = true := by
  unfold wrt
  rw [decide_eq_true h.l1, decide_eq_true h.l2, dg_all h.d, Bool.true_and, Bool.true_and, Bool.true_and, Bool.or_eq_true, decide_eq_true_iff, decide_eq_true_iff]
  exact h.z
theorem dgs_len (a : Cd) : a.length ≤ (dgs a).length + 1 := by
  unfold dgs
  split
  · rw [List.length_drop]
    omega
  · omega
/-- int of it -/
theorem int_wr {a : Cd} (h : Wr a) : PySem.intText? (SX.S a) = some (vlu a) ∧ (SX.S a).length ≤ 640 := by
  have le := dgs_len a
  have l2 := h.l2
  refine ⟨?_, by rw [SX.S_len]; omega⟩
  by_cases e : a.head? = some 45
  · have ev : vlu a = -((NumText.digitsVal (dgs a) : Nat) : Int) := if_pos e
    have ea : a = 45 :: dgs a := by
      unfold dgs
      rw [if_pos e]
      cases a with
      | nil => cases e
      | cons c r =>
        have : c = 45 := Option.some.inj e
        subst this
        rfl
    rw [ev]
    refine PySem.intText_neg (cs := dgs a) ?_ h.d (fun z => ?_) (by rw [SX.S_len]; omega)
    · show a = _
      exact ea
    · have := h.l1
      rw [z] at this
      exact absurd this (by decide)
  · have ev : vlu a = ((NumText.digitsVal (dgs a) : Nat) : Int) := if_neg e
    have ea : dgs a = a := if_neg e
    rw [ev]
    have := PySem.intText_digits (x := SX.S a) (by show NumText.AllDigits a; rw [← ea]; exact h.d) (by
      show a ≠ []
      intro z
      have := h.l1
      rw [ea, z] at this
      exact absurd this (by decide)) (by rw [SX.S_len]; omega)
    rw [this, ea]
/-! ### written so, and so alone -/
theorem val_snoc (e : Cd) (c : Nat) : NumText.digitsVal (e ++ [c]) = NumText.digitsVal e * 10 + (c - 48) := by
  unfold NumText.digitsVal
  rw [List.foldl_append]
  rfl
theorem snoc_of {a : Cd} (h : a ≠ []) : ∃ e c, a = e ++ [c] := ⟨a.dropLast, a.getLast h, (List.dropLast_concat_getLast h).symm⟩
theorem val_pos : ∀ (n : Nat) {a : Cd}, a.length ≤ n → NumText.AllDigits a → a ≠ [] → a.head? ≠ some 48 → 1 ≤ NumText.digitsVal a := by
  intro n
  induction n with
  | zero =>
    intro a l _ hn _
    exact absurd (List.length_eq_zero_iff.mp (Nat.le_zero.mp l)) hn
  | succ n ih =>
    intro a l d hn z
    obtain ⟨e, c, rfl⟩ := snoc_of hn
    rw [val_snoc]
    by_cases he : e = []
    · subst he
      have hc := d c (by simp)
      have : c ≠ 48 := fun k => z (by rw [k]; rfl)
      omega
    · have := ih (a := e) (by rw [List.length_append] at l; show e.length ≤ n; have : e.length + 1 ≤ n + 1 := l; omega) (fun x hx => d x (List.mem_append_left _ hx)) he (fun k => z (by rw [List.head?_append, k]; rfl))
      omega
theorem canon : ∀ (n : Nat) {a : Cd}, a.length ≤ n → NumText.AllDigits a → a ≠ [] → a.head? ≠ some 48 → TL.numL (NumText.digitsVal a) = a := by
  intro n
  induction n with
  | zero =>
    intro a l _ hn _
    exact absurd (List.length_eq_zero_iff.mp (Nat.le_zero.mp l)) hn
  | succ n ih =>
    intro a l d hn z
    obtain ⟨e, c, rfl⟩ := snoc_of hn
    have hc := d c (by simp)
    by_cases he : e = []
    · subst he
      have ev : NumText.digitsVal ([] ++ [c]) = c - 48 := by
        rw [val_snoc]
        show 0 * 10 + (c - 48) = c - 48
        omega
      rw [ev, TL.numL_lt (by omega)]
      show [48 + (c - 48)] = [c]
      rw [show 48 + (c - 48) = c by omega]
    · have le : e.length ≤ n := by
        rw [List.length_append] at l
        have : e.length + 1 ≤ n + 1 := l
        omega
      have de : NumText.AllDigits e := fun x hx => d x (List.mem_append_left _ hx)
      have ze : e.head? ≠ some 48 := fun k => z (by rw [List.head?_append, k]; rfl)
      have p := val_pos n le de he ze
      have i := ih le de he ze
      have ev : NumText.digitsVal (e ++ [c]) = NumText.digitsVal e * 10 + (c - 48) := val_snoc e c
      rw [ev, TL.numL_step (by omega), show (NumText.digitsVal e * 10 + (c - 48)) / 10 = NumText.digitsVal e by omega, show (NumText.digitsVal e * 10 + (c - 48)) % 10 = c - 48 by omega, i, show 48 + (c - 48) = c by omega]
theorem numL_head {n : Nat} (h : n ≠ 0) : (TL.numL n).head? ≠ some 48 := by
  have : ∀ k n : Nat, n ≤ k → n ≠ 0 → (TL.numL n).head? ≠ some 48 := by
    intro k
    induction k with
    | zero => exact fun n l z => absurd (Nat.le_zero.mp l) z
    | succ k ih =>
      intro n l z
      by_cases h : n < 10
      · rw [TL.numL_lt h]
        intro e
        have : 48 + n = 48 := Option.some.inj e
        omega
      · have s := TL.numL_step (show 10 ≤ n by omega)
        have i := ih (n / 10) (by omega) (by omega)
        rw [s, List.head?_append]
        have ne := TL.numL_ne (n / 10)
        cases e : TL.numL (n / 10) with
        | nil => exact absurd e ne
        | cons c r =>
          rw [e] at i
          exact i
  exact this n n (Nat.le_refl n) h
theorem dgs_sh (n : Int) : dgs (shL n) = TL.numL n.natAbs := by
  unfold dgs shL
  split
  · exact if_pos rfl
  · refine if_neg ?_
    intro e
    cases h : TL.numL n.natAbs with
    | nil => rw [h] at e; cases e
    | cons c r =>
      rw [h] at e
      have ec : c = 45 := Option.some.inj e
      have := TL.numL_digits n.natAbs c (by rw [h]; exact List.mem_cons_self)
      omega
theorem head_sh (n : Int) : (shL n).head? = some 45 ↔ n < 0 := by
  unfold shL
  split
  · rename_i h
    exact ⟨fun _ => h, fun _ => rfl⟩
  · rename_i h
    refine ⟨fun e => ?_, fun z => absurd z h⟩
    cases k : TL.numL n.natAbs with
    | nil => rw [k] at e; cases e
    | cons c r =>
      rw [k] at e
      have ec : c = 45 := Option.some.inj e
      have := TL.numL_digits n.natAbs c (by rw [k]; exact List.mem_cons_self)
      omega
theorem vlu_sh (n : Int) : vlu (shL n) = n := by
  unfold vlu
  rw [dgs_sh, TL.numL_val]
  by_cases h : n < 0
  · rw [if_pos ((head_sh n).mpr h)]
    omega
  · rw [if_neg (fun e => h ((head_sh n).mp e))]
    omega
theorem num_sh {n : Int} (h1 : -G9 ≤ n) (h2 : n ≤ G9) : num (shL n) = some n := by
  have G : G9 = 1000000000 := rfl
  have w : Wr (shL n) := by
    refine ⟨?_, ?_, ?_, ?_⟩
    · rw [dgs_sh]
      exact Nat.succ_le_of_lt (List.length_pos_iff.mpr (TL.numL_ne _))
    · rw [dgs_sh]
      exact Nat.le_trans (TL.numL_len (k := 10) (by decide) (by omega)) (by decide)
    · rw [dgs_sh]
      exact TL.numL_digits _
    · by_cases z : n = 0
      · subst z
        exact .inl (by decide +kernel)
      · refine .inr ?_
        rw [dgs_sh]
        exact numL_head (by omega)
  unfold num
  rw [of_wr w, vlu_sh, decide_eq_true h1, decide_eq_true h2]
  rfl
theorem sh_num {a : Cd} {n : Int} (h : num a = some n) : a = shL n ∧ -G9 ≤ n ∧ n ≤ G9 ∧ Wr a ∧ vlu a = n := by
  unfold num at h
  split at h
  · rename_i k
    have e : vlu a = n := Option.some.inj h
    simp only [Bool.and_eq_true, decide_eq_true_eq] at k
    obtain ⟨⟨k1, k2⟩, k3⟩ := k
    have w := wr_of k1
    rw [e] at k2 k3
    refine ⟨?_, k2, k3, w, e⟩
    have ne : dgs a ≠ [] := fun z => by
      have := w.l1
      rw [z] at this
      exact absurd this (by decide)
    by_cases hd : a.head? = some 45
    · have ea : a = 45 :: dgs a := by
        unfold dgs
        rw [if_pos hd]
        cases a with
        | nil => cases hd
        | cons c r =>
          have : c = 45 := Option.some.inj hd
          subst this
          rfl
      have z : (dgs a).head? ≠ some 48 := by
        rcases w.z with z | z
        · rw [z] at hd
          cases hd
        · exact z
      have p := val_pos _ (Nat.le_refl _) w.d ne z
      have c := canon _ (Nat.le_refl _) w.d ne z
      have ev : vlu a = -((NumText.digitsVal (dgs a) : Nat) : Int) := if_pos hd
      rw [ev] at e
      unfold shL
      rw [if_pos (by omega), show n.natAbs = NumText.digitsVal (dgs a) by omega, c]
      exact ea
    · have ea : dgs a = a := if_neg hd
      have ev : vlu a = ((NumText.digitsVal (dgs a) : Nat) : Int) := if_neg hd
      rw [ev] at e
      unfold shL
      rw [if_neg (by omega), show n.natAbs = NumText.digitsVal (dgs a) by omega]
      rcases w.z with z | z
      · rw [z]
        decide +kernel
      · rw [canon _ (Nat.le_refl _) w.d ne z, ea]
  · cases h
theorem shN_S (n : Int) : shN n = SX.S (shL n) := by
  unfold shN shL
  by_cases h : n < 0
  · rw [if_pos h]
    obtain ⟨m, rfl⟩ : ∃ m : Nat, n = Int.negSucc m := by
      cases n with
      | ofNat m => exact absurd h (by simp)
      | negSucc m => exact ⟨m, rfl⟩
    have e : Str.ofString (toString (Int.negSucc m)) = Str.ofString ("-" ++ toString ((m + 1 : Nat) : Int)) := rfl
    rw [e]
    refine TL.ext_tl ?_
    rw [TL.tl_ofString, String.toList_append, List.map_append, ← TL.tl_ofString (toString ((m + 1 : Nat) : Int)), TL.tl_num]
    rfl
  · rw [if_neg h]
    obtain ⟨m, rfl⟩ := Int.eq_ofNat_of_zero_le (show 0 ≤ n by omega)
    exact SX.num_S m
end K17

namespace K17
open PySem PySem.Spec PyProof.Rows L2
/-! ### places among items -/
abbrev Its := List Cd
abbrev PS := List (Int × Int)
abbrev slC : Cd := [47]
abbrev scC : Cd := [59]
def nAt (its : Its) (i : Nat) : Option Int := its[i]?.bind num
def more (its : Its) (i : Nat) : Bool := decide (its[i]? = some slC)
def lp (its : Its) (few most : Nat) : Nat → Nat → PS → Nat × Option PS
  | 0, i, _ => (i, none)
  | f + 1, i, acc => match nAt its i with
    | none => (i, none)
    | some x => match nAt its (i + 1) with
      | none => (i + 1, none)
      | some y => if (decide (few ≤ acc.length + 1) && (decide (acc.length + 1 = most) || !more its (i + 2))) = true then (i + 2, some (acc ++ [(x, y)]))
        else if more its (i + 2) = true then lp its few most f (i + 3) (acc ++ [(x, y)]) else (i + 2, none)
/-- behind a place -/
def lpM (its : Its) (few most : Nat) (f i : Nat) (acc : PS) : Nat × Option PS :=
  if (decide (few ≤ acc.length) && (decide (acc.length = most) || !more its i)) = true then (i, some acc) else if more its i = true then lp its few most f (i + 1) acc else (i, none)
def fin (its ends : Its) (i : Nat) : Bool := decide (i = its.length) || (match its[i]? with
  | some a => decide (a ∈ ends)
  | none => false)
def conv (its ends : Its) : Nat × Option PS → Sum Nat (PS × Nat)
  | (e, none) => .inl e
  | (i, some l) => if fin its ends i = true then .inr (l, i) else .inl i
section
variable {its ends : Its} {few most f i : Nat} {acc : PS}
theorem lp_zero : lp its few most 0 i acc = (i, none) := rfl
theorem lp_no (h : nAt its i = none) : lp its few most f i acc = (i, none) := by
  cases f with
  | zero => rfl
  | succ f =>
    unfold lp
    rw [h]
theorem lp_no1 {x : Int} (h : nAt its i = some x) (h2 : nAt its (i + 1) = none) : lp its few most (f + 1) i acc = (i + 1, none) := by
  unfold lp
  rw [h, h2]
theorem lp_two {x y : Int} (h : nAt its i = some x) (h2 : nAt its (i + 1) = some y) : lp its few most (f + 1) i acc = lpM its few most f (i + 2) (acc ++ [(x, y)]) := by
  unfold lp lpM
  rw [h, h2, List.length_append]
  rfl
theorem more_at (h : more its i = true) : its[i]? = some slC := of_decide_eq_true h
theorem fin_more (ne : slC ∉ ends) (h : more its i = true) : fin its ends i = false := by
  have e := more_at h
  have l : i < its.length := (List.getElem?_eq_some_iff.mp e).1
  unfold fin
  rw [e, decide_eq_false (show ¬ i = its.length by omega)]
  show (false || decide (slC ∈ ends)) = false
  rw [decide_eq_false ne]
  rfl
theorem conv_end (ne : slC ∉ ends) (hl : few ≤ acc.length) (hf : fin its ends i = true) : conv its ends (lpM its few most f i acc) = .inr (acc, i) := by
  have nm : more its i = false := by
    cases e : more its i with
    | false => rfl
    | true =>
      rw [fin_more ne e] at hf
      cases hf
  unfold lpM
  rw [nm, decide_eq_true hl]
  simp only [Bool.not_false, Bool.or_true, Bool.and_true, if_true]
  show (if fin its ends i = true then Sum.inr (acc, i) else Sum.inl i) = _
  rw [if_pos hf]
theorem conv_go (fm : few ≤ most) (hl : acc.length < most) (hm : more its i = true) : conv its ends (lpM its few most f i acc) = conv its ends (lp its few most f (i + 1) acc) := by
  unfold lpM
  rw [hm, decide_eq_false (show ¬ acc.length = most by omega)]
  simp
theorem conv_stop (fm : few ≤ most) (hl : acc.length ≤ most) (h1 : ¬ (few ≤ acc.length ∧ fin its ends i = true)) (h2 : ¬ (acc.length < most ∧ more its i = true)) : conv its ends (lpM its few most f i acc) = .inl i := by
  unfold lpM
  by_cases h : few ≤ acc.length
  · have nf : fin its ends i = false := by
      cases e : fin its ends i with
      | false => rfl
      | true => exact absurd ⟨h, e⟩ h1
    have c : (decide (acc.length = most) || !more its i) = true := by
      cases e : more its i with
      | false => simp
      | true =>
        have : acc.length = most := Nat.le_antisymm hl (Nat.not_lt.mp fun z => h2 ⟨z, e⟩)
        simp [this]
    rw [decide_eq_true h, c]
    show (if fin its ends i = true then Sum.inr (acc, i) else Sum.inl i) = _
    rw [nf]
    rfl
  · have nm : more its i = false := by
      cases e : more its i with
      | false => rfl
      | true => exact absurd ⟨by omega, e⟩ h2
    rw [decide_eq_false h, nm]
    rfl
end
/-! ### the items of places -/
def pI : PS → Its
  | [] => []
  | [p] => [shL p.1, shL p.2]
  | p :: q :: r => shL p.1 :: shL p.2 :: slC :: pI (q :: r)
theorem pI_ne : ∀ {m : PS}, m ≠ [] → pI m ≠ []
  | [], h => absurd rfl h
  | [_], _ => by simp [pI]
  | _ :: _ :: _, _ => by simp [pI]
theorem pI_cons (p : Int × Int) {m : PS} (h : m ≠ []) : pI (p :: m) = shL p.1 :: shL p.2 :: slC :: pI m := by
  cases m with
  | nil => exact absurd rfl h
  | cons q r => rfl
theorem drop_at {its : Its} {i : Nat} {a : Cd} (h : its[i]? = some a) : its.drop i = a :: its.drop (i + 1) := by
  obtain ⟨l, e⟩ := List.getElem?_eq_some_iff.mp h
  rw [List.drop_eq_getElem_cons l, e]
theorem nat_at {its : Its} {i : Nat} {x : Int} (h : nAt its i = some x) : its[i]? = some (shL x) ∧ -G9 ≤ x ∧ x ≤ G9 := by
  unfold nAt at h
  cases e : its[i]? with
  | none => rw [e] at h; cases h
  | some a =>
    rw [e] at h
    have h : num a = some x := h
    obtain ⟨ea, b1, b2, _⟩ := sh_num h
    rw [ea]
    exact ⟨rfl, b1, b2⟩
def Bd2 (m : PS) : Prop := ∀ q ∈ m, -G9 ≤ q.1 ∧ q.1 ≤ G9 ∧ -G9 ≤ q.2 ∧ q.2 ≤ G9
theorem lp_ok {its : Its} {few most : Nat} (fm : few ≤ most) : ∀ (f i : Nat) (acc : PS) (j : Nat) (l : PS), lp its few most f i acc = (j, some l) → acc.length < most → ∃ m, l = acc ++ m ∧ m ≠ [] ∧ its.drop i = pI m ++ its.drop j ∧ j ≤ its.length ∧ Bd2 m ∧ few ≤ l.length ∧ l.length ≤ most := by
  intro f
  induction f with
  | zero => exact fun i acc j l h _ => by cases h
  | succ f ih =>
    intro i acc j l h hl
    cases ex : nAt its i with
    | none =>
      rw [lp_no ex] at h
      cases h
    | some x =>
      cases ey : nAt its (i + 1) with
      | none =>
        rw [lp_no1 ex ey] at h
        cases h
      | some y =>
        obtain ⟨ax, bx1, bx2⟩ := nat_at ex
        obtain ⟨ay, by1, by2⟩ := nat_at ey
        have dr : its.drop i = shL x :: shL y :: its.drop (i + 2) := by rw [drop_at ax, drop_at ay]
        have le : i + 2 ≤ its.length := (List.getElem?_eq_some_iff.mp ay).1
        have b1 : Bd2 [(x, y)] := fun q hq => by
          rw [List.mem_singleton.mp hq]
          exact ⟨bx1, bx2, by1, by2⟩
        have la : (acc ++ [(x, y)]).length = acc.length + 1 := by rw [List.length_append]; rfl
        rw [lp_two ex ey] at h
        unfold lpM at h
        split at h
        · rename_i c
          cases h
          rw [la, Bool.and_eq_true, decide_eq_true_iff] at c
          exact ⟨[(x, y)], rfl, by simp, dr, le, b1, by rw [la]; exact c.1, by rw [la]; omega⟩
        · rename_i c
          split at h
          · rename_i hm
            have hm2 := more_at hm
            have lt : (acc ++ [(x, y)]).length < most := by
              refine Nat.lt_of_le_of_ne (by rw [la]; omega) fun e => c ?_
              rw [decide_eq_true (by omega), decide_eq_true e]
              rfl
            obtain ⟨m, e1, e2, e3, e4, e5, e6, e7⟩ := ih _ _ _ _ h lt
            refine ⟨(x, y) :: m, by rw [e1, List.append_assoc]; rfl, by simp, ?_, e4, fun q hq => ?_, e6, e7⟩
            · rw [dr, drop_at hm2, e3, pI_cons _ e2]
              rfl
            · rcases List.mem_cons.mp hq with z | z
              · rw [z]
                exact ⟨bx1, bx2, by1, by2⟩
              · exact e5 q z
          · cases h
theorem nat_sh {its : Its} {i : Nat} {x : Int} (h : its[i]? = some (shL x)) (b1 : -G9 ≤ x) (b2 : x ≤ G9) : nAt its i = some x := by
  unfold nAt
  rw [h]
  exact num_sh b1 b2
theorem at_drop {its r : Its} {i : Nat} {a : Cd} (h : its.drop i = a :: r) : its[i]? = some a ∧ its.drop (i + 1) = r := by
  have e : (its.drop i)[0]? = some a := by rw [h]; rfl
  rw [List.getElem?_drop, Nat.add_zero] at e
  refine ⟨e, ?_⟩
  rw [drop_at e] at h
  exact (List.cons.inj h).2
theorem lp_pI {its : Its} {few most : Nat} : ∀ (m : PS) (f i : Nat) (acc : PS) (rest : Its), m ≠ [] → its.drop i = pI m ++ rest → Bd2 m → few ≤ acc.length + m.length → acc.length + m.length ≤ most → (rest.head? ≠ some slC ∨ acc.length + m.length = most) → m.length ≤ f → lp its few most f i acc = (i + (pI m).length, some (acc ++ m)) := by
  intro m
  induction m with
  | nil => exact fun f i acc rest h => absurd rfl h
  | cons p m ih =>
    intro f i acc rest _ hd hb h1 h2 h3 hf
    cases f with
    | zero => exact absurd hf (Nat.not_succ_le_zero _)
    | succ f =>
      obtain ⟨x, y⟩ := p
      obtain ⟨bx1, bx2, by1, by2⟩ := hb (x, y) List.mem_cons_self
      have la : (acc ++ [(x, y)]).length = acc.length + 1 := by rw [List.length_append]; rfl
      cases m with
      | nil =>
        have hd : its.drop i = shL x :: shL y :: rest := hd
        obtain ⟨ax, d1⟩ := at_drop hd
        obtain ⟨ay, d2⟩ := at_drop d1
        rw [lp_two (nat_sh ax bx1 bx2) (nat_sh ay by1 by2)]
        have h1 : few ≤ acc.length + 1 := h1
        have c : (decide (few ≤ (acc ++ [(x, y)]).length) && (decide ((acc ++ [(x, y)]).length = most) || !more its (i + 2))) = true := by
          rw [la, decide_eq_true h1, Bool.true_and]
          rcases h3 with h3 | h3
          · have : more its (i + 2) = false := by
              cases e : more its (i + 2) with
              | false => rfl
              | true =>
                have e2 := more_at e
                have d2 : its.drop (i + 2) = rest := d2
                rw [drop_at e2] at d2
                rw [← d2] at h3
                exact absurd rfl h3
            rw [this]
            simp
          · rw [decide_eq_true (show acc.length + 1 = most from h3)]
            rfl
        unfold lpM
        rw [if_pos c]
        rfl
      | cons q m =>
        have hd : its.drop i = shL x :: shL y :: slC :: (pI (q :: m) ++ rest) := hd
        obtain ⟨ax, d1⟩ := at_drop hd
        obtain ⟨ay, d2⟩ := at_drop d1
        obtain ⟨as, d3⟩ := at_drop d2
        have hm : more its (i + 2) = true := decide_eq_true as
        rw [lp_two (nat_sh ax bx1 bx2) (nat_sh ay by1 by2)]
        have lm : ((x, y) :: q :: m).length = m.length + 2 := rfl
        have lq : (q :: m).length = m.length + 1 := rfl
        unfold lpM
        rw [hm, if_neg (by rw [la, decide_eq_false (show ¬ acc.length + 1 = most by omega)]; simp), if_pos rfl]
        rw [ih f (i + 3) (acc ++ [(x, y)]) rest (by simp) d3 (fun z hz => hb z (List.mem_cons_of_mem _ hz)) (by rw [la]; omega) (by rw [la]; omega) (h3.imp id fun z => by rw [la]; omega) (by omega)]
        have e1 : (pI ((x, y) :: q :: m)).length = (pI (q :: m)).length + 3 := rfl
        rw [e1, List.append_assoc]
        congr 1
        omega
/-! ### pictures among items -/
def la (its : Its) (k : Nat) : Nat → Nat → List PS → Nat × Option (List PS)
  | 0, i, told => (i, some told)
  | f + 1, i, told => if (decide (its[i]? = some scC) && decide (told.length < 8)) = true then (match lp its k k (its.length + 1) (i + 1) [] with
      | (e, none) => (e, none)
      | (j, some l) => la its k f j (told ++ [l])) else (i, some told)
def lalb (its : Its) : Nat × Option (List PS) := match lp its 4 7 (its.length + 1) 0 [] with
  | (e, none) => (e, none)
  | (j, some l) => la its l.length 8 j [l]
def convA (its : Its) : Nat × Option (List PS) → Sum Nat (List PS)
  | (e, none) => .inl e
  | (i, some t) => if i = its.length then .inr t else .inl i
def fI (ms : List PS) : Its := ms.flatMap fun l => scC :: pI l
def aI : List PS → Its
  | [] => []
  | l :: ms => pI l ++ fI ms
theorem la_ok {its : Its} {k : Nat} (k1 : 1 ≤ k) : ∀ (f i : Nat) (told : List PS) (j : Nat) (t : List PS), la its k f i told = (j, some t) → i ≤ its.length → told.length ≤ 8 → ∃ ms, t = told ++ ms ∧ its.drop i = fI ms ++ its.drop j ∧ j ≤ its.length ∧ (∀ l ∈ ms, l.length = k ∧ Bd2 l) ∧ t.length ≤ 8 := by
  intro f
  induction f with
  | zero =>
    intro i told j t h hi h8
    cases h
    exact ⟨[], by simp, rfl, hi, fun l h => absurd h List.not_mem_nil, h8⟩
  | succ f ih =>
    intro i told j t h hi h8
    unfold la at h
    split at h
    · rename_i c
      rw [Bool.and_eq_true, decide_eq_true_iff, decide_eq_true_iff] at c
      split at h
      · cases h
      · rename_i j1 l e
        obtain ⟨m, e1, e2, e3, e4, e5, e6, e7⟩ := lp_ok (Nat.le_refl k) _ _ _ _ _ e (by show 0 < k; omega)
        have e1 : l = m := e1
        subst e1
        obtain ⟨ms, g1, g2, g3, g4, g5⟩ := ih _ _ _ _ h e4 (by rw [List.length_append]; show told.length + 1 ≤ 8; omega)
        refine ⟨l :: ms, by rw [g1, List.append_assoc]; rfl, ?_, g3, fun z hz => ?_, g5⟩
        · rw [drop_at c.1, e3, g2]
          show scC :: (pI l ++ (fI ms ++ its.drop j)) = (scC :: pI l ++ fI ms) ++ its.drop j
          simp
        · rcases List.mem_cons.mp hz with z1 | z1
          · rw [z1]
            exact ⟨Nat.le_antisymm e7 e6, e5⟩
          · exact g4 z z1
    · cases h
      exact ⟨[], by simp, rfl, hi, fun l h => absurd h List.not_mem_nil, h8⟩
theorem fI_head (ms : List PS) : (fI ms).head? ≠ some slC := by
  cases ms with
  | nil => intro h; cases h
  | cons l ms =>
    intro h
    have : some scC = some slC := h
    exact absurd (Option.some.inj this) (by decide)
theorem la_fI {its : Its} {k : Nat} (k1 : 1 ≤ k) : ∀ (ms : List PS) (f i : Nat) (told : List PS), its.drop i = fI ms → (∀ l ∈ ms, l.length = k ∧ Bd2 l) → told.length + ms.length ≤ 8 → ms.length ≤ f → i ≤ its.length → la its k f i told = (its.length, some (told ++ ms)) := by
  intro ms
  induction ms with
  | nil =>
    intro f i told hd _ h8 _ hi
    have e : i = its.length := by
      have := congrArg List.length hd
      rw [List.length_drop] at this
      have z : (fI []).length = 0 := rfl
      omega
    cases f with
    | zero =>
      unfold la
      rw [e, List.append_nil]
    | succ f =>
      unfold la
      rw [e, List.getElem?_eq_none (Nat.le_refl _), List.append_nil]
      rfl
  | cons l ms ih =>
    intro f i told hd hb h8 hf hi
    have lm : (l :: ms).length = ms.length + 1 := rfl
    cases f with
    | zero => exact absurd hf (Nat.not_succ_le_zero _)
    | succ f =>
      have hd : its.drop i = scC :: (pI l ++ fI ms) := hd
      obtain ⟨as, d1⟩ := at_drop hd
      obtain ⟨lk, lb⟩ := hb l List.mem_cons_self
      have ll : (pI l).length ≤ its.length := by
        have := congrArg List.length d1
        rw [List.length_drop, List.length_append] at this
        omega
      have lle : ∀ m : PS, m.length ≤ (pI m).length := fun m => by
        induction m with
        | nil => exact Nat.le_refl _
        | cons p r ih =>
          cases r with
          | nil => show 1 ≤ 2; decide
          | cons q r =>
            rw [pI_cons p (by simp)]
            simp only [List.length_cons] at ih ⊢
            omega
      have e := lp_pI (its := its) (few := k) (most := k) l (its.length + 1) (i + 1) [] (fI ms) (by intro z; rw [z] at lk; have : (0 : Nat) = k := lk; omega) d1 lb (by show k ≤ 0 + l.length; omega) (by show 0 + l.length ≤ k; omega) (.inl (fI_head ms)) (Nat.le_trans (lle l) (by omega))
      unfold la
      rw [as, decide_eq_true rfl, decide_eq_true (show told.length < 8 by omega), Bool.true_and, if_pos rfl, e]
      show la its k f (i + 1 + (pI l).length) (told ++ [l]) = _
      have d2 : its.drop (i + 1 + (pI l).length) = fI ms := by
        rw [← List.drop_drop, d1, List.drop_left']
        rfl
      rw [ih f _ _ d2 (fun z hz => hb z (List.mem_cons_of_mem _ hz)) (by rw [List.length_append]; show told.length + 1 + ms.length ≤ 8; omega) (by omega) ?_, List.append_assoc]
      · rfl
      · have := congrArg List.length d1
        have l1 : i < its.length := (List.getElem?_eq_some_iff.mp as).1
        rw [List.length_drop, List.length_append] at this
        omega
end K17

namespace K17
open PySem PySem.Spec PyProof.Rows L2
/-! ### texts of items -/
theorem pre_one (c : Nat) (r : Cd) : TL.pre [32] (c :: r) = decide (c = 32) := by
  show ([c] == [32]) = _
  by_cases h : c = 32
  · subst h
    rfl
  · rw [decide_eq_false h]
    exact beq_eq_false_iff_ne.mpr fun z => h (List.cons.inj z).1
theorem spl_ne : ∀ (l acc : Cd), TL.spl [32] 0 acc l ≠ []
  | [], acc => by rw [TL.spl_nil]; simp
  | c :: r, acc => by
    by_cases h : c = 32
    · rw [TL.spl_hit (by rw [pre_one, decide_eq_true h])]
      simp
    · rw [TL.spl_miss (by rw [pre_one, decide_eq_false h])]
      exact spl_ne r _
theorem joinL_cons (s p : Cd) {r : Its} (h : r ≠ []) : TL.joinL s (p :: r) = p ++ (s ++ TL.joinL s r) := by
  cases r with
  | nil => exact absurd rfl h
  | cons a b => rfl
theorem join_spl : ∀ (l acc : Cd), TL.joinL [32] (TL.spl [32] 0 acc l) = acc ++ l
  | [], acc => by
    rw [TL.spl_nil, List.append_nil]
    rfl
  | c :: r, acc => by
    by_cases h : c = 32
    · rw [TL.spl_hit (by rw [pre_one, decide_eq_true h])]
      show TL.joinL [32] (acc :: TL.spl [32] 0 [] r) = _
      rw [joinL_cons _ _ (spl_ne r []), join_spl r [], h]
      rfl
    · rw [TL.spl_miss (by rw [pre_one, decide_eq_false h]), join_spl r (acc ++ [c]), List.append_assoc]
      rfl
theorem joinL_app (s : Cd) : ∀ {a b : Its}, a ≠ [] → b ≠ [] → TL.joinL s (a ++ b) = TL.joinL s a ++ (s ++ TL.joinL s b)
  | [], _, h, _ => absurd rfl h
  | [p], b, _, hb => joinL_cons s p hb
  | p :: q :: r, b, _, hb => by
    have ih := joinL_app s (a := q :: r) (b := b) (by simp) hb
    show TL.joinL s (p :: ((q :: r) ++ b)) = _
    rw [joinL_cons s p (by simp), ih, joinL_cons s p (by simp)]
    simp
def plL (p : Int × Int) : Cd := shL p.1 ++ (32 :: shL p.2)
theorem plT_S (p : Int × Int) : plT p = SX.S (plL p) := by
  unfold plT plL
  have e1 : Str.ofString " " = SX.S [32] := TL.ext_tl (by rw [TL.tl_ofString]; rfl)
  have e0 : Str.empty = SX.S [] := rfl
  rw [shN_S, shN_S, e1, e0, SX.S_cat, SX.S_cat, SX.S_cat]
  congr 1
  simp
theorem pl_join : ∀ {m : PS}, m ≠ [] → TL.joinL [32, 47, 32] (m.map plL) = TL.joinL [32] (pI m)
  | [], h => absurd rfl h
  | [p], _ => rfl
  | p :: q :: r, _ => by
    have ih := pl_join (m := q :: r) (by simp)
    rw [pI_cons p (by simp), List.map_cons, joinL_cons _ _ (by simp), ih, joinL_cons _ _ (by simp), joinL_cons _ _ (by simp), joinL_cons _ _ (pI_ne (by simp))]
    unfold plL
    simp
theorem picT_S {m : PS} (h : m ≠ []) : picT m = SX.S (TL.joinL [32] (pI m)) := by
  unfold picT
  have e1 : Str.ofString " / " = SX.S [32, 47, 32] := TL.ext_tl (by rw [TL.tl_ofString]; rfl)
  have e2 : m.map plT = (m.map plL).map SX.S := by
    rw [List.map_map]
    exact List.map_congr_left fun p _ => plT_S p
  rw [e1, e2, SX.join_S, pl_join h]
theorem aI_ne {l : PS} {ms : List PS} (h : l ≠ []) : aI (l :: ms) ≠ [] := by
  intro z
  exact pI_ne h (List.append_eq_nil_iff.mp z).1
theorem aI_cons (l : PS) {ms : List PS} (h : ms ≠ []) : aI (l :: ms) = pI l ++ scC :: aI ms := by
  cases ms with
  | nil => exact absurd rfl h
  | cons a b => rfl
theorem alb_join : ∀ {t : List PS}, t ≠ [] → (∀ l ∈ t, l ≠ []) → TL.joinL [32, 59, 32] (t.map fun l => TL.joinL [32] (pI l)) = TL.joinL [32] (aI t)
  | [], h, _ => absurd rfl h
  | [l], _, _ => by
    show TL.joinL [32] (pI l) = TL.joinL [32] (pI l ++ [])
    rw [List.append_nil]
  | l :: m :: r, _, hn => by
    have ih := alb_join (t := m :: r) (by simp) fun x hx => hn x (List.mem_cons_of_mem _ hx)
    rw [aI_cons l (by simp), joinL_app [32] (pI_ne (hn l List.mem_cons_self)) (by simp), joinL_cons _ _ (aI_ne (hn m (by simp))), List.map_cons, joinL_cons _ _ (by simp), ih]
    simp
theorem albT_S {t : List PS} (h : t ≠ []) (hn : ∀ l ∈ t, l ≠ []) : albT t = SX.S (TL.joinL [32] (aI t)) := by
  unfold albT
  have e1 : Str.ofString " ; " = SX.S [32, 59, 32] := TL.ext_tl (by rw [TL.tl_ofString]; rfl)
  have e2 : t.map picT = (t.map fun l => TL.joinL [32] (pI l)).map SX.S := by
    rw [List.map_map]
    exact List.map_congr_left fun l hl => picT_S (hn l hl)
  rw [e1, e2, SX.join_S, alb_join h hn]
/-- no blank stands in a written number -/
theorem sh_free (n : Int) : (32 : Nat) ∉ shL n := by
  unfold shL
  have f := TL.numL_free (n := n.natAbs) (s := 32) (.inl (by decide))
  split
  · intro h
    rcases List.mem_cons.mp h with z | z
    · cases z
    · exact f z
  · exact f
theorem pI_free : ∀ (m : PS), ∀ a ∈ pI m, (32 : Nat) ∉ a
  | [], _, h => absurd h List.not_mem_nil
  | [p], a, h => by
    simp only [pI, List.mem_cons, List.not_mem_nil, or_false] at h
    rcases h with rfl | rfl <;> exact sh_free _
  | p :: q :: r, a, h => by
    rw [pI_cons p (by simp)] at h
    simp only [List.mem_cons] at h
    rcases h with rfl | rfl | rfl | h
    · exact sh_free _
    · exact sh_free _
    · decide
    · exact pI_free (q :: r) a h
theorem aI_free (t : List PS) : ∀ a ∈ aI t, (32 : Nat) ∉ a := by
  intro a h
  cases t with
  | nil => exact absurd h List.not_mem_nil
  | cons l ms =>
    rcases List.mem_append.mp h with h | h
    · exact pI_free l a h
    · obtain ⟨m, _, hm⟩ := List.mem_flatMap.mp h
      rcases List.mem_cons.mp hm with z | z
      · rw [z]
        decide
      · exact pI_free m a z
/-- the text of items without blanks is cut into these -/
theorem split_items {its : Its} (h : its ≠ []) (f : ∀ a ∈ its, (32 : Nat) ∉ a) : TL.spl [32] 0 [] (TL.joinL [32] its) = its := SX.spl_join h f
end K17

namespace K17
open PySem PySem.Spec PyProof.Rows L2
/-! ### texts of code lists -/
theorem str_S {s : String} {a : Cd} (h : (PySem.Str.ofString s).cps.toList = a) : PySem.Str.ofString s = SX.S a := TL.ext_tl h
theorem dec_S {a b : Cd} : decide (V.str (SX.S a) = V.str (SX.S b)) = decide (a = b) := by
  by_cases h : a = b
  · rw [h, decide_eq_true rfl, decide_eq_true rfl]
  · rw [decide_eq_false h, decide_eq_false fun z => h (SX.S_inj (V.str.inj z))]
theorem dg_uni : ∀ c, c < 128 → Unicode.isDigit c = isDg c := by decide +kernel
theorem dg_lt {c : Nat} (h : isDg c = true) : c < 128 := by
  unfold isDg at h
  rw [Bool.and_eq_true, decide_eq_true_iff, decide_eq_true_iff] at h
  omega
theorem asc_S (a : Cd) : Txt.isascii (SX.S a) = a.all fun c => decide (c < 128) := by
  unfold Txt.isascii
  rw [← Array.all_toList]
theorem dig_S {a : Cd} (h : 1 ≤ a.length) : Txt.isdigit (SX.S a) = a.all Unicode.isDigit := by
  unfold Txt.isdigit
  rw [← Array.all_toList, SX.S_len, decide_eq_true (show a.length > 0 from h), Bool.true_and]
theorem all_two : ∀ a : Cd, ((a.all fun c => decide (c < 128)) && a.all Unicode.isDigit) = a.all isDg
  | [] => rfl
  | c :: r => by
    have ih := all_two r
    rw [List.all_cons, List.all_cons, List.all_cons, ← ih]
    by_cases h : c < 128
    · rw [decide_eq_true h, dg_uni c h]
      cases isDg c <;> simp
    · rw [decide_eq_false h]
      have : isDg c = false := by
        cases e : isDg c with
        | false => rfl
        | true => exact absurd (dg_lt e) h
      rw [this]
      rfl
theorem sw_neg (a : Cd) : Txt.startswith (SX.S a) (SX.S [45]) = decide (a.head? = some 45) := by
  unfold Txt.startswith
  rw [PySem.StrLaws.subAt_eq, SX.S_len, SX.S_len]
  cases a with
  | nil => rfl
  | cons c r =>
    rw [decide_eq_true (show 0 + ([45] : Cd).length ≤ (c :: r).length by simp), Bool.true_and]
    show ([c] == [45]) = decide (some c = some 45)
    by_cases h : c = 45
    · subst h
      rfl
    · rw [decide_eq_false fun z => h (Option.some.inj z)]
      exact beq_eq_false_iff_ne.mpr fun z => h (List.cons.inj z).1
theorem cut1_S {a : Cd} : Txt.slice (SX.S a) (some 1) none = SX.S (a.drop 1) := SX.slice_from (by decide)
theorem tIf_key {tA : TT} {ta tb : TE} {σ : L2.St} {H : Hp} {Q : VK} (G : V → Hp → Prop) (h : ∀ Q : VK, (∀ v H', G v H' → Q v H') → tIf tA ta tb σ H Q) (k : ∀ v H', G v H' → Q v H') : tIf tA ta tb σ H Q := h Q k
section
variable {P : Program} {w : World} {K : PySem.W.Frag} {mg : Str → Option Value} {base : Heap} {CX : Addr}
/-! ### _is_written -/
def spWr : Sp := fun vs H Q _ => ∃ a : Cd, vs = [.str (SX.S a)] ∧ a.length ≤ sizeLine ∧ Q (.bl (wrt a)) H
abbrev sWr : Stmt := top 31
abbrev nWr : List Str := ["item", "digits"]
theorem scWr : FnScope nWr ["item"] (defScope sWr) := ⟨rfl, rfl, rfl, by decide +kernel, rfl, by decide +kernel, by decide +kernel⟩
theorem ok_wr {f : Addr} {fd : FuncData} (F : Fun K "_is_written" "_is_written" sWr f fd) (B : Bn mg) (M60 : ∃ t, mg "MOST_DIGITS" = some (.int 60 t)) : FnOk P w K mg base CX0 1 f fd ["item"] spWr := by
  obtain ⟨t60, m60⟩ := M60
  refine F.ok scWr (fun vs H Q E h => ?_) (fun cdv A outer s H vs Q E hr h => ?_)
  · obtain ⟨a, rfl, _⟩ := h
    rfl
  · obtain ⟨a, rfl, hz, q⟩ := h
    have nd := scWr.nd
    refine ⟨_, (pss_cons ((ps_set (i := 1) nd rfl (Or.inl rfl) (pe_ifExp (pt_val (pe_m1 PySem.F.slot_str_startswith PySem.F.type_str_startswith mt_startswith (pv 0) pe_str)) (pe_slice C8.sl_txt (pv 0) (po_some pe_int) po_none) (pv 0)))) (pss_cons (ps_if (PW.pt (pw_or (pt_not (pt_chain op_le op_le pe_int (pe_callB call_len_str (by rfl) B.len PySem.boot_len (pa_cons (pv 1) pa_nil)) (pe_glob (v := .int 60) rfl m60 ⟨_, rfl⟩))) (pw_or1 (pt_not (PW.pt (pw_and (pt_val (pe_m0 PySem.F.slot_str_isascii PySem.F.type_str_isascii mt_isascii (pv 1))) (pw_and1 (pt_val (pe_m0 PySem.F.slot_str_isdigit PySem.F.type_str_isdigit mt_isdigit (pv 1))))))))))
        (pss_one (ps_ret pe_bl)) pss_nil) (pss_one (ps_ret (pe_or (pe_cmpR op_eq (pv 0) pe_str (nomark _)) (pe_one (pe_cmpR op_ne (pe_ix ix_seq (pv 1) (pe_int) (fun _ _ => rfl)) pe_str (nomark _)))))))), ?_⟩
    have e45 : PySem.Str.ofString "-" = SX.S [45] := str_S rfl
    have e48 : PySem.Str.ofString "0" = SX.S [48] := str_S rfl
    refine ⟨_, rfl, ⟨_, rfl⟩, _, _, rfl, rfl, _, rfl, ?_⟩
    rw [e45, sw_neg]
    dsimp only [gName, tSeq, tAsg]
    have e1 : (PySem.Str.ofString "-") = SX.S [45] := e45
    refine tIf_key (tA := fun σ H Q => Q (decide (a.head? = some 45)) H) (ta := tSl C8.rSlX (tVar 0) (tPart (tC (V.int 1))) tNoPart) (tb := tVar 0) (σ := L2.start nWr [V.str (SX.S a)]) (H := H) (fun v H' => v = .str (SX.S (dgs a)) ∧ H' = H) (fun Q hQ => ?_) (fun v H' hG => ?_)
    · show if decide (a.head? = some 45) = true then _ else _
      unfold dgs at hQ
      by_cases c : a.head? = some 45
      · rw [decide_eq_true c]
        rw [if_pos c] at hQ
        exact iteT ⟨_, rfl, 1, rfl, _, rfl, by rw [SX.S_len]; exact hz, hQ _ _ ⟨by rw [cut1_S], rfl⟩⟩
      · rw [decide_eq_false c]
        rw [if_neg c] at hQ
        exact iteF ⟨_, rfl, hQ _ _ ⟨rfl, rfl⟩⟩
    · obtain ⟨rfl, rfl⟩ := hG
      have ld : (dgs a).length ≤ a.length := by
        unfold dgs
        split
        · rw [List.length_drop]
          omega
        · exact Nat.le_refl _
      unfold wrt at q
      generalize dgs a = d at ld q ⊢
      have hd : (SX.S d).length ≤ sizeLine := by rw [SX.S_len]; omega
      refine ⟨_, rfl, _, rfl, hd, _, _, rfl, rfl, _, rfl, ?_⟩
      rw [SX.S_len]
      by_cases h1 : 1 ≤ d.length
      · rw [decide_eq_true (show (1 : Int) ≤ (d.length : Nat) by omega)]
        rw [decide_eq_true h1, Bool.true_and] at q
        refine iteT ⟨_, _, rfl, rfl, _, rfl, ?_⟩
        by_cases h2 : d.length ≤ 60
        · rw [decide_eq_true (show ((d.length : Nat) : Int) ≤ 60 by omega)]
          rw [decide_eq_true h2, Bool.true_and] at q
          refine iteF ?_
          refine ⟨_, rfl, ⟨_, rfl⟩, _, rfl, rfl, trivial, _, rfl, ?_⟩
          rw [asc_S]
          have e2 := all_two d
          cases hA : d.all fun c => decide (c < 128) with
          | false =>
            rw [hA, Bool.false_and] at e2
            rw [← e2, Bool.false_and] at q
            exact iteF (iteT q)
          | true =>
            rw [hA, Bool.true_and] at e2
            refine iteT ⟨_, rfl, ⟨_, rfl⟩, _, rfl, rfl, trivial, _, rfl, ?_⟩
            rw [dig_S h1, e2]
            cases hB : d.all isDg with
            | false =>
              rw [hB, Bool.false_and] at q
              exact iteT q
            | true =>
              rw [hB, Bool.true_and] at q
              refine iteF ?_
              refine ⟨_, rfl, rfl, ?_⟩
              rw [e48, dec_S]
              refine ⟨_, rfl, ?_⟩
              by_cases h0 : a = [48]
              · rw [decide_eq_true h0, Bool.true_or] at q
                rw [decide_eq_true h0]
                exact iteT q
              · rw [decide_eq_false h0, Bool.false_or] at q
                rw [decide_eq_false h0]
                refine iteF ?_
                cases d with
                | nil => exact absurd h1 (by decide)
                | cons c r =>
                  refine ⟨_, rfl, .inr (.inr ⟨_, 0, c, rfl, rfl, hd, atI_nat (j := 0) rfl, ?_⟩)⟩
                  have e4 : (!decide ([c] = ([48] : Cd))) = decide ((c :: r).head? ≠ some 48) := by
                    by_cases z : c = 48
                    · rw [z]
                      rfl
                    · rw [decide_eq_false fun w => z (List.cons.inj w).1, show decide ((c :: r).head? ≠ some 48) = true from decide_eq_true fun w => z (Option.some.inj w)]
                      rfl
                  refine ⟨rfl, ?_⟩
                  show Q (.bl (!decide (V.str (SX.S [c]) = V.str (SX.S [48])))) _
                  rw [dec_S, e4]
                  exact q
        · rw [decide_eq_false (show ¬ ((d.length : Nat) : Int) ≤ 60 by omega)]
          rw [decide_eq_false h2, Bool.false_and, Bool.false_and] at q
          exact iteT q
      · rw [decide_eq_false (show ¬ (1 : Int) ≤ (d.length : Nat) by omega)]
        rw [decide_eq_false h1, Bool.false_and, Bool.false_and, Bool.false_and] at q
        exact iteF ⟨_, rfl, iteT q⟩
end
end K17

namespace K17
open PySem PySem.Spec PyProof.Rows L2
/-- what the top has written of BadText -/
structure TxT (K : PySem.W.Frag) (mg : Str → Option Value) (C fI : Addr) : Prop where
  oex : OexC K C
  mgC : mg "BadText" = some (.ref C)
  no1 : PySem.W.findIn K (.ref C) "line" = some none
  no2 : PySem.W.findIn K (.ref C) "item" = some none
  iC : PySem.W.findIn K (.ref C) "__init__" = some (some (.ref fI))
  tI : PySem.W.typeIn K (.ref fI) = some (.type "function")
/-- the fields of a text that cannot stand -/
def bt (i : Nat) : List (Str × V) := [("item", .int (i : Nat)), ("line", .int 0)]
abbrev iV (a : Cd) : V := .str (SX.S a)
/-- items at b -/
structure Itm (H : Hp) (b : Addr) (its : Its) : Prop where
  at_ : H b = some (.lst (its.map iV))
  len : ∀ a ∈ its, a.length ≤ 16000000
  few : its.length ≤ 16000000
theorem Itm.same {H H' : Hp} {b : Addr} {its : Its} (h : Itm H b its) (s : Same H H') : Itm H' b its := ⟨s _ _ h.1, h.2, h.3⟩
theorem spl_le : ∀ (l acc : Cd), (TL.spl [32] 0 acc l).length ≤ l.length + 1 ∧ ∀ x ∈ TL.spl [32] 0 acc l, x.length ≤ acc.length + l.length
  | [], acc => by
    rw [TL.spl_nil]
    exact ⟨Nat.le_refl _, fun x hx => by rw [List.mem_singleton.mp hx]; exact Nat.le_refl _⟩
  | c :: r, acc => by
    by_cases h : c = 32
    · rw [TL.spl_hit (by rw [pre_one, decide_eq_true h])]
      obtain ⟨i1, i2⟩ := spl_le r []
      refine ⟨by simp only [List.length_cons]; exact Nat.succ_le_succ i1, fun x hx => ?_⟩
      rcases List.mem_cons.mp hx with z | z
      · rw [z]
        omega
      · have := i2 x z
        simp only [List.length_cons, List.length_nil] at this ⊢
        omega
    · rw [TL.spl_miss (by rw [pre_one, decide_eq_false h])]
      obtain ⟨i1, i2⟩ := spl_le r (acc ++ [c])
      refine ⟨Nat.le_trans i1 (by simp only [List.length_cons]; omega), fun x hx => ?_⟩
      have := i2 x hx
      simp only [List.length_append, List.length_cons, List.length_nil] at this ⊢
      omega
theorem it_get {its : Its} {i : Nat} {a : Cd} (h : its[i]? = some a) : (its.map iV)[i]? = some (iV a) := by rw [List.getElem?_map, h]; rfl
section
variable {P : Program} {w : World} {K : PySem.W.Frag} {mg : Str → Option Value} {base : Heap} {C fT : Addr}
abbrev sTX : Stmt := inClass (top 11) 0
theorem scTX : FnScope ["self", "line", "item"] ["self", "line", "item"] (defScope sTX) := ⟨rfl, rfl, rfl, by decide +kernel, rfl, by decide +kernel, by decide +kernel⟩
theorem ok_tx {f : Addr} {fd : FuncData} (F : Fun K "__init__" "BadText.__init__" sTX f fd) : FnOk P w K mg base CX0 1 f fd ["self", "line", "item"] (spIn2 K "line" "item") := by
  refine F.ok scTX (fun vs H Q E h => ?_) (fun cdv A outer s H vs Q E hr h => ?_)
  · obtain ⟨a, C, v, u, rfl, _⟩ := h
    rfl
  · obtain ⟨a, C, v, u, rfl, T, no1, no2, ha, q⟩ := h
    refine ⟨_, pss_cons (ps_ost (pv 0) (pv 1)) (pss_one (ps_ost (pv 0) (pv 2))), _, rfl, _, rfl, a, C, rfl, T, no1, .inl ⟨ha, fun dx n ne => ?_⟩⟩
    exact ⟨_, rfl, _, rfl, a, C, rfl, T, no2, .inr ⟨dx, _, upd_same, by rw [upd_ne ne]; exact upd_same, (by show 1 ≤ 900; decide), two_fields q dx n ne⟩⟩
/-! ### items_of -/
def spIof (K : PySem.W.Frag) (C : Addr) : Sp := fun vs H Q E => ∃ v, vs = [v] ∧
  ((∃ t, TyX K H v t ∧ PySem.W.kitOne K t (.type "str") = some false ∧ RzF C (bt 0) H E) ∨
   (∃ a : Cd, v = .str (SX.S a) ∧ a.length ≤ 8000000 ∧ ∀ p H', Same H H' → H p = none → Itm H' p (TL.spl [32] 0 [] a) → Q (.ref p) H'))
abbrev sIof : Stmt := top 30
theorem scIof : FnScope ["text"] ["text"] (defScope sIof) := ⟨rfl, rfl, rfl, by decide +kernel, rfl, by decide +kernel, by decide +kernel⟩
theorem ok_iof {f : Addr} {fd fdT : FuncData} (F : Fun K "items_of" "items_of" sIof f fd) (B : Bn mg) (TT : TxT K mg C fT) (FT : Fun K "__init__" "BadText.__init__" sTX fT fdT) : FnOk P w K mg base (L2.CX P w) 3 f fd ["text"] (spIof K C) := by
  have GT : FnOk P w K mg base CX0 1 fT fdT ["self", "line", "item"] (spIn2 K "line" "item") := ok_tx FT
  have bT : Binds K fdT ["self", "line", "item"] [] := FT.binds (ps := ["self", "line", "item"]) fun _ _ _ _ _ _ us hl => match us, hl with | [_, _, _], _ => rfl
  have nd := scIof.nd
  refine F.okX scIof (fun vs H Q E h => ?_) (fun cdv A outer s H vs Q E hr h => ?_)
  · obtain ⟨v, rfl, _⟩ := h
    rfl
  · obtain ⟨v, rfl, h⟩ := h
    refine ⟨_, (pss_cons (ps_if (pt_not (pt_val (pe_callB (r := rIsi K) call_isi (by rfl) B.isinstance boot_isinstance (pa_cons (pv 0) (pa_cons (pe_bltn (v := .ty "str") (by rfl) B.str (by decide +kernel) rfl) pa_nil))))) (pss_one (ps_raise rfl (takes_of rfl rfl rfl rfl) (pmk_oex TT.oex TT.iC TT.tI GT (hr.mono (by decide)) bT .nil pass0 rfl TT.mgC (pa_cons (pe_int) (pa_cons (pe_int) pa_nil))))) pss_nil) (pss_one (ps_ret (pe_split (pv 0) pe_str)))), ?_⟩
    have e32 : PySem.Str.ofString " " = SX.S [32] := str_S rfl
    rcases h with ⟨t, ty, kk, r⟩ | ⟨a, rfl, ha, q⟩
    · refine ⟨_, rfl, _, _, _, _, false, rfl, .ty _, ty, kk, _, rfl, ?_⟩
      refine iteT ⟨by show 2 ≤ 1000; decide, fun e na => ?_⟩
      refine ⟨e, C, _, _, rfl, TT.oex, TT.no1, TT.no2, upd_same, fun H4 k ⟨d, nd, ne, h1, h2⟩ => ⟨rfl, d, _, h1, h2, ?_, rzf_of (r) na k nd ne⟩⟩
      rw [upd_ne ne] at nd
      exact nd
    · refine ⟨_, rfl, _, _, _, _, true, rfl, .ty _, .base (.str _), by first | kernel_rfl | k_is | rfl, _, rfl, iteF ?_⟩
      have hs : Txt.split (SX.S a) (PySem.Str.ofString " ") = (TL.spl [32] 0 [] a).map SX.S := by
        rw [e32]
        exact SX.split_S (by decide) (by decide)
      refine ⟨_, rfl, ⟨_, rfl⟩, _, _, rfl, rfl, rfl, ?_, fun p hp => ?_⟩
      · rw [SX.S_len]
        show a.length + 2 ≤ 2 ^ 24
        omega
      · rw [hs, List.map_map]
        refine q p _ (same_new hp) hp ⟨upd_same, fun x hx => ?_, ?_⟩
        · have := (spl_le a []).2 x hx
          have e0 : ([] : Cd).length = 0 := rfl
          omega
        · have := (spl_le a []).1
          omega
/-! ### number_at -/
def spNa (C : Addr) : Sp := fun vs H Q E => ∃ (b : Addr) (its : Its) (i : Nat), vs = [.ref b, .int i, .int (-G9), .int G9] ∧ Itm H b its ∧ i ≤ 100000000 ∧ (∀ x, nAt its i = some x → Q (.int x) H) ∧ (nAt its i = none → RzF C (bt i) H E)
abbrev sNa : Stmt := top 32
abbrev nNa : List Str := ["items", "at", "least", "most", "number"]
theorem scNa : FnScope nNa ["items", "at", "least", "most"] (defScope sNa) := ⟨rfl, rfl, rfl, by decide +kernel, rfl, by decide +kernel, by decide +kernel⟩
theorem ok_na {f : Addr} {fd fdT : FuncData} (F : Fun K "number_at" "number_at" sNa f fd) (B : Bn mg) (TT : TxT K mg C fT) (FT : Fun K "__init__" "BadText.__init__" sTX fT fdT) (C1 : Callee P w K mg base CX0 1 "_is_written" ["item"] spWr) (C2 : Callee P w K mg base CX0 2 "is_within" ["value", "least", "most"] (spWithin K)) : FnOk P w K mg base (L2.CX P w) 3 f fd ["items", "at", "least", "most"] (spNa C) := by
  have GT : FnOk P w K mg base CX0 1 fT fdT ["self", "line", "item"] (spIn2 K "line" "item") := ok_tx FT
  have bT : Binds K fdT ["self", "line", "item"] [] := FT.binds (ps := ["self", "line", "item"]) fun _ _ _ _ _ _ us hl => match us, hl with | [_, _, _], _ => rfl
  obtain ⟨f1, fd1, m1, k1, b1, G1⟩ := C1
  obtain ⟨f2, fd2, m2, k2, b2, G2⟩ := C2
  have nd := scNa.nd
  refine F.okX scNa (fun vs H Q E h => ?_) (fun cdv A outer s H vs Q E hr h => ?_)
  · obtain ⟨b, its, i, rfl, _⟩ := h
    rfl
  · obtain ⟨b, its, i, rfl, hI, hi, qy, qn⟩ := h
    refine ⟨_, (pss_cons (ps_if (PW.pt (pw_or (pt_cmpR op_ge (pv 1) (pe_callB call_len_seq (by rfl) B.len PySem.boot_len (pa_cons (pv 0) pa_nil)) (nomark _)) (pw_or1 (pt_not (pt_val (pe_call G1 (hr.mono (by decide)) rfl m1 k1 b1 .nil pass0 (pa_cons ((pe_ix ix_list (pv 0) (pv 1) (fun _ _ => rfl))) pa_nil))))))) (pss_one (ps_raise rfl (takes_of rfl rfl rfl rfl) (pmk_oex TT.oex TT.iC TT.tI GT (hr.mono (by decide)) bT .nil pass0 rfl TT.mgC (pa_cons (pe_int) (pa_cons (pv 1) pa_nil))))) pss_nil) (pss_cons ((ps_set (i := 4) nd rfl (Or.inl rfl) (pe_callTy call_int_str (by rfl) B.int boot_int (pa_cons ((pe_ix ix_list (pv 0) (pv 1) (fun _ _ => rfl))) pa_nil)))) (pss_cons (ps_if (pt_not (pt_val (pe_call G2 (hr.mono (by decide)) rfl m2 k2 b2 .nil pass0 (pa_cons (pv 4) (pa_cons (pv 2) (pa_cons (pv 3) pa_nil)))))) (pss_one (ps_raise rfl (takes_of rfl rfl rfl rfl) (pmk_oex TT.oex TT.iC TT.tI GT (hr.mono (by decide)) bT .nil pass0 rfl TT.mgC (pa_cons (pe_int) (pa_cons (pv 1) pa_nil))))) pss_nil) (pss_one (ps_ret (pv 4)))))), ?_⟩
    have hb := hI.at_
    refine ⟨_, rfl, _, rfl, b, _, rfl, .inl (SqL.of hb), _, _, rfl, rfl, _, rfl, ?_⟩
    rw [List.length_map]
    by_cases hlt : i < its.length
    · rw [decide_eq_false (show ¬ (((its.length : Nat) : Int) ≤ (i : Nat)) by omega)]
      obtain ⟨a, ea⟩ : ∃ a, its[i]? = some a := ⟨_, List.getElem?_eq_getElem hlt⟩
      have la := hI.len a (List.mem_of_getElem? ea)
      have en : nAt its i = num a := by
        unfold nAt
        rw [ea]
        rfl
      rw [en] at qy qn
      refine iteF ?_
      refine ⟨_, rfl, _, rfl, b, _, (i : Nat), iV a, rfl, rfl, SqL.of hb, atI_nat (it_get ea), a, rfl, ?_, _, rfl, ?_⟩
      · show a.length ≤ 2 ^ 24
        omega
      cases hw : wrt a with
      | false =>
        have r := qn (by unfold num; rw [hw]; rfl)
        refine iteT ⟨_, rfl, by show 2 ≤ 1000; decide, fun e na => ?_⟩
        refine ⟨e, C, _, _, rfl, TT.oex, TT.no1, TT.no2, upd_same, fun H4 k ⟨d, nd, ne, h1, h2⟩ => ⟨rfl, d, _, h1, h2, ?_, rzf_of (r) na k nd ne⟩⟩
        rw [upd_ne ne] at nd
        exact nd
      | true =>
        obtain ⟨iv, il⟩ := int_wr (wr_of hw)
        refine iteF ?_
        refine ⟨_, rfl, _, rfl, b, _, (i : Nat), iV a, rfl, rfl, SqL.of hb, atI_nat (it_get ea), _, _, rfl, iv, il, ?_⟩
        refine ⟨_, rfl, _, rfl, _, rfl, .int (vlu a), false, -G9, G9, rfl, .int _, _, rfl, ?_⟩
        have ew : within (.int (vlu a)) (-G9) G9 = (decide (-G9 ≤ vlu a) && decide (vlu a ≤ G9)) := rfl
        rw [ew]
        cases hg : (decide (-G9 ≤ vlu a) && decide (vlu a ≤ G9)) with
        | false =>
          have r := qn (by unfold num; rw [hw, Bool.true_and, hg]; rfl)
          refine iteT ⟨_, rfl, by show 2 ≤ 1000; decide, fun e na => ?_⟩
          refine ⟨e, C, _, _, rfl, TT.oex, TT.no1, TT.no2, upd_same, fun H4 k ⟨d, nd, ne, h1, h2⟩ => ⟨rfl, d, _, h1, h2, ?_, rzf_of (r) na k nd ne⟩⟩
          rw [upd_ne ne] at nd
          exact nd
        | true =>
          exact iteF ⟨_, rfl, qy _ (by unfold num; rw [hw, Bool.true_and, hg]; rfl)⟩
    · rw [decide_eq_true (show ((its.length : Nat) : Int) ≤ (i : Nat) by omega)]
      have r := qn (by unfold nAt; rw [List.getElem?_eq_none (by omega)]; rfl)
      refine iteT ⟨_, rfl, by show 2 ≤ 1000; decide, fun e na => ?_⟩
      refine ⟨e, C, _, _, rfl, TT.oex, TT.no1, TT.no2, upd_same, fun H4 k ⟨d, nd, ne, h1, h2⟩ => ⟨rfl, d, _, h1, h2, ?_, rzf_of (r) na k nd ne⟩⟩
      rw [upd_ne ne] at nd
      exact nd
/-! ### _ends_at -/
def spEn : Sp := fun vs H Q _ => ∃ (b e : Addr) (its ends : Its) (i : Nat), vs = [.ref b, .int i, .ref e] ∧ Itm H b its ∧ H e = some (.tup (ends.map iV)) ∧ i ≤ its.length ∧ Q (.bl (fin its ends i)) H
abbrev sEn : Stmt := top 33
theorem scEn : FnScope ["items", "at", "ends"] ["items", "at", "ends"] (defScope sEn) := ⟨rfl, rfl, rfl, by decide +kernel, rfl, by decide +kernel, by decide +kernel⟩
theorem ok_en {f : Addr} {fd : FuncData} (F : Fun K "_ends_at" "_ends_at" sEn f fd) (B : Bn mg) : FnOk P w K mg base CX0 1 f fd ["items", "at", "ends"] spEn := by
  refine F.ok scEn (fun vs H Q E h => ?_) (fun cdv A outer s H vs Q E hr h => ?_)
  · obtain ⟨b, e, its, ends, i, rfl, _⟩ := h
    rfl
  · obtain ⟨b, e, its, ends, i, rfl, hI, he, hi, q⟩ := h
    refine ⟨_, pss_one (ps_ret (pe_or (pe_cmpR op_eq (pv 1) (pe_callB call_len_seq (by rfl) B.len PySem.boot_len (pa_cons (pv 0) pa_nil)) (nomark _)) (pe_one (pe_cmpR op_in_seq (pe_ix ix_list (pv 0) (pv 1) (fun _ _ => rfl)) (pv 2) rfl)))), ?_⟩
    have hb := hI.at_
    refine ⟨_, rfl, _, rfl, b, _, rfl, .inl (SqL.of hb), rfl, _, rfl, ?_⟩
    rw [List.length_map]
    unfold fin at q
    by_cases hlt : i = its.length
    · rw [decide_eq_true (show V.int ((i : Nat) : Int) = V.int ((its.length : Nat) : Int) by rw [hlt])]
      rw [decide_eq_true hlt, Bool.true_or] at q
      exact iteT q
    · rw [decide_eq_false (show ¬ V.int ((i : Nat) : Int) = V.int ((its.length : Nat) : Int) from fun z => hlt (by have := V.int.inj z; omega))]
      rw [decide_eq_false hlt, Bool.false_or] at q
      obtain ⟨a, ea⟩ : ∃ a, its[i]? = some a := ⟨_, List.getElem?_eq_getElem (by omega)⟩
      rw [ea] at q
      refine iteF ⟨_, rfl, _, rfl, b, _, (i : Nat), iV a, rfl, rfl, SqL.of hb, atI_nat (it_get ea), _, rfl, e, _, rfl, .inr (SqT.of he), rfl, ?_, ?_⟩
      · rw [List.all_map]
        exact List.all_eq_true.mpr fun _ _ => rfl
      · show Q (.bl (inV (iV a) (ends.map iV))) H
        have : inV (iV a) (ends.map iV) = decide (a ∈ ends) := by
          unfold inV
          rw [List.any_map]
          clear q he
          induction ends with
          | nil => rfl
          | cons x xs ih =>
            rw [List.any_cons, ih]
            have e5 : ((fun y => eqV y (iV a)) ∘ iV) x = decide (a = x) := by
              show (SX.S x == SX.S a) = _
              rw [SX.S_beq_eq]
              by_cases z : a = x
              · rw [decide_eq_true z, decide_eq_true z.symm]
              · rw [decide_eq_false z, decide_eq_false fun y => z y.symm]
            rw [e5]
            by_cases z : a = x
            · simp [z]
            · simp [z]
        rw [this]
        exact q
/-! ### _behind_slash -/
def spBs (C : Addr) : Sp := fun vs H Q E => ∃ (b : Addr) (its : Its) (i : Nat) (c : Bool), vs = [.ref b, .int i, .bl c] ∧ Itm H b its ∧ i ≤ its.length ∧ (c = true → more its i = true → Q (.int (i + 1 : Nat)) H) ∧ (¬ (c = true ∧ more its i = true) → RzF C (bt i) H E)
abbrev sBs : Stmt := top 35
theorem scBs : FnScope ["items", "at", "can_stand"] ["items", "at", "can_stand"] (defScope sBs) := ⟨rfl, rfl, rfl, by decide +kernel, rfl, by decide +kernel, by decide +kernel⟩
theorem ok_bs {f : Addr} {fd fdT : FuncData} (F : Fun K "_behind_slash" "_behind_slash" sBs f fd) (B : Bn mg) (TT : TxT K mg C fT) (FT : Fun K "__init__" "BadText.__init__" sTX fT fdT) : FnOk P w K mg base (L2.CX P w) 3 f fd ["items", "at", "can_stand"] (spBs C) := by
  have GT : FnOk P w K mg base CX0 1 fT fdT ["self", "line", "item"] (spIn2 K "line" "item") := ok_tx FT
  have bT : Binds K fdT ["self", "line", "item"] [] := FT.binds (ps := ["self", "line", "item"]) fun _ _ _ _ _ _ us hl => match us, hl with | [_, _, _], _ => rfl
  refine F.okX scBs (fun vs H Q E h => ?_) (fun cdv A outer s H vs Q E hr h => ?_)
  · obtain ⟨b, its, i, c, rfl, _⟩ := h
    rfl
  · obtain ⟨b, its, i, c, rfl, hI, hi, qy, qn⟩ := h
    refine ⟨_, (pss_cons (ps_if (PW.pt (pw_or (pt_not (pt_val (pv 2))) (pw_or (pt_cmpR op_eq (pv 1) (pe_callB call_len_seq (by rfl) B.len PySem.boot_len (pa_cons (pv 0) pa_nil)) (nomark _)) (pw_or1 (pt_cmpR op_ne (pe_ix ix_list (pv 0) (pv 1) (fun _ _ => rfl)) pe_str (nomark _)))))) (pss_one (ps_raise rfl (takes_of rfl rfl rfl rfl) (pmk_oex TT.oex TT.iC TT.tI GT (hr.mono (by decide)) bT .nil pass0 rfl TT.mgC (pa_cons (pe_int) (pa_cons (pv 1) pa_nil))))) pss_nil) (pss_one (ps_ret (pe_op op_add (pv 1) pe_int)))), ?_⟩
    have hb := hI.at_
    have e47 : PySem.Str.ofString "/" = SX.S [47] := str_S rfl
    cases c with
    | false =>
      have r := qn fun z => by cases z.1
      refine ⟨_, rfl, _, rfl, ?_⟩
      refine iteT ⟨_, rfl, by show 2 ≤ 1000; decide, fun e na => ?_⟩
      refine ⟨e, C, _, _, rfl, TT.oex, TT.no1, TT.no2, upd_same, fun H4 k ⟨d, nd, ne, h1, h2⟩ => ⟨rfl, d, _, h1, h2, ?_, rzf_of (r) na k nd ne⟩⟩
      rw [upd_ne ne] at nd
      exact nd
    | true =>
      refine ⟨_, rfl, _, rfl, iteF ?_⟩
      refine ⟨_, rfl, _, rfl, b, _, rfl, .inl (SqL.of hb), rfl, _, rfl, ?_⟩
      rw [List.length_map]
      by_cases hlt : i = its.length
      · rw [decide_eq_true (show V.int ((i : Nat) : Int) = V.int ((its.length : Nat) : Int) by rw [hlt])]
        have r := qn fun z => by
          have := more_at z.2
          rw [List.getElem?_eq_none (by omega)] at this
          cases this
        refine iteT ⟨_, rfl, by show 2 ≤ 1000; decide, fun e na => ?_⟩
        refine ⟨e, C, _, _, rfl, TT.oex, TT.no1, TT.no2, upd_same, fun H4 k ⟨d, nd, ne, h1, h2⟩ => ⟨rfl, d, _, h1, h2, ?_, rzf_of (r) na k nd ne⟩⟩
        rw [upd_ne ne] at nd
        exact nd
      · rw [decide_eq_false (show ¬ V.int ((i : Nat) : Int) = V.int ((its.length : Nat) : Int) from fun z => hlt (by have := V.int.inj z; omega))]
        obtain ⟨a, ea⟩ : ∃ a, its[i]? = some a := ⟨_, List.getElem?_eq_getElem (by omega)⟩
        refine iteF ⟨_, rfl, _, rfl, b, _, (i : Nat), iV a, rfl, rfl, SqL.of hb, atI_nat (it_get ea), rfl, _, rfl, ?_⟩
        rw [e47, dec_S]
        by_cases hs : a = [47]
        · rw [decide_eq_true hs]
          refine iteF ⟨_, rfl, _, _, rfl, rfl, ?_⟩
          have e1 : ((i : Nat) : Int) + 1 = ((i + 1 : Nat) : Int) := by omega
          show Q (.int (((i : Nat) : Int) + 1)) H
          rw [e1]
          exact qy rfl (decide_eq_true (by rw [ea, hs]))
        · rw [decide_eq_false hs]
          have r := qn fun z => hs (by
            have := more_at z.2
            rw [ea] at this
            exact Option.some.inj this)
          refine iteT ⟨_, rfl, by show 2 ≤ 1000; decide, fun e na => ?_⟩
          refine ⟨e, C, _, _, rfl, TT.oex, TT.no1, TT.no2, upd_same, fun H4 k ⟨d, nd, ne, h1, h2⟩ => ⟨rfl, d, _, h1, h2, ?_, rzf_of (r) na k nd ne⟩⟩
          rw [upd_ne ne] at nd
          exact nd
end
end K17

namespace K17
open PySem PySem.Spec PyProof.Rows L2
theorem tt_key {t : TT} {σ : L2.St} {H : Hp} {Q : Bool → Hp → Prop} (v : Bool) (h : ∀ Q : Bool → Hp → Prop, Q v H → t σ H Q) (k : Q v H) : t σ H Q := h Q k
section
variable {P : Program} {w : World} {K : PySem.W.Frag} {mg : Str → Option Value} {base : Heap} {C fT : Addr}
/-- a list of pairs, new here -/
def LPn (H H' : Hp) (d : Addr) (l : PS) : Prop := ∃ ts, LP H' d ts l
def spPl (C : Addr) : Sp := fun vs H Q E => ∃ (b e : Addr) (its ends : Its) (i few most : Nat), vs = [.ref b, .int i, .int few, .int most, .ref e] ∧ Itm H b its ∧ H e = some (.tup (ends.map iV)) ∧ i ≤ its.length ∧ 1 ≤ few ∧ few ≤ most ∧ most ≤ 7 ∧ slC ∉ ends ∧
  (∀ j, conv its ends (lp its few most (its.length + 1) i []) = .inl j → RzF C (bt j) H E) ∧
  (∀ l j, conv its ends (lp its few most (its.length + 1) i []) = .inr (l, j) → ∀ H' t d, Same H H' → LPn H H' d l → H' t = some (.tup [.ref d, .int (j : Nat)]) → Q (.ref t) H')
abbrev sPl : Stmt := top 34
abbrev nPl : List Str := ["items", "at", "fewest", "most", "ends", "places"]
theorem scPl : FnScope nPl ["items", "at", "fewest", "most", "ends"] (defScope sPl) := ⟨rfl, rfl, rfl, by decide +kernel, rfl, by decide +kernel, by decide +kernel⟩
theorem ok_pl {f : Addr} {fd : FuncData} (F : Fun K "places_at" "places_at" sPl f fd) (B : Bn mg) (L : ∃ t, mg "LIMIT" = some (.int 1000000000 t)) (C1 : Callee P w K mg base CX0 1 "_ends_at" ["items", "at", "ends"] spEn) (C2 : Callee P w K mg base (L2.CX P w) 3 "_behind_slash" ["items", "at", "can_stand"] (spBs C)) (C3 : Callee P w K mg base (L2.CX P w) 3 "number_at" ["items", "at", "least", "most"] (spNa C)) :
    FnOk P w K mg base (L2.CX P w) 4 f fd ["items", "at", "fewest", "most", "ends"] (spPl C) := by
  obtain ⟨f1, fd1, m1, k1, b1, G1⟩ := C1
  obtain ⟨f2, fd2, m2, k2, b2, G2⟩ := C2
  obtain ⟨f3, fd3, m3, k3, b3, G3⟩ := C3
  obtain ⟨tL, mL⟩ := L
  have nd := scPl.nd
  refine F.okX scPl (fun vs H Q E h => ?_) (fun cdv A outer s H vs Q E hr h => ?_)
  · obtain ⟨b, e, its, ends, i, few, most, rfl, _⟩ := h
    rfl
  · obtain ⟨b, e, its, ends, i, few, most, rfl, hI, he, hi, h1, fm, m7, ne, rn, qy⟩ := h
    refine ⟨_, (pss_cons ((ps_set (i := 5) nd rfl (Or.inl rfl) (pe_lst pa_nil))) (pss_cons (ps_while (passes_of rfl) (PW.pt (pw_or (pt_cmpR op_lt (pe_callB call_len_seq (by rfl) B.len PySem.boot_len (pa_cons (pv 5) pa_nil)) (pv 2) (nomark _)) (pw_or1 (pt_not (pt_val (pe_call G1 (hr.mono (by decide)) rfl m1 k1 b1 .nil pass0 (pa_cons (pv 0) (pa_cons (pv 1) (pa_cons (pv 4) pa_nil)))))))))
        (pss_cons (ps_if (pt_truth (pv 5) (fun _ => rfl)) (pss_one (ps_set (i := 1) nd rfl (Or.inl rfl) ((pe_callS (E := fun _ => E) G2 (hr.mono (by decide)) rfl m2 k2 b2 (fun σ => passAt (takes_of rfl rfl rfl rfl) σ) (pa_cons (pv 0) (pa_cons (pv 1) (pa_cons (pe_cmpR op_lt (pe_callB call_len_seq (by rfl) B.len PySem.boot_len (pa_cons (pv 5) pa_nil)) (pv 3) (nomark _)) pa_nil))))))) pss_nil) (pss_cons (ps_expr (pe_bm PySem.F.plainAttrs_list PySem.F.slot_list_append PySem.F.type_list_append mt_append (pv 5) (pa_cons ((pe_tup (pa_cons ((pe_callS (E := fun _ => E) G3 (hr.mono (by decide)) rfl m3 k3 b3 (fun σ => passAt (takes_of rfl rfl rfl rfl) σ) (pa_cons (pv 0) (pa_cons (pv 1) (pa_cons (pe_un un_neg (pe_glob (v := .int 1000000000) rfl mL ⟨_, rfl⟩)) (pa_cons (pe_glob (v := .int 1000000000) rfl mL ⟨_, rfl⟩) pa_nil)))))) (pa_cons ((pe_callS (E := fun _ => E) G3 (hr.mono (by decide)) rfl m3 k3 b3 (fun σ => passAt (takes_of rfl rfl rfl rfl) σ) (pa_cons (pv 0) (pa_cons (pe_op op_add (pv 1) pe_int) (pa_cons (pe_un un_neg (pe_glob (v := .int 1000000000) rfl mL ⟨_, rfl⟩)) (pa_cons (pe_glob (v := .int 1000000000) rfl mL ⟨_, rfl⟩) pa_nil)))))) pa_nil)))) pa_nil))) (pss_one (ps_aug (i := 1) nd rfl (Or.inl rfl) pe_int ip_add))))) (pss_one (ps_ret (pe_tup (pa_cons (pv 5) (pa_cons (pv 1) pa_nil))))))), ?_⟩
    have h0 : V.int (-G9) = V.int (-1000000000) := rfl
    refine ⟨by show 0 ≤ sizeLine; decide, fun d nd0 => ?_⟩
    generalize hR : conv its ends (lp its few most (its.length + 1) i []) = R at rn qy
    refine ⟨fun m σ H' => ∃ (i f : Nat) (acc : PS) (ts : List Addr), m = its.length - i ∧ σ = [some (.ref b), some (.int (i : Nat)), some (.int (few : Nat)), some (.int (most : Nat)), some (.ref e), some (.ref d)] ∧ Same H H' ∧ LP H' d ts acc ∧ i ≤ its.length ∧ its.length ≤ i + f ∧ acc.length ≤ most ∧ conv its ends (if acc = [] then lp its few most f i acc else lpM its few most f i acc) = R,
      ⟨_, i, its.length + 1, [], [], rfl, rfl, same_new nd0, ⟨upd_same, .nil⟩, hi, by omega, by show 0 ≤ most; omega, by rw [if_pos rfl]; exact hR⟩, ?_⟩
    clear hi hR
    rintro _ _ H1 ⟨i, f, acc, ts, rfl, rfl, s1, hd, hi, hf, hl, hR⟩
    have hI1 := hI.same s1
    have he1 := s1 _ _ he
    have hts := hd.len
    refine tt_key (decide (acc.length < few) || !fin its ends i) (fun Q q => ?_) ?_
    · refine ⟨_, rfl, d, _, rfl, .inl (SqL.of hd.1), _, rfl, _, _, rfl, rfl, _, rfl, ?_⟩
      rw [List.length_map, hts]
      by_cases hl2 : acc.length < few
      · rw [decide_eq_true (show ((acc.length : Nat) : Int) < (few : Nat) by omega)]
        rw [decide_eq_true hl2, Bool.true_or] at q
        exact iteT q
      · rw [decide_eq_false (show ¬ ((acc.length : Nat) : Int) < (few : Nat) by omega)]
        rw [decide_eq_false hl2, Bool.false_or] at q
        exact iteF ⟨_, rfl, _, rfl, _, rfl, b, e, its, ends, i, rfl, hI1, he1, hi, _, rfl, q⟩
    · by_cases ht : acc.length < few ∨ fin its ends i = false
      · have htt : (decide (acc.length < few) || !fin its ends i) = true := by
          rcases ht with z | z
          · rw [decide_eq_true z]; rfl
          · rw [z]; simp
        rw [htt]
        refine iteT ⟨_, fun _ _ z => z, ?_⟩
        refine if_join (P := fun σ' H' => ∃ i' : Nat, σ' = [some (.ref b), some (.int (i' : Nat)), some (.int (few : Nat)), some (.int (most : Nat)), some (.ref e), some (.ref d)] ∧ H' = H1 ∧ i ≤ i' ∧ i' ≤ its.length ∧ its.length ≤ i' + f ∧ acc.length < most ∧ conv its ends (lp its few most f i' acc) = R) (fun σ' H' hp => ?_) (fun rest => ?_)
        · obtain ⟨i', rfl, rfl, hi1, hi2, hf2, hlm, hR2⟩ := hp
          refine ⟨_, rfl, .inl ⟨rfl, _, SqL.of hd.1⟩, _, rfl, _, rfl, _, rfl, b, its, i', rfl, hI1, by have := hI.few; omega, fun x ex => ?_, fun ex => ?_⟩
          · obtain ⟨f, rfl⟩ : ∃ g, f = g + 1 := by
              cases f with
              | zero =>
                have l : i' < its.length := (List.getElem?_eq_some_iff.mp (nat_at ex).1).1
                omega
              | succ g => exact ⟨g, rfl⟩
            refine ⟨_, rfl, _, rfl, _, _, rfl, rfl, _, rfl, b, its, i' + 1, rfl, hI1, by have := hI.few; omega, fun y ey => ?_, fun ey => ?_⟩
            · have l2 : i' + 1 < its.length := (List.getElem?_eq_some_iff.mp (nat_at ey).1).1
              rw [lp_two ex ey] at hR2
              refine ⟨by show 2 ≤ sizeLine; decide, fun g hg => ?_⟩
              have sg := same_new (o := .tup [V.int x, V.int y]) hg
              have gg : upd H' g (.tup [V.int x, V.int y]) g = some (.tup [V.int x, V.int y]) := upd_same
              generalize upd H' g (.tup [V.int x, V.int y]) = H2 at sg gg ⊢
              have hd2 := hd.same sg
              refine ⟨d, _, _, rfl, rfl, hd2.1, ?_, ?_⟩
              · rw [List.length_map, hts]
                exact small1000 (by omega)
              · refine ⟨_, rfl, _, _, rfl, rfl, ?_⟩
                refine ⟨its.length - (i' + 2), by omega, i' + 2, f, acc ++ [(x, y)], ts ++ [g], rfl, rfl, fun z o ez => ?_, ⟨by rw [upd_same, List.map_append]; rfl, prs_upd hd2.1 (paired_snoc hd2.2 gg)⟩, by omega, by omega, by rw [List.length_append]; show acc.length + 1 ≤ most; omega, ?_⟩
                · rw [upd_ne (ne_of_none ez nd0)]
                  exact sg _ _ (s1 _ _ ez)
                · rw [if_neg (by simp)]
                  exact hR2
            · rw [lp_no1 ex ey] at hR2
              exact (rn _ hR2.symm).same s1
          · rw [lp_no ex] at hR2
            exact (rn _ hR2.symm).same s1
        · by_cases hne : acc = []
          · subst hne
            rw [if_pos rfl] at hR
            have ht0 : ts = [] := List.length_eq_zero_iff.mp hts
            refine ⟨_, rfl, false, .inl ⟨_, SqL.of hd.1, by rw [ht0]; rfl⟩, iteF ?_⟩
            exact rest _ _ ⟨i, rfl, rfl, Nat.le_refl _, hi, hf, by show 0 < most; omega, hR⟩
          · rw [if_neg hne] at hR
            have ht0 : (!(ts.map V.ref).isEmpty) = true := by
              cases ts with
              | nil => exact absurd (List.length_eq_zero_iff.mp hts.symm) hne
              | cons => rfl
            refine ⟨_, rfl, true, .inl ⟨_, SqL.of hd.1, ht0.symm⟩, iteT ?_⟩
            refine ⟨_, rfl, _, rfl, _, rfl, d, _, rfl, .inl (SqL.of hd.1), _, rfl, _, _, rfl, rfl, b, its, i, decide (acc.length < most), ?_, hI1, hi, fun hc hm => ?_, fun hn => ?_⟩
            · rw [List.length_map, hts]
              show [V.ref b, V.int (i : Nat), V.bl (decide (((acc.length : Nat) : Int) < (most : Nat)))] = _
              by_cases z : acc.length < most
              · rw [decide_eq_true z, decide_eq_true (show ((acc.length : Nat) : Int) < (most : Nat) by omega)]
              · rw [decide_eq_false z, decide_eq_false (show ¬ ((acc.length : Nat) : Int) < (most : Nat) by omega)]
            · have hlm := of_decide_eq_true hc
              have l2 : i < its.length := (List.getElem?_eq_some_iff.mp (more_at hm)).1
              rw [conv_go fm hlm hm] at hR
              exact rest _ _ ⟨i + 1, rfl, rfl, by omega, l2, by omega, hlm, hR⟩
            · rw [conv_stop fm hl (fun z => ?_) (fun z => hn ⟨decide_eq_true z.1, z.2⟩)] at hR
              · exact (rn _ hR.symm).same s1
              · rcases ht with w | w
                · omega
                · rw [w] at z
                  exact absurd z.2 (by decide)
      · have hff : ¬ acc.length < few ∧ fin its ends i = true := by
          refine ⟨fun z => ht (.inl z), ?_⟩
          cases e : fin its ends i with
          | true => rfl
          | false => exact absurd (.inr e) ht
        rw [decide_eq_false hff.1, hff.2]
        refine iteF ?_
        have hne : acc ≠ [] := fun z => by
          rw [z] at hff
          exact hff.1 (by show 0 < few; omega)
        rw [if_neg hne, conv_end ne (by omega) hff.2] at hR
        have q := qy acc i hR.symm
        refine ⟨_, rfl, _, rfl, by show 2 ≤ sizeLine; decide, fun t ht2 => ?_⟩
        have sg := same_new (o := .tup [V.ref d, V.int (i : Nat)]) ht2
        exact q _ t d (s1.trans sg) ⟨ts, hd.same sg⟩ upd_same
end
end K17

namespace K17
open PySem PySem.Spec PyProof.Rows L2
/-! ### C.m(..), m a static method -/
structure SMet (K : PySem.W.Frag) (C : Addr) (m : Str) (g : Addr) : Prop where
  rd : ClX.CRead K C (.type "type")
  at_ : ∃ p, PySem.W.findCls K (.ref C) (.type "type") m = some (.get (.builtin "staticmethod.__get__") (.ref p) .none (.ref C)) ∧ ∃ rest, PySem.W.recIn K p "staticmethod" = some (.ref g :: rest)
  kp : PySem.W.keepIn K (.ref g) = true
section
variable {X : Cx} {pins : List (Addr × Obj)} {σ : L2.St} {H : Hp} {s : Shared} {C g : Addr} {m : Str} {A : Around} {E : Value → Shared → Prop}
theorem getsm_ok {pl : Sem Bool} {Q : Value × List Value → Shared → Prop} (I : Inv X pins σ H s) (k : SMet X.K C m g) (h : ∀ s', Inv X pins σ H s' → Q (.ref g, []) s') : wpAny (model X.prog X.w) A (getMethod (.ref C) m pl) Q E s := by
  obtain ⟨p, ha, rest, hp⟩ := k.at_
  refine PySem.W.method_cls I.kIn k.rd.ga ?_
  refine PySem.W.cls_bind I.kIn k.rd.rd ha ?_
  exact wpAny_call (PySem.W.sm_get (s := { s with toks := s.toks + 1 }) I.kIn hp (PySem.W.handed_on rfl (h _ (I.tok _))))
end
def tSMeth (C : Addr) (sp : Sp) (E : XK) (ta : TE) (t : TA) : TE := fun σ H Q => ta σ H fun x H1 => x = .ref C ∧ t σ H1 fun vs H2 => sp vs H2 Q E
def tSMethK (C : Addr) (nk : Nat) (sp : Sp) (gV : List V → List V → List V) (E : XK) (ta : TE) (tk : TA) : TE := fun σ H Q => ta σ H fun x H1 => x = .ref C ∧ tk σ H1 fun zs H2 => zs.length = nk ∧ sp (gV [] zs) H2 Q E
section
variable {X : Cx} {CX : CXT} {k : Nat} {C f : Addr} {fd : FuncData} {ps ks : List Str} {sp : Sp} {E : XK} {o e : Expr} {es : List Expr} {kws : List Keyword} {m : Str} {pos apos : Pos} {ta : TE} {t tk : TA} {g : List Value → List Value → List Value} {gV : List V → List V → List V}
theorem pe_smeth {pl : Sem Bool} (he : PE X o ta) (c : SMet X.K C m f) (F : FnOk X.prog X.w X.K X.mg X.base CX k f fd ps sp) (hr : Room k X.A) (hb : Binds X.K fd ps []) (hx : Passes CX X E) (ha : PA X (e :: es) t)
    (hst : starEach (e :: es) X.env = (false, eval e X.env) :: starEach es X.env := by rfl) (hpl : (backTo pos (starEach es X.env)).any (·.1) = false := by rfl)
    (ht : eval (.Call (.Attribute o m apos) (e :: es) [] pos) X.env = (do
      let ov ← eval o X.env
      standAt apos.atName
      let (f, first) ← holding [ov] (getMethod ov m pl)
      callWith pos f first (backTo pos (starEach (e :: es) X.env)) (backToKw pos (keywordEach [] X.env))) := by rfl) :
    PE X (.Call (.Attribute o m apos) (e :: es) [] pos) (tSMeth C sp E ta t) := by
  refine ⟨fun pins s σ H Q I h => ?_⟩
  refine PySem.W.methodCall_KW (pl := pl) (thn (he.run pins s σ H _ I h) fun u s1 ⟨x, H1, I1, rx, ex, q⟩ => ?_) ht
  subst ex
  obtain rfl : u = Value.ref C := rx
  refine getsm_ok I1 c fun s2 I2 => ?_
  refine PySem.W.callWith_K (h₀ := X.base) I2.ok.mod.kin c.kp (thn (ha.run pos pins s2 σ H1 _ I2 q) fun us s3 ⟨vs, H2, I3, rv, q2⟩ => ⟨I3.kIn, ?_⟩) hst hpl
  exact run_fn F hr hb .nil hx I3 rv (by rw [List.append_nil]; exact q2)
theorem pe_smethS {Es : L2.St → XK} {pl : Sem Bool} (he : PE X o ta) (c : SMet X.K C m f) (F : FnOk X.prog X.w X.K X.mg X.base CX k f fd ps sp) (hr : Room k X.A) (hb : Binds X.K fd ps []) (hx : ∀ σ, PassesAt CX X σ (Es σ)) (ha : PA X (e :: es) t)
    (hst : starEach (e :: es) X.env = (false, eval e X.env) :: starEach es X.env := by rfl) (hpl : (backTo pos (starEach es X.env)).any (·.1) = false := by rfl)
    (ht : eval (.Call (.Attribute o m apos) (e :: es) [] pos) X.env = (do
      let ov ← eval o X.env
      standAt apos.atName
      let (f, first) ← holding [ov] (getMethod ov m pl)
      callWith pos f first (backTo pos (starEach (e :: es) X.env)) (backToKw pos (keywordEach [] X.env))) := by rfl) :
    PE X (.Call (.Attribute o m apos) (e :: es) [] pos) (fun σ H Q => ta σ H fun x H1 => x = .ref C ∧ t σ H1 fun vs H2 => sp vs H2 Q (Es σ)) := by
  refine ⟨fun pins s σ H Q I h => ?_⟩
  refine PySem.W.methodCall_KW (pl := pl) (thn (he.run pins s σ H _ I h) fun u s1 ⟨x, H1, I1, rx, ex, q⟩ => ?_) ht
  subst ex
  obtain rfl : u = Value.ref C := rx
  refine getsm_ok I1 c fun s2 I2 => ?_
  refine PySem.W.callWith_K (h₀ := X.base) I2.ok.mod.kin c.kp (thn (ha.run pos pins s2 σ H1 _ I2 q) fun us s3 ⟨vs, H2, I3, rv, q2⟩ => ⟨I3.kIn, ?_⟩) hst hpl
  exact run_fnS F hr hb (hx σ) I3 rv q2
theorem pe_smethK {pl : Sem Bool} (he : PE X o ta) (c : SMet X.K C m f) (F : FnOk X.prog X.w X.K X.mg X.base CX k f fd ps sp) (hr : Room k X.A) (hb : KBn X.K fd ps 0 ks g gV) (hx : Passes CX X E) (hkw : PK X kws tk)
    (hall : (backToKw pos (keywordEach kws X.env)).all (·.1.isSome) = true := by rfl) (hks : (backToKw pos (keywordEach kws X.env)).filterMap (·.1) = ks := by rfl)
    (hpl : ((backTo pos (starEach [] X.env)).any (·.1) || (backToKw pos (keywordEach kws X.env)).any (·.1.isNone)) = false := by rfl)
    (ht : eval (.Call (.Attribute o m apos) [] kws pos) X.env = (do
      let ov ← eval o X.env
      standAt apos.atName
      let (f, first) ← holding [ov] (getMethod ov m pl)
      callWith pos f first (backTo pos (starEach [] X.env)) (backToKw pos (keywordEach kws X.env))) := by rfl) :
    PE X (.Call (.Attribute o m apos) [] kws pos) (tSMethK C ks.length sp gV E ta tk) := by
  refine ⟨fun pins s σ H Q I h => ?_⟩
  refine PySem.W.methodCall_KW (pl := pl) (thn (he.run pins s σ H _ I h) fun u s1 ⟨x, H1, I1, rx, ex, q⟩ => ?_) ht
  subst ex
  obtain rfl : u = Value.ref C := rx
  refine getsm_ok I1 c fun s2 I2 => ?_
  refine PySem.W.callWith_KW0 (h₀ := X.base) I2.ok.mod.kin c.kp hall ?_ hpl
  refine thn (hkw.run pos pins s2 σ H1 _ I2 q) fun ws s3 ⟨zs, H2, I3, rz, l2, q2⟩ => ⟨I3.kIn, ?_⟩
  rw [hks]
  exact run_fnN (us := []) (vs := []) F hr hb hx I3 .nil rz rfl l2 q2
end
end K17

namespace K17
open PySem PySem.Spec PyProof.Rows L2
section
variable {its ends : Its} {k f j : Nat} {told : List PS}
theorem la_stop (h : ¬ (its[j]? = some scC ∧ told.length < 8)) : la its k f j told = (j, some told) := by
  cases f with
  | zero => rfl
  | succ f =>
    unfold la
    rw [if_neg]
    intro z
    rw [Bool.and_eq_true, decide_eq_true_iff, decide_eq_true_iff] at z
    exact h z
theorem la_none {e : Nat} (h : its[j]? = some scC) (h8 : told.length < 8) (hl : lp its k k (its.length + 1) (j + 1) [] = (e, none)) : la its k (f + 1) j told = (e, none) := by
  unfold la
  rw [if_pos (by rw [decide_eq_true h, decide_eq_true h8]; rfl), hl]
theorem la_some {j' : Nat} {l : PS} (h : its[j]? = some scC) (h8 : told.length < 8) (hl : lp its k k (its.length + 1) (j + 1) [] = (j', some l)) : la its k (f + 1) j told = la its k f j' (told ++ [l]) := by
  conv => lhs; unfold la
  rw [if_pos (by rw [decide_eq_true h, decide_eq_true h8]; rfl), hl]
theorem conv_inr {few most i : Nat} {l : PS} (h : conv its ends (lp its few most f i []) = .inr (l, j)) : lp its few most f i [] = (j, some l) ∧ fin its ends j = true := by
  cases e : lp its few most f i [] with
  | mk a o =>
    rw [e] at h
    cases o with
    | none => cases h
    | some m =>
      unfold conv at h
      dsimp only at h
      split at h
      · rename_i hf
        cases h
        exact ⟨rfl, hf⟩
      · cases h
theorem ok_of_lp {few most i : Nat} {l : PS} (fm : few ≤ most) (h4 : 4 ≤ few) (h7 : most ≤ 7) (h : lp its few most f i [] = (j, some l)) : OkP l ∧ j ≤ its.length ∧ few ≤ l.length ∧ l.length ≤ most := by
  obtain ⟨m, e1, e2, e3, e4, e5, e6, e7⟩ := lp_ok fm _ _ _ _ _ h (by show 0 < most; omega)
  have e1 : l = m := e1
  subst e1
  exact ⟨⟨by omega, by omega, e5⟩, e4, e6, e7⟩
theorem fin_nil (h : fin its [] j = true) : j = its.length := by
  unfold fin at h
  rw [Bool.or_eq_true, decide_eq_true_iff] at h
  rcases h with h | h
  · exact h
  · cases e : its[j]? with
    | none => rw [e] at h; cases h
    | some a => rw [e] at h; exact absurd (of_decide_eq_true h) List.not_mem_nil
theorem fin_sc (h : fin its [scC] j = true) : j = its.length ∨ its[j]? = some scC := by
  unfold fin at h
  rw [Bool.or_eq_true, decide_eq_true_iff] at h
  rcases h with h | h
  · exact .inl h
  · cases e : its[j]? with
    | none => rw [e] at h; cases h
    | some a =>
      rw [e] at h
      rw [List.mem_singleton.mp (of_decide_eq_true h)]
      exact .inr rfl
/-- the ends of a picture, so many told before -/
def endA (n : Nat) : Its := if n + 1 < 8 then [scC] else []
theorem end_ne (n : Nat) : slC ∉ endA n := by
  unfold endA
  split
  · decide
  · exact List.not_mem_nil
theorem fin_endA {n : Nat} (h : fin its (endA n) j = true) : j = its.length ∨ (its[j]? = some scC ∧ n + 1 < 8) := by
  unfold endA at h
  split at h
  · rename_i c
    exact (fin_sc h).imp id fun z => ⟨z, c⟩
  · exact .inl (fin_nil h)
theorem no_endA {n : Nat} (h : fin its (endA n) j = false) : j ≠ its.length ∧ ¬ (its[j]? = some scC ∧ n + 1 < 8) := by
  refine ⟨fun z => ?_, fun z => ?_⟩
  · unfold fin at h
    rw [decide_eq_true z] at h
    cases h
  · unfold fin endA at h
    rw [if_pos z.2, z.1, Bool.or_eq_false_iff] at h
    exact absurd h.2 (by decide)
/-- one picture more, refused -/
theorem alb_no {e : Nat} (h : its[j]? = some scC) (h8 : told.length < 8) (hc : conv its (endA told.length) (lp its k k (its.length + 1) (j + 1) []) = .inl e) : convA its (la its k (f + 1) j told) = .inl e := by
  cases q : lp its k k (its.length + 1) (j + 1) [] with
  | mk a o =>
    rw [q] at hc
    cases o with
    | none =>
      rw [la_none h h8 q]
      cases hc
      rfl
    | some l =>
      rw [la_some h h8 q]
      unfold conv at hc
      dsimp only at hc
      cases hf : fin its (endA told.length) a with
      | true =>
        rw [hf, if_pos rfl] at hc
        cases hc
      | false =>
        rw [hf] at hc
        cases hc
        obtain ⟨n1, n2⟩ := no_endA hf
        rw [la_stop fun z => n2 ⟨z.1, by have := z.2; rw [List.length_append] at this; exact this⟩]
        show (if e = its.length then _ else _) = _
        rw [if_neg n1]
theorem alb_yes {l : PS} {j' : Nat} (h : its[j]? = some scC) (h8 : told.length < 8) (hc : conv its (endA told.length) (lp its k k (its.length + 1) (j + 1) []) = .inr (l, j')) : convA its (la its k (f + 1) j told) = convA its (la its k f j' (told ++ [l])) := by
  rw [la_some h h8 (conv_inr hc).1]
/-- the first picture -/
theorem first_no {e : Nat} (hc : conv its [scC] (lp its 4 7 (its.length + 1) 0 []) = .inl e) : convA its (lalb its) = .inl e := by
  unfold lalb
  cases q : lp its 4 7 (its.length + 1) 0 [] with
  | mk a o =>
    rw [q] at hc
    cases o with
    | none =>
      cases hc
      rfl
    | some l =>
      unfold conv at hc
      dsimp only at hc ⊢
      cases hf : fin its [scC] a with
      | true =>
        rw [hf, if_pos rfl] at hc
        cases hc
      | false =>
        rw [hf] at hc
        cases hc
        have hf : fin its (endA 0) e = false := hf
        obtain ⟨n1, n2⟩ := no_endA hf
        rw [la_stop fun z => n2 ⟨z.1, by decide⟩]
        show (if e = its.length then _ else _) = _
        rw [if_neg n1]
theorem first_yes {l : PS} (hc : conv its [scC] (lp its 4 7 (its.length + 1) 0 []) = .inr (l, j)) : convA its (lalb its) = convA its (la its l.length 8 j [l]) := by
  unfold lalb
  rw [(conv_inr hc).1]
end
section
variable {P : Program} {w : World} {K : PySem.W.Frag} {mg : Str → Option Value} {base : Heap} {C CB CX fT : Addr}
/-- a list of pairs makes a picture -/
theorem mkP_of {H H' : Hp} {d : Addr} {l : PS} {Q : VK} {E : XK} (h : LPn H H' d l) (ok : OkP l) (n : NewP C l H' Q) : MkP K C CB (.ref d) H' Q E := by
  obtain ⟨ts, h1, h2⟩ := h
  exact .inl ⟨l, ⟨d, _, rfl, .inl h1, pla_prs h2⟩, ok, n⟩
def spPa (C CX : Addr) : Sp := fun vs H Q E => ∃ (b : Addr) (its : Its), vs = [.ref b, .int (0 : Nat)] ∧ Itm H b its ∧
  (∀ j, conv its [] (lp its 4 7 (its.length + 1) 0 []) = .inl j → RzF CX (bt j) H E) ∧ (∀ l j, conv its [] (lp its 4 7 (its.length + 1) 0 []) = .inr (l, j) → NewP C l H Q)
abbrev sPa : Stmt := top 40
abbrev nPa : List Str := ["items", "at", "places", "_"]
theorem scPa : FnScope nPa ["items", "at"] (defScope sPa) := ⟨rfl, rfl, rfl, by decide +kernel, rfl, by decide +kernel, by decide +kernel⟩
theorem ok_pa {f : Addr} {fd : FuncData} (F : Fun K "picture_at" "picture_at" sPa f fd) (B : Bn mg) (T : Pc P w K mg base C CB) (F4 : ∃ t, mg "FEWEST_PINS" = some (.int 4 t)) (M7 : ∃ t, mg "MOST_PINS" = some (.int 7 t)) (C1 : Callee P w K mg base (L2.CX P w) 4 "places_at" ["items", "at", "fewest", "most", "ends"] (spPl CX)) :
    FnOk P w K mg base (L2.CX P w) 8 f fd ["items", "at"] (spPa C CX) := by
  obtain ⟨f1, fd1, m1, k1, b1, G1⟩ := C1
  obtain ⟨t4, m4⟩ := F4
  obtain ⟨t7, m7⟩ := M7
  have nd := scPa.nd
  refine F.okX scPa (fun vs H Q E h => ?_) (fun cdv A outer s H vs Q E hr h => ?_)
  · obtain ⟨b, its, rfl, _⟩ := h
    rfl
  · obtain ⟨b, its, rfl, hI, rn, qy⟩ := h
    refine ⟨_, (pss_cons (ps_asg (pe_callS (E := fun _ => E) G1 (hr.mono (by decide)) rfl m1 k1 b1 (fun σ => passAt (takes_of rfl rfl rfl rfl) σ) (pa_cons (pv 0) (pa_cons (pv 1) (pa_cons (pe_glob (v := .int 4) rfl m4 ⟨_, rfl⟩) (pa_cons (pe_glob (v := .int 7) rfl m7 ⟨_, rfl⟩) (pa_cons (pe_tup pa_nil) pa_nil)))))) (pg_tup rfl (pgs_cons ((pg_name (i := 2) nd rfl (Or.inl rfl))) (pgs_cons ((pg_name (i := 3) nd rfl (Or.inl rfl))) pgs_nil)))) (pss_one (ps_ret (pe_mkPS (E := fun _ => E) T (hr.mono (by decide)) (fun σ => passAt (takes_of rfl rfl rfl rfl) σ) rfl (pa_cons (pv 2) pa_nil))))), ?_⟩
    refine ⟨_, rfl, _, rfl, by show 0 ≤ sizeLine; decide, fun e he => ?_⟩
    have se := same_new (o := .tup []) he
    have ge : upd H e (.tup []) e = some (.tup []) := upd_same
    generalize upd H e (.tup []) = H1 at se ge ⊢
    refine ⟨b, e, its, [], 0, 4, 7, rfl, hI.same se, ge, Nat.zero_le _, by decide, by decide, by decide, List.not_mem_nil, fun j hj => (rn j hj).same se, fun l j hj H2 t d s2 hd ht => ?_⟩
    obtain ⟨ok, _⟩ := ok_of_lp (by decide) (by decide) (by decide) (conv_inr hj).1
    exact ⟨t, _, rfl, SqT.of ht, rfl, _, _, rfl, _, _, rfl, rfl, _, rfl, _, rfl, mkP_of hd ok fun a H3 s3 n3 p3 => qy l j hj a H3 ((se.trans s2).trans s3) (se.free (s2.free n3)) p3⟩
/-! ### Picture.read -/
def spPr (K : PySem.W.Frag) (C CX : Addr) : Sp := fun vs H Q E => ∃ v, vs = [v] ∧ ((∃ t, TyX K H v t ∧ PySem.W.kitOne K t (.type "str") = some false ∧ RzF CX (bt 0) H E) ∨
  (∃ a : Cd, v = .str (SX.S a) ∧ a.length ≤ 8000000 ∧ (∀ j, conv (TL.spl [32] 0 [] a) [] (lp (TL.spl [32] 0 [] a) 4 7 ((TL.spl [32] 0 [] a).length + 1) 0 []) = .inl j → RzF CX (bt j) H E) ∧
    (∀ l j, conv (TL.spl [32] 0 [] a) [] (lp (TL.spl [32] 0 [] a) 4 7 ((TL.spl [32] 0 [] a).length + 1) 0 []) = .inr (l, j) → NewP C l H Q)))
abbrev sPr : Stmt := inClass (top 39) 3
theorem scPr : FnScope ["text"] ["text"] (defScope sPr) := ⟨rfl, rfl, rfl, by decide +kernel, rfl, by decide +kernel, by decide +kernel⟩
theorem ok_pr {f : Addr} {fd : FuncData} (F : Fun K "read" "Picture.read" sPr f fd) (B : Bn mg) (C1 : Callee P w K mg base (L2.CX P w) 3 "items_of" ["text"] (spIof K CX)) (C2 : Callee P w K mg base (L2.CX P w) 8 "picture_at" ["items", "at"] (spPa C CX)) :
    FnOk P w K mg base (L2.CX P w) 9 f fd ["text"] (spPr K C CX) := by
  obtain ⟨f1, fd1, m1, k1, b1, G1⟩ := C1
  obtain ⟨f2, fd2, m2, k2, b2, G2⟩ := C2
  have nd := scPr.nd
  refine F.okX scPr (fun vs H Q E h => ?_) (fun cdv A outer s H vs Q E hr h => ?_)
  · obtain ⟨v, rfl, _⟩ := h
    rfl
  · obtain ⟨v, rfl, h⟩ := h
    refine ⟨_, pss_one (ps_ret (pe_callS (E := fun _ => E) G2 (hr.mono (by decide)) rfl m2 k2 b2 (fun σ => passAt (takes_of rfl rfl rfl rfl) σ) (pa_cons ((pe_callS (E := fun _ => E) G1 (hr.mono (by decide)) rfl m1 k1 b1 (fun σ => passAt (takes_of rfl rfl rfl rfl) σ) (pa_cons (pv 0) pa_nil))) (pa_cons (pe_int) pa_nil)))), ?_⟩
    rcases h with ⟨t, ty, kk, r⟩ | ⟨a, rfl, ha, rn, qy⟩
    · exact ⟨_, rfl, _, rfl, .inl ⟨t, ty, kk, r⟩⟩
    · refine ⟨_, rfl, _, rfl, .inr ⟨a, rfl, ha, fun p H1 s1 n1 hI => ?_⟩⟩
      exact ⟨p, _, rfl, hI, fun j hj => (rn j hj).same s1, fun l j hj x H2 s2 n2 px => qy l j hj x H2 (s1.trans s2) (s1.free n2) px⟩
end
end K17

namespace K17
open PySem PySem.Spec PyProof.Rows L2
theorem lp_gt {its : Its} {few most f i j : Nat} {l : PS} (fm : few ≤ most) (h1 : 1 ≤ few) (h : lp its few most f i [] = (j, some l)) : i < j := by
  obtain ⟨m, e1, e2, e3, e4, _⟩ := lp_ok fm _ _ _ _ _ h (by show 0 < most; omega)
  have e := congrArg List.length e3
  rw [List.length_append, List.length_drop, List.length_drop] at e
  have := List.length_pos_iff.mpr (pI_ne e2)
  omega
section
variable {P : Program} {w : World} {K : PySem.W.Frag} {mg : Str → Option Value} {base : Heap} {C CA CB CB2 CF CT CX fT : Addr}
/-! ### Album.read -/
def spAr (K : PySem.W.Frag) (C CA CX : Addr) : Sp := fun vs H Q E => ∃ v, vs = [v] ∧ ((∃ t, TyX K H v t ∧ PySem.W.kitOne K t (.type "str") = some false ∧ RzF CX (bt 0) H E) ∨
  (∃ a : Cd, v = .str (SX.S a) ∧ a.length ≤ 8000000 ∧ (∀ j, convA (TL.spl [32] 0 [] a) (lalb (TL.spl [32] 0 [] a)) = .inl j → RzF CX (bt j) H E) ∧
    (∀ t, convA (TL.spl [32] 0 [] a) (lalb (TL.spl [32] 0 [] a)) = .inr t → ∀ cs, NewA CA C H Q cs t)))
abbrev sAr : Stmt := inClass (top 43) 4
abbrev nAr : List Str := ["text", "items", "places", "at", "pictures", "many", "ends"]
theorem scAr : FnScope nAr ["text"] (defScope sAr) := ⟨rfl, rfl, rfl, by decide +kernel, rfl, by decide +kernel, by decide +kernel⟩
theorem ok_ar {f : Addr} {fd : FuncData} (F : Fun K "read" "Album.read" sAr f fd) (B : Bn mg) (T : Pc P w K mg base C CB) (TA : Ac P w K mg base C CA CB2 CF CT) (F4 : ∃ t, mg "FEWEST_PINS" = some (.int 4 t)) (M7 : ∃ t, mg "MOST_PINS" = some (.int 7 t)) (L8 : ∃ t, mg "MOST_PICTURES" = some (.int 8 t))
    (C1 : Callee P w K mg base (L2.CX P w) 3 "items_of" ["text"] (spIof K CX)) (C2 : Callee P w K mg base (L2.CX P w) 4 "places_at" ["items", "at", "fewest", "most", "ends"] (spPl CX)) :
    FnOk P w K mg base (L2.CX P w) 9 f fd ["text"] (spAr K C CA CX) := by
  obtain ⟨f1, fd1, m1, k1, b1, G1⟩ := C1
  obtain ⟨f2, fd2, m2, k2, b2, G2⟩ := C2
  obtain ⟨t4, m4⟩ := F4
  obtain ⟨t7, m7⟩ := M7
  obtain ⟨t8, m8⟩ := L8
  have nd := scAr.nd
  have IA : ∃ (fI : Addr) (fd : FuncData), Mk K CA fI ∧ FnOk P w K mg base (L2.CX P w) 4 fI fd ["self", "pictures"] (spAI K C CA CB2 CF CT) ∧ Binds K fd ["self", "pictures"] [] := let ⟨fI, fd, M, G, b, _⟩ := TA.ini; ⟨fI, fd, M, G, b⟩
  refine F.okX scAr (fun vs H Q E h => ?_) (fun cdv A outer s H vs Q E hr h => ?_)
  · obtain ⟨v, rfl, _⟩ := h
    rfl
  · obtain ⟨v, rfl, h⟩ := h
    refine ⟨_, (pss_cons ((ps_set (i := 1) nd rfl (Or.inl rfl) ((pe_callS (E := fun _ => E) G1 (hr.mono (by decide)) rfl m1 k1 b1 (fun σ => passAt (takes_of rfl rfl rfl rfl) σ) (pa_cons (pv 0) pa_nil))))) (pss_cons (ps_asg (pe_callS (E := fun _ => E) G2 (hr.mono (by decide)) rfl m2 k2 b2 (fun σ => passAt (takes_of rfl rfl rfl rfl) σ) (pa_cons (pv 1) (pa_cons (pe_int) (pa_cons (pe_glob (v := .int 4) rfl m4 ⟨_, rfl⟩) (pa_cons (pe_glob (v := .int 7) rfl m7 ⟨_, rfl⟩) (pa_cons (pe_tup (pa_cons (pe_str) pa_nil)) pa_nil)))))) (pg_tup rfl (pgs_cons ((pg_name (i := 2) nd rfl (Or.inl rfl))) (pgs_cons ((pg_name (i := 3) nd rfl (Or.inl rfl))) pgs_nil)))) (pss_cons (ps_par (i := 4) (j := 5) rfl nd rfl rfl (by decide) rfl rfl (pa_cons (pe_lst (pa_cons (pe_mkPS (E := fun _ => E) T (hr.mono (by decide)) (fun σ => passAt (takes_of rfl rfl rfl rfl) σ) rfl (pa_cons (pv 2) pa_nil)) pa_nil)) (pa_cons ((pe_callB call_len_seq (by rfl) B.len PySem.boot_len (pa_cons (pv 2) pa_nil))) pa_nil)) (by rfl)) (pss_cons (ps_while (passes_of rfl) (pt_cmpR op_lt (pv 3) (pe_callB call_len_seq (by rfl) B.len PySem.boot_len (pa_cons (pv 1) pa_nil)) (nomark _))
        (pss_cons ((ps_set (i := 6) nd rfl (Or.inl rfl) (pe_ifExp (pt_cmpR op_lt (pe_op op_add (pe_callB call_len_seq (by rfl) B.len PySem.boot_len (pa_cons (pv 4) pa_nil)) pe_int) (pe_glob (v := .int 8) rfl m8 ⟨_, rfl⟩) (nomark _)) (pe_tup (pa_cons (pe_str) pa_nil)) (pe_tup pa_nil)))) (pss_cons (ps_asg (pe_callS (E := fun _ => E) G2 (hr.mono (by decide)) rfl m2 k2 b2 (fun σ => passAt (takes_of rfl rfl rfl rfl) σ) (pa_cons (pv 1) (pa_cons (pe_op op_add (pv 3) pe_int) (pa_cons (pv 5) (pa_cons (pv 5) (pa_cons (pv 6) pa_nil)))))) (pg_tup rfl (pgs_cons ((pg_name (i := 2) nd rfl (Or.inl rfl))) (pgs_cons ((pg_name (i := 3) nd rfl (Or.inl rfl))) pgs_nil)))) (pss_one (ps_expr (pe_bm PySem.F.plainAttrs_list PySem.F.slot_list_append PySem.F.type_list_append mt_append (pv 4) (pa_cons (pe_mkPS (E := fun _ => E) T (hr.mono (by decide)) (fun σ => passAt (takes_of rfl rfl rfl rfl) σ) rfl (pa_cons (pv 2) pa_nil)) pa_nil))))))) (pss_one (ps_ret (pe_mkA (E := E) K TA.mgC IA (hr.mono (by decide)) (fun pins σ => passAt (takes_of rfl rfl rfl rfl) σ pins) rfl (pa_cons (pv 4) pa_nil)))))))), ?_⟩
    have e59 : PySem.Str.ofString ";" = SX.S [59] := str_S rfl
    rcases h with ⟨t, ty, kk, r⟩ | ⟨a, rfl, ha, rn, qy⟩
    · exact ⟨_, rfl, _, rfl, .inl ⟨t, ty, kk, r⟩⟩
    refine ⟨_, rfl, _, rfl, .inr ⟨a, rfl, ha, fun b H1 s1 n1 hI => ?_⟩⟩
    generalize TL.spl [32] 0 [] a = its at rn qy hI
    refine ⟨_, rfl, by show 1 ≤ sizeLine; decide, fun e he => ?_⟩
    rw [e59]
    have se := same_new (o := .tup [V.str (SX.S [59])]) he
    have ge : upd H1 e (.tup [V.str (SX.S [59])]) e = some (.tup ([scC].map iV)) := upd_same
    generalize upd H1 e (.tup [V.str (SX.S [59])]) = H2 at se ge ⊢
    refine ⟨b, e, its, [scC], 0, 4, 7, rfl, hI.same se, ge, Nat.zero_le _, by decide, by decide, by decide, by decide, fun j hj => (rn j (first_no hj)).same (s1.trans se), fun l j hj H3 t d s3 hd ht => ?_⟩
    rw [first_yes hj] at rn qy
    obtain ⟨ok, lj, _⟩ := ok_of_lp (by decide) (by decide) (by decide) (conv_inr hj).1
    have fj := (conv_inr hj).2
    clear hj
    refine ⟨t, _, rfl, SqT.of ht, rfl, _, _, rfl, _, _, rfl, rfl, ?_⟩
    refine ⟨_, rfl, _, rfl, mkP_of hd ok fun c0 H4 s4 n4 p4 => ?_⟩
    refine ⟨by show 1 ≤ sizeLine; decide, fun g hg => ?_⟩
    have sg := same_new (o := .lst [V.ref c0]) hg
    have gg : upd H4 g (.lst [V.ref c0]) g = some (.lst ([c0].map V.ref)) := upd_same
    generalize upd H4 g (.lst [V.ref c0]) = H5 at sg gg ⊢
    have s14 := (se.trans s3).trans s4
    have s15 := s14.trans sg
    have ng1 : H1 g = none := s14.free hg
    obtain ⟨ts, hd1, hd2⟩ := hd
    refine ⟨_, rfl, d, _, rfl, .inl (SqL.of (sg _ _ (s4 _ _ hd1))), _, _, rfl, ?_⟩
    rw [List.length_map, (show ts.length = l.length from Paired.length hd2)]
    generalize hR : convA its (la its l.length 8 j [l]) = R at rn qy
    have k4 := ok.1
    have k7 := ok.2.1
    have hn : ∀ n : Nat, V.int (n : Nat) = V.int ((n : Nat) : Int) := fun _ => rfl
    refine ⟨fun m σ H' => ∃ (j : Nat) (told : List PS) (cs : List Addr) (dd x6 : Option V), m = its.length - j ∧ σ = [some (.str (SX.S a)), some (.ref b), dd, some (.int (j : Nat)), some (.ref g), some (.int (l.length : Nat)), x6] ∧ Same H1 H' ∧ H' g = some (.lst (cs.map V.ref)) ∧ Pics H' C cs told ∧ j ≤ its.length ∧ told ≠ [] ∧ told.length ≤ 8 ∧ Eqn l.length told ∧ (∀ q ∈ told, OkP q) ∧ (j = its.length ∨ (its[j]? = some scC ∧ told.length < 8)) ∧ convA its (la its l.length (9 - told.length) j told) = R,
      ⟨_, j, [l], [c0], _, _, rfl, rfl, s15, gg, .cons (p4.same sg) .nil, lj, by simp, by show 1 ≤ 8; decide, fun q hq => by rw [List.mem_singleton.mp hq], fun q hq => by rw [List.mem_singleton.mp hq]; exact ok, (fin_sc fj).imp id fun z => ⟨z, by show 1 < 8; decide⟩, hR⟩, ?_⟩
    clear hR fj lj
    rintro _ _ H6 ⟨j, told, cs, dd, x6, rfl, rfl, s16, hg6, hp6, lj, tne, t8, heq, hok, hj, hR⟩
    have hI6 := hI.same s16
    have lcs := hp6.len
    refine ⟨_, rfl, _, rfl, b, _, rfl, .inl (SqL.of hI6.at_), _, _, rfl, rfl, _, rfl, ?_⟩
    rw [List.length_map]
    by_cases hlt : j < its.length
    · rw [decide_eq_true (show ((j : Nat) : Int) < (its.length : Nat) by omega)]
      obtain ⟨hsc, h8⟩ : its[j]? = some scC ∧ told.length < 8 := by
        rcases hj with z | z
        · omega
        · exact z
      refine iteT ⟨_, fun _ _ z => z, ?_⟩
      dsimp only [gName, tSeq, tAsg]
      refine tIf_key (fun v H' => ∃ e, v = .ref e ∧ Same H6 H' ∧ H' e = some (.tup ((endA told.length).map iV))) (fun Q hQ => ?_) (fun v H7 hG => ?_)
      · refine ⟨_, rfl, g, _, rfl, .inl (SqL.of hg6), _, _, rfl, rfl, _, _, rfl, rfl, _, rfl, ?_⟩
        rw [List.length_map, lcs]
        unfold endA at hQ
        by_cases h7 : told.length + 1 < 8
        · rw [decide_eq_true (show ((told.length : Nat) : Int) + 1 < 8 by omega)]
          rw [if_pos h7] at hQ
          refine iteT ⟨by show 1 ≤ sizeLine; decide, fun e he => ?_⟩
          exact hQ _ _ ⟨e, rfl, same_new he, upd_same⟩
        · rw [decide_eq_false (show ¬ ((told.length : Nat) : Int) + 1 < 8 by omega)]
          rw [if_neg h7] at hQ
          exact iteF ⟨by show 0 ≤ sizeLine; decide, fun e he => hQ _ _ ⟨e, rfl, same_new he, upd_same⟩⟩
      · obtain ⟨e, rfl, s67, ge7⟩ := hG
        have s17 := s16.trans s67
        have ef : 9 - told.length = (8 - told.length) + 1 := by omega
        rw [ef] at hR
        refine ⟨_, rfl, _, rfl, _, _, rfl, rfl, _, rfl, _, rfl, _, rfl, b, e, its, endA told.length, j + 1, l.length, l.length, rfl, hI.same s17, ge7, by omega, by omega, Nat.le_refl _, k7, end_ne _, fun x hx => ?_, fun l2 j2 h2 H8 t2 d2 s78 hd2 ht2 => ?_⟩
        · rw [alb_no hsc h8 hx] at hR
          exact (rn _ hR.symm).same (s1.trans s17)
        · rw [alb_yes hsc h8 h2] at hR
          obtain ⟨ok2, lj2, l1, l2'⟩ := ok_of_lp (Nat.le_refl _) k4 k7 (conv_inr h2).1
          have fj2 := fin_endA (conv_inr h2).2
          refine ⟨t2, _, rfl, SqT.of ht2, rfl, _, _, rfl, _, _, rfl, rfl, ?_⟩
          have s68 := s67.trans s78
          refine ⟨_, rfl, .inl ⟨rfl, _, SqL.of (s68 _ _ hg6)⟩, _, rfl, _, rfl, mkP_of hd2 ok2 fun c9 H9 s89 n9 p9 => ?_⟩
          have s69 := s68.trans s89
          have hg9 := s69 _ _ hg6
          refine ⟨g, _, _, rfl, rfl, hg9, ?_, ?_⟩
          · rw [List.length_map, lcs]
            exact small1000 (by omega)
          · have ll : l2.length = l.length := Nat.le_antisymm l2' l1
            refine ⟨its.length - j2, ?_, j2, told ++ [l2], cs ++ [c9], _, _, rfl, rfl, fun z o ez => ?_, by rw [upd_same, List.map_append]; rfl, paired_snoc ((hp6.same s69).updl hg9) (p9.updl hg9), lj2, by simp, by rw [List.length_append]; exact h8, fun q hq => ?_, fun q hq => ?_, ?_, ?_⟩
            · have := lp_gt (Nat.le_refl _) (by omega) (conv_inr h2).1
              omega
            · rw [upd_ne (ne_of_none ez ng1)]
              exact s69 _ _ (s16 _ _ ez)
            · rcases List.mem_append.mp hq with z | z
              · exact heq q z
              · rw [List.mem_singleton.mp z]
                exact ll
            · rcases List.mem_append.mp hq with z | z
              · exact hok q z
              · rw [List.mem_singleton.mp z]
                exact ok2
            · rw [List.length_append]
              exact fj2
            · rw [List.length_append]
              have e9 : 9 - (told.length + [l2].length) = 8 - told.length := by
                show 9 - (told.length + 1) = _
                omega
              rw [e9]
              exact hR
    · rw [decide_eq_false (show ¬ ((j : Nat) : Int) < (its.length : Nat) by omega)]
      refine iteF ?_
      have ej : j = its.length := by omega
      rw [la_stop fun z => by rw [ej, List.getElem?_eq_none (Nat.le_refl _)] at z; cases z.1] at hR
      have e2 : convA its (j, some told) = .inr told := if_pos ej
      rw [e2] at hR
      exact ⟨_, rfl, _, rfl, mkA_of (.inl hg6) hp6 heq tne t8 ((qy told hR.symm cs).same (s1.trans s16))⟩
end
end K17

namespace K17
open PySem PySem.Spec PyProof.Rows L2
theorem LP.snoc {H : Hp} {D g : Addr} {ts : List Addr} {ps : List (Int × Int)} {q : Int × Int} (h : LP H D ts ps) (r : Pr H g q) : LP (upd H D (.lst (ts.map V.ref ++ [V.ref g]))) D (ts ++ [g]) (ps ++ [q]) :=
  ⟨by rw [upd_same, List.map_append]; rfl, prs_upd h.1 (paired_snoc h.2 r)⟩
theorem InB.snoc {B : Int} {ps : List (Int × Int)} {a b : Int} (h : InB B ps) (h1 : -B ≤ a) (h2 : a ≤ B) (h3 : -B ≤ b) (h4 : b ≤ B) : InB B (ps ++ [(a, b)]) := fun p hp => by
  rcases List.mem_append.mp hp with e | e
  · exact h p e
  · rw [List.mem_singleton.mp e]
    exact ⟨h1, h2, h3, h4⟩
theorem InB.nil {B : Int} : InB B [] := fun p h => by cases h
theorem InB.le {B C : Int} {ps : List (Int × Int)} (h : InB B ps) (l : B ≤ C) : InB C ps := fun p hp => by
  have := h p hp
  exact ⟨by omega, by omega, by omega, by omega⟩
theorem SB.upd {H4 H : Hp} {p D : Addr} {o : HO} {n : Nat} (v4 : Lens H4 p n) (s : SB p H4 H) (hD : H4 D = none) : SB p H4 (upd H D o) := ⟨fun b o n h => by
  rw [upd_ne (ne_of_none h hD)]
  exact s.1 _ _ n h, fun c x y h => by
  obtain ⟨x', y', e⟩ := s.2 c x y h
  exact ⟨x', y', by rw [upd_ne (ne_of_none h hD)]; exact e⟩⟩
def Gw (B : Int) (p D : Addr) (H0 : Hp) (n m i : Nat) (H : Hp) : Prop := SB p H0 H ∧ Lens H p (n + m * i) ∧ ∃ ts ps, ps.length = i ∧ LP H D ts ps ∧ InB B ps
theorem gw_nil {B : Int} {p D : Addr} {H0 : Hp} {n m : Nat} (v : Lens H0 p n) (hD : H0 D = none) : Gw B p D H0 n m 0 (upd H0 D (.lst [])) := ⟨SB.of (same_new hD), (v.same (same_new hD)).le (Nat.le_add_right _ _), [], [], rfl, ⟨upd_same, .nil⟩, InB.nil⟩
theorem gw_step {B : Int} {p D g : Addr} {H0 H' H2 : Hp} {n m i k : Nat} {a b : Int} {ts : List Addr} {ps : List (Int × Int)} (v0 : Lens H0 p k) (hD : H0 D = none) (s : SB p H0 H') (v' : Lens H' p (n + m * i)) (l : ps.length = i) (lp : LP H' D ts ps) (b9 : InB B ps) (hi : i < 8)
    (s2 : SB p H' H2) (v2 : Lens H2 p (n + m * i + m)) (hg : Pr H2 g (a, b)) (h1 : -B ≤ a) (h2 : a ≤ B) (h3 : -B ≤ b) (h4 : b ≤ B) :
    ∃ acc, H2 D = some (.lst acc) ∧ acc.length < sizeLine ∧ Gw B p D H0 n m (i + 1) (upd H2 D (.lst (acc ++ [V.ref g]))) := by
  have nD : D ≠ p := v0.not_none hD
  have lp2 := lp.sb v' nD s2
  exact ⟨_, lp2.1, by rw [List.length_map, lp.len, l]; exact small1000 (by omega), (s.trans s2).upd v0 hD, (v2.upd v0 (s.trans s2) hD).le (by rw [Nat.mul_add]; omega), _, _, by rw [List.length_append, l]; rfl, lp2.snoc hg, b9.snoc h1 h2 h3 h4⟩
section
variable {P : Program} {w : World} {K : PySem.W.Frag} {mg : Str → Option Value} {base : Heap}
/-! ### _law_number -/
def spNu : Sp := fun vs H Q _ => ∃ (p : Addr) (n : Nat), vs = [.ref p] ∧ Lens H p n ∧ n + 10 < 60000 ∧ ∀ H' x, SB p H H' → Lens H' p (n + 3) → -G9 ≤ x → x ≤ G9 → Q (.int x) H'
abbrev sNu : Stmt := top 48
abbrev nNu : List Str := ["_law_lens_here", "_law_way"]
theorem scNu : FnScope nNu ["_law_lens_here"] (defScope sNu) := ⟨rfl, rfl, rfl, by decide +kernel, rfl, by decide +kernel, by decide +kernel⟩
theorem ok_nu {f : Addr} {fd : FuncData} (F : Fun K "_law_number" "_law_number" sNu f fd) (C1 : Callee P w K mg base CX0 1 "_law_shot" ["_law_lens_here", "_law_many"] spShot) : FnOk P w K mg base CX0 2 f fd ["_law_lens_here"] spNu := by
  obtain ⟨f1, fd1, m1, k1, b1, G1⟩ := C1
  have nd := scNu.nd
  have eG : G9 = 1000000000 := rfl
  refine F.ok scNu (fun vs H Q E h => ?_) (fun cdv A outer s H vs Q E hr h => ?_)
  · obtain ⟨p, n, rfl, _⟩ := h
    rfl
  · obtain ⟨p, n, rfl, hv, hn, q⟩ := h
    refine ⟨_, (pss_cons ((ps_set (i := 1) nd rfl (Or.inl rfl) ((pe_call G1 (hr.mono (by decide)) rfl m1 k1 b1 .nil pass0 (pa_cons (pv 0) (pa_cons (pe_int) pa_nil)))))) (pss_cons (ps_if (pt_cmpR op_lt (pv 1) pe_int (nomark _)) (pss_one (ps_ret (pe_op op_sub (pe_call G1 (hr.mono (by decide)) rfl m1 k1 b1 .nil pass0 (pa_cons (pv 0) (pa_cons (pe_int) pa_nil))) pe_int))) pss_nil) (pss_cons (ps_if (pt_cmpR op_lt (pv 1) pe_int (nomark _)) (pss_one (ps_ret (pe_op op_sub (pe_call G1 (hr.mono (by decide)) rfl m1 k1 b1 .nil pass0 (pa_cons (pv 0) (pa_cons (pe_int) pa_nil))) pe_int))) pss_nil) (pss_one (ps_ret (pe_op op_mul (pe_op op_sub pe_int (pe_op op_mul pe_int (pe_call G1 (hr.mono (by decide)) rfl m1 k1 b1 .nil pass0 (pa_cons (pv 0) (pa_cons (pe_int) pa_nil))))) (pe_op op_sub (pe_op op_pow pe_int pe_int) (pe_call G1 (hr.mono (by decide)) rfl m1 k1 b1 .nil pass0 (pa_cons (pv 0) (pa_cons (pe_int) pa_nil)))))))))), ?_⟩
    refine ⟨_, rfl, p, 7, n, rfl, hv, by omega, by decide, by decide, fun H1 d s1 v1 d0 d7 => ?_⟩
    refine ⟨_, rfl, _, _, rfl, rfl, _, rfl, ?_⟩
    by_cases h4 : d < 4
    · rw [decide_eq_true h4]
      refine iteT ⟨_, rfl, p, 9, _, rfl, v1, by omega, by decide, by decide, fun H2 y s2 v2 y0 y9 => ⟨_, _, rfl, rfl, ?_⟩⟩
      exact q H2 _ (s1.trans s2) (v2.le (by omega)) (by omega) (by omega)
    rw [decide_eq_false h4]
    refine iteF ⟨_, rfl, _, _, rfl, rfl, _, rfl, ?_⟩
    by_cases h6 : d < 6
    · rw [decide_eq_true h6]
      refine iteT ⟨_, rfl, p, 1999, _, rfl, v1, by omega, by decide, by decide, fun H2 y s2 v2 y0 y9 => ⟨_, _, rfl, rfl, ?_⟩⟩
      exact q H2 _ (s1.trans s2) (v2.le (by omega)) (by omega) (by omega)
    rw [decide_eq_false h6]
    refine iteF ⟨_, rfl, p, 2, _, rfl, v1, by omega, by decide, by decide, fun H2 y s2 v2 y0 y9 => ?_⟩
    refine ⟨_, _, rfl, rfl, .inl ⟨by decide, by decide⟩, _, _, rfl, rfl, _, _, rfl, rfl, ⟨by decide, by decide, by decide⟩, _, rfl, p, 3, _, rfl, v2, by omega, by decide, by decide, fun H3 z s3 v3 z0 z9 => ?_⟩
    refine ⟨_, _, rfl, rfl, _, _, rfl, rfl, .inl ⟨by omega, by omega⟩, ?_⟩
    have e9 : (10 : Int) ^ (Int.toNat 9) = 1000000000 := by decide
    refine q H3 _ ((s1.trans s2).trans s3) (v3.le (by omega)) ?_ ?_
    · rw [e9]
      have : y = 0 ∨ y = 1 := by omega
      rcases this with rfl | rfl <;> omega
    · rw [e9]
      have : y = 0 ∨ y = 1 := by omega
      rcases this with rfl | rfl <;> omega
/-! ### _law_places -/
def spPlc : Sp := fun vs H Q _ => ∃ (p : Addr) (n k : Nat), vs = [.ref p, .int k] ∧ Lens H p n ∧ n + 100 < 60000 ∧ k ≤ 8 ∧ ∀ H' a ts ps, SB p H H' → Lens H' p (n + 48) → a ≠ p → H a = none → LP H' a ts ps → ps.length = k → Bd2 ps → Q (.ref a) H'
abbrev sPlc : Stmt := top 49
abbrev nPlc : List Str := ["_law_lens_here", "_law_pins", "_law_pin"]
theorem scPlc : FnScope nPlc ["_law_lens_here", "_law_pins"] (defScope sPlc) := ⟨rfl, rfl, rfl, by decide +kernel, rfl, by decide +kernel, by decide +kernel⟩
theorem ok_plc {f : Addr} {fd : FuncData} (F : Fun K "_law_places" "_law_places" sPlc f fd) (B : Bn mg) (C1 : Callee P w K mg base CX0 2 "_law_number" ["_law_lens_here"] spNu) :
    FnOk P w K mg base CX0 3 f fd ["_law_lens_here", "_law_pins"] spPlc := by
  obtain ⟨f1, fd1, m1, k1, b1, G1⟩ := C1
  have nd := scPlc.nd
  refine F.ok scPlc (fun vs H Q E h => ?_) (fun cdv A outer s H vs Q E hr h => ?_)
  · obtain ⟨p, n, k, rfl, _⟩ := h
    rfl
  · obtain ⟨p, n, k, rfl, hv, hn, k8, q⟩ := h
    refine ⟨_, pss_one (ps_ret (pe_lc (own := [("_law_pin", 2)]) (g := gName 2) (tt := tYes) rfl nd ((pi_range1 rfl B.range (pa_cons (pv 1) pa_nil))) (blkOk_by (N := nPlc) (sc := defScope sPlc) (by decide +kernel)) (fun _ _ _ _ _ => (pg_name (i := 2) nd rfl (Or.inl rfl))) (fun _ _ _ _ _ => pts_nil) (fun _ _ _ _ _ => pe_tup (pa_cons ((pe_call G1 (hr.mono (by decide)) rfl m1 k1 b1 .nil pass0 (pa_cons (pv 0) pa_nil))) (pa_cons ((pe_call G1 (hr.mono (by decide)) rfl m1 k1 b1 .nil pass0 (pa_cons (pv 0) pa_nil))) pa_nil))))), ?_⟩
    refine ⟨_, rfl, (k : Int), rfl, by omega, by omega, fun D hD => ?_⟩
    rw [Int.toNat_natCast]
    refine lc_range (lo := 0) (n := k) (Gw G9 p D H n 6) (gw_nil hv hD) (fun i H' hi pv => ?_) (fun H6 pv => ?_)
    · obtain ⟨s, v, ts, ps, l, lp, b9⟩ := pv
      refine ⟨rfl, ?_⟩
      refine ⟨_, rfl, p, _, rfl, v, by omega, fun Ha x sa va xa xb => ?_⟩
      refine ⟨_, rfl, p, _, rfl, va, by omega, fun Hb y sb vb ya yb => ?_⟩
      refine ⟨by show 2 ≤ sizeLine; decide, fun g hg => ?_⟩
      have sg := same_new (o := .tup [V.int x, V.int y]) hg
      exact gw_step hv hD s v l lp b9 (by omega) ((sa.trans sb).trans (SB.of sg)) ((vb.same sg).le (by omega)) upd_same xa xb ya yb
    obtain ⟨s, v, ts, ps, l, lp, b9⟩ := pv
    exact q _ D ts ps s (v.le (by omega)) (hv.not_none hD) hD lp l b9
end
end K17

namespace K17
open PySem PySem.Spec PyProof.Rows L2
/-- over an enumerated list: each item in a new pair -/
theorem for_enum {K : PySem.W.Frag} {a : Addr} {xs : List V} {g : TG} {tb : TS} {D : Ends} {σ : L2.St} {H : Hp} (Pv : Nat → L2.St → Hp → Prop) (h0 : Pv 0 σ H) (hl : ∀ i σ H, i ≤ xs.length → Pv i σ H → SqL K H a xs)
    (hs : ∀ i x σ H T, xs[i]? = some x → Pv i σ H → H T = none → g (.ref T) σ (upd H T (.tup [.int (i : Nat), x])) fun σ2 H2 => tb { D with nx := Pv (i + 1), ct := Pv (i + 1), bk := D.nx } σ2 H2) (hd : ∀ σ H, Pv xs.length σ H → D.nx σ H) :
    ∃ W : Nat → Nat → L2.St → Hp → Prop, (∃ m, W 0 m σ H) ∧ ∀ i m σ H, W i m σ H →
      ((Ite K a).stop i H ∧ D.nx σ H) ∨ ((Ite K a).go i H ∧ ∃ N : L2.St → Hp → Prop, (∀ σ' H', N σ' H' → ∃ m', m' < m ∧ W (i + 1) m' σ' H') ∧ ∀ x H', (Ite K a).yld i H x H' → g x σ H' fun σ2 H2 => tb { D with nx := N, ct := N, bk := D.nx } σ2 H2) := by
  refine ⟨fun i m σ H => m = xs.length - i ∧ i ≤ xs.length ∧ Pv i σ H, ⟨xs.length, by simp, Nat.zero_le _, h0⟩, ?_⟩
  rintro i m σ H ⟨rfl, hi, p⟩
  have q := hl i σ H hi p
  by_cases hlt : i < xs.length
  · refine .inr ⟨⟨xs, xs[i], q, by simp [hlt]⟩, Pv (i + 1), fun σ' H' p' => ⟨xs.length - (i + 1), by omega, rfl, hlt, p'⟩, fun x H' y => ?_⟩
    obtain ⟨T, z, rfl, nT, rfl, hz⟩ := y
    exact hs i z σ H T (hz xs q) p nT
  · have e : i = xs.length := by omega
    subst e
    exact .inl ⟨⟨xs, q, Nat.le_refl _⟩, hd σ H p⟩

theorem pI_snoc : ∀ (m : PS) (p : Int × Int), pI (m ++ [p]) = pI m ++ (if m = [] then [] else [slC]) ++ [shL p.1, shL p.2]
  | [], p => rfl
  | [q], p => rfl
  | q :: r :: s, p => by
    have ih := pI_snoc (r :: s) p
    show pI (q :: ((r :: s) ++ [p])) = _
    rw [pI_cons q (by simp), ih, pI_cons q (by simp), if_neg (by simp), if_neg (by simp)]
    simp
theorem aI_snoc (t : List PS) (l : PS) : aI (t ++ [l]) = aI t ++ (if t = [] then [] else [scC]) ++ pI l := by
  cases t with
  | nil =>
    show pI l ++ fI [] = [] ++ [] ++ pI l
    simp [fI]
  | cons a b =>
    show pI a ++ fI (b ++ [l]) = (pI a ++ fI b) ++ _ ++ _
    unfold fI
    rw [List.flatMap_append, if_neg (by simp)]
    simp
theorem sh_len {n : Int} (h1 : -G9 ≤ n) (h2 : n ≤ G9) : (shL n).length ≤ 61 := by
  obtain ⟨_, _, _, w, _⟩ := sh_num (num_sh h1 h2)
  have h := of_wr w
  unfold wrt at h
  rw [Bool.and_eq_true, Bool.and_eq_true, Bool.and_eq_true, decide_eq_true_iff, decide_eq_true_iff] at h
  have := dgs_len (shL n)
  have := h.1.1.2
  omega
theorem pI_lens : ∀ (m : PS), Bd2 m → ∀ a ∈ pI m, a.length ≤ 61
  | [], _, _, h => absurd h List.not_mem_nil
  | [p], b, a, h => by
    obtain ⟨b1, b2, b3, b4⟩ := b p (by simp)
    simp only [pI, List.mem_cons, List.not_mem_nil, or_false] at h
    rcases h with rfl | rfl
    · exact sh_len b1 b2
    · exact sh_len b3 b4
  | p :: q :: r, b, a, h => by
    obtain ⟨b1, b2, b3, b4⟩ := b p (by simp)
    rw [pI_cons p (by simp)] at h
    simp only [List.mem_cons] at h
    rcases h with rfl | rfl | rfl | h
    · exact sh_len b1 b2
    · exact sh_len b3 b4
    · decide
    · exact pI_lens (q :: r) (fun z hz => b z (List.mem_cons_of_mem _ hz)) a h
theorem pI_le : ∀ m : PS, (pI m).length ≤ 3 * m.length
  | [] => Nat.le_refl _
  | [_] => by show 2 ≤ 3; decide
  | p :: q :: r => by
    have := pI_le (q :: r)
    rw [pI_cons p (by simp)]
    simp only [List.length_cons] at this ⊢
    omega
theorem fI_lens {t : List PS} (h : ∀ l ∈ t, Bd2 l) : ∀ a ∈ fI t, a.length ≤ 61 := fun a ha => by
  obtain ⟨m, hm, hc⟩ := List.mem_flatMap.mp ha
  rcases List.mem_cons.mp hc with z | z
  · rw [z]
    decide
  · exact pI_lens m (h m hm) a z
theorem aI_lens {t : List PS} (h : ∀ l ∈ t, Bd2 l) : ∀ a ∈ aI t, a.length ≤ 61 := fun a ha => by
  cases t with
  | nil => exact absurd ha List.not_mem_nil
  | cons l ms =>
    rcases List.mem_append.mp ha with z | z
    · exact pI_lens l (h l List.mem_cons_self) a z
    · exact fI_lens (fun m hm => h m (List.mem_cons_of_mem _ hm)) a z
theorem fI_le : ∀ {t : List PS}, (∀ l ∈ t, l.length ≤ 8) → (fI t).length ≤ 25 * t.length
  | [], _ => Nat.le_refl _
  | l :: t, h => by
    have ih := fI_le (t := t) fun m hm => h m (List.mem_cons_of_mem _ hm)
    have e : fI (l :: t) = (scC :: pI l) ++ fI t := rfl
    have := pI_le l
    have := h l List.mem_cons_self
    rw [e, List.length_append]
    simp only [List.length_cons]
    omega
theorem aI_le {t : List PS} (h : ∀ l ∈ t, l.length ≤ 8) : (aI t).length ≤ 25 * t.length := by
  cases t with
  | nil => exact Nat.le_refl _
  | cons l ms =>
    have := fI_le (t := ms) fun m hm => h m (List.mem_cons_of_mem _ hm)
    have := pI_le l
    have := h l List.mem_cons_self
    show (pI l ++ fI ms).length ≤ _
    rw [List.length_append]
    simp only [List.length_cons]
    omega
theorem log_sm {x : Int} (h1 : -G9 ≤ x) (h2 : x ≤ G9) : x.natAbs.log2 < 1920 := by
  have eG : G9 = 1000000000 := rfl
  exact Nat.lt_of_lt_of_le (PySem.Flt.log2_lt_of (k := 31) (by decide) (by omega)) (by decide)
section
variable {P : Program} {w : World} {K : PySem.W.Frag} {mg : Str → Option Value} {base : Heap}
/-! ### _law_items -/
def spIt : Sp := fun vs H Q _ => ∃ (a : Addr) (ps : PS), vs = [.ref a] ∧ LPx H a ps ∧ ps.length ≤ 8 ∧ Bd2 ps ∧ ∀ H' d, Same H H' → H d = none → Itm H' d (pI ps) → Q (.ref d) H'
abbrev sIt : Stmt := top 50
abbrev nIt : List Str := ["_law_places_here", "_law_found", "_law_at", "_law_place"]
theorem scIt : FnScope nIt ["_law_places_here"] (defScope sIt) := ⟨rfl, rfl, rfl, by decide +kernel, rfl, by decide +kernel, by decide +kernel⟩
theorem ok_it {f : Addr} {fd : FuncData} (F : Fun K "_law_items" "_law_items" sIt f fd) (B : Bn mg) : FnOk P w K mg base CX0 1 f fd ["_law_places_here"] spIt := by
  have nd := scIt.nd
  refine F.ok scIt (fun vs H Q E h => ?_) (fun cdv A outer s H vs Q E hr h => ?_)
  · obtain ⟨a, ps, rfl, _⟩ := h
    rfl
  · obtain ⟨a, ps, rfl, ⟨ts, hl, ht⟩, l8, b9, q⟩ := h
    refine ⟨_, (pss_cons ((ps_set (i := 1) nd rfl (Or.inl rfl) (pe_lst pa_nil))) (pss_cons (ps_for PassesOwn.never rfl (pi_enum rfl B.enumerate (pa_cons (pv 0) pa_nil)) (pg_tup rfl (pgs_cons ((pg_name (i := 2) nd rfl (Or.inl rfl))) (pgs_cons ((pg_name (i := 3) nd rfl (Or.inl rfl))) pgs_nil)))
        (pss_one (ps_set (i := 1) nd rfl (Or.inl rfl) (pe_op op_cat (pe_op op_cat (pv 1) (pe_ifExp (pt_cmpR op_gt (pv 2) pe_int (nomark _)) (pe_lst (pa_cons (pe_str) pa_nil)) (pe_lst pa_nil))) (pe_lst (pa_cons (pe_callTy call_str_int (by rfl) B.str (by decide +kernel) (pa_cons ((pe_ix ix_seq (pv 3) (pe_int) (fun _ _ => rfl))) pa_nil)) (pa_cons (pe_callTy call_str_int (by rfl) B.str (by decide +kernel) (pa_cons ((pe_ix ix_seq (pv 3) (pe_int) (fun _ _ => rfl))) pa_nil)) pa_nil))))))) (pss_one (ps_ret (pv 1))))), ?_⟩
    have lts : ts.length = ps.length := Paired.length ht
    have e47 : PySem.Str.ofString "/" = SX.S [47] := str_S rfl
    refine ⟨by show 0 ≤ sizeLine; decide, fun F0 nF => ?_⟩
    refine ⟨_, rfl, a, _, rfl, SqL.of (same_new nF _ _ hl), ?_⟩
    refine for_enum (K := K) (a := a) (xs := ts.map V.ref) (fun i σ H' => Same H H' ∧ ∃ (F : Addr) (x2 x3 : Option V), σ = [some (.ref a), some (.ref F), x2, x3] ∧ H F = none ∧ H' F = some (.lst ((pI (ps.take i)).map iV))) ⟨same_new nF, F0, _, _, rfl, nF, upd_same⟩ (fun i _ H' _ p => SqL.of (p.1 _ _ hl)) (fun i y σ H' T hx p nT => ?_) (fun σ H' p => ?_)
    · obtain ⟨s1, F, x2, x3, rfl, nF, hF⟩ := p
      have hx2 := hx
      rw [List.getElem?_map] at hx2
      obtain ⟨g, hg, rfl⟩ : ∃ g, ts[i]? = some g ∧ y = .ref g := by
        cases eg : ts[i]? with
        | none => rw [eg] at hx2; cases hx2
        | some g => rw [eg] at hx2; exact ⟨g, rfl, (Option.some.inj hx2).symm⟩
      obtain ⟨z, hq, pr⟩ := paired_get ht hg
      obtain ⟨x1, y1⟩ := z
      obtain ⟨c1, c2, c3, c4⟩ := b9 _ (List.mem_of_getElem? hq)
      have hi8 : i < ps.length := (List.getElem?_eq_some_iff.mp hq).1
      have sT := same_new (o := .tup [V.int (i : Nat), V.ref g]) nT
      have gT : upd H' T (.tup [V.int (i : Nat), V.ref g]) T = some (.tup [V.int (i : Nat), V.ref g]) := upd_same
      generalize upd H' T (.tup [V.int (i : Nat), V.ref g]) = H1 at sT gT ⊢
      have s11 := s1.trans sT
      have hF1 := sT _ _ hF
      have pr1 : H1 g = some (.tup [.int x1, .int y1]) := s11 _ _ pr
      have lI := pI_le (ps.take i)
      rw [List.length_take] at lI
      refine ⟨T, _, rfl, SqT.of gT, rfl, _, _, rfl, _, _, rfl, rfl, ?_⟩
      refine ⟨_, rfl, ?_⟩
      refine tIf_key (fun v H2 => ∃ e, v = .ref e ∧ Same H1 H2 ∧ H2 e = some (.lst ((if ps.take i = [] then ([] : Its) else [slC]).map iV))) (fun Q hQ => ?_) (fun v H2 hG => ?_)
      · refine ⟨_, rfl, _, _, rfl, rfl, _, rfl, ?_⟩
        by_cases hi : i = 0
        · subst hi
          exact iteF ⟨by show 0 ≤ sizeLine; decide, fun e he => hQ _ _ ⟨e, rfl, same_new he, upd_same⟩⟩
        · rw [decide_eq_true (show (0 : Int) < (i : Nat) by omega)]
          have hne : ps.take i ≠ [] := fun z => by
            have := congrArg List.length z
            rw [List.length_take] at this
            have e0 : ([] : PS).length = 0 := rfl
            omega
          rw [if_neg hne] at hQ
          refine iteT ⟨by show 1 ≤ sizeLine; decide, fun e he => ?_⟩
          rw [e47]
          exact hQ _ _ ⟨e, rfl, same_new he, upd_same⟩
      · obtain ⟨e, rfl, s2, ge⟩ := hG
        have lE : (if ps.take i = [] then ([] : Its) else [slC]).length ≤ 1 := by
          split
          · decide
          · decide
        refine ⟨F, e, _, _, rfl, rfl, s2 _ _ hF1, ge, ?_, fun c nc => ?_⟩
        · rw [List.length_map, List.length_map]
          show _ ≤ 2 ^ 24
          omega
        · have sc := same_new (o := .lst ((pI (ps.take i)).map iV ++ (if ps.take i = [] then ([] : Its) else [slC]).map iV)) nc
          have gc : upd H2 c (.lst ((pI (ps.take i)).map iV ++ (if ps.take i = [] then ([] : Its) else [slC]).map iV)) c = some (.lst ((pI (ps.take i)).map iV ++ (if ps.take i = [] then ([] : Its) else [slC]).map iV)) := upd_same
          generalize upd H2 c (.lst ((pI (ps.take i)).map iV ++ (if ps.take i = [] then ([] : Its) else [slC]).map iV)) = H3 at sc gc ⊢
          have s13 := s2.trans sc
          have pr3 := s13 _ _ pr1
          refine ⟨_, rfl, .inr (.inl ⟨g, _, 0, _, rfl, rfl, SqT.of pr3, atI_nat (j := 0) rfl, _, rfl, log_sm c1 c2, ?_⟩)⟩
          refine ⟨_, rfl, .inr (.inl ⟨g, _, 1, _, rfl, rfl, SqT.of pr3, atI_nat (j := 1) rfl, _, rfl, log_sm c3 c4, ?_⟩)⟩
          refine ⟨by show 2 ≤ sizeLine; decide, fun d nd2 => ?_⟩
          rw [show PySem.Str.ofString (toString x1) = SX.S (shL x1) from shN_S x1, show PySem.Str.ofString (toString y1) = SX.S (shL y1) from shN_S y1]
          refine ⟨c, d, _, _, rfl, rfl, same_new nd2 _ _ gc, upd_same, ?_, fun r nr => ?_⟩
          · rw [List.length_append, List.length_map, List.length_map]
            show _ + 2 ≤ 2 ^ 24
            omega
          · have s14 := s13.trans (same_new (o := .lst [iV (shL x1), iV (shL y1)]) nd2)
            have sr := s14.trans (same_new (o := .lst (((pI (ps.take i)).map iV ++ (if ps.take i = [] then ([] : Its) else [slC]).map iV) ++ [iV (shL x1), iV (shL y1)])) nr)
            refine ⟨s11.trans sr, r, _, _, rfl, (s11.trans s14).free nr, ?_⟩
            rw [upd_same, take_more hq, pI_snoc, List.map_append, List.map_append]
            rfl
    · obtain ⟨s1, F, x2, x3, rfl, nF, hF⟩ := p
      rw [List.length_map, lts, List.take_length] at hF
      exact ⟨_, rfl, q H' F s1 nF ⟨hF, fun x hx => Nat.le_trans (pI_lens ps b9 x hx) (by decide), Nat.le_trans (pI_le ps) (by omega)⟩⟩
end
end K17

namespace K17
open PySem PySem.Spec PyProof.Rows L2
section
variable {P : Program} {w : World} {K : PySem.W.Frag} {mg : Str → Option Value} {base : Heap}
/-! ### _law_all_items -/
def spAi : Sp := fun vs H Q _ => ∃ (a : Addr) (as : List Addr) (pss : PSS), vs = [.ref a] ∧ Told H a as pss ∧ pss.length ≤ 9 ∧ (∀ ps ∈ pss, ps.length ≤ 8 ∧ Bd2 ps) ∧ ∀ H' d, Same H H' → H d = none → Itm H' d (aI pss) → Q (.ref d) H'
abbrev sAi : Stmt := top 51
abbrev nAi : List Str := ["_law_told", "_law_found", "_law_at", "_law_places_here"]
theorem scAi : FnScope nAi ["_law_told"] (defScope sAi) := ⟨rfl, rfl, rfl, by decide +kernel, rfl, by decide +kernel, by decide +kernel⟩
theorem ok_alit {f : Addr} {fd : FuncData} (F : Fun K "_law_all_items" "_law_all_items" sAi f fd) (B : Bn mg) (C1 : Callee P w K mg base CX0 1 "_law_items" ["_law_places_here"] spIt) : FnOk P w K mg base CX0 2 f fd ["_law_told"] spAi := by
  obtain ⟨f1, fd1, m1, k1, b1, G1⟩ := C1
  have nd := scAi.nd
  refine F.ok scAi (fun vs H Q E h => ?_) (fun cdv A outer s H vs Q E hr h => ?_)
  · obtain ⟨a, as, pss, rfl, _⟩ := h
    rfl
  · obtain ⟨a, as, pss, rfl, ht, l9, b9, q⟩ := h
    refine ⟨_, (pss_cons ((ps_set (i := 1) nd rfl (Or.inl rfl) (pe_lst pa_nil))) (pss_cons (ps_for PassesOwn.never rfl (pi_enum rfl B.enumerate (pa_cons (pv 0) pa_nil)) (pg_tup rfl (pgs_cons ((pg_name (i := 2) nd rfl (Or.inl rfl))) (pgs_cons ((pg_name (i := 3) nd rfl (Or.inl rfl))) pgs_nil)))
        (pss_one (ps_set (i := 1) nd rfl (Or.inl rfl) (pe_op op_cat (pe_op op_cat (pv 1) (pe_ifExp (pt_cmpR op_gt (pv 2) pe_int (nomark _)) (pe_lst (pa_cons (pe_str) pa_nil)) (pe_lst pa_nil))) (pe_call G1 (hr.mono (by decide)) rfl m1 k1 b1 .nil pass0 (pa_cons (pv 3) pa_nil)))))) (pss_one (ps_ret (pv 1))))), ?_⟩
    have las := ht.len
    have e59 : PySem.Str.ofString ";" = SX.S [59] := str_S rfl
    refine ⟨by show 0 ≤ sizeLine; decide, fun F0 nF => ?_⟩
    refine ⟨_, rfl, a, _, rfl, SqL.of (same_new nF _ _ ht.1), ?_⟩
    refine for_enum (K := K) (a := a) (xs := as.map V.ref) (fun i σ H' => Same H H' ∧ ∃ (F : Addr) (x2 x3 : Option V), σ = [some (.ref a), some (.ref F), x2, x3] ∧ H F = none ∧ H' F = some (.lst ((aI (pss.take i)).map iV))) ⟨same_new nF, F0, _, _, rfl, nF, upd_same⟩ (fun i _ H' _ p => SqL.of (p.1 _ _ ht.1)) (fun i y σ H' T hx p nT => ?_) (fun σ H' p => ?_)
    · obtain ⟨s1, F, x2, x3, rfl, nF, hF⟩ := p
      have hx2 := hx
      rw [List.getElem?_map] at hx2
      obtain ⟨g, hg, rfl⟩ : ∃ g, as[i]? = some g ∧ y = .ref g := by
        cases eg : as[i]? with
        | none => rw [eg] at hx2; cases hx2
        | some g => rw [eg] at hx2; exact ⟨g, rfl, (Option.some.inj hx2).symm⟩
      obtain ⟨ps, hq, pr⟩ := paired_get ht.2 hg
      obtain ⟨l8, bb⟩ := b9 _ (List.mem_of_getElem? hq)
      have hi9 : i < pss.length := (List.getElem?_eq_some_iff.mp hq).1
      have sT := same_new (o := .tup [V.int (i : Nat), V.ref g]) nT
      have gT : upd H' T (.tup [V.int (i : Nat), V.ref g]) T = some (.tup [V.int (i : Nat), V.ref g]) := upd_same
      generalize upd H' T (.tup [V.int (i : Nat), V.ref g]) = H1 at sT gT ⊢
      have s11 := s1.trans sT
      have hF1 := sT _ _ hF
      have lI := aI_le (t := pss.take i) fun l hl => (b9 l (List.mem_of_mem_take hl)).1
      rw [List.length_take] at lI
      refine ⟨T, _, rfl, SqT.of gT, rfl, _, _, rfl, _, _, rfl, rfl, ?_⟩
      refine ⟨_, rfl, ?_⟩
      refine tIf_key (fun v H2 => ∃ e, v = .ref e ∧ Same H1 H2 ∧ H2 e = some (.lst ((if pss.take i = [] then ([] : Its) else [scC]).map iV))) (fun Q hQ => ?_) (fun v H2 hG => ?_)
      · refine ⟨_, rfl, _, _, rfl, rfl, _, rfl, ?_⟩
        by_cases hi : i = 0
        · subst hi
          exact iteF ⟨by show 0 ≤ sizeLine; decide, fun e he => hQ _ _ ⟨e, rfl, same_new he, upd_same⟩⟩
        · rw [decide_eq_true (show (0 : Int) < (i : Nat) by omega)]
          have hne : pss.take i ≠ [] := fun z => by
            have := congrArg List.length z
            rw [List.length_take] at this
            have e0 : ([] : PSS).length = 0 := rfl
            omega
          rw [if_neg hne] at hQ
          refine iteT ⟨by show 1 ≤ sizeLine; decide, fun e he => ?_⟩
          rw [e59]
          exact hQ _ _ ⟨e, rfl, same_new he, upd_same⟩
      · obtain ⟨e, rfl, s2, ge⟩ := hG
        have lE : (if pss.take i = [] then ([] : Its) else [scC]).length ≤ 1 := by
          split
          · decide
          · decide
        refine ⟨F, e, _, _, rfl, rfl, s2 _ _ hF1, ge, ?_, fun c nc => ?_⟩
        · rw [List.length_map, List.length_map]
          show _ ≤ 2 ^ 24
          omega
        · have sc := same_new (o := .lst ((aI (pss.take i)).map iV ++ (if pss.take i = [] then ([] : Its) else [scC]).map iV)) nc
          have gc : upd H2 c (.lst ((aI (pss.take i)).map iV ++ (if pss.take i = [] then ([] : Its) else [scC]).map iV)) c = some (.lst ((aI (pss.take i)).map iV ++ (if pss.take i = [] then ([] : Its) else [scC]).map iV)) := upd_same
          generalize upd H2 c (.lst ((aI (pss.take i)).map iV ++ (if pss.take i = [] then ([] : Its) else [scC]).map iV)) = H3 at sc gc ⊢
          have s13 := s2.trans sc
          refine ⟨_, rfl, g, ps, rfl, (pr.same s11).same s13, l8, bb, fun H4 d s4 nd2 hd => ?_⟩
          have lP := pI_le ps
          refine ⟨c, d, _, _, rfl, rfl, s4 _ _ gc, hd.at_, ?_, fun r nr => ?_⟩
          · rw [List.length_append, List.length_map, List.length_map, List.length_map]
            show _ ≤ 2 ^ 24
            omega
          · have s14 := s13.trans s4
            have sr := s14.trans (same_new (o := .lst (((aI (pss.take i)).map iV ++ (if pss.take i = [] then ([] : Its) else [scC]).map iV) ++ (pI ps).map iV)) nr)
            refine ⟨s11.trans sr, r, _, _, rfl, (s11.trans s14).free nr, ?_⟩
            rw [upd_same, take_more hq, aI_snoc, List.map_append, List.map_append]
    · obtain ⟨s1, F, x2, x3, rfl, nF, hF⟩ := p
      rw [List.length_map, las, List.take_length] at hF
      exact ⟨_, rfl, q H' F s1 nF ⟨hF, fun x hx => Nat.le_trans (aI_lens (fun l hl => (b9 l hl).2) x hx) (by decide), Nat.le_trans (aI_le fun l hl => (b9 l hl).1) (by omega)⟩⟩
/-! ### _law_is_number -/
def chS (c : Nat) : V := .str ⟨#[c]⟩
theorem lc_str {z : Str} {g : TG} {tt : TT} {te : TE} {vs : List Nat} {σ : L2.St} {H1 : Hp} {D : Addr} {Qd : Hp → Prop} (Pv : Nat → Hp → Prop) (h0 : Pv 0 (upd H1 D (.lst [])))
    (hs : ∀ i c H, z.cps.toList[i]? = some c → Pv i H → g (chS c) (wipe σ vs) H fun σ2 H2 => wipe σ2 vs = wipe σ vs ∧ tt σ2 H2 fun b H3 =>
      if b = true then te σ2 H3 fun y H4 => ∃ acc, H4 D = some (.lst acc) ∧ acc.length < sizeLine ∧ Pv (i + 1) (upd H4 D (.lst (acc ++ [y]))) else Pv (i + 1) H3) (hd : ∀ H, Pv z.cps.toList.length H → Qd H) :
    ∃ W : Nat → Nat → Hp → Prop, (∃ m, W 0 m (upd H1 D (.lst []))) ∧ ∀ i m H, W i m H →
      ((L2.Its z).stop i H ∧ Qd H) ∨ ((L2.Its z).go i H ∧ ∃ Nx : Hp → Prop, (∀ H', Nx H' → ∃ m', m' < m ∧ W (i + 1) m' H') ∧ ∀ x H', (L2.Its z).yld i H x H' → g x (wipe σ vs) H' fun σ2 H2 => wipe σ2 vs = wipe σ vs ∧ tt σ2 H2 fun b H3 =>
        if b = true then te σ2 H3 fun y H4 => ∃ acc, H4 D = some (.lst acc) ∧ acc.length < sizeLine ∧ Nx (upd H4 D (.lst (acc ++ [y]))) else Nx H3) := by
  have el : z.cps.toList.length = z.cps.size := Array.length_toList
  refine ⟨fun i m H => m = z.cps.size - i ∧ i ≤ z.cps.size ∧ Pv i H, ⟨z.cps.size, by simp, Nat.zero_le _, h0⟩, ?_⟩
  rintro i m H ⟨rfl, hi, p⟩
  by_cases hlt : i < z.cps.size
  · refine .inr ⟨hlt, Pv (i + 1), fun H' p' => ⟨z.cps.size - (i + 1), by omega, rfl, hlt, p'⟩, fun x H' y => ?_⟩
    obtain ⟨rfl, c, hc, rfl⟩ := y
    exact hs i c _ (by rw [Array.getElem?_toList]; exact hc) p
  · have e : i = z.cps.size := by omega
    subst e
    exact .inl ⟨Nat.le_refl _, hd H (by rw [el]; exact p)⟩
theorem dig_mem (c : Nat) : decide (c ∈ (PySem.Str.ofString "0123456789").cps.toList) = isDg c := by
  have e : (PySem.Str.ofString "0123456789").cps.toList = [48, 49, 50, 51, 52, 53, 54, 55, 56, 57] := rfl
  rw [e]
  unfold isDg
  rw [Bool.eq_iff_iff, decide_eq_true_iff, Bool.and_eq_true, decide_eq_true_iff, decide_eq_true_iff]
  simp only [List.mem_cons, List.not_mem_nil, or_false]
  omega
def chD (c : Nat) : PyData := .str ⟨#[c]⟩
theorem dp_ch {K : PySem.W.Frag} {H : Hp} : ∀ l : List Nat, DpAll K H (l.map chS) (l.map chD)
  | [] => .nil
  | _ :: l => .cons (.str _) (dp_ch l)
def Cks (its : Its) : Prop := ∀ a ∈ its, ∀ c ∈ a, c < 1114112
theorem ch_lay : ∀ l : List Nat, (∀ c ∈ l, c < 1114112) → PyData.canLayAll0 (l.map chD) = true ∧ PyData.depthAll (l.map chD) ≤ 1
  | [], _ => ⟨rfl, by decide⟩
  | c :: l, h => by
    obtain ⟨h1, h2⟩ := ch_lay l fun z hz => h z (List.mem_cons_of_mem _ hz)
    refine ⟨?_, ?_⟩
    · show (PyData.canLay0 (chD c) && PyData.canLayAll0 (l.map chD)) = true
      rw [h1, Bool.and_true]
      show (#[c] : Array Nat).all (fun z => decide (z < 1114112)) = true
      have := h c List.mem_cons_self
      simp [this]
    · show max (PyData.depth (chD c)) (PyData.depthAll (l.map chD)) ≤ 1
      exact Nat.max_le.mpr ⟨by show 0 ≤ 1; decide, h2⟩
theorem ch_sh (l : List Nat) (h : ∀ c ∈ l, c < 1114112) : SeqAt.shaped (.list (l.map chD)) = true := by
  obtain ⟨h1, h2⟩ := ch_lay l h
  show (PyData.canLayAll0 (l.map chD) && decide (PyData.depthAll (l.map chD) + 1 ≤ 64)) = true
  rw [h1, Bool.true_and, decide_eq_true_iff]
  omega
theorem dgs_sub {a : Cd} {c : Nat} (h : c ∈ dgs a) : c ∈ a := by
  unfold dgs at h
  split at h
  · exact List.mem_of_mem_drop h
  · exact h
theorem filter_all : ∀ l : List Nat, decide ((l.filter fun c => !isDg c) = []) = l.all isDg
  | [] => rfl
  | c :: l => by
    have ih := filter_all l
    rw [List.all_cons, ← ih]
    cases h : isDg c <;> simp [h]
theorem wr_dgs {a : Cd} (h : wrt a = true) : Wr (dgs a) ∧ vlu (dgs a) = ((NumText.digitsVal (dgs a) : Nat) : Int) ∧ decide (((NumText.digitsVal (dgs a) : Nat) : Int) ≤ (10 : Int) ^ (Int.toNat 9)) = (num a).isSome := by
  have w := wr_of h
  have h45 : (dgs a).head? ≠ some 45 := fun z => by
    cases e : dgs a with
    | nil => rw [e] at z; cases z
    | cons c r =>
      rw [e] at z
      have := (w.d c (by rw [e]; exact List.mem_cons_self)).1
      have z := Option.some.inj z
      omega
  have ed : dgs (dgs a) = dgs a := if_neg h45
  refine ⟨⟨by rw [ed]; exact w.l1, by rw [ed]; exact w.l2, by rw [ed]; exact w.d, ?_⟩, ?_, ?_⟩
  · rw [ed]
    rcases w.z with z | z
    · exact .inl (by rw [z]; rfl)
    · exact .inr z
  · unfold vlu
    rw [if_neg h45, ed]
  · have e9 : (10 : Int) ^ (Int.toNat 9) = 1000000000 := by decide
    have eG : G9 = 1000000000 := rfl
    unfold num
    rw [h, e9, Bool.true_and]
    have ev : vlu a = -((NumText.digitsVal (dgs a) : Nat) : Int) ∨ vlu a = ((NumText.digitsVal (dgs a) : Nat) : Int) := by
      unfold vlu
      split
      · exact .inl rfl
      · exact .inr rfl
    by_cases z : ((NumText.digitsVal (dgs a) : Nat) : Int) ≤ 1000000000
    · rw [decide_eq_true z, decide_eq_true (show -G9 ≤ vlu a by rcases ev with e | e <;> omega), decide_eq_true (show vlu a ≤ G9 by rcases ev with e | e <;> omega)]
      rfl
    · rw [decide_eq_false z]
      have : (decide (-G9 ≤ vlu a) && decide (vlu a ≤ G9)) = false := by
        rcases ev with e | e
        · rw [decide_eq_false (show ¬ -G9 ≤ vlu a by omega)]
          rfl
        · rw [decide_eq_false (show ¬ vlu a ≤ G9 by omega)]
          simp
      rw [this]
      rfl
def spIn : Sp := fun vs H Q _ => ∃ (b : Addr) (its : Its) (i : Nat), vs = [.ref b, .int i] ∧ Itm H b its ∧ Cks its ∧ ∀ H', Same H H' → Q (.bl (nAt its i).isSome) H'
abbrev sIn : Stmt := top 52
abbrev nIn : List Str := ["_law_items_here", "_law_at", "_law_plain", "_law_sign"]
theorem scIn : FnScope nIn ["_law_items_here", "_law_at"] (defScope sIn) := ⟨rfl, rfl, rfl, by decide +kernel, rfl, by decide +kernel, by decide +kernel⟩
theorem ok_in {f : Addr} {fd : FuncData} (F : Fun K "_law_is_number" "_law_is_number" sIn f fd) (B : Bn mg) : FnOk P w K mg base CX0 1 f fd ["_law_items_here", "_law_at"] spIn := by
  have nd := scIn.nd
  refine F.ok scIn (fun vs H Q E h => ?_) (fun cdv A outer s H vs Q E hr h => ?_)
  · obtain ⟨b, its, i, rfl, _⟩ := h
    rfl
  · obtain ⟨b, its, i, rfl, hI, hC, q⟩ := h
    refine ⟨_, (pss_cons (ps_if (pt_cmpR op_ge (pv 1) (pe_callB call_len_seq (by rfl) B.len PySem.boot_len (pa_cons (pv 0) pa_nil)) (nomark _)) (pss_one (ps_ret pe_bl)) pss_nil) (pss_cons ((ps_set (i := 2) nd rfl (Or.inl rfl) (pe_ifExp (pt_cmpR op_eq (pe_slice C8.sl_txt (pe_ix ix_list (pv 0) (pv 1) (fun _ _ => rfl)) po_none (po_some pe_int)) pe_str (nomark _)) (pe_slice C8.sl_txt (pe_ix ix_list (pv 0) (pv 1) (fun _ _ => rfl)) (po_some pe_int) po_none) (pe_ix ix_list (pv 0) (pv 1) (fun _ _ => rfl))))) (pss_cons (ps_if (PW.pt (pw_or (pt_not (pt_chain op_le op_le pe_int (pe_callB call_len_str (by rfl) B.len PySem.boot_len (pa_cons (pv 2) pa_nil)) pe_int)) (pw_or1 (pt_cmpR (op_neD hr.units) (pe_lc (own := [("_law_sign", 3)]) (g := gName 3) (tt := tTest (tOp (fun x y H Q => ∃ (c : Nat) (z : Str), x = .str ⟨#[c]⟩ ∧ y = .str z ∧ Q (.bl (!decide (c ∈ z.cps.toList))) H) (tVar 3) (tC (.str (PySem.Str.ofString "0123456789"))))) rfl nd (pi_str (pv 2)) (blkOk_by (N := nIn) (sc := defScope sIn) (by decide +kernel)) (fun _ _ _ _ _ => (pg_name (i := 3) nd rfl (Or.inl rfl))) (fun _ _ _ _ _ => pts_one (pt_cmpR op_notIn_sign (pv 3) pe_str rfl)) (fun _ _ _ _ _ => pv 3)) (pe_lst pa_nil) (nomark _)))))
        (pss_one (ps_ret pe_bl)) pss_nil) (pss_one (ps_ret (pe_and (pe_or (pe_cmpR op_ne (pe_ix ix_seq (pv 2) (pe_int) (fun _ _ => rfl)) pe_str (nomark _)) (pe_one (pe_cmpR op_eq (pe_ix ix_list (pv 0) (pv 1) (fun _ _ => rfl)) pe_str (nomark _)))) (pe_one (pe_cmpR op_le (pe_callTy call_int_str (by rfl) B.int boot_int (pa_cons (pv 2) pa_nil)) (pe_op op_pow pe_int pe_int) (nomark _))))))))), ?_⟩
    have hb := hI.at_
    have e45 : PySem.Str.ofString "-" = SX.S [45] := str_S rfl
    have e48 : PySem.Str.ofString "0" = SX.S [48] := str_S rfl
    refine ⟨_, rfl, _, rfl, b, _, rfl, .inl (SqL.of hb), _, _, rfl, rfl, _, rfl, ?_⟩
    rw [List.length_map]
    by_cases hlt : i < its.length
    · rw [decide_eq_false (show ¬ (((its.length : Nat) : Int) ≤ (i : Nat)) by omega)]
      obtain ⟨a, ea⟩ : ∃ a, its[i]? = some a := ⟨_, List.getElem?_eq_getElem hlt⟩
      have la := hI.len a (List.mem_of_getElem? ea)
      have lz : (SX.S a).length ≤ sizeLine := by
        rw [SX.S_len]
        show a.length ≤ 2 ^ 24
        omega
      have en : nAt its i = num a := by
        unfold nAt
        rw [ea]
        rfl
      rw [en] at q
      refine iteF ?_
      show tSeq _ _ _ _ _
      dsimp only [gName, tSeq, tAsg]
      refine tIf_key (fun v H' => v = .str (SX.S (dgs a)) ∧ H' = H) (fun Q hQ => ?_) (fun v H' hG => ?_)
      · refine ⟨_, rfl, _, rfl, b, _, (i : Nat), iV a, rfl, rfl, SqL.of hb, atI_nat (it_get ea), 1, rfl, _, rfl, lz, rfl, _, rfl, ?_⟩
        rw [SX.slice_to (by decide), e45, dec_S]
        have e1 : decide (a.take (Int.toNat 1) = [45]) = decide (a.head? = some 45) := by
          cases a with
          | nil => rfl
          | cons c r =>
            show decide ([c] = [45]) = decide (some c = some 45)
            by_cases z : c = 45
            · rw [z]; rfl
            · rw [decide_eq_false fun w => z (List.cons.inj w).1, decide_eq_false fun w => z (Option.some.inj w)]
        rw [e1]
        unfold dgs at hQ
        by_cases c : a.head? = some 45
        · rw [decide_eq_true c]
          rw [if_pos c] at hQ
          exact iteT ⟨_, rfl, _, rfl, b, _, (i : Nat), iV a, rfl, rfl, SqL.of hb, atI_nat (it_get ea), 1, rfl, _, rfl, lz, hQ _ _ ⟨by rw [cut1_S], rfl⟩⟩
        · rw [decide_eq_false c]
          rw [if_neg c] at hQ
          exact iteF ⟨_, rfl, _, rfl, b, _, (i : Nat), iV a, rfl, rfl, SqL.of hb, atI_nat (it_get ea), hQ _ _ ⟨rfl, rfl⟩⟩
      · obtain ⟨rfl, rfl⟩ := hG
        have ld : (dgs a).length ≤ a.length := by
          unfold dgs
          split
          · rw [List.length_drop]
            omega
          · exact Nat.le_refl _
        have hd : (SX.S (dgs a)).length ≤ sizeLine := by
          rw [SX.S_len]
          show _ ≤ 2 ^ 24
          omega
        have nf : wrt a = false → (num a).isSome = false := fun z => by
          unfold num
          rw [z]
          rfl
        refine ⟨_, rfl, _, rfl, hd, _, _, rfl, rfl, _, rfl, ?_⟩
        rw [SX.S_len]
        by_cases h1 : 1 ≤ (dgs a).length
        · rw [decide_eq_true (show (1 : Int) ≤ ((dgs a).length : Nat) by omega)]
          refine iteT ⟨_, _, rfl, rfl, _, rfl, ?_⟩
          by_cases h2 : (dgs a).length ≤ 60
          · rw [decide_eq_true (show (((dgs a).length : Nat) : Int) ≤ 60 by omega)]
            refine iteF ?_
            refine ⟨_, rfl, _, rfl, fun D hD => ?_⟩
            refine lc_str (z := SX.S (dgs a)) (fun i H1 => Same H' H1 ∧ H1 D = some (.lst ((((dgs a).take i).filter fun c => !isDg c).map chS))) ⟨same_new hD, upd_same⟩ (fun j c H1 hc p => ?_) (fun H1 p => ?_)
            · have hc : (dgs a)[j]? = some c := hc
              have lj : j < (dgs a).length := (List.getElem?_eq_some_iff.mp hc).1
              refine ⟨rfl, _, rfl, c, _, rfl, rfl, _, rfl, ?_⟩
              rw [dig_mem]
              have et : ((dgs a).take (j + 1)).filter (fun c => !isDg c) = ((dgs a).take j).filter (fun c => !isDg c) ++ [c].filter fun c => !isDg c := by rw [take_more hc, List.filter_append]
              cases hg : isDg c with
              | true =>
                have e0 : [c].filter (fun c => !isDg c) = [] := by simp [hg]
                rw [e0, List.append_nil] at et
                exact iteF ⟨p.1, by rw [et]; exact p.2⟩
              | false =>
                have e0 : [c].filter (fun c => !isDg c) = [c] := by simp [hg]
                rw [e0] at et
                refine iteT ⟨_, rfl, _, p.2, ?_, fun z o e => ?_, ?_⟩
                · rw [List.length_map]
                  have := List.length_filter_le (fun c => !isDg c) ((dgs a).take j)
                  rw [List.length_take] at this
                  show _ < 2 ^ 24
                  omega
                · rw [upd_ne (ne_of_none e hD)]
                  exact p.1 _ _ e
                · rw [upd_same, et, List.map_append]
                  rfl
            · have e1 : (SX.S (dgs a)).cps.toList.length = (dgs a).length := rfl
              rw [e1, List.take_length] at p
              obtain ⟨s1, g1⟩ := p
              refine ⟨by show 0 ≤ sizeLine; decide, fun e he => ?_⟩
              have s2 := same_new (o := .lst []) he
              refine ⟨_, _, .lst (SqL.of (s2 _ _ g1)) (dp_ch _), .lst (SqL.of upd_same) .nil, ch_sh _ (fun c hc => hC a (List.mem_of_getElem? ea) c (dgs_sub (List.mem_filter.mp hc).1)), by decide, _, rfl, ?_⟩
              have eN : PyData.eqv (.list (((dgs a).filter fun c => !isDg c).map chD)) (.list []) = (dgs a).all isDg := by
                rw [← filter_all]
                cases (dgs a).filter fun c => !isDg c with
                | nil => rfl
                | cons _ _ => rfl
              rw [eN]
              have s12 := s1.trans s2
              cases hB : (dgs a).all isDg with
              | false =>
                exact iteT (by rw [← nf (by unfold wrt; rw [hB]; simp)]; exact q _ s12)
              | true =>
                refine iteF ?_
                obtain ⟨c, r, ed⟩ : ∃ c r, dgs a = c :: r := by
                  cases hd' : dgs a with
                  | nil => rw [hd'] at h1; exact absurd h1 (by decide)
                  | cons c r => exact ⟨c, r, rfl⟩
                refine ⟨_, rfl, .inr (.inr ⟨_, 0, c, rfl, rfl, hd, atI_nat (j := 0) (by rw [ed]; rfl), ?_⟩)⟩
                refine ⟨rfl, _, rfl, ?_⟩
                have e3 : (⟨#[c]⟩ : Str) = SX.S [c] := rfl
                rw [e48, e3, dec_S]
                have e4 : (!decide ([c] = ([48] : Cd))) = decide ((dgs a).head? ≠ some 48) := by
                  rw [ed]
                  by_cases z : c = 48
                  · rw [z]
                    rfl
                  · rw [decide_eq_false fun w => z (List.cons.inj w).1, show decide ((c :: r).head? ≠ some 48) = true from decide_eq_true fun w => z (Option.some.inj w)]
                    rfl
                rw [e4]
                have ew : wrt a = (decide (a = [48]) || decide ((dgs a).head? ≠ some 48)) := by
                  unfold wrt
                  rw [decide_eq_true h1, decide_eq_true h2, hB]
                  rfl
                have hb2 := (hI.same s12).at_
                have fin : ∀ hw : wrt a = true, PySem.intText? (SX.S (dgs a)) = some (vlu (dgs a)) ∧ (SX.S (dgs a)).length ≤ 640 ∧ decide (vlu (dgs a) ≤ (10 : Int) ^ (Int.toNat 9)) = (num a).isSome := fun hw => by
                  obtain ⟨w1, w2, w3⟩ := wr_dgs hw
                  obtain ⟨iv, il⟩ := int_wr w1
                  exact ⟨iv, il, by rw [w2]; exact w3⟩
                cases hz : decide ((dgs a).head? ≠ some 48) with
                | true =>
                  obtain ⟨iv, il, eb⟩ := fin (by rw [ew, hz, Bool.or_true])
                  refine iteT ⟨_, rfl, iteT ⟨_, rfl, _, _, rfl, iv, il, _, _, rfl, rfl, ⟨by decide, by decide, by decide⟩, _, _, rfl, rfl, ?_⟩⟩
                  show Q (.bl (decide (vlu (dgs a) ≤ (10 : Int) ^ (Int.toNat 9)))) _
                  rw [eb]
                  exact q _ s12
                | false =>
                  refine iteF ⟨_, rfl, _, rfl, b, _, (i : Nat), iV a, rfl, rfl, SqL.of hb2, atI_nat (it_get ea), rfl, _, rfl, ?_⟩
                  rw [dec_S]
                  by_cases z : a = [48]
                  · obtain ⟨iv, il, eb⟩ := fin (by rw [ew, decide_eq_true z, Bool.true_or])
                    rw [decide_eq_true z]
                    refine iteT ⟨_, rfl, _, _, rfl, iv, il, _, _, rfl, rfl, ⟨by decide, by decide, by decide⟩, _, _, rfl, rfl, ?_⟩
                    show Q (.bl (decide (vlu (dgs a) ≤ (10 : Int) ^ (Int.toNat 9)))) _
                    rw [eb]
                    exact q _ s12
                  · rw [decide_eq_false z]
                    refine iteF ?_
                    rw [← nf (by rw [ew, decide_eq_false z, hz]; rfl)]
                    exact q _ s12
          · rw [decide_eq_false (show ¬ (((dgs a).length : Nat) : Int) ≤ 60 by omega)]
            exact iteT (by rw [← nf (by unfold wrt; rw [decide_eq_false h2]; simp)]; exact q _ Same.me)
        · rw [decide_eq_false (show ¬ (1 : Int) ≤ ((dgs a).length : Nat) by omega)]
          exact iteF ⟨_, rfl, iteT (by rw [← nf (by unfold wrt; rw [decide_eq_false h1]; simp)]; exact q _ Same.me)⟩
    · rw [decide_eq_true (show ((its.length : Nat) : Int) ≤ (i : Nat) by omega)]
      have e0 : (nAt its i).isSome = false := by
        unfold nAt
        rw [List.getElem?_eq_none (by omega)]
        rfl
      rw [e0] at q
      exact iteT (q _ Same.me)
end
end K17

namespace K17
open PySem PySem.Spec PyProof.Rows L2
/-- what is told of places -/
def OutP (H' : Hp) (t : Addr) : Nat × Option PS → Prop
  | (e, none) => H' t = some (.tup [.int (e : Nat), .non])
  | (j, some l) => ∃ d ts, LP H' d ts l ∧ H' t = some (.tup [.int (j : Nat), .ref d])
section
variable {P : Program} {w : World} {K : PySem.W.Frag} {mg : Str → Option Value} {base : Heap}
/-! ### _law_in_places -/
def spLp : Sp := fun vs H Q _ => ∃ (b : Addr) (its : Its) (i few most : Nat), vs = [.ref b, .int i, .int few, .int most] ∧ Itm H b its ∧ Cks its ∧ i ≤ its.length + 1 ∧ 1 ≤ few ∧ few ≤ most ∧ most ≤ 7 ∧ ∀ H' t, Same H H' → OutP H' t (lp its few most (its.length + 1) i []) → Q (.ref t) H'
abbrev sLp : Stmt := top 53
abbrev nLp : List Str := ["_law_items_here", "_law_at", "_law_fewest", "_law_most", "_law_found", "_law_spot"]
theorem scLp : FnScope nLp ["_law_items_here", "_law_at", "_law_fewest", "_law_most"] (defScope sLp) := ⟨rfl, rfl, rfl, by decide +kernel, rfl, by decide +kernel, by decide +kernel⟩
theorem num_int {its : Its} {i : Nat} {x : Int} (h : nAt its i = some x) : ∃ a, its[i]? = some a ∧ PySem.intText? (SX.S a) = some x ∧ (SX.S a).length ≤ 640 := by
  unfold nAt at h
  cases e : its[i]? with
  | none => rw [e] at h; cases h
  | some a =>
    rw [e] at h
    have h : num a = some x := h
    obtain ⟨_, _, _, w, ev⟩ := sh_num h
    obtain ⟨iv, il⟩ := int_wr w
    exact ⟨a, rfl, by rw [iv, ev], il⟩
theorem more_of {its : Its} {i : Nat} {a : Cd} (h : its[i]? = some a) : more its i = decide (a = [47]) := by
  unfold more
  rw [h]
  by_cases z : a = [47]
  · rw [z]
    rfl
  · rw [decide_eq_false z, decide_eq_false fun w => z (Option.some.inj w)]
theorem more_no {its : Its} {i : Nat} (h : its.length ≤ i) : more its i = false := by
  unfold more
  rw [List.getElem?_eq_none h]
  rfl
theorem ok_lp' {f : Addr} {fd : FuncData} (F : Fun K "_law_in_places" "_law_in_places" sLp f fd) (B : Bn mg) (C1 : Callee P w K mg base CX0 1 "_law_is_number" ["_law_items_here", "_law_at"] spIn) : FnOk P w K mg base CX0 2 f fd ["_law_items_here", "_law_at", "_law_fewest", "_law_most"] spLp := by
  obtain ⟨f1, fd1, m1, k1, b1, G1⟩ := C1
  have nd := scLp.nd
  refine F.ok scLp (fun vs H Q E h => ?_) (fun cdv A outer s H vs Q E hr h => ?_)
  · obtain ⟨b, its, i, few, most, rfl, _⟩ := h
    rfl
  · obtain ⟨b, its, i, few, most, rfl, hI, hC, hi, h1, fm, m7, q⟩ := h
    refine ⟨_, (pss_cons ((ps_set (i := 4) nd rfl (Or.inl rfl) (pe_lst pa_nil))) (pss_one (ps_while PassesOwn.never (pt_val pe_bl)
        (pss_cons (ps_for PassesOwn.never rfl (pi_tup (pe_tup (pa_cons (pv 1) (pa_cons (pe_op op_add (pv 1) pe_int) pa_nil)))) (pg_name (i := 5) nd rfl (Or.inl rfl))
              (pss_one (ps_if (pt_not (pt_val (pe_call G1 (hr.mono (by decide)) rfl m1 k1 b1 .nil pass0 (pa_cons (pv 0) (pa_cons (pv 5) pa_nil))))) (pss_one (ps_ret (pe_tup (pa_cons (pv 5) (pa_cons (pe_non) pa_nil))))) pss_nil))) (pss_cons (ps_expr (pe_bm PySem.F.plainAttrs_list PySem.F.slot_list_append PySem.F.type_list_append mt_append (pv 4) (pa_cons ((pe_tup (pa_cons (pe_callTy call_int_str (by rfl) B.int boot_int (pa_cons ((pe_ix ix_list (pv 0) (pv 1) (fun _ _ => rfl))) pa_nil)) (pa_cons (pe_callTy call_int_str (by rfl) B.int boot_int (pa_cons ((pe_ix ix_list (pv 0) (pe_op op_add (pv 1) pe_int) (fun _ _ => rfl))) pa_nil)) pa_nil)))) pa_nil))) (pss_cons ((ps_set (i := 1) nd rfl (Or.inl rfl) (pe_op op_add (pv 1) pe_int))) (pss_cons (ps_if (PW.pt (pw_and (pt_cmpR op_ge (pe_callB call_len_seq (by rfl) B.len PySem.boot_len (pa_cons (pv 4) pa_nil)) (pv 2) (nomark _)) (pw_and1 ((PW.pt (pw_or ((pt_cmpR op_eq ((pe_callB call_len_seq (by rfl) B.len PySem.boot_len (pa_cons (pv 4) pa_nil))) (pv 3) (nomark _))) (pw_or (pt_cmpR op_ge (pv 1) (pe_callB call_len_seq (by rfl) B.len PySem.boot_len (pa_cons (pv 0) pa_nil)) (nomark _)) (pw_or1 ((pt_cmpR op_ne ((pe_ix ix_list (pv 0) (pv 1) (fun _ _ => rfl))) (pe_str) (nomark _))))))))))) (pss_one (ps_ret (pe_tup (pa_cons (pv 1) (pa_cons (pv 4) pa_nil))))) pss_nil) (pss_cons (ps_if (PW.pt (pw_or (pt_cmpR op_ge (pv 1) (pe_callB call_len_seq (by rfl) B.len PySem.boot_len (pa_cons (pv 0) pa_nil)) (nomark _)) (pw_or1 ((pt_cmpR op_ne ((pe_ix ix_list (pv 0) (pv 1) (fun _ _ => rfl))) (pe_str) (nomark _)))))) (pss_one (ps_ret (pe_tup (pa_cons (pv 1) (pa_cons (pe_non) pa_nil))))) pss_nil) (pss_one ((ps_set (i := 1) nd rfl (Or.inl rfl) (pe_op op_add (pv 1) pe_int)))))))))))), ?_⟩
    have e47 : PySem.Str.ofString "/" = SX.S [47] := str_S rfl
    refine ⟨by show 0 ≤ sizeLine; decide, fun F0 nF => ?_⟩
    generalize hR : lp its few most (its.length + 1) i [] = R at q
    refine ⟨fun m σ H' => ∃ (i : Nat) (acc : PS) (ts : List Addr) (x5 : Option V), σ = [some (.ref b), some (.int (i : Nat)), some (.int (few : Nat)), some (.int (most : Nat)), some (.ref F0), x5] ∧ Same H H' ∧ LP H' F0 ts acc ∧ i ≤ its.length + 1 ∧ its.length + 1 ≤ i + m ∧ acc.length < most ∧ lp its few most m i acc = R,
      ⟨its.length + 1, i, [], [], none, rfl, same_new nF, ⟨upd_same, .nil⟩, hi, by omega, by show 0 < most; omega, hR⟩, ?_⟩
    clear hi hR
    rintro m _ H1 ⟨i, acc, ts, x5, rfl, s1, hd, hi, hf, hl, hR⟩
    have hI1 := hI.same s1
    have hts := hd.len
    have hfew := hI.few
    refine ⟨_, rfl, iteT ⟨_, fun _ _ z => z, ?_⟩⟩
    refine ⟨_, rfl, _, rfl, _, _, rfl, rfl, by show 2 ≤ sizeLine; decide, fun c nc => ?_⟩
    have sc := same_new (o := .tup [V.int (i : Nat), V.int ((i : Nat) + 1)]) nc
    have gc : upd H1 c (.tup [V.int (i : Nat), V.int ((i : Nat) + 1)]) c = some (.tup [V.int (i : Nat), V.int ((i : Nat) + 1)]) := upd_same
    generalize upd H1 c (.tup [V.int (i : Nat), V.int ((i : Nat) + 1)]) = H2 at sc gc ⊢
    have s2 := s1.trans sc
    refine ⟨c, rfl, ⟨_, SqT.of gc⟩, ?_⟩
    refine for_tup (K := K) (a := c) (xs := [V.int (i : Nat), V.int ((i : Nat) + 1)]) (fun j σ H' => Same H2 H' ∧ (0 < j → ∃ x, nAt its i = some x) ∧ (1 < j → ∃ y, nAt its (i + 1) = some y) ∧ ∃ x5, σ = [some (.ref b), some (.int (i : Nat)), some (.int (few : Nat)), some (.int (most : Nat)), some (.ref F0), x5]) ⟨Same.me, fun h => absurd h (Nat.lt_irrefl _), fun h => absurd h (by omega), _, rfl⟩ (fun j σ H' _ p => SqT.of (p.1 _ _ gc)) (fun j v σ H' hv p => ?_) (fun σ H' p => ?_)
    · obtain ⟨sp, p1, p2, x5, rfl⟩ := p
      have s3 := s2.trans sp
      match j, hv with
      | 0, hv =>
        cases hv
        refine ⟨_, rfl, _, rfl, b, its, i, rfl, hI.same s3, hC, fun H4 s4 => ⟨_, rfl, ?_⟩⟩
        cases ex : nAt its i with
        | some x => exact iteF ⟨sp.trans s4, fun _ => ⟨x, rfl⟩, fun h => absurd h (by omega), _, rfl⟩
        | none =>
          rw [lp_no ex] at hR
          refine iteT ⟨_, rfl, by show 2 ≤ sizeLine; decide, fun t nt => q _ t ((s3.trans s4).trans (same_new nt)) ?_⟩
          rw [← hR]
          exact upd_same
      | 1, hv =>
        cases hv
        obtain ⟨x, ex⟩ := p1 (by decide)
        refine ⟨_, rfl, _, rfl, b, its, i + 1, rfl, hI.same s3, hC, fun H4 s4 => ⟨_, rfl, ?_⟩⟩
        cases ey : nAt its (i + 1) with
        | some y => exact iteF ⟨sp.trans s4, fun _ => ⟨x, ex⟩, fun _ => ⟨y, rfl⟩, _, rfl⟩
        | none =>
          have l1 : i < its.length := (List.getElem?_eq_some_iff.mp (nat_at ex).1).1
          obtain ⟨m, rfl⟩ : ∃ k, m = k + 1 := ⟨m - 1, by omega⟩
          rw [lp_no1 ex ey] at hR
          refine iteT ⟨_, rfl, by show 2 ≤ sizeLine; decide, fun t nt => q _ t ((s3.trans s4).trans (same_new nt)) ?_⟩
          rw [← hR]
          exact upd_same
      | j + 2, hv => cases hv
    · obtain ⟨sp, p1, p2, x5, rfl⟩ := p
      obtain ⟨x, ex⟩ := p1 (by show 0 < 2; decide)
      obtain ⟨y, ey⟩ := p2 (by show 1 < 2; decide)
      have s3 := s2.trans sp
      have hb3 := (hI.same s3).at_
      have l1 : i + 1 < its.length := (List.getElem?_eq_some_iff.mp (nat_at ey).1).1
      obtain ⟨m, rfl⟩ : ∃ k, m = k + 1 := ⟨m - 1, by omega⟩
      rw [lp_two ex ey] at hR
      obtain ⟨ax, gx, ivx, ilx⟩ := num_int ex
      obtain ⟨ay, gy, ivy, ily⟩ := num_int ey
      have hd3 := (hd.same sc).same sp
      refine ⟨_, rfl, .inl ⟨rfl, _, SqL.of hd3.1⟩, ?_⟩
      refine ⟨_, rfl, _, rfl, b, _, (i : Nat), iV ax, rfl, rfl, SqL.of hb3, atI_nat (it_get gx), _, _, rfl, ivx, ilx, ?_⟩
      refine ⟨_, rfl, _, rfl, _, _, rfl, rfl, b, _, ((i + 1 : Nat) : Int), iV ay, rfl, rfl, SqL.of hb3, atI_nat (it_get gy), _, _, rfl, ivy, ily, ?_⟩
      refine ⟨by show 2 ≤ sizeLine; decide, fun g ng => ?_⟩
      have sg := same_new (o := .tup [V.int x, V.int y]) ng
      have gg : upd H' g (.tup [V.int x, V.int y]) g = some (.tup [V.int x, V.int y]) := upd_same
      generalize upd H' g (.tup [V.int x, V.int y]) = H4 at sg gg ⊢
      have hd4 := hd3.same sg
      refine ⟨F0, _, _, rfl, rfl, hd4.1, ?_, ?_⟩
      · rw [List.length_map, hts]
        exact small1000 (by omega)
      have hd5 : LP (upd H4 F0 (.lst (ts.map V.ref ++ [V.ref g]))) F0 (ts ++ [g]) (acc ++ [(x, y)]) := ⟨by rw [upd_same, List.map_append]; rfl, prs_upd hd4.1 (paired_snoc hd4.2 gg)⟩
      have s5 : Same H (upd H4 F0 (.lst (ts.map V.ref ++ [V.ref g]))) := fun z o ez => by
        rw [upd_ne (ne_of_none ez nF)]
        exact sg _ _ (s3 _ _ ez)
      generalize upd H4 F0 (.lst (ts.map V.ref ++ [V.ref g])) = H5 at hd5 s5 ⊢
      have lacc : (acc ++ [(x, y)]).length = acc.length + 1 := by rw [List.length_append]; rfl
      have lts5 := hd5.len
      generalize acc ++ [(x, y)] = acc2 at hR hd5 lacc lts5
      generalize ts ++ [g] = ts2 at hd5 lts5
      have hb5 := (hI.same s5).at_
      refine ⟨_, rfl, _, _, rfl, rfl, ?_⟩
      have e2 : ((i : Nat) : Int) + 2 = ((i + 2 : Nat) : Int) := by omega
      dsimp only [gName, tSeq, tIfS]
      refine tt_key (decide (few ≤ acc2.length) && (decide (acc2.length = most) || !more its (i + 2))) (fun Q' q' => ?_) ?_
      · refine ⟨_, rfl, F0, _, rfl, .inl (SqL.of hd5.1), _, rfl, _, _, rfl, rfl, _, rfl, ?_⟩
        rw [List.length_map, lts5]
        by_cases z1 : few ≤ acc2.length
        · rw [decide_eq_true (show ((few : Nat) : Int) ≤ (acc2.length : Nat) by omega)]
          rw [decide_eq_true z1, Bool.true_and] at q'
          refine iteT ⟨_, rfl, F0, _, rfl, .inl (SqL.of hd5.1), _, rfl, rfl, _, rfl, ?_⟩
          rw [List.length_map, lts5]
          by_cases z2 : acc2.length = most
          · rw [decide_eq_true (show V.int ((acc2.length : Nat) : Int) = V.int ((most : Nat) : Int) by rw [z2])]
            rw [decide_eq_true z2, Bool.true_or] at q'
            exact iteT q'
          · rw [decide_eq_false (show ¬ V.int ((acc2.length : Nat) : Int) = V.int ((most : Nat) : Int) from fun z => z2 (by have := V.int.inj z; omega))]
            rw [decide_eq_false z2, Bool.false_or] at q'
            refine iteF ?_
            refine ⟨_, rfl, _, rfl, b, _, rfl, .inl (SqL.of hb5), _, _, rfl, rfl, _, rfl, ?_⟩
            rw [List.length_map]
            by_cases hl2 : i + 2 < its.length
            · rw [decide_eq_false (show ¬ (((its.length : Nat) : Int) ≤ ((i : Nat) : Int) + 2) by omega)]
              obtain ⟨a, ea⟩ : ∃ a, its[i + 2]? = some a := ⟨_, List.getElem?_eq_getElem hl2⟩
              refine iteF ⟨_, rfl, _, rfl, b, _, ((i + 2 : Nat) : Int), iV a, rfl, rfl, SqL.of hb5, atI_nat (it_get ea), rfl, _, rfl, ?_⟩
              rw [e47, dec_S, ← more_of ea]
              exact q'
            · rw [decide_eq_true (show ((its.length : Nat) : Int) ≤ ((i : Nat) : Int) + 2 by omega)]
              have em : more its (i + 2) = false := more_no (by omega)
              rw [em] at q'
              exact iteT q'
        · rw [decide_eq_false (show ¬ ((few : Nat) : Int) ≤ (acc2.length : Nat) by omega)]
          rw [decide_eq_false z1, Bool.false_and] at q'
          exact iteF q'
      · cases hv : (decide (few ≤ acc2.length) && (decide (acc2.length = most) || !more its (i + 2))) with
        | true =>
          have eR : R = (i + 2, some acc2) := by
            rw [← hR]
            exact if_pos hv
          refine iteT ⟨_, rfl, _, rfl, by show 2 ≤ sizeLine; decide, fun t nt => q _ t (s5.trans (same_new nt)) ?_⟩
          rw [eR]
          exact ⟨F0, ts2, hd5.same (same_new nt), upd_same⟩
        | false =>
          have eR : (if more its (i + 2) = true then lp its few most m (i + 2 + 1) acc2 else (i + 2, none)) = R := by
            rw [← hR]
            unfold lpM
            rw [hv]
            rfl
          refine iteF ?_
          show tSeq _ _ _ _ _
          dsimp only [tSeq, tIfS]
          refine tt_key (!more its (i + 2)) (fun Q' q' => ?_) ?_
          · skip
            refine ⟨_, rfl, _, rfl, b, _, rfl, .inl (SqL.of hb5), _, _, rfl, rfl, _, rfl, ?_⟩
            rw [List.length_map]
            by_cases hl2 : i + 2 < its.length
            · rw [decide_eq_false (show ¬ (((its.length : Nat) : Int) ≤ ((i : Nat) : Int) + 2) by omega)]
              obtain ⟨a, ea⟩ : ∃ a, its[i + 2]? = some a := ⟨_, List.getElem?_eq_getElem hl2⟩
              refine iteF ⟨_, rfl, _, rfl, b, _, ((i + 2 : Nat) : Int), iV a, rfl, rfl, SqL.of hb5, atI_nat (it_get ea), rfl, _, rfl, ?_⟩
              rw [e47, dec_S, ← more_of ea]
              exact q'
            · rw [decide_eq_true (show ((its.length : Nat) : Int) ≤ ((i : Nat) : Int) + 2 by omega)]
              have em : more its (i + 2) = false := more_no (by omega)
              rw [em] at q'
              exact iteT q'
          · cases hm : more its (i + 2) with
            | false =>
              rw [hm] at eR
              have eR : (i + 2, none) = R := eR
              refine iteT ⟨_, rfl, by show 2 ≤ sizeLine; decide, fun t nt => q _ t (s5.trans (same_new nt)) ?_⟩
              rw [← eR]
              exact upd_same
            | true =>
              rw [hm, if_pos rfl] at eR
              have l2 : i + 2 < its.length := (List.getElem?_eq_some_iff.mp (more_at hm)).1
              have z : acc2.length ≠ most := fun z => by
                rw [decide_eq_true z, decide_eq_true (show few ≤ acc2.length by omega)] at hv
                cases hv
              refine iteF ⟨_, rfl, _, _, rfl, rfl, ?_⟩
              exact ⟨m, by omega, i + 2 + 1, acc2, ts2, x5, rfl, s5, hd5, by omega, by omega, by omega, eR⟩
end
end K17

namespace K17
open PySem PySem.Spec PyProof.Rows L2
/-- what is told of an album's pictures -/
def OutA (H' : Hp) (t : Addr) : Nat × Option PSS → Prop
  | (e, none) => H' t = some (.tup [.int (e : Nat), .non])
  | (j, some l) => ∃ d as, Told H' d as l ∧ H' t = some (.tup [.int (j : Nat), .ref d])
theorem told_ne {H : Hp} {g a : Addr} {as : List Addr} {pss : PSS} {ps : List (Int × Int)} (h : Told H g as pss) (hn : pss ≠ []) (l : LPx H a ps) : a ≠ g := by
  rintro rfl
  obtain ⟨ts, h1, h2⟩ := l
  obtain ⟨g1, g2⟩ := h
  rw [g1] at h1
  have e := HO.lst.inj (Option.some.inj h1)
  cases g2 with
  | nil => exact hn rfl
  | cons x y =>
    cases ts with
    | nil => cases e
    | cons t0 tr =>
      have e0 := V.ref.inj (List.cons.inj e).1
      obtain ⟨us, q1, _⟩ := x
      cases h2 with
      | cons z _ =>
        rw [e0] at q1
        have z : H t0 = some (.tup _) := z
        rw [z] at q1
        cases q1
theorem Told.snoc {H : Hp} {g a : Addr} {as : List Addr} {pss : PSS} {ps : List (Int × Int)} (h : Told H g as pss) (hn : pss ≠ []) (l : LPx H a ps) : Told (upd H g (.lst (as.map V.ref ++ [V.ref a]))) g (as ++ [a]) (pss ++ [ps]) := by
  have key : ∀ {c : Addr} {qs : List (Int × Int)}, LPx H c qs → LPx (upd H g (.lst (as.map V.ref ++ [V.ref a]))) c qs := fun {c qs} k => by
    have nc := told_ne h hn k
    obtain ⟨ts, k1, k2⟩ := k
    exact ⟨ts, by rw [upd_ne nc]; exact k1, prs_upd h.1 k2⟩
  exact ⟨by rw [upd_same, List.map_append]; rfl, paired_snoc (paired_mono h.2 fun _ _ z => key z) (key l)⟩
section
variable {P : Program} {w : World} {K : PySem.W.Frag} {mg : Str → Option Value} {base : Heap}
/-! ### _law_in_album -/
def spLa : Sp := fun vs H Q _ => ∃ (b : Addr) (its : Its), vs = [.ref b] ∧ Itm H b its ∧ Cks its ∧ ∀ H' t, Same H H' → OutA H' t (lalb its) → Q (.ref t) H'
abbrev sLa : Stmt := top 54
abbrev nLa : List Str := ["_law_items_here", "_law_at", "_law_found", "_law_told", "_law_pins"]
theorem scLa : FnScope nLa ["_law_items_here"] (defScope sLa) := ⟨rfl, rfl, rfl, by decide +kernel, rfl, by decide +kernel, by decide +kernel⟩
theorem ok_la {f : Addr} {fd : FuncData} (F : Fun K "_law_in_album" "_law_in_album" sLa f fd) (B : Bn mg) (C1 : Callee P w K mg base CX0 2 "_law_in_places" ["_law_items_here", "_law_at", "_law_fewest", "_law_most"] spLp) : FnOk P w K mg base CX0 3 f fd ["_law_items_here"] spLa := by
  obtain ⟨f1, fd1, m1, k1, b1, G1⟩ := C1
  have nd := scLa.nd
  refine F.ok scLa (fun vs H Q E h => ?_) (fun cdv A outer s H vs Q E hr h => ?_)
  · obtain ⟨b, its, rfl, _⟩ := h
    rfl
  · obtain ⟨b, its, rfl, hI, hC, q⟩ := h
    refine ⟨_, (pss_cons (ps_asg (pe_call G1 (hr.mono (by decide)) rfl m1 k1 b1 .nil pass0 (pa_cons (pv 0) (pa_cons (pe_int) (pa_cons (pe_int) (pa_cons (pe_int) pa_nil))))) (pg_tup rfl (pgs_cons ((pg_name (i := 1) nd rfl (Or.inl rfl))) (pgs_cons ((pg_name (i := 2) nd rfl (Or.inl rfl))) pgs_nil)))) (pss_cons (ps_if (pt_cmpR op_isN (pv 2) pe_non (nomark _)) (pss_one (ps_ret (pe_tup (pa_cons (pv 1) (pa_cons (pe_non) pa_nil))))) pss_nil) (pss_cons (ps_par (i := 3) (j := 4) rfl nd rfl rfl (by decide) rfl rfl (pa_cons (pe_lst (pa_cons (pv 2) pa_nil)) (pa_cons ((pe_callB call_len_seq (by rfl) B.len PySem.boot_len (pa_cons (pv 2) pa_nil))) pa_nil)) (by rfl)) (pss_cons (ps_while PassesOwn.never (PW.pt (pw_and (pt_cmpR op_lt (pv 1) (pe_callB call_len_seq (by rfl) B.len PySem.boot_len (pa_cons (pv 0) pa_nil)) (nomark _)) (pw_and ((pt_cmpR op_eq ((pe_ix ix_list (pv 0) (pv 1) (fun _ _ => rfl))) (pe_str) (nomark _))) (pw_and1 (pt_cmpR op_lt (pe_callB call_len_seq (by rfl) B.len PySem.boot_len (pa_cons (pv 3) pa_nil)) pe_int (nomark _))))))
        (pss_cons (ps_asg (pe_call G1 (hr.mono (by decide)) rfl m1 k1 b1 .nil pass0 (pa_cons (pv 0) (pa_cons (pe_op op_add (pv 1) pe_int) (pa_cons (pv 4) (pa_cons (pv 4) pa_nil))))) (pg_tup rfl (pgs_cons ((pg_name (i := 1) nd rfl (Or.inl rfl))) (pgs_cons ((pg_name (i := 2) nd rfl (Or.inl rfl))) pgs_nil)))) (pss_cons (ps_if (pt_cmpR op_isN (pv 2) pe_non (nomark _)) (pss_one (ps_ret (pe_tup (pa_cons (pv 1) (pa_cons (pe_non) pa_nil))))) pss_nil) (pss_one (ps_expr (pe_bm PySem.F.plainAttrs_list PySem.F.slot_list_append PySem.F.type_list_append mt_append (pv 3) (pa_cons (pv 2) pa_nil))))))) (pss_one (ps_ret (pe_tup (pa_cons (pv 1) (pa_cons (pv 3) pa_nil))))))))), ?_⟩
    have e59 : PySem.Str.ofString ";" = SX.S [59] := str_S rfl
    have hfew := hI.few
    generalize hR : lalb its = R at q
    unfold lalb at hR
    refine ⟨_, rfl, b, its, 0, 4, 7, rfl, hI, hC, Nat.zero_le _, by decide, by decide, by decide, fun H1 t s1 ho => ?_⟩
    cases hl : lp its 4 7 (its.length + 1) 0 [] with
    | mk e o =>
    rw [hl] at ho hR
    cases o with
    | none =>
      have ho : H1 t = some (.tup [.int (e : Nat), .non]) := ho
      have hR : (e, none) = R := hR
      refine ⟨t, _, rfl, SqT.of ho, rfl, _, _, rfl, _, _, rfl, rfl, ?_⟩
      refine ⟨_, rfl, rfl, _, rfl, iteT ⟨_, rfl, by show 2 ≤ sizeLine; decide, fun u nu => q _ u (s1.trans (same_new nu)) ?_⟩⟩
      rw [← hR]
      exact upd_same
    | some l =>
      obtain ⟨d, ts, hd, ht⟩ := ho
      have hR : la its l.length 8 e [l] = R := hR
      obtain ⟨⟨ok4, ok7, _⟩, le, _⟩ := ok_of_lp (by decide) (by decide) (by decide) hl
      refine ⟨t, _, rfl, SqT.of ht, rfl, _, _, rfl, _, _, rfl, rfl, ?_⟩
      refine ⟨_, rfl, rfl, _, rfl, iteF ?_⟩
      refine ⟨_, rfl, by show 1 ≤ sizeLine; decide, fun g ng => ?_⟩
      have sg := same_new (o := .lst [V.ref d]) ng
      have gg : upd H1 g (.lst [V.ref d]) g = some (.lst ([d].map V.ref)) := upd_same
      generalize upd H1 g (.lst [V.ref d]) = H2 at sg gg ⊢
      have s2 := s1.trans sg
      have ngH : H g = none := s1.free ng
      have hd2 := hd.same sg
      refine ⟨_, rfl, d, _, rfl, .inl (SqL.of hd2.1), _, _, rfl, ?_⟩
      rw [List.length_map, hd2.len]
      refine ⟨fun m σ H' => ∃ (j : Nat) (told : PSS) (as : List Addr) (x2 : Option V), σ = [some (.ref b), some (.int (j : Nat)), x2, some (.ref g), some (.int (l.length : Nat))] ∧ Same H H' ∧ Told H' g as told ∧ j ≤ its.length ∧ told ≠ [] ∧ told.length + m = 9 ∧ told.length ≤ 8 ∧ la its l.length m j told = R,
        ⟨8, e, [l], [d], _, rfl, s2, ⟨gg, .cons ⟨ts, hd2⟩ .nil⟩, le, by simp, rfl, by show 1 ≤ 8; decide, hR⟩, ?_⟩
      clear hR le
      rintro m _ H3 ⟨j, told, as, x2, rfl, s3, hT, lj, tne, hm, t8, hR⟩
      have hb3 := (hI.same s3).at_
      have lT := hT.len
      refine tt_key (decide (its[j]? = some scC) && decide (told.length < 8)) (fun Q' q' => ?_) ?_
      · refine ⟨_, rfl, _, rfl, b, _, rfl, .inl (SqL.of hb3), _, _, rfl, rfl, _, rfl, ?_⟩
        rw [List.length_map]
        by_cases z1 : j < its.length
        · rw [decide_eq_true (show ((j : Nat) : Int) < (its.length : Nat) by omega)]
          obtain ⟨a, ea⟩ : ∃ a, its[j]? = some a := ⟨_, List.getElem?_eq_getElem z1⟩
          refine iteT ⟨_, rfl, _, rfl, b, _, (j : Nat), iV a, rfl, rfl, SqL.of hb3, atI_nat (it_get ea), rfl, _, rfl, ?_⟩
          rw [e59, dec_S]
          by_cases z2 : a = [59]
          · rw [decide_eq_true z2]
            rw [decide_eq_true (show its[j]? = some scC by rw [ea, z2]), Bool.true_and] at q'
            refine iteT ⟨_, rfl, g, _, rfl, .inl (SqL.of hT.1), _, _, rfl, rfl, _, rfl, ?_⟩
            rw [List.length_map, lT]
            have e8 : decide (((told.length : Nat) : Int) < 8) = decide (told.length < 8) := by
              by_cases z : told.length < 8
              · rw [decide_eq_true z, decide_eq_true (by omega)]
              · rw [decide_eq_false z, decide_eq_false (by omega)]
            rw [e8]
            exact q'
          · rw [decide_eq_false z2]
            rw [decide_eq_false (show ¬ its[j]? = some scC from fun z => z2 (by rw [ea] at z; exact Option.some.inj z)), Bool.false_and] at q'
            exact iteF q'
        · rw [decide_eq_false (show ¬ ((j : Nat) : Int) < (its.length : Nat) by omega)]
          rw [decide_eq_false (show ¬ its[j]? = some scC from fun z => by rw [List.getElem?_eq_none (by omega)] at z; cases z), Bool.false_and] at q'
          exact iteF q'
      · by_cases hv : its[j]? = some scC ∧ told.length < 8
        · rw [decide_eq_true hv.1, decide_eq_true hv.2]
          have l1 : j < its.length := (List.getElem?_eq_some_iff.mp hv.1).1
          obtain ⟨m, rfl⟩ : ∃ k, m = k + 1 := ⟨m - 1, by omega⟩
          refine iteT ⟨_, fun _ _ z => z, ?_⟩
          refine ⟨_, rfl, _, rfl, _, _, rfl, rfl, _, rfl, _, rfl, b, its, j + 1, l.length, l.length, rfl, hI.same s3, hC, by omega, by omega, Nat.le_refl _, ok7, fun H4 u s4 ho4 => ?_⟩
          have s34 := s3.trans s4
          cases hl2 : lp its l.length l.length (its.length + 1) (j + 1) [] with
          | mk e2 o2 =>
          rw [hl2] at ho4
          cases o2 with
          | none =>
            have ho4 : H4 u = some (.tup [.int (e2 : Nat), .non]) := ho4
            rw [la_none hv.1 hv.2 hl2] at hR
            refine ⟨u, _, rfl, SqT.of ho4, rfl, _, _, rfl, _, _, rfl, rfl, ?_⟩
            refine ⟨_, rfl, rfl, _, rfl, iteT ⟨_, rfl, by show 2 ≤ sizeLine; decide, fun z nz => q _ z (s34.trans (same_new nz)) ?_⟩⟩
            rw [← hR]
            exact upd_same
          | some l2 =>
            obtain ⟨d2, ts2, hd4, hu⟩ := ho4
            rw [la_some hv.1 hv.2 hl2] at hR
            obtain ⟨_, lj2, _⟩ := ok_of_lp (Nat.le_refl _) ok4 ok7 hl2
            refine ⟨u, _, rfl, SqT.of hu, rfl, _, _, rfl, _, _, rfl, rfl, ?_⟩
            refine ⟨_, rfl, rfl, _, rfl, iteF ?_⟩
            have hT4 := hT.same s4
            refine ⟨_, rfl, .inl ⟨rfl, _, SqL.of hT4.1⟩, _, rfl, g, _, _, rfl, rfl, hT4.1, ?_, ?_⟩
            · rw [List.length_map, lT]
              exact small1000 (by omega)
            · refine ⟨m, Nat.lt_succ_self _, e2, told ++ [l2], as ++ [d2], _, rfl, fun z o ez => ?_, hT4.snoc tne ⟨ts2, hd4⟩, lj2, by simp, by rw [List.length_append]; show told.length + 1 + m = 9; omega, by rw [List.length_append]; exact hv.2, hR⟩
              rw [upd_ne (ne_of_none ez ngH)]
              exact s34 _ _ ez
        · have hv2 : (decide (its[j]? = some scC) && decide (told.length < 8)) = false := by
            cases z : (decide (its[j]? = some scC) && decide (told.length < 8)) with
            | false => rfl
            | true =>
              rw [Bool.and_eq_true, decide_eq_true_iff, decide_eq_true_iff] at z
              exact absurd z hv
          rw [hv2]
          rw [la_stop hv] at hR
          refine iteF ⟨_, rfl, _, rfl, by show 2 ≤ sizeLine; decide, fun z nz => q _ z (s3.trans (same_new nz)) ?_⟩
          rw [← hR]
          exact ⟨g, as, hT.same (same_new nz), upd_same⟩
end
end K17

namespace K17
open PySem PySem.Spec PyProof.Rows L2
theorem op_repS {X : Cx} : OpR X (binaryOp .Mult) (fun x y H Q => ∃ z n, x = .str z ∧ y = .int n ∧ MulOk z n ∧ Q (.str (Txt.mul z n)) H) := by
  intro pins s σ H x y v u Q I rx ry h
  obtain ⟨i, j, rfl, rfl, hz, q⟩ := h
  obtain ⟨t, rfl⟩ := rx
  obtain ⟨t', rfl⟩ := ry
  exact PySem.SB.mul hz (fun t' tk => ⟨.str (Txt.mul i j), H, I.tok _, ⟨_, rfl⟩, q⟩)
/-- so many items at most, each so long at most, one at least -/
structure Ib (H : Hp) (b : Addr) (its : Its) (n m : Nat) : Prop where
  at_ : H b = some (.lst (its.map iV))
  few : its.length ≤ n
  len : ∀ a ∈ its, a.length ≤ m
  cok : Cks its
  ne : its ≠ []
theorem Ib.itm {H : Hp} {b : Addr} {its : Its} {n m : Nat} (h : Ib H b its n m) (hn : n ≤ 16000000) (hm : m ≤ 16000000) : Itm H b its := ⟨h.at_, fun a ha => Nat.le_trans (h.len a ha) hm, Nat.le_trans h.few hn⟩
theorem lens_ne {H : Hp} {p b : Addr} {n : Nat} {its : Its} (v : Lens H p n) (h : H b = some (.lst (its.map iV))) : b ≠ p := by
  obtain ⟨c, x, y, e⟩ := v.at
  rintro rfl
  rw [e] at h
  have z := HO.lst.inj (Option.some.inj h)
  cases its with
  | nil => cases z
  | cons a r => cases (List.cons.inj z).1
theorem Ib.sb {H H' : Hp} {p b : Addr} {k n m : Nat} {its : Its} (h : Ib H b its n m) (v : Lens H p k) (s : SB p H H') : Ib H' b its n m := ⟨s.1 _ _ (lens_ne v h.at_) h.at_, h.few, h.len, h.cok, h.ne⟩
theorem Ib.same {H H' : Hp} {b : Addr} {n m : Nat} {its : Its} (h : Ib H b its n m) (s : Same H H') : Ib H' b its n m := ⟨s _ _ h.at_, h.few, h.len, h.cok, h.ne⟩
def Gd (m : Nat) (v : V) : Prop := ∃ a : Cd, v = iV a ∧ a.length ≤ m ∧ ∀ c ∈ a, c < 1114112
def okS (s : String) : Bool := (PySem.Str.ofString s).cps.toList.all (fun c => decide (c < 1114112)) && decide ((PySem.Str.ofString s).cps.toList.length ≤ 100)
theorem gd_s {m : Nat} {s : String} (hm : 100 ≤ m) (h : okS s = true) : Gd m (V.str (PySem.Str.ofString s)) := by
  unfold okS at h
  rw [Bool.and_eq_true, decide_eq_true_iff] at h
  exact ⟨(PySem.Str.ofString s).cps.toList, congrArg V.str (SX.S_tl _).symm, by omega, fun c hc => of_decide_eq_true (List.all_eq_true.mp h.1 c hc)⟩
theorem gd_rep {m k : Nat} {n : Int} {c : Nat} {z : Str} (hz : z = ⟨#[c]⟩) (hn : n = (k : Nat)) (hm : k ≤ m) (hc : c < 1114112) : Gd m (V.str (Txt.mul z n)) := by
  refine ⟨List.replicate k c, ?_, by rw [List.length_replicate]; exact hm, fun d hd => by rw [(List.mem_replicate.mp hd).2]; exact hc⟩
  have e := mul_one_list c n
  rw [hz]
  have : Txt.mul ⟨#[c]⟩ n = SX.S (List.replicate n.toNat c) := TL.ext_tl e
  rw [this, hn, Int.toNat_natCast]
theorem gd_cat {m k l : Nat} {x y : V} {a b : Str} (h1 : Gd k x) (h2 : Gd l y) (e1 : x = .str a) (e2 : y = .str b) (hm : k + l ≤ m) : Gd m (.str (a ++ b)) := by
  obtain ⟨u, rfl, lu, cu⟩ := h1
  obtain ⟨v, rfl, lv, cv⟩ := h2
  cases e1
  cases e2
  refine ⟨u ++ v, by rw [SX.S_cat], by rw [List.length_append]; omega, fun c hc => ?_⟩
  rcases List.mem_append.mp hc with z | z
  · exact cu c z
  · exact cv c z
theorem gd_but {m : Nat} {a : Cd} (hm : a.length ≤ m) (hc : ∀ c ∈ a, c < 1114112) : Gd m (.str (Txt.slice (SX.S a) none (some (-1)))) := by
  by_cases h : a = []
  · subst h
    exact ⟨[], rfl, Nat.zero_le _, fun c hc => absurd hc List.not_mem_nil⟩
  · exact ⟨a.take (a.length - 1), by rw [SX.slice_butlast h], by rw [List.length_take]; omega, fun c h => hc c (List.mem_of_mem_take h)⟩
theorem gd_it {m : Nat} {a : Cd} (hm : a.length ≤ m) (hc : ∀ c ∈ a, c < 1114112) : Gd m (iV a) := ⟨a, rfl, hm, hc⟩
theorem gd_c {s : String} {c : Nat} (h : (PySem.Str.ofString s).cps.toList = [c]) (hc : decide (c < 1114112) = true) : Gd 1 (V.str (PySem.Str.ofString s)) := ⟨[c], congrArg V.str (str_S h), Nat.le_refl _, fun d hd => by rw [List.mem_singleton.mp hd]; exact of_decide_eq_true hc⟩
theorem ixn {n k : Nat} (h : k < n) : ixN n ((k : Nat) : Int) = some k := by
  unfold ixN
  rw [if_pos (by omega), if_pos (by omega), Int.toNat_natCast]
theorem gnil {m : Nat} : ∀ v ∈ ([] : List V), Gd m v := fun v h => absurd h List.not_mem_nil
theorem gcons {m : Nat} {a : V} {l : List V} (h : Gd m a) (t : ∀ v ∈ l, Gd m v) : ∀ v ∈ a :: l, Gd m v := fun v hv => by
  rcases List.mem_cons.mp hv with z | z
  · rw [z]; exact h
  · exact t v z
theorem Gd.le {m n : Nat} {v : V} (h : Gd m v) (l : m ≤ n) : Gd n v := let ⟨a, e, h1, h2⟩ := h; ⟨a, e, Nat.le_trans h1 l, h2⟩
theorem cut_its (its : Its) (lo hi : Option Int) : ∃ ms : Its, cutV (its.map iV) lo hi = ms.map iV ∧ ms.length ≤ its.length ∧ ∀ a ∈ ms, a ∈ its := by
  refine ⟨(its.drop (HT.sIx (its.map iV).length 0 lo)).take (HT.sIx (its.map iV).length (its.map iV).length hi - HT.sIx (its.map iV).length 0 lo), ?_, ?_, fun a h => List.mem_of_mem_drop (List.mem_of_mem_take h)⟩
  · unfold cutV
    rw [List.map_take, List.map_drop]
  · rw [List.length_take, List.length_drop]
    omega
theorem cut_ne {its ms : Its} {i : Nat} (h : its ≠ []) (e : cutV (its.map iV) none (some ((i : Nat) + 1)) = ms.map iV) : ms ≠ [] := by
  rintro rfl
  have e := congrArg List.length e
  unfold cutV at e
  have e1 : HT.sIx (its.map iV).length (its.map iV).length (some (((i : Nat) : Int) + 1)) = min (i + 1) (its.map iV).length := HT.sIx_nat _ _ (i + 1)
  rw [List.length_take, List.length_drop, e1, HT.sIx_none] at e
  have := List.length_pos_iff.mpr h
  rw [List.length_map] at e
  have e0 : (([] : Its).map iV).length = 0 := rfl
  omega
theorem mul_ok {k : Nat} (h : k ≤ 5000) (h1 : 1 ≤ k) : MulOk (PySem.Str.ofString "9") (k : Nat) := by
  have e : (PySem.Str.ofString "9").length = 1 := rfl
  unfold MulOk
  rw [e]
  refine ⟨?_, fun _ _ => ?_, fun _ _ => ?_⟩
  · rw [Bool.or_eq_false_iff]
    exact ⟨decide_eq_false (by omega), decide_eq_false (by omega)⟩
  · have : (1 : Int) ≤ (2 ^ 63 - 1) / (k : Nat) := by
      rw [Int.le_ediv_iff_mul_le (by omega)]
      omega
    omega
  · rw [Int.toNat_natCast, Nat.one_mul]
    exact decide_eq_false (by show ¬ k > 2 ^ 24; omega)
section
variable {P : Program} {w : World} {K : PySem.W.Frag} {mg : Str → Option Value} {base : Heap}
/-! ### _law_bent -/
def spBe : Sp := fun vs H Q _ => ∃ (p b : Addr) (n x m : Nat) (its : Its), vs = [.ref p, .ref b] ∧ Lens H p n ∧ n + 10 < 60000 ∧ Ib H b its x m ∧ 5000 ≤ m ∧ m ≤ 100000 ∧ x ≤ 10000 ∧ ∀ H' d its', SB p H H' → Lens H' p (n + 6) → Ib H' d its' (2 * x + 1) (m + 1) → Q (.ref d) H'
abbrev sBe : Stmt := top 55
abbrev nBe : List Str := ["_law_lens_here", "_law_items_here", "_law_way", "_law_at", "_law_other", "_law_some", "_law_item", "_law_turned"]
theorem scBe : FnScope nBe ["_law_lens_here", "_law_items_here"] (defScope sBe) := ⟨rfl, rfl, rfl, by decide +kernel, rfl, by decide +kernel, by decide +kernel⟩
theorem ok_be {f : Addr} {fd : FuncData} (F : Fun K "_law_bent" "_law_bent" sBe f fd) (B : Bn mg) (C1 : Callee P w K mg base CX0 1 "_law_shot" ["_law_lens_here", "_law_many"] spShot) (C2 : Callee P w K mg base CX0 2 "_law_pick" ["_law_lens_here", "_law_some"] spPick) : FnOk P w K mg base CX0 3 f fd ["_law_lens_here", "_law_items_here"] spBe := by
  obtain ⟨f1, fd1, m1, k1, b1, G1⟩ := C1
  obtain ⟨f2, fd2, m2, k2, b2, G2⟩ := C2
  have nd := scBe.nd
  refine F.ok scBe (fun vs H Q E h => ?_) (fun cdv A outer s H vs Q E hr h => ?_)
  · obtain ⟨p, b, n, x, m, its, rfl, _⟩ := h
    rfl
  · obtain ⟨p, b, n, x, m, its, rfl, hv, hn, hI, m5, mL, xL, q⟩ := h
    refine ⟨_, (pss_cons (ps_par3 (i := 2) (j := 3) (l := 4) rfl nd rfl rfl rfl (by decide) (by decide) (by decide) rfl rfl rfl (pa_cons ((pe_call G1 (hr.mono (by decide)) rfl m1 k1 b1 .nil pass0 (pa_cons (pv 0) (pa_cons (pe_int) pa_nil)))) (pa_cons ((pe_call G1 (hr.mono (by decide)) rfl m1 k1 b1 .nil pass0 (pa_cons (pv 0) (pa_cons ((pe_callB call_len_seq (by rfl) B.len PySem.boot_len (pa_cons (pv 1) pa_nil))) pa_nil)))) (pa_cons ((pe_call G1 (hr.mono (by decide)) rfl m1 k1 b1 .nil pass0 (pa_cons (pv 0) (pa_cons ((pe_callB call_len_seq (by rfl) B.len PySem.boot_len (pa_cons (pv 1) pa_nil))) pa_nil)))) pa_nil))) (by rfl)) (pss_cons ((ps_set (i := 5) nd rfl (Or.inl rfl) (pe_lst (pa_cons (pe_str) (pa_cons (pe_str) (pa_cons (pe_str) (pa_cons (pe_str) (pa_cons (pe_str) (pa_cons (pe_str) (pa_cons (pe_str) (pa_cons (pe_str) (pa_cons (pe_str) (pa_cons (pe_str) (pa_cons (pe_str) (pa_cons (pe_str) (pa_cons (pe_str) pa_nil)))))))))))))))) (pss_cons ((ps_set (i := 5) nd rfl (Or.inl rfl) (pe_op op_cat (pv 5) (pe_lst (pa_cons (pe_op op_repS pe_str pe_int) (pa_cons (pe_str) (pa_cons (pe_str) (pa_cons (pe_str) (pa_cons (pe_str) (pa_cons (pe_str) (pa_cons (pe_op op_repS pe_str pe_int) (pa_cons (pe_str) (pa_cons (pe_str) pa_nil))))))))))))) (pss_cons ((ps_set (i := 5) nd rfl (Or.inl rfl) (pe_op op_cat (pv 5) (pe_lst (pa_cons (pe_op op_add_str (pe_ix ix_list (pv 1) (pv 3) (fun _ _ => rfl)) pe_str) (pa_cons (pe_op op_add_str pe_str (pe_ix ix_list (pv 1) (pv 3) (fun _ _ => rfl))) (pa_cons (pe_op op_add_str pe_str (pe_ix ix_list (pv 1) (pv 3) (fun _ _ => rfl))) (pa_cons (pe_slice C8.sl_txt (pe_ix ix_list (pv 1) (pv 3) (fun _ _ => rfl)) po_none (po_some (pe_un un_neg pe_int))) (pa_cons ((pe_ix ix_list (pv 1) (pv 4) (fun _ _ => rfl))) (pa_cons (pe_op op_add_str (pe_ix ix_list (pv 1) (pv 3) (fun _ _ => rfl)) pe_str) (pa_cons (pe_str) pa_nil))))))))))) (pss_cons ((ps_set (i := 6) nd rfl (Or.inl rfl) ((pe_call G2 (hr.mono (by decide)) rfl m2 k2 b2 .nil pass0 (pa_cons (pv 0) (pa_cons (pv 5) pa_nil)))))) (pss_cons (ps_if (pt_cmpR op_lt (pv 2) pe_int (nomark _)) (pss_one (ps_ret (pe_op op_cat (pe_op op_cat (pe_slice sl_list (pv 1) po_none (po_some (pv 3))) (pe_lst (pa_cons (pv 6) pa_nil))) (pe_slice sl_list (pv 1) (po_some (pe_op op_add (pv 3) pe_int)) po_none)))) pss_nil) (pss_cons (ps_if (pt_cmpR op_eq (pv 2) (pe_int) (nomark _)) (pss_one (ps_ret (pe_orT (pe_op op_cat (pe_slice sl_list (pv 1) po_none (po_some (pv 3))) (pe_slice sl_list (pv 1) (po_some (pe_op op_add (pv 3) pe_int)) po_none)) (pe_one (pe_lst (pa_cons (pe_str) pa_nil)))))) pss_nil) (pss_cons (ps_if (pt_cmpR op_eq (pv 2) (pe_int) (nomark _)) (pss_one (ps_ret (pe_op op_cat (pe_op op_cat (pe_slice sl_list (pv 1) po_none (po_some (pe_op op_add (pv 3) pe_int))) (pe_lst (pa_cons (pv 6) pa_nil))) (pe_slice sl_list (pv 1) (po_some (pe_op op_add (pv 3) pe_int)) po_none)))) pss_nil) (pss_cons (ps_if (pt_cmpR op_eq (pv 2) (pe_int) (nomark _)) (pss_cons ((ps_set (i := 7) nd rfl (Or.inl rfl) ((pe_callTy call_list_of (by rfl) B.list (by decide +kernel) (pa_cons (pv 1) pa_nil))))) (pss_cons (ps_asg (pe_tup (pa_cons ((pe_ix ix_list (pv 1) (pv 4) (fun _ _ => rfl))) (pa_cons ((pe_ix ix_list (pv 1) (pv 3) (fun _ _ => rfl))) pa_nil))) (pg_tup rfl (pgs_cons (pg_sub (pv 7) (pv 3) set_list) (pgs_cons (pg_sub (pv 7) (pv 4) set_list) pgs_nil)))) (pss_one (ps_ret (pv 7))))) pss_nil) (pss_one (ps_ret (pe_ifExp (pt_cmpR op_eq (pv 2) (pe_int) (nomark _)) (pe_slice sl_list (pv 1) po_none (po_some (pe_op op_add (pv 3) pe_int))) (pe_op op_cat (pv 1) (pe_lst (pa_cons (pv 6) pa_nil))))))))))))))), ?_⟩
    have h100 : 100 ≤ m + 1 := by omega
    have h61 : 61 ≤ m + 1 := by omega
    have h5k : 5000 ≤ m + 1 := by omega
    have h1m : 1 + m ≤ m + 1 := by omega
    have hb := hI.at_
    have hlp := List.length_pos_iff.mpr hI.ne
    have hfew := hI.few
    have hn0 : (0 : Int) < ((its.map iV).length : Nat) := by
      rw [List.length_map]
      omega
    have hn64 : (((its.map iV).length : Nat) : Int).natAbs < 2 ^ 64 := by
      rw [List.length_map, Int.natAbs_natCast]
      omega
    refine ⟨_, rfl, p, 8, n, rfl, hv, by omega, by decide, by decide, fun H1 wy s1 v1 w0 w8 => ?_⟩
    have hI1 := hI.sb hv s1
    refine ⟨_, rfl, _, rfl, b, _, rfl, .inl (SqL.of hI1.at_), p, _, _, rfl, v1, by omega, hn0, hn64, fun H2 at_ s2 v2 a0 a1 => ?_⟩
    have hI2 := hI1.sb v1 s2
    refine ⟨_, rfl, _, rfl, b, _, rfl, .inl (SqL.of hI2.at_), p, _, _, rfl, v2, by omega, hn0, hn64, fun H3 ot s3 v3 o0 o1 => ?_⟩
    have hI3 := hI2.sb v2 s3
    rw [List.length_map] at a1 o1
    obtain ⟨i, rfl⟩ : ∃ k : Nat, at_ = k := ⟨at_.toNat, by omega⟩
    obtain ⟨j, rfl⟩ : ∃ k : Nat, ot = k := ⟨ot.toNat, by omega⟩
    obtain ⟨ai, ei⟩ : ∃ a, its[i]? = some a := ⟨_, List.getElem?_eq_getElem (by omega)⟩
    obtain ⟨aj, ej⟩ : ∃ a, its[j]? = some a := ⟨_, List.getElem?_eq_getElem (by omega)⟩
    have li := hI.len ai (List.mem_of_getElem? ei)
    have lj := hI.len aj (List.mem_of_getElem? ej)
    have ci := hI.cok ai (List.mem_of_getElem? ei)
    have cj := hI.cok aj (List.mem_of_getElem? ej)
    have sA := (s1.trans s2).trans s3
    refine ⟨_, _, _, rfl, ?_⟩
    refine ⟨by show 13 ≤ sizeLine; decide, fun l1 n1 => ?_⟩
    generalize h4 : upd H3 l1 (HO.lst _) = H4
    obtain ⟨xs1, g1, gd1, ln1⟩ : ∃ xs1, H4 l1 = some (.lst xs1) ∧ (∀ v ∈ xs1, Gd (m + 1) v) ∧ xs1.length = 13 := ⟨_, by rw [← h4]; exact upd_same, (gcons (gd_s h100 (by decide)) (gcons (gd_s h100 (by decide)) (gcons (gd_s h100 (by decide)) (gcons (gd_s h100 (by decide)) (gcons (gd_s h100 (by decide)) (gcons (gd_s h100 (by decide)) (gcons (gd_s h100 (by decide)) (gcons (gd_s h100 (by decide)) (gcons (gd_s h100 (by decide)) (gcons (gd_s h100 (by decide)) (gcons (gd_s h100 (by decide)) (gcons (gd_s h100 (by decide)) (gcons (gd_s h100 (by decide)) gnil))))))))))))), rfl⟩
    have s4 : Same H3 H4 := by rw [← h4]; exact same_new n1
    clear h4
    refine ⟨_, rfl, _, _, rfl, rfl, mul_ok (k := 61) (by decide) (by decide), _, _, rfl, rfl, mul_ok (k := 5000) (by decide) (by decide), by show 9 ≤ sizeLine; decide, fun l2 n2 => ?_⟩
    generalize h5 : upd H4 l2 (HO.lst _) = H5
    obtain ⟨xs2, g2, gd2, ln2⟩ : ∃ xs2, H5 l2 = some (.lst xs2) ∧ (∀ v ∈ xs2, Gd (m + 1) v) ∧ xs2.length = 9 := ⟨_, by rw [← h5]; exact upd_same, (gcons (gd_rep (k := 61) (c := 57) (str_S rfl) rfl h61 (by decide)) (gcons (gd_s h100 (by decide)) (gcons (gd_s h100 (by decide)) (gcons (gd_s h100 (by decide)) (gcons (gd_s h100 (by decide)) (gcons (gd_s h100 (by decide)) (gcons (gd_rep (k := 5000) (c := 57) (str_S rfl) rfl h5k (by decide)) (gcons (gd_s h100 (by decide)) (gcons (gd_s h100 (by decide)) gnil))))))))), rfl⟩
    have s5 : Same H4 H5 := by rw [← h5]; exact same_new n2
    clear h5
    refine ⟨l1, l2, _, _, rfl, rfl, s5 _ _ g1, g2, by rw [ln1, ln2]; show 13 + 9 ≤ sizeLine; decide, fun l3 n3 => ?_⟩
    have s6 := same_new (o := .lst (xs1 ++ xs2)) n3
    have g3 : upd H5 l3 (.lst (xs1 ++ xs2)) l3 = some (.lst (xs1 ++ xs2)) := upd_same
    generalize upd H5 l3 (.lst (xs1 ++ xs2)) = H6 at s6 g3 ⊢
    have s36 := (s4.trans s5).trans s6
    have hb6 := (hI3.same s36).at_
    have z1 : (SX.S ai).length + (PySem.Str.ofString "0").length ≤ sizeLine := by
      rw [SX.S_len]
      show ai.length + 1 ≤ 2 ^ 24
      omega
    have z2 : (PySem.Str.ofString "0").length + (SX.S ai).length ≤ sizeLine := by
      rw [SX.S_len]
      show 1 + ai.length ≤ 2 ^ 24
      omega
    have z3 : (SX.S ai).length ≤ sizeLine := by
      rw [SX.S_len]
      show ai.length ≤ 2 ^ 24
      omega
    refine ⟨_, rfl, _, rfl, _, rfl, b, _, (i : Nat), iV ai, rfl, rfl, SqL.of hb6, atI_nat (it_get ei), _, _, rfl, rfl, z1, ?_⟩
    refine ⟨_, rfl, _, rfl, b, _, (i : Nat), iV ai, rfl, rfl, SqL.of hb6, atI_nat (it_get ei), _, _, rfl, rfl, z2, ?_⟩
    refine ⟨_, rfl, _, rfl, b, _, (i : Nat), iV ai, rfl, rfl, SqL.of hb6, atI_nat (it_get ei), _, _, rfl, rfl, z2, ?_⟩
    refine ⟨_, rfl, _, rfl, b, _, (i : Nat), iV ai, rfl, rfl, SqL.of hb6, atI_nat (it_get ei), _, rfl, _, rfl, _, rfl, z3, ?_⟩
    refine ⟨_, rfl, _, rfl, b, _, (j : Nat), iV aj, rfl, rfl, SqL.of hb6, atI_nat (it_get ej), ?_⟩
    refine ⟨_, rfl, _, rfl, b, _, (i : Nat), iV ai, rfl, rfl, SqL.of hb6, atI_nat (it_get ei), _, _, rfl, rfl, z1, ?_⟩
    refine ⟨by show 7 ≤ sizeLine; decide, fun l4 n4 => ?_⟩
    generalize h7 : upd H6 l4 (HO.lst _) = H7
    obtain ⟨xs4, g4, gd4, ln4⟩ : ∃ xs4, H7 l4 = some (.lst xs4) ∧ (∀ v ∈ xs4, Gd (m + 1) v) ∧ xs4.length = 7 := ⟨_, by rw [← h7]; exact upd_same, (gcons (gd_cat (k := m) (l := 1) (gd_it li ci) (gd_c rfl rfl) rfl rfl (Nat.le_refl _)) (gcons (gd_cat (k := 1) (l := m) (gd_c rfl rfl) (gd_it li ci) rfl rfl h1m) (gcons (gd_cat (k := 1) (l := m) (gd_c rfl rfl) (gd_it li ci) rfl rfl h1m) (gcons ((gd_but li ci).le (Nat.le_succ m)) (gcons (gd_it (Nat.le_succ_of_le lj) cj) (gcons (gd_cat (k := m) (l := 1) (gd_it li ci) (gd_c rfl rfl) rfl rfl (Nat.le_refl _)) (gcons (gd_s h100 (by decide)) gnil))))))), rfl⟩
    have s7 : Same H6 H7 := by rw [← h7]; exact same_new n4
    clear h7
    refine ⟨l3, l4, _, _, rfl, rfl, s7 _ _ g3, g4, by rw [List.length_append, ln1, ln2, ln4]; show 13 + 9 + 7 ≤ sizeLine; decide, fun l5 n5 => ?_⟩
    have s8 := same_new (o := .lst ((xs1 ++ xs2) ++ xs4)) n5
    have g5 : upd H7 l5 (.lst ((xs1 ++ xs2) ++ xs4)) l5 = some (.lst ((xs1 ++ xs2) ++ xs4)) := upd_same
    generalize upd H7 l5 (.lst ((xs1 ++ xs2) ++ xs4)) = H8 at s8 g5 ⊢
    have s38 := (s36.trans s7).trans s8
    have ln5 : ((xs1 ++ xs2) ++ xs4).length = 29 := by rw [List.length_append, List.length_append, ln1, ln2, ln4]
    have gd5 : ∀ v ∈ (xs1 ++ xs2) ++ xs4, Gd (m + 1) v := fun v hv => by
      rcases List.mem_append.mp hv with z | z
      · rcases List.mem_append.mp z with z | z
        · exact gd1 v z
        · exact gd2 v z
      · exact gd4 v z
    generalize (xs1 ++ xs2) ++ xs4 = xs5 at g5 ln5 gd5
    have v8 := v3.same s38
    have np5 : l5 ≠ p := v3.not_none ((s36.trans s7).free n5)
    refine ⟨_, rfl, _, rfl, p, l5, _, xs5, rfl, v8, by omega, g5, np5, by omega, by omega, fun H9 y s9 v9 hy => ?_⟩
    obtain ⟨z, rfl, zl, zc⟩ := gd5 y hy
    have hI9 := (hI3.same s38).sb v8 s9
    have sB := (sA.trans (SB.of s38)).trans s9
    have hb9 := hI9.at_
    have fin : ∀ (H' : Hp) (d : Addr) (L : Its), Same H9 H' → H' d = some (.lst (L.map iV)) → L.length ≤ 2 * x + 1 → (∀ a ∈ L, a ∈ its ∨ a = z ∨ a = []) → L ≠ [] → Q (.ref d) H' := fun H' d L s' g' h1 h2 h3 => by
      refine q H' d L (sB.trans (SB.of s')) ((v9.same s').le (by omega)) ⟨g', h1, fun a ha => ?_, fun a ha => ?_, h3⟩
      · rcases h2 a ha with w | w | w
        · exact Nat.le_succ_of_le (hI.len a w)
        · rw [w]; exact zl
        · rw [w]; exact Nat.zero_le _
      · rcases h2 a ha with w | w | w
        · exact hI.cok a w
        · rw [w]; exact zc
        · rw [w]; exact fun c hc => absurd hc List.not_mem_nil
    obtain ⟨c1, ec1, lc1, mc1⟩ := cut_its its none (some ((i : Nat) : Int))
    obtain ⟨c2, ec2, lc2, mc2⟩ := cut_its its (some ((i : Nat) + 1)) none
    obtain ⟨c3, ec3, lc3, mc3⟩ := cut_its its none (some ((i : Nat) + 1))
    have ne3 := cut_ne hI.ne ec3
    refine ⟨_, rfl, _, _, rfl, rfl, _, rfl, ?_⟩
    have join3 : True := trivial
    by_cases hw : wy < 3
    · rw [decide_eq_true hw]
      refine iteT ⟨_, rfl, _, rfl, _, rfl, b, _, rfl, SqL.of hb9, fun d1 nd1 => ?_⟩
      rw [ec1]
      have t1 := same_new (o := .lst (c1.map iV)) nd1
      have k1 : upd H9 d1 (.lst (c1.map iV)) d1 = some (.lst (c1.map iV)) := upd_same
      generalize upd H9 d1 (.lst (c1.map iV)) = K1 at t1 k1 ⊢
      refine ⟨_, rfl, by show 1 ≤ sizeLine; decide, fun d2 nd2 => ?_⟩
      have t2 := same_new (o := .lst [iV z]) nd2
      have k2 : upd K1 d2 (.lst [iV z]) d2 = some (.lst ([z].map iV)) := upd_same
      generalize upd K1 d2 (.lst [iV z]) = K2 at t2 k2 ⊢
      refine ⟨d1, d2, _, _, rfl, rfl, t2 _ _ k1, k2, by rw [List.length_map]; show c1.length + 1 ≤ 2 ^ 24; omega, fun d3 nd3 => ?_⟩
      have t3 := same_new (o := .lst (c1.map iV ++ [z].map iV)) nd3
      have k3 : upd K2 d3 (.lst (c1.map iV ++ [z].map iV)) d3 = some (.lst ((c1 ++ [z]).map iV)) := by rw [List.map_append]; exact upd_same
      generalize upd K2 d3 (.lst (c1.map iV ++ [z].map iV)) = K3 at t3 k3 ⊢
      have t13 := (t1.trans t2).trans t3
      refine ⟨_, rfl, _, rfl, _, _, rfl, rfl, _, rfl, b, _, rfl, SqL.of (t13 _ _ hb9), fun d4 nd4 => ?_⟩
      rw [ec2]
      have t4 := same_new (o := .lst (c2.map iV)) nd4
      have k4 : upd K3 d4 (.lst (c2.map iV)) d4 = some (.lst (c2.map iV)) := upd_same
      generalize upd K3 d4 (.lst (c2.map iV)) = K4 at t4 k4 ⊢
      have lz : (c1 ++ [z]).length = c1.length + 1 := by rw [List.length_append]; rfl
      refine ⟨d3, d4, _, _, rfl, rfl, t4 _ _ k3, k4, by rw [List.length_map, List.length_map, lz]; show c1.length + 1 + c2.length ≤ 2 ^ 24; omega, fun d5 nd5 => ?_⟩
      refine fin _ d5 ((c1 ++ [z]) ++ c2) ((t13.trans t4).trans (same_new nd5)) (by rw [upd_same]; simp only [List.map_append]) (by rw [List.length_append, lz]; omega) (fun a ha => ?_) (by simp)
      simp only [List.mem_append, List.mem_singleton] at ha
      rcases ha with (w | w) | w
      · exact .inl (mc1 a w)
      · exact .inr (.inl w)
      · exact .inl (mc2 a w)
    rw [decide_eq_false hw]
    refine iteF ⟨_, rfl, rfl, _, rfl, ?_⟩
    by_cases h3 : V.int wy = V.int 3
    · rw [decide_eq_true h3]
      refine iteT ⟨_, rfl, _, rfl, _, rfl, b, _, rfl, SqL.of hb9, fun d1 nd1 => ?_⟩
      rw [ec1]
      have t1 := same_new (o := .lst (c1.map iV)) nd1
      have k1 : upd H9 d1 (.lst (c1.map iV)) d1 = some (.lst (c1.map iV)) := upd_same
      generalize upd H9 d1 (.lst (c1.map iV)) = K1 at t1 k1 ⊢
      refine ⟨_, rfl, _, rfl, _, _, rfl, rfl, _, rfl, b, _, rfl, SqL.of (t1 _ _ hb9), fun d2 nd2 => ?_⟩
      rw [ec2]
      have t2 := same_new (o := .lst (c2.map iV)) nd2
      have k2 : upd K1 d2 (.lst (c2.map iV)) d2 = some (.lst (c2.map iV)) := upd_same
      generalize upd K1 d2 (.lst (c2.map iV)) = K2 at t2 k2 ⊢
      refine ⟨d1, d2, _, _, rfl, rfl, t2 _ _ k1, k2, by rw [List.length_map, List.length_map]; show c1.length + c2.length ≤ 2 ^ 24; omega, fun d3 nd3 => ?_⟩
      have t3 := same_new (o := .lst (c1.map iV ++ c2.map iV)) nd3
      have k3 : upd K2 d3 (.lst (c1.map iV ++ c2.map iV)) d3 = some (.lst ((c1 ++ c2).map iV)) := by rw [List.map_append]; exact upd_same
      generalize upd K2 d3 (.lst (c1.map iV ++ c2.map iV)) = K3 at t3 k3 ⊢
      have t13 := (t1.trans t2).trans t3
      by_cases hne : c1 ++ c2 = []
      · refine ⟨false, .inl ⟨_, SqL.of k3, by rw [hne]; rfl⟩, iteF ⟨by show 1 ≤ sizeLine; decide, fun d4 nd4 => ?_⟩⟩
        rw [show PySem.Str.ofString "" = SX.S [] from str_S rfl]
        exact fin _ d4 [[]] (t13.trans (same_new nd4)) upd_same (by show 1 ≤ _; omega) (fun a ha => .inr (.inr (List.mem_singleton.mp ha))) (by simp)
      · refine ⟨true, .inl ⟨_, SqL.of k3, ?_⟩, iteT ?_⟩
        · cases h : c1 ++ c2 with
          | nil => exact absurd h hne
          | cons => rfl
        · refine fin _ d3 (c1 ++ c2) t13 k3 (by rw [List.length_append]; omega) (fun a ha => ?_) hne
          rcases List.mem_append.mp ha with w | w
          · exact .inl (mc1 a w)
          · exact .inl (mc2 a w)
    rw [decide_eq_false h3]
    refine iteF ⟨_, rfl, rfl, _, rfl, ?_⟩
    by_cases h4 : V.int wy = V.int 4
    · rw [decide_eq_true h4]
      refine iteT ⟨_, rfl, _, rfl, _, _, rfl, rfl, _, rfl, b, _, rfl, SqL.of hb9, fun d1 nd1 => ?_⟩
      rw [ec3]
      have t1 := same_new (o := .lst (c3.map iV)) nd1
      have k1 : upd H9 d1 (.lst (c3.map iV)) d1 = some (.lst (c3.map iV)) := upd_same
      generalize upd H9 d1 (.lst (c3.map iV)) = K1 at t1 k1 ⊢
      refine ⟨_, rfl, by show 1 ≤ sizeLine; decide, fun d2 nd2 => ?_⟩
      have t2 := same_new (o := .lst [iV z]) nd2
      have k2 : upd K1 d2 (.lst [iV z]) d2 = some (.lst ([z].map iV)) := upd_same
      generalize upd K1 d2 (.lst [iV z]) = K2 at t2 k2 ⊢
      refine ⟨d1, d2, _, _, rfl, rfl, t2 _ _ k1, k2, by rw [List.length_map]; show c3.length + 1 ≤ 2 ^ 24; omega, fun d3 nd3 => ?_⟩
      have t3 := same_new (o := .lst (c3.map iV ++ [z].map iV)) nd3
      have k3 : upd K2 d3 (.lst (c3.map iV ++ [z].map iV)) d3 = some (.lst ((c3 ++ [z]).map iV)) := by rw [List.map_append]; exact upd_same
      generalize upd K2 d3 (.lst (c3.map iV ++ [z].map iV)) = K3 at t3 k3 ⊢
      have t13 := (t1.trans t2).trans t3
      refine ⟨_, rfl, _, rfl, _, _, rfl, rfl, _, rfl, b, _, rfl, SqL.of (t13 _ _ hb9), fun d4 nd4 => ?_⟩
      rw [ec2]
      have t4 := same_new (o := .lst (c2.map iV)) nd4
      have k4 : upd K3 d4 (.lst (c2.map iV)) d4 = some (.lst (c2.map iV)) := upd_same
      generalize upd K3 d4 (.lst (c2.map iV)) = K4 at t4 k4 ⊢
      have lz : (c3 ++ [z]).length = c3.length + 1 := by rw [List.length_append]; rfl
      refine ⟨d3, d4, _, _, rfl, rfl, t4 _ _ k3, k4, by rw [List.length_map, List.length_map, lz]; show c3.length + 1 + c2.length ≤ 2 ^ 24; omega, fun d5 nd5 => ?_⟩
      refine fin _ d5 ((c3 ++ [z]) ++ c2) ((t13.trans t4).trans (same_new nd5)) (by rw [upd_same]; simp only [List.map_append]) (by rw [List.length_append, lz]; omega) (fun a ha => ?_) (by simp)
      simp only [List.mem_append, List.mem_singleton] at ha
      rcases ha with (w | w) | w
      · exact .inl (mc3 a w)
      · exact .inr (.inl w)
      · exact .inl (mc2 a w)
    rw [decide_eq_false h4]
    refine iteF ⟨_, rfl, rfl, _, rfl, ?_⟩
    by_cases h5 : V.int wy = V.int 5
    · rw [decide_eq_true h5]
      refine iteT ⟨_, rfl, b, _, rfl, .inl (SqL.of hb9), fun d1 nd1 => ?_⟩
      have t1 := same_new (o := .lst (its.map iV)) nd1
      have k1 : upd H9 d1 (.lst (its.map iV)) d1 = some (.lst (its.map iV)) := upd_same
      generalize upd H9 d1 (.lst (its.map iV)) = K1 at t1 k1 ⊢
      have hb10 := t1 _ _ hb9
      refine ⟨_, rfl, _, rfl, b, _, (j : Nat), iV aj, rfl, rfl, SqL.of hb10, atI_nat (it_get ej), ?_⟩
      refine ⟨_, rfl, _, rfl, b, _, (i : Nat), iV ai, rfl, rfl, SqL.of hb10, atI_nat (it_get ei), ?_⟩
      refine ⟨by show 2 ≤ sizeLine; decide, fun t nt => ?_⟩
      have t2 := same_new (o := .tup [iV aj, iV ai]) nt
      have k2 : upd K1 t (.tup [iV aj, iV ai]) t = some (.tup [iV aj, iV ai]) := upd_same
      generalize upd K1 t (.tup [iV aj, iV ai]) = K2 at t2 k2 ⊢
      refine ⟨t, _, rfl, SqT.of k2, rfl, _, _, rfl, ?_⟩
      have k1' := t2 _ _ k1
      have li' : i < (its.map iV).length := by rw [List.length_map]; omega
      have lj' : j < ((its.map iV).set i (iV aj)).length := by rw [List.length_set, List.length_map]; omega
      refine ⟨_, rfl, _, rfl, d1, _, (i : Nat), i, rfl, rfl, k1', ixn li', ?_⟩
      refine ⟨_, _, rfl, _, rfl, _, rfl, d1, _, (j : Nat), j, rfl, rfl, upd_same, ixn lj', rfl, _, rfl, ?_⟩
      refine fin _ d1 ((its.set i aj).set j ai) (fun u o eu => ?_) (by rw [upd_same, List.map_set, List.map_set]) (by rw [List.length_set, List.length_set]; omega) (fun a ha => ?_) (fun w => ?_)
      · have nu := ne_of_none eu nd1
        rw [upd_ne nu, upd_ne nu]
        exact t2 _ _ (t1 _ _ eu)
      · rcases List.mem_or_eq_of_mem_set ha with w | w
        · rcases List.mem_or_eq_of_mem_set w with w | w
          · exact .inl w
          · exact .inl (w ▸ List.mem_of_getElem? ej)
        · exact .inl (w ▸ List.mem_of_getElem? ei)
      · have := congrArg List.length w
        rw [List.length_set, List.length_set] at this
        exact hI.ne (List.length_eq_zero_iff.mp this)
    rw [decide_eq_false h5]
    refine iteF ?_
    refine ⟨_, rfl, rfl, _, rfl, ?_⟩
    by_cases h6 : V.int wy = V.int 6
    · rw [decide_eq_true h6]
      refine iteT ⟨_, rfl, _, rfl, _, _, rfl, rfl, _, rfl, b, _, rfl, SqL.of hb9, fun d1 nd1 => ?_⟩
      rw [ec3]
      exact fin _ d1 c3 (same_new nd1) upd_same (by omega) (fun a ha => .inl (mc3 a ha)) ne3
    · rw [decide_eq_false h6]
      refine iteF ⟨_, rfl, _, rfl, by show 1 ≤ sizeLine; decide, fun d1 nd1 => ?_⟩
      have t1 := same_new (o := .lst [iV z]) nd1
      have k1 : upd H9 d1 (.lst [iV z]) d1 = some (.lst ([z].map iV)) := upd_same
      generalize upd H9 d1 (.lst [iV z]) = K1 at t1 k1 ⊢
      refine ⟨b, d1, _, _, rfl, rfl, t1 _ _ hb9, k1, by rw [List.length_map]; show its.length + 1 ≤ 2 ^ 24; omega, fun d2 nd2 => ?_⟩
      refine fin _ d2 (its ++ [z]) (t1.trans (same_new nd2)) (by rw [upd_same, List.map_append]) (by rw [List.length_append]; show its.length + 1 ≤ _; omega) (fun a ha => ?_) (by simp)
      rcases List.mem_append.mp ha with w | w
      · exact .inl w
      · exact .inr (.inl (List.mem_singleton.mp w))
end
end K17

namespace K17
open PySem PySem.Spec PyProof.Rows L2
/-! ### an exception that was caught and is kept by a name -/
/-- the exception object at a, of the class cls, its own dict d -/
def Held (cls : Value) (d : Option Addr) (a : Addr) : HO := .ext fun h => ∃ (ob : Obj) (fv : Array Value), h.get? a = some ob ∧ Zc cls d ob ∧ ob.data = .fields fv
section
variable {X : Cx} {pins : List (Addr × Obj)} {σ : L2.St} {H : Hp} {s : Shared} {a : Addr} {ob : Obj} {fv : Array Value} {cls : Value} {d : Option Addr}
/-- a pinned exception that is newer than the frame is tracked from here on -/
theorem track (I : Inv X ((a, ob) :: pins) σ H s) (hz : Zc cls d ob) (hd : ob.data = .fields fv) (n0 : X.s_0.heap.get? a = none) (np : ∀ p ∈ X.pn ++ pins, p.1 ≠ a) : Inv X pins σ (upd H a (Held cls d a)) s := by
  obtain ⟨ha, hn, hL, hF, _⟩ := I.pin (a, ob) (List.mem_append_right _ List.mem_cons_self)
  have ha : s.heap.get? a = some ob := ha
  have hn : H a = none := hn
  have hL : a ≠ X.env.locals := hL
  have new : ObjOk X.prog X.w (upd H a (Held cls d a)) s.heap a (Held cls d a) := ⟨⟨ob, fv, ha, hz, hd⟩, ⟨ob, ha⟩, fun _ _ ⟨o, v, e, r⟩ k => ⟨o, v, k o e, r⟩⟩
  have old : ∀ b o, X.s_0.heap.get? b = some o → b ≠ a := fun b o e z => by
    rw [z, n0] at e
    cases e
  have tr : ∀ b o, H b = some o → upd H a (Held cls d a) b = some o := fun b o e => by
    rw [upd_ne (ne_of_none e hn)]
    exact e
  have B := I.base
  refine ⟨I.ok, I.os, I.bare, ⟨B.keep, B.slot, fun b o e n x => ?_, B.there, fun b xs e => tr _ _ (B.tups b xs e), fun b o u e => tr _ _ (B.frzs b o u e), fun b ps e => ?_⟩, I.loc, I.cell, ?_, fun x c e => ?_, fun p hp => ?_, HOk.laidN I.hok (fun _ _ q => q) hn new, I.len⟩
  · rw [upd_ne (old b o e)]
    exact B.free b o e n x
  · obtain ⟨m, q⟩ := B.tbls b ps e
    exact ⟨m, tr _ _ q⟩
  · rw [upd_ne hL.symm]
    exact I.free
  · have nc : c ≠ a := fun z => by
      obtain ⟨v, o, q, q2⟩ := I.cell x c e
      rw [z, ha] at q
      cases q
      rw [hd] at q2
      cases q2
    rw [upd_ne nc]
    exact I.freeC x c e
  · have hp2 : p ∈ X.pn ++ ((a, ob) :: pins) := by
      rcases List.mem_append.mp hp with z | z
      · exact List.mem_append_left _ z
      · exact List.mem_append_right _ (List.mem_cons_of_mem _ z)
    obtain ⟨e1, e2, e3⟩ := I.pin p hp2
    exact ⟨e1, by rw [upd_ne (np p hp)]; exact e2, e3⟩
/-- isinstance(e, C) of a kept exception of just this class, and its field -/
theorem held_at (I : Inv X pins σ H s) (e : H a = some (Held cls d a)) : ∃ ob fv, s.heap.get? a = some ob ∧ Zc cls d ob ∧ ob.data = .fields fv := by
  have z : ObjOk X.prog X.w H s.heap a (.ext fun h => ∃ (ob : Obj) (fv : Array Value), h.get? a = some ob ∧ Zc cls d ob ∧ ob.data = .fields fv) := I.hok a _ e
  exact z.1
end
/-! ### try: .. except C as n: y = n -/
/-- what the clause wishes of what its body raises: it is C's, and behind it y (slot j) keeps it -/
def wKeep (K : PySem.W.Frag) (c : Value) (i j m : Nat) (D : Ends) : WX := fun cls d σ H =>
  PySem.W.exmOne K cls c = some true ∧ ∀ a, H a = none → σ.length = m → D.nx (((σ.set i (some (.ref a))).set j (some (.ref a))).set i none) (upd H a (Held cls d a))
section
variable {X : Cx} {x n y : Str} {c : Value} {i j : Nat} {body : List Stmt} {np px py ap hp tp : Pos} {tb : WX → TS}
theorem ps_try_keep (stk : X.stack = X.env :: X.outer) (fra : X.env.frame = some X.env.locals) (noex : X.ex = []) (nod : X.N.Nodup) (atI : X.N[i]? = some n) (atJ : X.N[j]? = some y) (kn : X.env.kindOf n = some .local) (ly : Loc X.env.scope y) (fy : X.fn y = true ∨ X.env.scope.names.lookup y = some .local) (nm : Names X x c)
    (hi : i < X.N.length) (d1 : (n == ("__debug__" : Str)) = false) (d2 : (n == ("__classdict__" : Str)) = false)
    (run : ∀ (W : WX) (pn : List (Addr × Obj)) (xe : Value → Shared → Prop), Takes (X.tr pn xe) W → PassesOwn (model X.prog X.w) X.A X.env xe → PSs (X.tr pn xe) body (tb W)) :
    L2.PS X (.Try body [.ExceptHandler (some (.Name x np)) (some n) [.Assign [.Name y py] (.Name n px) ap] hp] [] [] tp) (fun D σ H => tb (wKeep X.K c i j X.N.length D) D σ H) := by
  refine ⟨fun pins s σ H D I wish => ?_⟩
  have good := I.ok
  have lone : Loc X.env.scope n := .inl kn
  have frames : X.A.frames = some (X.env :: X.outer) := by rw [good.frames, stk]
  refine wpAny_Try_except (wpAny_mono ((run (wKeep X.K c i j X.N.length D) (X.pn ++ pins) (fun e z => wpAny (model X.prog X.w) X.A (noteFrame e X.env) (fun _ z2 => wpAny (model X.prog X.w) X.A (setFlight e none)
      (fun _ z3 => wpAny (model X.prog X.w) X.A (handleBy e X.env [.ExceptHandler (some (.Name x np)) (some n) [.Assign [.Name y py] (.Name n px) ap] hp]) (SP X pins D) X.xe z3) X.xe z2) X.xe z) (fun u sT air => ?_) PassesOwn.looking).run [] s σ H D (I.toTry _) wish) (fun fl sE hE => ?_) (fun _ _ z => z))
  · obtain ⟨a, B, sG, pG, σG, HG, cls, d, rfl, JG, ground, slots, sky, free, hos, bare, ematch, keep⟩ := air
    have J : Inv X pins σG HG sG := JG.ofTry good
    rw [show (X.tr (X.pn ++ pins) _).stack = X.env :: X.outer from stk] at sky
    show wpAny (model X.prog X.w) X.A (noteFrame (.ref a) X.env) _ _ _
    refine Sky.land Zc.steady frames fra sky fun hA flA upA => ?_
    have JA : Inv X pins σG HG { sT with heap := hA } := J.landed ground flA.1 (slots.trans upA) hos bare
    obtain ⟨oA, vA, gA, zA, dA⟩ := flA.there
    have away : a ∉ frs (X.env :: X.outer) := fun hm => by
      obtain ⟨_, oz, ez, nf⟩ := flA.2.2.1.mem hm
      rw [gA] at ez
      cases ez
      exact nf _ dA
    have noL : a ≠ X.env.locals := fun z => away (List.mem_filterMap.mpr ⟨X.env, List.mem_cons_self, by rw [fra, z]⟩)
    have noF : a ∉ X.fs := fun hm => by
      obtain ⟨e, he, q⟩ := List.mem_filterMap.mp hm
      exact away (List.mem_filterMap.mpr ⟨e, List.mem_cons_of_mem _ he, q⟩)
    have SA := JA.suite gA dA free noL noF
    have Bnone : B.get? a = none := flA.2.1
    have offB : ∀ b o, sG.heap.get? b = some o → b ∉ frs X.stack → b ≠ a := fun b o e nf z => by
      have q := ground b o e nf
      rw [z, Bnone] at q
      cases q
    have off0 : X.s_0.heap.get? a = none := by
      cases e : X.s_0.heap.get? a with
      | none => rfl
      | some o =>
        obtain ⟨o2, q⟩ := J.base.there a o e (by rw [noex]; exact fun z => nomatch z)
        exact absurd rfl (offB a o2 q (by rw [stk]; exact away))
    have offP : ∀ p ∈ X.pn ++ pins, p.1 ≠ a := fun p hp => by
      obtain ⟨q, _, nl, nf, _⟩ := J.pin p hp
      refine offB p.1 _ q fun hm => ?_
      rw [stk] at hm
      obtain ⟨e, he, qe⟩ := List.mem_filterMap.mp hm
      rcases List.mem_cons.mp he with z | z
      · rw [z, fra] at qe
        exact nl (Option.some.inj qe).symm
      · exact nf (List.mem_filterMap.mpr ⟨e, z, qe⟩)
    -- the clause takes it
    refine wpAny_handleBy_cons (codeAny_handlers_test ?_) (by intro q; cases q)
    have look : PySem.W.Looks (model X.prog X.w) hA (typeOf (.ref a)) cls := fun _ _ _ _ k q => wpAny_typeOf_ref (k _ _ gA) (by rw [zA.1]; exact q)
    have answer := PySem.W.exm_one (M := model X.prog X.w) JA.kIn look ematch
    have named : ∀ {Q E : Value → Shared → Prop}, Q c { sT with heap := hA } → wpAny (model X.prog X.w) (X.A.mark (some (.ref a))) (eval (.Name x np) X.env) Q E { sT with heap := hA } := fun {Q E} q => by
      obtain ⟨g1, g2, g3 | ⟨g3, g4, g5⟩⟩ := nm
      · exact ld_glob (X := X.suite a ((a, oA) :: (X.pn ++ pins))) SA g1 g3 q g2
      · exact ld_blt (X := X.suite a ((a, oA) :: (X.pn ++ pins))) SA g1 g3 g4 q g5 g2
    refine named (answer.here ?_)
    refine codeAny_handlers_suite_as (HandSPX.lands_againZ flA fun hB flB upB => ?_)
    have JB : Inv X pins σG HG { sT with heap := hB } := J.landed ground flB.1 ((slots.trans upA).trans upB) hos bare
    obtain ⟨oB, vB, gB, zB, dB⟩ := flB.there
    have SB' := JB.suite gB dB free noL noF
    refine store_ok (X := X.suite a ((a, oB) :: (X.pn ++ pins))) (v := .ref a) SB' nod atI lone rfl (fun s5 S5 => ?_) (.inr kn)
    have vis : Vis X.env.scope n := .inl kn
    have suite : PSs (X.suite a ((a, oB) :: (X.pn ++ pins))) [.Assign [.Name y py] (.Name n px) ap] (tAsg (tVar i) (gName j)) := pss_one (ps_set nod atJ ly (pe_var atI vis d1 d2) rfl fy)
    have inI : (σG.set i (some (V.ref a)))[i]? = some (some (V.ref a)) := List.getElem?_set_self (by rw [J.len]; exact hi)
    refine wpAny_mono (suite.run [] s5 _ HG { nx := fun σ' H' => σ' = (σG.set i (some (V.ref a))).set j (some (V.ref a)) ∧ H' = HG, rt := fun _ _ => False } S5 ⟨_, inI, rfl, rfl⟩) (fun fl s6 h6 => ?_) (fun _ _ z => False.elim z)
    cases fl with
    | next =>
      obtain ⟨σ6, H6, S6, e1, e2⟩ := h6
      rw [e1, e2] at S6
      have K6 : Inv X ((a, oB) :: pins) ((σG.set i (some (V.ref a))).set j (some (V.ref a))) HG s6 := ⟨good, S6.os, S6.bare, S6.base, S6.loc, S6.cell, S6.free, S6.freeC, fun p hp => S6.pin p (by
        rw [List.append_nil]
        rcases List.mem_append.mp hp with z | z
        · exact List.mem_cons_of_mem _ (List.mem_append_left _ z)
        · rcases List.mem_cons.mp z with z | z
          · rw [z]
            exact List.mem_cons_self
          · exact List.mem_cons_of_mem _ (List.mem_append_right _ z)), S6.hok, S6.len⟩
      exact gone_ok K6 nod atI kn fun s7 K7 => ⟨_, _, track K7 zB dB off0 offP, keep a free J.len⟩
    | brk =>
      obtain ⟨_, _, _, z⟩ := h6
      exact z.elim
    | cont =>
      obtain ⟨_, _, _, z⟩ := h6
      exact z.elim
    | ret u =>
      obtain ⟨_, _, _, _, _, z⟩ := h6
      exact z.elim
  · cases fl with
    | next =>
      obtain ⟨_, _, J, q⟩ := hE
      exact wpAny_execs_nil ⟨_, _, J.ofTry good, q⟩
    | brk =>
      obtain ⟨_, _, J, q⟩ := hE
      exact ⟨_, _, J.ofTry good, q⟩
    | cont =>
      obtain ⟨_, _, J, q⟩ := hE
      exact ⟨_, _, J.ofTry good, q⟩
    | ret u =>
      obtain ⟨_, _, _, J, r, q⟩ := hE
      exact ⟨_, _, _, J.ofTry good, r, q⟩
end
theorem any_cls {K : PySem.W.Frag} {C : Addr} (h : PySem.W.hasDictIn K C = true) : (PySem.W.clsIn K C).isSome = true := by
  unfold PySem.W.hasDictIn at h
  cases e : PySem.W.clsIn K C with
  | some c => rfl
  | none =>
    rw [e] at h
    cases h
section
variable {X : Cx} {C : Addr}
/-- a kept exception of the class at C, with its fields -/
def Kept (C : Addr) (fs : List (Str × V)) (a : Addr) (H : Hp) : Prop := ∃ dd : Addr, H a = some (Held (.ref C) (some dd) a) ∧ H dd = some (.xd fs)
theorem kept_inst {pins : List (Addr × Obj)} {σ : L2.St} {H : Hp} {s : Shared} {a : Addr} {fs : List (Str × V)} (I : Inv X pins σ H s) (k : Kept C fs a H) :
    ∃ (ob : Obj) (mA : Str → Option Value) (od : Obj), PySem.W.InstAt s.heap a ob C (some od) ∧ (∀ f, RelO (fs.lookup f) (mA f)) ∧ ∀ n, PySem.W.lookIn n od = some (mA n) := by
  obtain ⟨dd, h1, h2⟩ := k
  obtain ⟨ob, fv, g, z, dt⟩ := held_at I h1
  have q : ObjOk X.prog X.w H s.heap dd (.xd fs) := I.hok dd _ h2
  obtain ⟨mA, ns, rel⟩ := q
  obtain ⟨od, go, lo⟩ := lookIn_ns ns
  exact ⟨ob, mA, od, ⟨g, z.1, by unfold PySem.W.notCls; rw [dt] <;> rfl, by rw [z.2]; exact go⟩, rel, lo⟩
def rIsH (C : Addr) : List V → Hp → VK → Prop := fun xs H Q => ∃ (a : Addr) (fs : List (Str × V)), xs = [.ref a, .ref C] ∧ Kept C fs a H ∧ Q (.bl true) H
theorem call_isH (E : ExcC X.K C) : CallR X (.builtin "isinstance") (rIsH C) := by
  intro pins s σ H xs us Q I r h
  obtain ⟨a, fs, rfl, k, q⟩ := h
  obtain ⟨u1, u2, rfl, r1, r2⟩ := vals2 r
  obtain rfl : u1 = Value.ref a := r1
  obtain rfl : u2 = Value.ref C := r2
  obtain ⟨ob, mA, od, J, _⟩ := kept_inst I k
  have one : PySem.W.kitOne X.K (.ref C) (.ref C) = some true := by
    unfold PySem.W.kitOne
    rw [if_pos (beq_self_eq_true _)]
  exact PySem.W.kia_one (PySem.W.kitx_exc (any_cls E.hd) E.hg E.hk E.hs E.ha E.hn E.ht E.hm) I.kIn J one (fun z => nomatch z) fun tk => ⟨.bl true, H, I.tok tk, rfl, q⟩
def tHf (C : Addr) (f : Str) (te : TE) : TE := fun σ H Q => te σ H fun x H1 => ∃ (a : Addr) (fs : List (Str × V)) (v : V), x = .ref a ∧ Kept C fs a H1 ∧ fs.lookup f = some v ∧ Q v H1
theorem pe_hf {e : Expr} {te : TE} {pos : Pos} {n : Str} (T : XfC X.K C) (no : PySem.W.findIn X.K (.ref C) n = some none) (he : PE X e te) (hb : attributeBase e n X.env (eval e X.env) = eval e X.env := by rfl) : PE X (.Attribute e n pos) (tHf C n te) := by
  refine ⟨fun pins s σ H Q I h => attr_of hb (thn (he.run pins s σ H _ I h) fun u s1 hh => ?_)⟩
  obtain ⟨x, H1, I1, rx, a, fs, v, rfl, k, l, q⟩ := hh
  obtain rfl : u = Value.ref a := rx
  obtain ⟨ob, mA, od, J, rel, lo⟩ := kept_inst I1 k
  obtain ⟨w, hw, rw'⟩ := RelO.some_of (v := v) (o := mA n) (by rw [← l]; exact rel n)
  exact HandSPX.exc_get I1.kIn J T.ga T.gg T.exC (PySem.W.findObj_own T.hdC no rfl (by rw [lo, hw])) (handed_of rw') ⟨v, H1, I1.tok _, rw', q⟩
end

/-! ### isinstance of a kept exception, any answer -/
def rIsK (K : PySem.W.Frag) (D : Addr) : List V → Hp → VK → Prop := fun xs H Q => ∃ (a C : Addr) (fs : List (Str × V)) (b : Bool), xs = [.ref a, .ref D] ∧ Kept C fs a H ∧ ExcC K C ∧ PySem.W.kitOne K (.ref C) (.ref D) = some b ∧ Q (.bl b) H
section
variable {X : Cx} {C D : Addr}
theorem call_isK : CallR X (.builtin "isinstance") (rIsK X.K D) := by
  intro pins s σ H xs us Q I r h
  obtain ⟨a, C, fs, b, rfl, k, E, one, q⟩ := h
  obtain ⟨u1, u2, rfl, r1, r2⟩ := vals2 r
  obtain rfl : u1 = Value.ref a := r1
  obtain rfl : u2 = Value.ref D := r2
  obtain ⟨ob, mA, od, J, _⟩ := kept_inst I k
  exact PySem.W.kia_one (PySem.W.kitx_exc (any_cls E.hd) E.hg E.hk E.hs E.ha E.hn E.ht E.hm) I.kIn J one (fun z => nomatch z) fun tk => ⟨.bl b, H, I.tok tk, rfl, q⟩
end
/-! ### a kept exception's field, its class told by the promise -/
def tHg (K : PySem.W.Frag) (f : Str) (te : TE) : TE := fun σ H Q => te σ H fun x H1 => ∃ (a C : Addr) (fs : List (Str × V)) (v : V), x = .ref a ∧ Kept C fs a H1 ∧ XfC K C ∧ PySem.W.findIn K (.ref C) f = some none ∧ fs.lookup f = some v ∧ Q v H1
section
variable {X : Cx}
theorem pe_hg {e : Expr} {te : TE} {pos : Pos} {n : Str} (he : PE X e te) (hb : attributeBase e n X.env (eval e X.env) = eval e X.env := by rfl) : PE X (.Attribute e n pos) (tHg X.K n te) := by
  refine ⟨fun pins s σ H Q I h => attr_of hb (thn (he.run pins s σ H _ I h) fun u s1 hh => ?_)⟩
  obtain ⟨x, H1, I1, rx, a, C, fs, v, rfl, k, T, no, l, q⟩ := hh
  obtain rfl : u = Value.ref a := rx
  obtain ⟨ob, mA, od, J, rel, lo⟩ := kept_inst I1 k
  obtain ⟨w, hw, rw'⟩ := RelO.some_of (v := v) (o := mA n) (by rw [← l]; exact rel n)
  exact HandSPX.exc_get I1.kIn J T.ga T.gg T.exC (PySem.W.findObj_own T.hdC no rfl (by rw [lo, hw])) (handed_of rw') ⟨v, H1, I1.tok _, rw', q⟩
end
/-! ### o.m(k = v, ..) -/
def tMethK (C : Addr) (m : Str) (nk : Nat) (sp : Sp) (gV : List V → List V → List V) (E : XK) (ta : TE) (tk : TA) : TE := fun σ H Q => ta σ H fun x H1 => ∃ a dx fs, x = .ref a ∧ H1 a = some (.ins C dx fs) ∧ fs.lookup m = none ∧ tk σ H1 fun zs H2 => zs.length = nk ∧ sp (gV [x] zs) H2 Q E
section
variable {X : Cx} {CX : CXT} {k : Nat} {f C : Addr} {fd : FuncData} {ps ks : List Str} {sp : Sp} {E : XK} {m : Str} {pos apos : Pos} {o : Expr} {kws : List Keyword} {ta : TE} {tk : TA} {g : List Value → List Value → List Value} {gV : List V → List V → List V}
theorem pe_methK0 {pl : Sem Bool} (he : PE X o ta) (c : Cls X.K C) (hm : Meth X.K C m f) (F : FnOk X.prog X.w X.K X.mg X.base CX k f fd ps sp) (hr : Room k X.A) (hb : KBn X.K fd ps 1 ks g gV) (hx : Passes CX X E) (hkw : PK X kws tk)
    (hall : (backToKw pos (keywordEach kws X.env)).all (·.1.isSome) = true := by rfl) (hks : (backToKw pos (keywordEach kws X.env)).filterMap (·.1) = ks := by rfl)
    (hpl : ((backTo pos (starEach [] X.env)).any (·.1) || (backToKw pos (keywordEach kws X.env)).any (·.1.isNone)) = false := by rfl)
    (ht : eval (.Call (.Attribute o m apos) [] kws pos) X.env = (do
      let ov ← eval o X.env
      standAt apos.atName
      let (f, first) ← holding [ov] (getMethod ov m pl)
      callWith pos f first (backTo pos (starEach [] X.env)) (backToKw pos (keywordEach kws X.env))) := by rfl) :
    PE X (.Call (.Attribute o m apos) [] kws pos) (tMethK C m ks.length sp gV E ta tk) := by
  refine ⟨fun pins s σ H Q I h => ?_⟩
  refine PySem.W.methodCall_KW (pl := pl) (thn (he.run pins s σ H _ I h) fun u s1 ⟨x, H1, I1, rx, a, dx, fs, ex, ea, l, q⟩ => ?_) ht
  subst ex
  obtain rfl : u = Value.ref a := rx
  refine getmeth_ok I1 ea c hm l ?_
  refine PySem.W.callWith_KW0 (first := [.ref a]) (h₀ := X.base) I1.ok.mod.kin hm.kp hall ?_ hpl
  refine thn (hkw.run pos pins s1 σ H1 _ I1 q) fun ws s2 ⟨zs, H2, I2, rz, l2, q2⟩ => ⟨I2.kIn, ?_⟩
  rw [hks]
  exact run_fnN (us := [.ref a]) (vs := [.ref a]) F hr hb hx I2 (.cons rfl .nil) rz rfl l2 q2
end
end K17

namespace K17
open PySem PySem.Spec PyProof.Rows L2
/-! ### what an asking comes to -/
/-- what an asking that raises wishes: it is heard as a tuple -/
def EHd (CX : Addr) (Q : VK) : XK := fun cls d H' =>
  cls = .ref CX ∧ ∃ (dd : Addr) (i : Nat), d = some dd ∧ H' dd = some (.xd (bt i)) ∧ ∀ H'' t, Same H' H'' → H'' t = some (.tup [.str "text", .int 0, .int (i : Nat)]) → Q (.ref t) H''
def NHd (Q N : VK) : Prop := ∀ v H', Q v H' → N v H'
def THeard (CX : Addr) : (XK → Hp → VK → Prop) → Hp → VK → Prop := fun tl H Q => ∀ (H1 : Hp), Same H H1 → ∀ N : VK, NHd Q N → tl (EHd CX Q) H1 N
/-- what the top has written of SeenError (at CS), BadText (at CX) -/
structure SeT (K : PySem.W.Frag) (mg : Str → Option Value) (CS CX : Addr) : Prop where
  mgS : mg "SeenError" = some (.ref CS)
  mgX : mg "BadText" = some (.ref CX)
  sub : PySem.W.exmOne K (.ref CX) (.ref CS) = some true
  ex : ExcC K CX
  xf : XfC K CX
  kN : PySem.W.kitOne K (.type "NoneType") (.ref CX) = some false
  no1 : PySem.W.findIn K (.ref CX) "line" = some none
  no2 : PySem.W.findIn K (.ref CX) "item" = some none
theorem set_one {σ : L2.St} {x : Option V} {y : V} (h : σ.length = 4) : (((σ.set 3 x).set 1 (some y)).set 3 none)[1]? = some (some y) := by
  match σ, h with
  | [a, b, c, d], _ => rfl
def rIsN (K : PySem.W.Frag) (D : Addr) : List V → Hp → VK → Prop := fun xs H Q => rIsi K xs H Q ∨ rIsK K D xs H Q
theorem call_isN {X : Cx} {D : Addr} : CallR X (.builtin "isinstance") (rIsN X.K D) := fun pins s σ H xs us Q I r h => h.elim (fun z => call_isi pins s σ H xs us Q I r z) (fun z => call_isK pins s σ H xs us Q I r z)
/-! ### _law_heard -/
abbrev sHd : Stmt := top 56
abbrev nHd : List Str := ["_law_ask", "_law_caught", "_law_answer", "error"]
theorem scHd : FnScope nHd ["_law_ask"] (defScope sHd) := ⟨rfl, rfl, rfl, by decide +kernel, rfl, by decide +kernel, by decide +kernel⟩
/-- what an answer is: not None as a caught thing -/
theorem heard_gives {X : Cx} {CS CX g : Addr} {cdg : Value} {q : Str} (B : Bn X.mg) (S : SeT X.K X.mg CS CX) : LamX.GivesTo X nHd "_law_heard" (defScope sHd) g cdg (defBody sHd) "_law_ask" q (THeard CX) := by
  intro f c' s H Q tl act hc h
  have nd := scHd.nd
  have h0 := h
  refine ⟨_, (pss_cons (ps_asg (pe_tup (pa_cons (pe_non) (pa_cons (pe_non) pa_nil))) (pg_tup rfl (pgs_cons ((pg_name (i := 1) nd rfl (Or.inl rfl))) (pgs_cons ((pg_name (i := 2) nd rfl (Or.inl rfl))) pgs_nil)))) (pss_cons (ps_try_keep (i := 3) (j := 1) (c := .ref CS) (tb := fun W D σ H => ∃ Ech : XK, (∀ cls d σ' H', Ech cls d H' → W cls d σ' H') ∧ σ[0]? = some (some (.ref f)) ∧ H c' = some (LamX.CodeO c' q) ∧ tl Ech H (fun v H' => D.nx (σ.set 2 (some v)) H'))
      rfl rfl rfl nd rfl rfl rfl (Or.inl rfl) (Or.inr rfl) ⟨rfl, by decide, Or.inl S.mgS⟩ (by show 3 < 4; decide) (by decide) (by decide) (fun W pn xe tk _ => ⟨fun pins s' σ H' D I h' => ?_⟩)) (pss_cons (ps_if (pt_val (pe_callB (r := rIsN X.K CX) call_isN (by rfl) B.isinstance boot_isinstance (pa_cons (pv 1) (pa_cons (pe_glob (v := .ref CX) rfl S.mgX rfl) pa_nil)))) (pss_one (ps_ret (pe_tup (pa_cons (pe_str) (pa_cons (pe_hg (pv 1)) (pa_cons (pe_hg (pv 1)) pa_nil)))))) pss_nil) (pss_one (ps_ret (pe_ifExp (pt_cmpR op_isN (pv 1) pe_non (nomark _)) (pv 2) (pe_tup (pa_cons (pe_str) pa_nil)))))))), ?_⟩
  · obtain ⟨Ech, hW, h1, h2, h3⟩ := h'
    exact (pss_one (ps_set (i := 2) nd rfl (Or.inl rfl) (act W pn xe Ech _ _ tk hW))).run pins s' σ H' D I ⟨h1, h2, h3⟩
  · refine ⟨by show 2 ≤ sizeLine; decide, fun t0 n0 => ?_⟩
    have s0 := same_new (o := .tup [V.non, V.non]) n0
    refine ⟨t0, _, rfl, SqT.of upd_same, rfl, _, _, rfl, _, _, rfl, rfl, ?_⟩
    refine ⟨EHd CX Q, ?_, rfl, s0 _ _ hc, h0 _ s0 _ (fun v H' q => ?_)⟩
    · rintro cls d σ' H' ⟨rfl, dd, i, rfl, hd, use⟩
      refine ⟨S.sub, fun a ha hl => ?_⟩
      have hl : σ'.length = 4 := hl
      have nda : dd ≠ a := ne_of_none hd ha
      have k : Kept CX (bt i) a (upd H' a (Held (.ref CX) (some dd) a)) := ⟨dd, upd_same, by rw [upd_ne nda]; exact hd⟩
      have s1 := same_new (o := Held (.ref CX) (some dd) a) ha
      refine ⟨_, set_one hl, .inr ⟨a, CX, _, true, rfl, k, S.ex, kit_self, _, rfl, iteT ?_⟩⟩
      refine ⟨_, set_one hl, a, CX, _, _, rfl, k, S.xf, S.no1, rfl, _, set_one hl, a, CX, _, _, rfl, k, S.xf, S.no2, rfl, by show 3 ≤ sizeLine; decide, fun t nt => ?_⟩
      exact use _ t (s1.trans (same_new nt)) upd_same
    · refine ⟨_, rfl, .inl ⟨_, _, _, _, false, rfl, .own _, .base .non, S.kN, _, rfl, iteF ?_⟩⟩
      exact ⟨_, rfl, rfl, _, rfl, iteT ⟨_, rfl, q⟩⟩
end K17

namespace K17
open PySem PySem.Spec PyProof.Rows L2
theorem sameUpd {H H' : Hp} {D : Addr} {o : HO} (s : Same H H') (n : H D = none) : Same H (upd H' D o) := fun b u e => by
  rw [upd_ne (ne_of_none e n)]
  exact s _ _ e
def Lm (H0 : Hp) (D : Addr) (f : Int × Int → Int × Int) (ps : List (Int × Int)) (i : Nat) (H : Hp) : Prop := Same H0 H ∧ ∃ us, LP H D us ((ps.map f).take i)
theorem lm_nil {H0 : Hp} {D : Addr} {f : Int × Int → Int × Int} {ps : List (Int × Int)} (hD : H0 D = none) : Lm H0 D f ps 0 (upd H0 D (.lst [])) := ⟨same_new hD, [], upd_same, .nil⟩
theorem lm_step {H0 H' H2 : Hp} {D g : Addr} {f : Int × Int → Int × Int} {ps : List (Int × Int)} {i : Nat} {q : Int × Int} (hD : H0 D = none) (l7 : ps.length ≤ 7) (c : Lm H0 D f ps i H') (hq : ps[i]? = some q) (s : Same H' H2) (hg : Pr H2 g (f q)) :
    ∃ acc, H2 D = some (.lst acc) ∧ acc.length < sizeLine ∧ Lm H0 D f ps (i + 1) (upd H2 D (.lst (acc ++ [V.ref g]))) := by
  obtain ⟨s0, us, lp⟩ := c
  have lp2 := lp.same s
  have z := lp2.snoc hg
  rw [← take_more (show (ps.map f)[i]? = some (f q) by rw [List.getElem?_map, hq]; rfl)] at z
  exact ⟨_, lp2.1, by rw [List.length_map, lp2.len]; exact small1000 (Nat.le_trans (List.length_take_le' _ _) (by rw [List.length_map]; omega)), sameUpd (s0.trans s) hD, _, z⟩
theorem lm_end {H0 H : Hp} {D : Addr} {f : Int × Int → Int × Int} {ps : List (Int × Int)} (c : Lm H0 D f ps ps.length H) : Same H0 H ∧ ∃ us, LP H D us (ps.map f) := by
  obtain ⟨s, us, lp⟩ := c
  rw [List.take_of_length_le (by rw [List.length_map]; exact Nat.le_refl _)] at lp
  exact ⟨s, us, lp⟩
theorem tabs_upd {T : List (Addr × Str)} {H : Hp} {l : Addr} {xs : List V} {o : HO} (t : LamX.Tabs T H) (hl : H l = some (.lst xs)) : LamX.Tabs T (upd H l o) := fun x hx => by
  obtain ⟨ps, h1, h2, h3⟩ := t x hx
  refine ⟨ps, by rw [upd_ne (L2.ne_of h1 hl (by intro z; cases z))]; exact h1, h2, fun pos cv hc => ?_⟩
  obtain ⟨c, e1, e2⟩ := h3 pos cv hc
  exact ⟨c, e1, by rw [upd_ne (L2.ne_of e2 hl codeO_no)]; exact e2⟩

theorem lam_passes {X : Cx} {A : Around} {outer : List Env} {s : Shared} {H : Hp} {E : XK} {scope : Scope} {f c' : Addr} : Passes (L2.CX X.prog X.w) (LamX.lamCx X A outer s H E scope f c') E :=
  passes_call (X := LamX.lamCx X A outer s H E scope f c') (takes_of rfl rfl rfl rfl) (fun _ _ _ _ h => h)

theorem lam_passX {X : Cx} {A : Around} {outer : List Env} {s : Shared} {H : Hp} {E : XK} {scope : Scope} {f c' : Addr} : Passes (L2.CX (LamX.lamCx X A outer s H E scope f c').prog (LamX.lamCx X A outer s H E scope f c').w) (LamX.lamCx X A outer s H E scope f c') E := lam_passes (X := X) (A := A) (outer := outer) (s := s) (H := H) (E := E) (scope := scope) (f := f) (c' := c')
theorem lam_in {H : Hp} {Q : VK} {CX : Addr} {T : List (Addr × Str)} {t : XK → TE} {σ : L2.St} (hT : LamX.Tabs T H) (h : ∀ H2 N, Ext H H2 → LamX.Tabs T H2 → NHd Q N → t (EHd CX Q) σ H2 N) : LamX.tLam T (THeard CX) t σ H Q :=
  ⟨hT, fun H1 x T1 H2 s N hN => h H2 N (x.trans (ext_of s)) (T1.ext s) hN⟩
/-- a text that cannot stand, heard -/
theorem rz_hd {CX : Addr} {H : Hp} {Q : VK} {i : Nat} (h : ∀ H' t, Same H H' → H' t = some (.tup [.str "text", .int 0, .int (i : Nat)]) → Q (.ref t) H') : RzF CX (bt i) H (EHd CX Q) := fun d H' s e => ⟨rfl, d, i, rfl, e, fun H'' t s2 e2 => h H'' t (s.trans s2) e2⟩
theorem Ib.ext {H H' : Hp} {b : Addr} {its : Its} {n m : Nat} (h : Ib H b its n m) (s : Ext H H') : Ib H' b its n m := ⟨Ext.lst s h.at_, h.few, h.len, h.cok, h.ne⟩
theorem sum_its {m : Nat} : ∀ {its : Its}, (∀ a ∈ its, a.length ≤ m) → ((its.map SX.S).map (·.length)).sum ≤ its.length * m
  | [], _ => by simp
  | a :: r, h => by
    have ih := sum_its (its := r) fun x hx => h x (List.mem_cons_of_mem _ hx)
    have h1 := h a List.mem_cons_self
    simp only [List.map_cons, List.sum_cons, List.length_cons, SX.S_len] at ih ⊢
    rw [Nat.add_mul, Nat.one_mul]
    omega
theorem join_le {m : Nat} : ∀ {its : Its}, (∀ a ∈ its, a.length ≤ m) → (TL.joinL [32] its).length ≤ its.length * (m + 1)
  | [], _ => Nat.zero_le _
  | [a], h => by
    have := h a List.mem_cons_self
    show a.length ≤ 1 * (m + 1)
    omega
  | a :: b :: r, h => by
    have ih := join_le (its := b :: r) fun x hx => h x (List.mem_cons_of_mem _ hx)
    have h1 := h a List.mem_cons_self
    rw [joinL_cons _ _ (by simp), List.length_append, List.length_append]
    have e : (a :: b :: r).length = (b :: r).length + 1 := rfl
    rw [e, Nat.add_mul, Nat.one_mul]
    have e1 : ([32] : Cd).length = 1 := rfl
    omega
theorem join_ck : ∀ {its : Its}, Cks its → ∀ c ∈ TL.joinL [32] its, c < 1114112
  | [], _, c, h => absurd h List.not_mem_nil
  | [a], k, c, h => k a List.mem_cons_self c h
  | a :: b :: r, k, c, h => by
    rw [joinL_cons _ _ (by simp), List.mem_append, List.mem_append] at h
    rcases h with h | h | h
    · exact k a List.mem_cons_self c h
    · rw [List.mem_singleton.mp h]
      decide
    · exact join_ck (its := b :: r) (fun x hx => k x (List.mem_cons_of_mem _ hx)) c h
theorem spl_ck : ∀ (l acc : Cd), (∀ c ∈ acc, c < 1114112) → (∀ c ∈ l, c < 1114112) → Cks (TL.spl [32] 0 acc l)
  | [], acc, ha, _ => by
    rw [TL.spl_nil]
    intro a h
    rw [List.mem_singleton.mp h]
    exact ha
  | c :: r, acc, ha, hl => by
    by_cases h : c = 32
    · rw [TL.spl_hit (by rw [pre_one, decide_eq_true h])]
      intro a hm
      rcases List.mem_cons.mp hm with z | z
      · rw [z]
        exact ha
      · exact spl_ck r [] (fun c h => absurd h List.not_mem_nil) (fun x hx => hl x (List.mem_cons_of_mem _ hx)) a z
    · rw [TL.spl_miss (by rw [pre_one, decide_eq_false h])]
      refine spl_ck r (acc ++ [c]) (fun x hx => ?_) (fun x hx => hl x (List.mem_cons_of_mem _ hx))
      rcases List.mem_append.mp hx with z | z
      · exact ha x z
      · rw [List.mem_singleton.mp z]
        exact hl c List.mem_cons_self
end K17

namespace K17
open PySem PySem.Spec PyProof.Rows L2
def txD (e : Nat) : PyData := .tuple [.str "text", .int 0, .int (e : Nat)]
theorem tx_dp {K : PySem.W.Frag} {H : Hp} {u : Addr} {e : Nat} (h : H u = some (.tup [V.str "text", V.int 0, V.int (e : Nat)])) : Dp K H (.ref u) (txD e) := .tup (SqT.of h) (.cons (.str _) (.cons (.int _) (.cons (.int _) .nil)))
theorem tx_lay (e : Nat) : PyData.canLay0 (txD e) = true := by
  have h : PyData.strOk (PySem.Str.ofString "text") = true := by decide +kernel
  simp [txD, PyData.canLay0, PyData.canLayAll0, h]
theorem tx_sh (e : Nat) : SeqAt.shaped (txD e) = true := by
  have h : PyData.depth (txD e) ≤ 64 := by simp [txD, PyData.depth, PyData.depthAll]
  unfold SeqAt.shaped
  rw [tx_lay, decide_eq_true h]
  rfl
theorem tx_ev (e : Nat) : PyData.eqv (txD e) (txD e) = true := PySem.SeqAt.eqv_refl _ (tx_lay e)
theorem encL_shaped (ps : List (Int × Int)) : SeqAt.shaped (.list (ps.map en)) = true := by
  show (PyData.canLayAll0 (ps.map en) && decide (PyData.depthAll (ps.map en) + 1 ≤ 64)) = true
  rw [enc_lay, Bool.true_and, decide_eq_true_iff]
  have := enc_depth ps
  omega
theorem LP.dp {K : PySem.W.Frag} {H : Hp} {a : Addr} {ts : List Addr} {ps : List (Int × Int)} (h : LP H a ts ps) : Dp K H (.ref a) (.list (ps.map en)) := .lst (SqL.of h.1) (dp_pairs h.2)
/-- the static methods as their callers see them -/
structure Rd (P : Program) (w : World) (K : PySem.W.Frag) (mg : Str → Option Value) (base : Heap) (C : Addr) (sp : Sp) : Prop where
  m : ∃ (f : Addr) (fd : FuncData), SMet K C "read" f ∧ FnOk P w K mg base (L2.CX P w) 9 f fd ["text"] sp ∧ Binds K fd ["text"] [] ∧ KBn K fd ["text"] 0 ["text"] (fun us ws => us ++ ws) (fun vs zs => vs ++ zs)
/-- what is asked of items -/
def spRt (TLs : List (Addr × Str)) : Sp := fun vs H Q _ => ∃ (b : Addr) (its : Its), vs = [.ref b] ∧ Ib H b its 1000 6000 ∧ LamX.Tabs TLs H ∧ ∀ H', Ext H H' → LamX.Tabs TLs H' → Q (.bl true) H'
abbrev sPc : Stmt := top 57
abbrev nPc : List Str := ["_law_items_here", "_law_at", "_law_due", "_law_heard_here", "_law_text", "_law_place"]
theorem scPc : FnScope nPc ["_law_items_here"] (defScope sPc) := ⟨rfl, rfl, rfl, by decide +kernel, rfl, by decide +kernel, by decide +kernel⟩
def qPc : Str := (envOfC "_law_picture_right" (defScope sPc) 0 0 (.ref 0)).qual ++ "<lambda>"
section
variable {P : Program} {w : World} {K : PySem.W.Frag} {mg : Str → Option Value} {base : Heap} {C CB CS CX : Addr}
theorem ok_pc {f c Pt g : Addr} {fdH : FuncData} {oc kV doc pm ct : Value} {od an : Option Addr} {osl : Array (Option Value)} {TLs : List (Addr × Str)} (hmT : (Pt, qPc) ∈ TLs) (hU : ∀ x ∈ TLs, x.1 = Pt → x.2 = qPc)
    (lk : K.lookup f = some ⟨oc, od, .func (PySem.W.fnOf "_law_picture_right" "_law_picture_right" (defArgs sPc) (defBody sPc) (defScope sPc) .none kV doc pm an (.ref c) ct), osl⟩) (hcd : PySem.W.codeIn K (.ref c) "_law_picture_right" = true)
    (TB : LamX.TabB base mg c Pt) (B : Bn mg) (T : Pc P w K mg base C CB) (R : Rd P w K mg base C (spPr K C CX)) (kT : PySem.W.kitOne K (.type "tuple") (.ref C) = some false) (S : SeT K mg CS CX) (FH : Fun K "_law_heard" "_law_heard" sHd g fdH) (mH : mg "_law_heard" = some (.ref g))
    (C1 : Callee P w K mg base CX0 2 "_law_in_places" ["_law_items_here", "_law_at", "_law_fewest", "_law_most"] spLp) :
    FnOk P w K mg base CX0 12 f (PySem.W.fnOf "_law_picture_right" "_law_picture_right" (defArgs sPc) (defBody sPc) (defScope sPc) .none kV doc pm an (.ref c) ct) ["_law_items_here"] (spRt TLs) := by
  obtain ⟨f1, fd1, m1, k1, b1, G1⟩ := C1
  obtain ⟨ocH, odH, kVH, docH, pmH, anH, cdvH, ctH, oslH, rfl, lkH, hcH⟩ := FH.ex
  have bH := FH.binds (ps := ["_law_ask"]) fun _ _ _ _ _ _ us hl => match us, hl with | [_], _ => rfl
  obtain ⟨fR, fdR, MR, GR, bR, kR⟩ := R.m
  obtain ⟨fS, fdS, GS, hsS, hfS, bS⟩ := T.st
  have nd := scPc.nd
  refine fn_of lk hcd scPc (fun vs H Q E h => ?_) fun A outer s H vs Q E hr h => ?_
  · obtain ⟨b, its, rfl, _⟩ := h
    rfl
  suffices hh : ∃ t, PSs (cxOf CX0 P w K mg base nPc "_law_picture_right" (defScope sPc) f (.ref c) A outer s H E).nox (defBody sPc) t ∧ t { nx := fun _ H' => Q .non H', rt := Q } (L2.start nPc vs) H from let ⟨t, h1, h2⟩ := hh; ⟨t, h1.nox, h2⟩
  obtain ⟨b, its, rfl, hI, hT, q⟩ := h
  refine ⟨_, (pss_cons ((ps_set (i := 4) nd rfl (Or.inr rfl) (pe_joinN pe_str (pv 0)))) (pss_cons (ps_asg (pe_call G1 (hr.mono (by decide)) rfl m1 k1 b1 .nil pass0 (pa_cons (pe_split (pv 4) pe_str) (pa_cons (pe_int) (pa_cons (pe_int) (pa_cons (pe_int) pa_nil))))) (pg_tup rfl (pgs_cons ((pg_name (i := 1) nd rfl (Or.inl rfl))) (pgs_cons ((pg_name (i := 2) nd rfl (Or.inl rfl))) pgs_nil)))) (pss_cons ((ps_set (i := 3) nd rfl (Or.inl rfl) ((LamX.pe_lamcall (T := TLs) (TT := THeard CX) (Ng := nHd) (a := "_law_ask") (k := 9) rfl mH FH.kp lkH hcH bH scHd rfl (Or.inl rfl) (heard_gives B S) TB rfl hmT hU hr (LamX.lamS_by (by show LamX.lamSB (defScope sPc) _ = true; decide +kernel)) rfl (fun _ _ _ _ _ => rfl) (fun A outer s H E f c hr => pe_smeth (E := E) (pe_glob (v := .ref C) rfl T.mgC rfl) MR GR hr bR lam_passes (pa_cons (pv 4) pa_nil)))))) (pss_cons (ps_if (PW.pt (pw_or (pt_cmpR op_isN (pv 2) pe_non (nomark _)) (pw_or1 (pt_cmpR op_lt (pv 1) (pe_callB call_len_seq (by rfl) B.len PySem.boot_len (pa_cons (pe_split (pv 4) pe_str) pa_nil)) (nomark _)))))
      (pss_one (ps_ret (pe_and (pe_not (pe_callB (r := rIsi K) call_isi (by rfl) B.isinstance boot_isinstance (pa_cons (pv 3) (pa_cons (pe_glob (v := .ref C) rfl T.mgC rfl) pa_nil)))) (pe_one ((pe_cmpR (op_eqD hr.units) (pv 3) (pe_tup (pa_cons (pe_str) (pa_cons (pe_int) (pa_cons (pv 1) pa_nil)))) (nomark _))))))) pss_nil) (pss_one (ps_ret (pe_and (pe_callB (r := rIsi K) call_isi (by rfl) B.isinstance boot_isinstance (pa_cons (pv 3) (pa_cons (pe_glob (v := .ref C) rfl T.mgC rfl) pa_nil))) (pe_and ((pe_cmpR (op_eqD hr.units) ((pe_lc (own := [("_law_place", 5)]) (g := gName 5) (tt := tYes) rfl nd (pi_tup (pe_fld (pv 3) rfl)) (blkOk_by (N := nPc) (sc := defScope sPc) (by decide +kernel)) (fun _ _ _ _ _ => (pg_name (i := 5) nd rfl (Or.inl rfl))) (fun _ _ _ _ _ => pts_nil) (fun _ _ _ _ _ => (pe_callTy (T := "tuple") (r := rTu K) call_tuK (by rfl) B.tuple (by decide +kernel) (pa_cons (pv 5) pa_nil))))) (pv 2) (nomark _))) (pe_one ((pe_cmpR op_eq (pe_callTy (T := "str") (call_strP GS hsS hfS bS (hr.mono (by decide))) (by rfl) B.str (by decide +kernel) (pa_cons (pv 3) pa_nil)) (pv 4) (nomark _)))))))))))), ?_⟩
  have e32 : PySem.Str.ofString " " = SX.S [32] := str_S rfl
  have hl1 := hI.few
  refine ⟨⟨_, rfl⟩, _, rfl, _, b, its.map SX.S, rfl, rfl, .inl (SqL.of (by rw [List.map_map]; exact hI.at_)), ?_, ?_⟩
  · have h1 := sum_its hI.len
    have h2 : its.length * 6000 ≤ 1000 * 6000 := Nat.mul_le_mul_right _ hl1
    have h3 : (PySem.Str.ofString " ").length = 1 := rfl
    rw [List.length_map, h3]
    omega
  rw [e32, SX.join_S]
  have xl : (TL.joinL [32] its).length ≤ 8000000 := by
    have h1 := join_le hI.len
    have h2 : its.length * (6000 + 1) ≤ 1000 * (6000 + 1) := Nat.mul_le_mul_right _ hl1
    omega
  have xc := join_ck hI.cok
  generalize TL.joinL [32] its = x at xl xc ⊢
  have zs : (SX.S x).length + 2 ≤ sizeLine := by
    rw [SX.S_len]
    show x.length + 2 ≤ 2 ^ 24
    omega
  have hs : (Txt.split (SX.S x) (SX.S [32])).map V.str = (TL.spl [32] 0 [] x).map iV := by
    rw [SX.split_S (by decide) (by decide), List.map_map]
    rfl
  have sl1 := spl_le x []
  have sck : Cks (TL.spl [32] 0 [] x) := spl_ck x [] (fun c h => absurd h List.not_mem_nil) xc
  have jx : TL.joinL [32] (TL.spl [32] 0 [] x) = x := join_spl x []
  refine ⟨_, rfl, ⟨_, rfl⟩, _, _, rfl, rfl, rfl, zs, fun D nD => ?_⟩
  rw [hs]
  have sD := same_new (o := .lst ((TL.spl [32] 0 [] x).map iV)) nD
  have gD : upd H D (.lst ((TL.spl [32] 0 [] x).map iV)) D = some (.lst ((TL.spl [32] 0 [] x).map iV)) := upd_same
  generalize upd H D (.lst ((TL.spl [32] 0 [] x).map iV)) = H1 at sD gD ⊢
  have hI1 : Itm H1 D (TL.spl [32] 0 [] x) := ⟨gD, fun y hy => by
    have := sl1.2 y hy
    have e0 : ([] : Cd).length = 0 := rfl
    omega, by have := sl1.1; omega⟩
  clear gD
  refine ⟨D, _, 0, 4, 7, rfl, hI1, sck, Nat.zero_le _, by decide, by decide, by decide, fun H2 t s2 ho => ?_⟩
  have s02 := sD.trans s2
  cases hl : lp (TL.spl [32] 0 [] x) 4 7 ((TL.spl [32] 0 [] x).length + 1) 0 [] with
  | mk e o =>
  rw [hl] at ho
  cases o with
  | none =>
    have ho : H2 t = some (.tup [.int (e : Nat), .non]) := ho
    refine ⟨t, _, rfl, SqT.of ho, rfl, _, _, rfl, _, _, rfl, rfl, ?_⟩
    refine lam_in (hT.ext s02) (fun H4 N x4 T4 hN => ?_)
    refine ⟨rfl, _, rfl, _, rfl, .inr ⟨x, rfl, xl, fun j hj => ?_, fun l j hj => ?_⟩⟩
    · rw [hl] at hj
      have ej : e = j := Sum.inl.inj hj
      subst ej
      refine rz_hd fun H5 u s5 hu => ?_
      have x5 : Ext H H5 := ((ext_of s02).trans x4).trans (ext_of s5)
      refine ⟨_, rfl, rfl, _, rfl, iteT (iteT ?_)⟩
      refine ⟨_, rfl, _, _, _, _, false, rfl, .own _, .base (.tup hu), kT, _, rfl, _, rfl, iteT ?_⟩
      refine ⟨_, rfl, _, rfl, by show 3 ≤ sizeLine; decide, fun w nw => ?_⟩
      have sw := same_new (o := .tup [V.str "text", V.int 0, V.int (e : Nat)]) nw
      refine ⟨txD e, txD e, tx_dp (sw _ _ hu), tx_dp upd_same, tx_sh _, tx_sh _, ?_⟩
      rw [tx_ev]
      exact q _ (x5.trans (ext_of sw)) ((T4.ext s5).ext sw)
    · rw [hl] at hj
      cases hj
  | some l =>
    obtain ⟨d, ts, hd, ht⟩ := ho
    obtain ⟨ok, le, _, _⟩ := ok_of_lp (by decide) (by decide) (by decide) hl
    refine ⟨t, _, rfl, SqT.of ht, rfl, _, _, rfl, _, _, rfl, rfl, ?_⟩
    refine lam_in (hT.ext s02) (fun H4 N x4 T4 hN => ?_)
    refine ⟨rfl, _, rfl, _, rfl, .inr ⟨x, rfl, xl, fun j hj => ?_, fun l' j hj => ?_⟩⟩
    · rw [hl] at hj
      have hf : fin (TL.spl [32] 0 [] x) [] e = false ∧ e = j := by
        unfold conv at hj
        dsimp only at hj
        cases hf : fin (TL.spl [32] 0 [] x) [] e with
        | true => rw [hf, if_pos rfl] at hj; cases hj
        | false => rw [hf] at hj; exact ⟨rfl, Sum.inl.inj hj⟩
      obtain ⟨hf, rfl⟩ := hf
      have lt : e < (TL.spl [32] 0 [] x).length := by
        rcases Nat.lt_or_ge e (TL.spl [32] 0 [] x).length with z | z
        · exact z
        · have : e = (TL.spl [32] 0 [] x).length := by omega
          unfold fin at hf
          rw [decide_eq_true this] at hf
          cases hf
      refine rz_hd fun H5 u s5 hu => ?_
      have x5 : Ext H H5 := ((ext_of s02).trans x4).trans (ext_of s5)
      refine ⟨_, rfl, rfl, _, rfl, iteF ?_⟩
      refine ⟨_, rfl, _, rfl, ⟨_, rfl⟩, _, _, rfl, rfl, rfl, zs, fun D2 nD2 => ?_⟩
      rw [hs]
      have s6 := same_new (o := .lst ((TL.spl [32] 0 [] x).map iV)) nD2
      have g6 : upd H5 D2 (.lst ((TL.spl [32] 0 [] x).map iV)) D2 = some (.lst ((TL.spl [32] 0 [] x).map iV)) := upd_same
      generalize upd H5 D2 (.lst ((TL.spl [32] 0 [] x).map iV)) = H6 at s6 g6 ⊢
      have hu6 := s6 _ _ hu
      refine ⟨D2, _, rfl, .inl (SqL.of g6), _, _, rfl, rfl, _, rfl, ?_⟩
      rw [List.length_map, decide_eq_true (show ((e : Nat) : Int) < ((TL.spl [32] 0 [] x).length : Nat) by omega)]
      refine iteT ?_
      refine ⟨_, rfl, _, _, _, _, false, rfl, .own _, .base (.tup hu6), kT, _, rfl, _, rfl, iteT ?_⟩
      refine ⟨_, rfl, _, rfl, by show 3 ≤ sizeLine; decide, fun w nw => ?_⟩
      have sw := same_new (o := .tup [V.str "text", V.int 0, V.int (e : Nat)]) nw
      refine ⟨txD e, txD e, tx_dp (sw _ _ hu6), tx_dp upd_same, tx_sh _, tx_sh _, ?_⟩
      rw [tx_ev]
      exact q _ ((x5.trans (ext_of s6)).trans (ext_of sw)) (((T4.ext s5).ext s6).ext sw)
    · rw [hl] at hj
      have hf : e = (TL.spl [32] 0 [] x).length ∧ l = l' := by
        obtain ⟨h1, h2⟩ := conv_inr (its := TL.spl [32] 0 [] x) (few := 4) (most := 7) (f := (TL.spl [32] 0 [] x).length + 1) (i := 0) (l := l') (j := j) (ends := []) (by rw [hl]; exact hj)
        rw [hl] at h1
        cases h1
        exact ⟨fin_nil h2, rfl⟩
      obtain ⟨ee, rfl⟩ := hf
      intro a H5 s5 n5 pf
      refine hN _ _ ?_
      have x5 : Ext H H5 := ((ext_of s02).trans x4).trans (ext_of s5)
      have hd5 := (hd.ext x4).same s5
      refine ⟨_, rfl, rfl, _, rfl, iteF ?_⟩
      refine ⟨_, rfl, _, rfl, ⟨_, rfl⟩, _, _, rfl, rfl, rfl, zs, fun D2 nD2 => ?_⟩
      rw [hs]
      have s6 := same_new (o := .lst ((TL.spl [32] 0 [] x).map iV)) nD2
      have g6 : upd H5 D2 (.lst ((TL.spl [32] 0 [] x).map iV)) D2 = some (.lst ((TL.spl [32] 0 [] x).map iV)) := upd_same
      generalize upd H5 D2 (.lst ((TL.spl [32] 0 [] x).map iV)) = H6 at s6 g6 ⊢
      have hd6 := hd5.same s6
      have pf6 := pf.same s6
      refine ⟨D2, _, rfl, .inl (SqL.of g6), _, _, rfl, rfl, _, rfl, ?_⟩
      rw [List.length_map, decide_eq_false (show ¬ ((e : Nat) : Int) < ((TL.spl [32] 0 [] x).length : Nat) by omega)]
      refine iteF ?_
      refine ⟨_, rfl, _, _, _, _, true, rfl, .own _, pf6.ty T.t, kit_self, _, rfl, iteT ?_⟩
      obtain ⟨dx, tt, uu, ha, ⟨us, htt, pr⟩, _⟩ := id pf6
      have l7 := ok.2.1
      refine ⟨_, rfl, a, C, dx, _, .ref tt, rfl, ha, T.t.pc.cls, T.t.n1, rfl, tt, rfl, ⟨_, SqT.of htt⟩, fun D3 hD3 => ?_⟩
      refine lc_tup (K := K) (a := tt) (xs := us.map V.ref) (Lm H6 D3 id l) (lm_nil hD3) (fun i H2 _ p => SqT.of (p.1 _ _ htt)) (fun n v H2 hx p => ?_) (fun H2 p => ?_)
      · have hi : n < l.length := by
          have := (List.getElem?_eq_some_iff.mp hx).1
          rw [List.length_map, Paired.length pr] at this
          exact this
        obtain ⟨g, hg1, hg⟩ := paired_of pr (List.getElem?_eq_getElem hi)
        rw [List.getElem?_map, hg1] at hx
        have ev : V.ref g = v := Option.some.inj hx
        subst ev
        have eq := List.getElem?_eq_getElem hi
        generalize l[n] = q1 at hg eq
        have hg : H2 g = some (.tup [.int q1.1, .int q1.2]) := p.1 _ _ hg
        refine ⟨rfl, yes_of ⟨_, rfl, g, _, rfl, .inr ⟨SqT.of hg, ?_⟩⟩⟩
        exact lm_step hD3 l7 p eq Same.me hg
      · rw [List.length_map, Paired.length pr] at p
        obtain ⟨s7, vs, lpv⟩ := lm_end p
        rw [List.map_id] at lpv
        refine ⟨_, rfl, _, _, LP.dp lpv, LP.dp (hd6.same s7), encL_shaped _, encL_shaped _, _, rfl, ?_⟩
        rw [show PyData.eqv (.list (l.map en)) (.list (l.map en)) = true from by show PyData.eqvAll (l.map en) (l.map en) = true; rw [enc_eqv]; exact decide_eq_true rfl]
        refine iteT ?_
        have pf7 := pf6.same s7
        refine ⟨_, rfl, a, l, rfl, pf7, ok, fun H8 s8 hz => ⟨_, rfl, rfl, ?_⟩⟩
        have et : picT l = SX.S x := by
          obtain ⟨m, e1, e2, e3, _⟩ := lp_ok (by decide) _ _ _ _ _ hl (by decide)
          have e1 : l = m := e1
          rw [picT_S (by rw [e1]; exact e2), e1]
          have e3 : TL.spl [32] 0 [] x = pI m ++ (TL.spl [32] 0 [] x).drop e := e3
          rw [ee, List.drop_length, List.append_nil] at e3
          rw [← e3, jx]
        rw [et, decide_eq_true rfl]
        exact q _ (((x5.trans (ext_of s6)).trans (ext_of s7)).trans (ext_of s8)) ((((T4.ext s5).ext s6).ext s7).ext s8)
end
end K17

namespace K17
open PySem PySem.Spec PyProof.Rows L2
def enL (ps : List (Int × Int)) : PyData := .list (ps.map en)
theorem enL_lay : ∀ pss : PSS, PyData.canLayAll0 (pss.map enL) = true
  | [] => rfl
  | ps :: pss => by
    show (PyData.canLayAll0 (ps.map en) && PyData.canLayAll0 (pss.map enL)) = true
    rw [enc_lay, enL_lay pss]
    rfl
theorem enL_depth : ∀ pss : PSS, PyData.depthAll (pss.map enL) ≤ 2
  | [] => by decide
  | ps :: pss => by
    show max (PyData.depthAll (ps.map en) + 1) (PyData.depthAll (pss.map enL)) ≤ 2
    have h := enL_depth pss
    have h2 := enc_depth ps
    omega
theorem enL_shaped (pss : PSS) : SeqAt.shaped (.list (pss.map enL)) = true := by
  show (PyData.canLayAll0 (pss.map enL) && decide (PyData.depthAll (pss.map enL) + 1 ≤ 64)) = true
  rw [enL_lay, Bool.true_and, decide_eq_true_iff]
  have := enL_depth pss
  omega
theorem enL_eqv : ∀ pss qss : PSS, PyData.eqvAll (pss.map enL) (qss.map enL) = decide (pss = qss)
  | [], [] => rfl
  | [], _ :: _ => rfl
  | _ :: _, [] => rfl
  | p :: ps, q :: qs => by
    show (PyData.eqvAll (p.map en) (q.map en) && PyData.eqvAll (ps.map enL) (qs.map enL)) = _
    rw [enc_eqv, enL_eqv ps qs, Bool.eq_iff_iff, Bool.and_eq_true, decide_eq_true_iff, decide_eq_true_iff, decide_eq_true_iff, List.cons.injEq]
theorem toldsD {K : PySem.W.Frag} {H : Hp} {as : List Addr} {pss : PSS} (h : Paired (LPx H) as pss) : DpAll K H (as.map V.ref) (pss.map enL) := by
  induction h with
  | nil => exact .nil
  | cons a _ ih =>
    obtain ⟨ts, lp⟩ := a
    exact .cons lp.dp ih
theorem Told.dp {K : PySem.W.Frag} {H : Hp} {D : Addr} {as : List Addr} {pss : PSS} (h : Told H D as pss) : Dp K H (.ref D) (.list (pss.map enL)) := .lst (SqL.of h.1) (toldsD h.2)

theorem LPx.upd {H : Hp} {a D : Addr} {ps : List (Int × Int)} {xs zs : List V} (h : LPx H a ps) (n : a ≠ D) (hd : H D = some (.lst xs)) : LPx (upd H D (.lst zs)) a ps := let ⟨ts, l, r⟩ := h; ⟨ts, by rw [upd_ne n]; exact l, prs_upd hd r⟩
theorem lpx_upd {H : Hp} {D : Addr} {xs zs : List V} {as : List Addr} {pss : PSS} (nm : D ∉ as) (hd : H D = some (.lst xs)) (h : Paired (LPx H) as pss) : Paired (LPx (upd H D (.lst zs))) as pss := by
  induction h with
  | nil => exact .nil
  | @cons b ps bs pss r _ ih => exact .cons (r.upd (fun e => nm (e ▸ List.mem_cons_self)) hd) (ih fun z => nm (List.mem_cons_of_mem _ z))
theorem Told.ext {H H' : Hp} {D : Addr} {as : List Addr} {pss : PSS} (h : Told H D as pss) (s : Ext H H') : Told H' D as pss := ⟨Ext.lst s h.1, paired_mono h.2 fun _ _ z => let ⟨ts, l⟩ := z; ⟨ts, l.ext s⟩⟩
abbrev sAb : Stmt := top 58
abbrev nAb : List Str := ["_law_items_here", "_law_at", "_law_due", "_law_heard_here", "_law_text", "_law_picture", "_law_place"]
theorem scAb : FnScope nAb ["_law_items_here"] (defScope sAb) := ⟨rfl, rfl, rfl, by decide +kernel, rfl, by decide +kernel, by decide +kernel⟩
abbrev scHP : Scope := { kind := .function, names := [(".0", .local), ("_law_picture", .local)], isGenerator := false, isCoroutine := false }
def qAb : Str := (envOfC "_law_album_right" (defScope sAb) 0 0 (.ref 0)).qual ++ "<lambda>"
/-- the answer of an album, as it is read -/
theorem convA_le {its : Its} {e : Nat} {t : List PS} (h : lalb its = (e, some t)) : e ≤ its.length ∧ its.drop 0 = aI t ++ its.drop e ∧ t ≠ [] ∧ t.length ≤ 8 ∧ ∀ l ∈ t, OkP l := by
  unfold lalb at h
  cases q : lp its 4 7 (its.length + 1) 0 [] with
  | mk a o =>
    rw [q] at h
    cases o with
    | none => cases h
    | some l =>
      have h : la its l.length 8 a [l] = (e, some t) := h
      obtain ⟨ok, la1, l4, l7⟩ := ok_of_lp (by decide) (by decide) (by decide) q
      obtain ⟨m, e1, e2, e3, _⟩ := lp_ok (by decide) _ _ _ _ _ q (by decide)
      have e1 : l = m := e1
      subst e1
      obtain ⟨ms, g1, g2, g3, g4, g5⟩ := la_ok (by omega) _ _ _ _ _ h la1 (by show 1 ≤ 8; decide)
      refine ⟨g3, ?_, by rw [g1]; simp, g5, fun x hx => ?_⟩
      · rw [e3, g2, g1]
        show pI l ++ (fI ms ++ its.drop e) = (pI l ++ fI ms) ++ its.drop e
        simp
      · rw [g1] at hx
        rcases List.mem_append.mp hx with z | z
        · rw [List.mem_singleton.mp z]
          exact ok
        · obtain ⟨k1, k2⟩ := g4 x z
          exact ⟨by omega, by omega, k2⟩
section
variable {P : Program} {w : World} {K : PySem.W.Frag} {mg : Str → Option Value} {base : Heap} {C CA CB CB2 CF CT CS CX : Addr}
theorem ok_ab {f c Pt g : Addr} {fdH : FuncData} {oc kV doc pm ct : Value} {od an : Option Addr} {osl : Array (Option Value)} {TLs : List (Addr × Str)} (hmT : (Pt, qAb) ∈ TLs) (hU : ∀ x ∈ TLs, x.1 = Pt → x.2 = qAb)
    (lk : K.lookup f = some ⟨oc, od, .func (PySem.W.fnOf "_law_album_right" "_law_album_right" (defArgs sAb) (defBody sAb) (defScope sAb) .none kV doc pm an (.ref c) ct), osl⟩) (hcd : PySem.W.codeIn K (.ref c) "_law_album_right" = true)
    (TB : LamX.TabB base mg c Pt) (B : Bn mg) (T : Pc P w K mg base C CB) (TA : Ac P w K mg base C CA CB2 CF CT) (R : Rd P w K mg base CA (spAr K C CA CX)) (kT : PySem.W.kitOne K (.type "tuple") (.ref CA) = some false) (S : SeT K mg CS CX) (FH : Fun K "_law_heard" "_law_heard" sHd g fdH) (mH : mg "_law_heard" = some (.ref g))
    (C1 : Callee P w K mg base CX0 3 "_law_in_album" ["_law_items_here"] spLa) :
    FnOk P w K mg base CX0 12 f (PySem.W.fnOf "_law_album_right" "_law_album_right" (defArgs sAb) (defBody sAb) (defScope sAb) .none kV doc pm an (.ref c) ct) ["_law_items_here"] (spRt TLs) := by
  obtain ⟨f1, fd1, m1, k1, b1, G1⟩ := C1
  obtain ⟨ocH, odH, kVH, docH, pmH, anH, cdvH, ctH, oslH, rfl, lkH, hcH⟩ := FH.ex
  have bH := FH.binds (ps := ["_law_ask"]) fun _ _ _ _ _ _ us hl => match us, hl with | [_], _ => rfl
  obtain ⟨fR, fdR, MR, GR, bR, kR⟩ := R.m
  obtain ⟨fS, fdS, GS, hsS, hfS, bS⟩ := TA.st
  have nd := scAb.nd
  refine fn_of lk hcd scAb (fun vs H Q E h => ?_) fun A outer s H vs Q E hr h => ?_
  · obtain ⟨b, its, rfl, _⟩ := h
    rfl
  suffices hh : ∃ t, PSs (cxOf CX0 P w K mg base nAb "_law_album_right" (defScope sAb) f (.ref c) A outer s H E).nox (defBody sAb) t ∧ t { nx := fun _ H' => Q .non H', rt := Q } (L2.start nAb vs) H from let ⟨t, h1, h2⟩ := hh; ⟨t, h1.nox, h2⟩
  obtain ⟨b, its, rfl, hI, hT, q⟩ := h
  refine ⟨_, (pss_cons ((ps_set (i := 4) nd rfl (Or.inr rfl) (pe_joinN pe_str (pv 0)))) (pss_cons (ps_asg (pe_call G1 (hr.mono (by decide)) rfl m1 k1 b1 .nil pass0 (pa_cons (pe_split (pv 4) pe_str) pa_nil)) (pg_tup rfl (pgs_cons ((pg_name (i := 1) nd rfl (Or.inl rfl))) (pgs_cons ((pg_name (i := 2) nd rfl (Or.inl rfl))) pgs_nil)))) (pss_cons ((ps_set (i := 3) nd rfl (Or.inl rfl) ((LamX.pe_lamcall (T := TLs) (TT := THeard CX) (Ng := nHd) (a := "_law_ask") (k := 9) rfl mH FH.kp lkH hcH bH scHd rfl (Or.inl rfl) (heard_gives B S) TB rfl hmT hU hr (LamX.lamS_by (by show LamX.lamSB (defScope sAb) _ = true; decide +kernel)) rfl (fun _ _ _ _ _ => rfl) (fun A outer s H E f c hr => pe_smethK (E := E) (pe_glob (v := .ref CA) rfl TA.mgC rfl) MR GR hr kR lam_passes (pk_cons (pv 4) pk_nil)))))) (pss_cons (ps_if (PW.pt (pw_or (pt_cmpR op_isN (pv 2) pe_non (nomark _)) (pw_or1 (pt_cmpR op_lt (pv 1) (pe_callB call_len_seq (by rfl) B.len PySem.boot_len (pa_cons (pe_split (pv 4) pe_str) pa_nil)) (nomark _)))))
      (pss_one (ps_ret (pe_and (pe_not (pe_callB (r := rIsi K) call_isi (by rfl) B.isinstance boot_isinstance (pa_cons (pv 3) (pa_cons (pe_glob (v := .ref CA) rfl TA.mgC rfl) pa_nil)))) (pe_one ((pe_cmpR (op_eqD hr.units) (pv 3) (pe_tup (pa_cons (pe_str) (pa_cons (pe_int) (pa_cons (pv 1) pa_nil)))) (nomark _))))))) pss_nil) (pss_one (ps_ret (pe_and (pe_callB (r := rIsi K) call_isi (by rfl) B.isinstance boot_isinstance (pa_cons (pv 3) (pa_cons (pe_glob (v := .ref CA) rfl TA.mgC rfl) pa_nil))) (pe_and ((pe_cmpR (op_eqD hr.units) ((pe_lc (own := [("_law_picture", 5)]) (g := gName 5) (tt := tYes) rfl nd (pi_tup (pe_fld (pv 3) rfl)) (blkOk_by (N := nAb) (sc := defScope sAb) (by decide +kernel)) (fun _ _ _ _ _ => (pg_name (i := 5) nd rfl (Or.inl rfl))) (fun _ _ _ _ _ => pts_nil) (fun _ _ _ _ _ => pe_lc (own := [("_law_place", 6)]) (g := gName 6) (tt := tYes) rfl nd (pi_tupK K (pe_fldK K (pv 5) rfl)) (blkOk_by (N := nAb) (sc := scHP) (by decide +kernel)) (fun _ _ _ _ _ => (pg_name (i := 6) nd rfl (Or.inl rfl))) (fun _ _ _ _ _ => pts_nil) (fun _ _ _ _ _ => (pe_callTy (T := "tuple") (r := rTu K) call_tuK (by rfl) B.tuple (by decide +kernel) (pa_cons (pv 6) pa_nil)))))) (pv 2) (nomark _))) (pe_one ((pe_cmpR op_eq (pe_callTy (T := "str") (call_strI GS hsS hfS bS (hr.mono (by decide))) (by rfl) B.str (by decide +kernel) (pa_cons (pv 3) pa_nil)) (pv 4) (nomark _)))))))))))), ?_⟩
  have e32 : PySem.Str.ofString " " = SX.S [32] := str_S rfl
  have hl1 := hI.few
  refine ⟨⟨_, rfl⟩, _, rfl, _, b, its.map SX.S, rfl, rfl, .inl (SqL.of (by rw [List.map_map]; exact hI.at_)), ?_, ?_⟩
  · have h1 := sum_its hI.len
    have h2 : its.length * 6000 ≤ 1000 * 6000 := Nat.mul_le_mul_right _ hl1
    have h3 : (PySem.Str.ofString " ").length = 1 := rfl
    rw [List.length_map, h3]
    omega
  rw [e32, SX.join_S]
  have xl : (TL.joinL [32] its).length ≤ 8000000 := by
    have h1 := join_le hI.len
    have h2 : its.length * (6000 + 1) ≤ 1000 * (6000 + 1) := Nat.mul_le_mul_right _ hl1
    omega
  have xc := join_ck hI.cok
  generalize TL.joinL [32] its = x at xl xc ⊢
  have zs : (SX.S x).length + 2 ≤ sizeLine := by
    rw [SX.S_len]
    show x.length + 2 ≤ 2 ^ 24
    omega
  have hs : (Txt.split (SX.S x) (SX.S [32])).map V.str = (TL.spl [32] 0 [] x).map iV := by
    rw [SX.split_S (by decide) (by decide), List.map_map]
    rfl
  have sl1 := spl_le x []
  have sck : Cks (TL.spl [32] 0 [] x) := spl_ck x [] (fun c h => absurd h List.not_mem_nil) xc
  have jx : TL.joinL [32] (TL.spl [32] 0 [] x) = x := join_spl x []
  refine ⟨_, rfl, ⟨_, rfl⟩, _, _, rfl, rfl, rfl, zs, fun D nD => ?_⟩
  rw [hs]
  have sD := same_new (o := .lst ((TL.spl [32] 0 [] x).map iV)) nD
  have gD : upd H D (.lst ((TL.spl [32] 0 [] x).map iV)) D = some (.lst ((TL.spl [32] 0 [] x).map iV)) := upd_same
  generalize upd H D (.lst ((TL.spl [32] 0 [] x).map iV)) = H1 at sD gD ⊢
  have hI1 : Itm H1 D (TL.spl [32] 0 [] x) := ⟨gD, fun y hy => by
    have := sl1.2 y hy
    have e0 : ([] : Cd).length = 0 := rfl
    omega, by have := sl1.1; omega⟩
  clear gD
  refine ⟨D, _, rfl, hI1, sck, fun H2 t s2 ho => ?_⟩
  have s02 := sD.trans s2
  generalize hits : TL.spl [32] 0 [] x = its2 at *
  cases hl : lalb its2 with
  | mk e o =>
  rw [hl] at ho
  cases o with
  | none =>
    have ho : H2 t = some (.tup [.int (e : Nat), .non]) := ho
    refine ⟨t, _, rfl, SqT.of ho, rfl, _, _, rfl, _, _, rfl, rfl, ?_⟩
    refine lam_in (hT.ext s02) (fun H4 N x4 T4 hN => ?_)
    refine ⟨rfl, _, rfl, rfl, _, rfl, .inr ⟨x, rfl, xl, fun j hj => ?_, fun l hj => ?_⟩⟩
    · rw [hits, hl] at hj
      have ej : e = j := Sum.inl.inj hj
      subst ej
      refine rz_hd fun H5 u s5 hu => ?_
      have x5 : Ext H H5 := ((ext_of s02).trans x4).trans (ext_of s5)
      refine ⟨_, rfl, rfl, _, rfl, iteT (iteT ?_)⟩
      refine ⟨_, rfl, _, _, _, _, false, rfl, .own _, .base (.tup hu), kT, _, rfl, _, rfl, iteT ?_⟩
      refine ⟨_, rfl, _, rfl, by show 3 ≤ sizeLine; decide, fun w nw => ?_⟩
      have sw := same_new (o := .tup [V.str "text", V.int 0, V.int (e : Nat)]) nw
      refine ⟨txD e, txD e, tx_dp (sw _ _ hu), tx_dp upd_same, tx_sh _, tx_sh _, ?_⟩
      rw [tx_ev]
      exact q _ (x5.trans (ext_of sw)) ((T4.ext s5).ext sw)
    · rw [hits, hl] at hj
      cases hj
  | some l =>
    obtain ⟨d, as, hd, ht⟩ := ho
    obtain ⟨le, ldrop, lne, l8, lok⟩ := convA_le hl
    refine ⟨t, _, rfl, SqT.of ht, rfl, _, _, rfl, _, _, rfl, rfl, ?_⟩
    refine lam_in (hT.ext s02) (fun H4 N x4 T4 hN => ?_)
    refine ⟨rfl, _, rfl, rfl, _, rfl, .inr ⟨x, rfl, xl, fun j hj => ?_, fun l' hj => ?_⟩⟩
    · rw [hits, hl] at hj
      have hf : e ≠ its2.length ∧ e = j := by
        unfold convA at hj
        dsimp only at hj
        by_cases hf : e = its2.length
        · rw [if_pos hf] at hj; cases hj
        · rw [if_neg hf] at hj; exact ⟨hf, Sum.inl.inj hj⟩
      obtain ⟨hf, rfl⟩ := hf
      refine rz_hd fun H5 u s5 hu => ?_
      have x5 : Ext H H5 := ((ext_of s02).trans x4).trans (ext_of s5)
      refine ⟨_, rfl, rfl, _, rfl, iteF ?_⟩
      refine ⟨_, rfl, _, rfl, ⟨_, rfl⟩, _, _, rfl, rfl, rfl, zs, fun D2 nD2 => ?_⟩
      rw [hs]
      have s6 := same_new (o := .lst (its2.map iV)) nD2
      have g6 : upd H5 D2 (.lst (its2.map iV)) D2 = some (.lst (its2.map iV)) := upd_same
      generalize upd H5 D2 (.lst (its2.map iV)) = H6 at s6 g6 ⊢
      have hu6 := s6 _ _ hu
      refine ⟨D2, _, rfl, .inl (SqL.of g6), _, _, rfl, rfl, _, rfl, ?_⟩
      rw [List.length_map, decide_eq_true (show ((e : Nat) : Int) < (its2.length : Nat) by omega)]
      refine iteT ?_
      refine ⟨_, rfl, _, _, _, _, false, rfl, .own _, .base (.tup hu6), kT, _, rfl, _, rfl, iteT ?_⟩
      refine ⟨_, rfl, _, rfl, by show 3 ≤ sizeLine; decide, fun w nw => ?_⟩
      have sw := same_new (o := .tup [V.str "text", V.int 0, V.int (e : Nat)]) nw
      refine ⟨txD e, txD e, tx_dp (sw _ _ hu6), tx_dp upd_same, tx_sh _, tx_sh _, ?_⟩
      rw [tx_ev]
      exact q _ ((x5.trans (ext_of s6)).trans (ext_of sw)) (((T4.ext s5).ext s6).ext sw)
    · rw [hits, hl] at hj
      have hf : e = its2.length ∧ l = l' := by
        unfold convA at hj
        dsimp only at hj
        by_cases hf : e = its2.length
        · rw [if_pos hf] at hj; exact ⟨hf, Sum.inr.inj hj⟩
        · rw [if_neg hf] at hj; cases hj
      obtain ⟨ee, rfl⟩ := hf
      intro cs a H5 s5 n5 al
      refine hN _ _ ?_
      have x5 : Ext H H5 := ((ext_of s02).trans x4).trans (ext_of s5)
      refine ⟨_, rfl, rfl, _, rfl, iteF ?_⟩
      refine ⟨_, rfl, _, rfl, ⟨_, rfl⟩, _, _, rfl, rfl, rfl, zs, fun D2 nD2 => ?_⟩
      rw [hs]
      have s6 := same_new (o := .lst (its2.map iV)) nD2
      have g6 : upd H5 D2 (.lst (its2.map iV)) D2 = some (.lst (its2.map iV)) := upd_same
      generalize upd H5 D2 (.lst (its2.map iV)) = H6 at s6 g6 ⊢
      have hd6 : Told H6 d as l := (hd.ext x4).same (s5.trans s6)
      have al6 := al.same s6
      obtain ⟨dx, tt, uu, rs, ha, ht2, pa, hu2, hr0⟩ := id al6
      refine ⟨D2, _, rfl, .inl (SqL.of g6), _, _, rfl, rfl, _, rfl, ?_⟩
      rw [List.length_map, decide_eq_false (show ¬ ((e : Nat) : Int) < (its2.length : Nat) by omega)]
      refine iteF ?_
      refine ⟨_, rfl, _, _, _, _, true, rfl, .own _, al6.ty TA.t, kit_self, _, rfl, iteT ?_⟩
      refine ⟨_, rfl, a, CA, dx, _, .ref tt, rfl, ha, TA.t.pc.cls, TA.t.n2, rfl, tt, rfl, ⟨_, SqT.of ht2⟩, fun R hR => ?_⟩
      refine lc_tup (K := K) (a := tt) (xs := cs.map V.ref) (fun i H' => Same H6 H' ∧ ∃ bs : List Addr, H' R = some (.lst (bs.map V.ref)) ∧ Paired (LPx H') bs (l.take i) ∧ R ∉ bs) ⟨same_new hR, [], upd_same, .nil, List.not_mem_nil⟩ (fun i H' _ p => SqT.of (p.1 _ _ ht2)) (fun i x H' hx p => ?_) (fun H1 p => ?_)
      · obtain ⟨s1, bs, gR, lps, nm⟩ := p
        obtain ⟨c, ps, _, rfl, eps, pf⟩ := pa.mem hx
        obtain ⟨dc, tc, uc, hc, ⟨ts, htc, pr⟩, _⟩ := pf.same s1
        have l7 := (lok ps (List.mem_of_getElem? eps)).2.1
        have lt : ts.length = ps.length := Paired.length pr
        refine ⟨rfl, yes_of ?_⟩
        refine ⟨_, rfl, c, C, dc, _, .ref tc, rfl, hc, T.t.pc.cls, T.t.n1, rfl, tc, rfl, ⟨_, SqT.of htc⟩, fun R2 hR2 => ?_⟩
        have nR : R2 ≠ R := (ne_of_none gR hR2).symm
        refine lc_tup (K := K) (a := tc) (xs := ts.map V.ref) (fun j => At H' R2 ((ts.take j).map V.ref)) ⟨same_new hR2, upd_same⟩ (fun j H2 _ p => SqT.of (p.1 _ _ htc)) (fun j y H2 hy p => ?_) (fun H2 p => ?_)
        · rw [List.getElem?_map] at hy
          cases eg : ts[j]? with
          | none => rw [eg] at hy; cases hy
          | some g =>
            rw [eg] at hy
            obtain rfl := (Option.some.inj hy).symm
            obtain ⟨q', _, hg⟩ := paired_get pr eg
            have hg : H' g = some (.tup [.int q'.1, .int q'.2]) := hg
            refine ⟨rfl, yes_of ?_⟩
            refine ⟨_, rfl, g, _, rfl, .inr ⟨SqT.of (p.1 _ _ hg), _, p.2, ?_, p.step hR2 Same.me ?_⟩⟩
            · rw [List.length_map]
              exact small1000 (Nat.le_trans (List.length_take_le' _ _) (by omega))
            · rw [take_more eg, List.map_append]
              rfl
        · rw [List.length_map, List.take_length] at p
          have g2 := p.1 _ _ gR
          refine ⟨_, g2, ?_, fun b o e => ?_, bs ++ [R2], by rw [upd_same, List.map_append]; rfl, ?_, fun hm => ?_⟩
          · rw [List.length_map, Paired.length lps]
            exact small1000 (Nat.le_trans (List.length_take_le' _ _) (by omega))
          · rw [upd_ne (ne_of_none e hR)]
            exact p.1 _ _ (s1 _ _ e)
          · rw [take_more eps]
            exact paired_snoc (lpx_upd nm g2 (paired_mono lps fun _ _ z => z.same p.1)) ⟨ts, by rw [upd_ne nR]; exact p.2, prs_upd g2 (paired_mono pr fun _ _ z => p.1 _ _ z)⟩
          · rcases List.mem_append.mp hm with z | z
            · exact nm z
            · exact nR (List.mem_singleton.mp z).symm
      · obtain ⟨s1, bs, gR, lps, _⟩ := p
        rw [List.length_map, pa.len, List.take_length] at lps
        have td1 := hd6.same s1
        have al1 := al6.same s1
        have tdR : Told _ R bs l := ⟨gR, lps⟩
        refine ⟨_, rfl, _, _, tdR.dp, td1.dp, enL_shaped l, enL_shaped l, _, rfl, ?_⟩
        have e1 : PyData.eqv (.list (l.map enL)) (.list (l.map enL)) = true := (enL_eqv l l).trans (decide_eq_true rfl)
        rw [e1]
        refine iteT ?_
        refine ⟨_, rfl, a, dx, _, rfl, s1 _ _ ha, a, cs, l, rfl, al1, lok, l8, fun H8 s8 => ⟨_, rfl, _, rfl, rfl, ?_⟩⟩
        have et : albT l = SX.S x := by
          rw [albT_S lne fun q hq z => by have := (lok q hq).1; rw [z] at this; exact absurd this (by decide)]
          have e3 : its2 = aI l ++ its2.drop e := ldrop
          rw [ee, List.drop_length, List.append_nil] at e3
          rw [← e3, jx]
        rw [et, decide_eq_true rfl]
        exact q _ (((x5.trans (ext_of s6)).trans (ext_of s1)).trans (ext_of s8)) ((((T4.ext s5).ext s6).ext s1).ext s8)
end
end K17

namespace K17
open PySem PySem.Spec PyProof.Rows L2
theorem Ib.kq {H H' : Hp} {p b : Addr} {k n m : Nat} {its : Its} (h : Ib H b its n m) (v : Lens H p k) (s : Kq p H H') : Ib H' b its n m := ⟨keptl h.at_ (lens_ne v h.at_) s, h.few, h.len, h.cok, h.ne⟩
theorem Ib.le {H : Hp} {b : Addr} {its : Its} {n m n' m' : Nat} (h : Ib H b its n m) (hn : n ≤ n') (hm : m ≤ m') : Ib H b its n' m' := ⟨h.at_, Nat.le_trans h.few hn, fun a ha => Nat.le_trans (h.len a ha) hm, h.cok, h.ne⟩
theorem LPx.kq {H H' : Hp} {p a : Addr} {k : Nat} {ps : PS} (h : LPx H a ps) (v : Lens H p k) (s : Kq p H H') : LPx H' a ps := let ⟨ts, l⟩ := h; ⟨ts, l.kq v (v.not_refs l.1) s⟩
theorem Told.kq {H H' : Hp} {p D : Addr} {k : Nat} {as : List Addr} {pss : PSS} (h : Told H D as pss) (v : Lens H p k) (s : Kq p H H') : Told H' D as pss := ⟨keptl h.1 (v.not_refs h.1) s, paired_mono h.2 fun _ _ z => z.kq v s⟩
/-- codes of written items -/
theorem sh_ck (n : Int) : ∀ c ∈ shL n, c < 1114112 := by
  intro c h
  have hd : ∀ c ∈ TL.numL n.natAbs, c < 1114112 := fun c h => by
    have e : dgs (shL n) = TL.numL n.natAbs := dgs_sh n
    have := TL.numL_free (n := n.natAbs) (s := c)
    rcases Nat.lt_or_ge c 1114112 with z | z
    · exact z
    · exact absurd h (this (.inr (by omega)))
  unfold shL at h
  split at h
  · rcases List.mem_cons.mp h with z | z
    · rw [z]; decide
    · exact hd c z
  · exact hd c h
theorem pI_ck : ∀ m : PS, Cks (pI m)
  | [] => fun a h => absurd h List.not_mem_nil
  | [p] => fun a h => by
    simp only [pI, List.mem_cons, List.not_mem_nil, or_false] at h
    rcases h with rfl | rfl <;> exact sh_ck _
  | p :: q :: r => fun a h => by
    rw [pI_cons p (by simp)] at h
    simp only [List.mem_cons] at h
    rcases h with rfl | rfl | rfl | h
    · exact sh_ck _
    · exact sh_ck _
    · decide
    · exact pI_ck (q :: r) a h
theorem aI_ck (t : List PS) : Cks (aI t) := by
  intro a h
  cases t with
  | nil => exact absurd h List.not_mem_nil
  | cons l ms =>
    rcases List.mem_append.mp h with h | h
    · exact pI_ck l a h
    · obtain ⟨m, _, hm⟩ := List.mem_flatMap.mp h
      rcases List.mem_cons.mp hm with z | z
      · rw [z]; decide
      · exact pI_ck m a z
theorem ib_pI {H : Hp} {d : Addr} {ps : PS} (h : Itm H d (pI ps)) (b : Bd2 ps) (l8 : ps.length ≤ 8) (ne : ps ≠ []) : Ib H d (pI ps) 24 61 := ⟨h.at_, Nat.le_trans (pI_le ps) (by omega), pI_lens ps b, pI_ck ps, pI_ne ne⟩
theorem ib_aI {H : Hp} {d : Addr} {pss : PSS} (h : Itm H d (aI pss)) (b : ∀ ps ∈ pss, ps.length ≤ 8 ∧ Bd2 ps) (l9 : pss.length ≤ 9) (ne : pss ≠ []) (ne2 : ∀ ps ∈ pss, ps ≠ []) : Ib H d (aI pss) 225 61 := ⟨h.at_, Nat.le_trans (aI_le fun l hl => (b l hl).1) (by omega), aI_lens fun l hl => (b l hl).2, aI_ck pss, by
  cases pss with
  | nil => exact absurd rfl ne
  | cons a r => exact aI_ne (ne2 a List.mem_cons_self)⟩
/-- two lists in one -/
theorem Ib.app {H H' : Hp} {b c d : Addr} {xs ys : Its} {n m k : Nat} (h : Ib H b xs n m) (g : Ib H c ys k m) (e : H' d = some (.lst (xs.map iV ++ ys.map iV))) : Ib H' d (xs ++ ys) (n + k) m := ⟨by rw [e, List.map_append], by rw [List.length_append]; exact Nat.add_le_add h.few g.few, fun a ha => by
  rcases List.mem_append.mp ha with z | z
  · exact h.len a z
  · exact g.len a z, fun a ha => by
  rcases List.mem_append.mp ha with z | z
  · exact h.cok a z
  · exact g.cok a z, by
  have := h.ne
  cases xs with
  | nil => exact absurd rfl this
  | cons a r => simp⟩
/-- a list of one item -/
theorem ib_one {H : Hp} {d : Addr} {m : Nat} {s : String} {a : Cd} (e : H d = some (.lst [V.str (PySem.Str.ofString s)])) (h : (PySem.Str.ofString s).cps.toList = a) (l : a.length ≤ m) (k : decide (∀ c ∈ a, c < 1114112) = true) : Ib H d [a] 1 m := ⟨by rw [e, str_S h]; rfl, Nat.le_refl _, fun x hx => by rw [List.mem_singleton.mp hx]; exact l, fun x hx => by rw [List.mem_singleton.mp hx]; exact of_decide_eq_true k, by simp⟩
theorem Ib.updr {H : Hp} {b O d : Addr} {its : Its} {n m : Nat} {r : List V} {o : HO} (h : Ib H b its n m) (g : H O = some (.lst (V.ref d :: r))) : Ib (upd H O o) b its n m := ⟨(by
  rw [upd_ne]
  · exact h.at_
  · rintro rfl
    have e := h.at_
    rw [g] at e
    have e := HO.lst.inj (Option.some.inj e)
    cases its with
    | nil => cases e
    | cons a s => cases (List.cons.inj e).1), h.few, h.len, h.cok, h.ne⟩
theorem lens_updr {H : Hp} {p O d : Addr} {n : Nat} {r : List V} {o : HO} (v : Lens H p n) (g : H O = some (.lst (V.ref d :: r))) (ne : O ≠ p) : Lens (upd H O o) p n := by
  obtain ⟨c, ns, x, y, h1, h2, h⟩ := v
  refine ⟨c, ns, x, y, by rw [upd_ne ne.symm]; exact h1, ?_, h⟩
  rw [upd_ne]
  · exact h2
  · rintro rfl
    rw [g] at h2
    have e := HO.lst.inj (Option.some.inj h2)
    cases ns with
    | nil => cases e
    | cons a s => cases (List.cons.inj e).1
theorem kz_upd {H H' : Hp} {p O : Addr} {o : HO} (z : Kz p H H') (hO : ∀ b u, b ≠ p → (∀ ps, u ≠ .tbl ps) → H b = some u → b ≠ O) (ne : O ≠ p) : Kz p H (upd H' O o) := ⟨fun b u n t e => by
  rw [upd_ne (hO b u n t e)]
  exact z.k b u n t e, fun c x y e => by
  obtain ⟨x', y', e'⟩ := z.c c x y e
  exact ⟨x', y', by rw [upd_ne ne.symm]; exact e'⟩⟩
section
variable {P : Program} {w : World} {K : PySem.W.Frag} {mg : Str → Option Value} {base : Heap}
/-! ### _law_ends_right -/
def spEd (TLs : List (Addr × Str)) : Sp := fun vs H Q _ => ∃ (p D : Addr) (n k : Nat) (as : List Addr) (pss : PSS), vs = [.ref p, .ref D] ∧ Lens H p n ∧ n + 2000 < 60000 ∧ Told H D as pss ∧ pss ≠ [] ∧ pss.length ≤ 8 ∧ Tok k pss ∧ LamX.Tabs TLs H ∧ ∀ H', Kz p H H' → Lens H' p (n + 1000) → LamX.Tabs TLs H' → Q (.bl true) H'
abbrev sEd : Stmt := top 59
abbrev nEd : List Str := ["_law_lens_here", "_law_told", "_law_pins", "_law_items_here", "_law_more", "_law_others", "_law_number_here", "_law_other"]
theorem scEd : FnScope nEd ["_law_lens_here", "_law_told"] (defScope sEd) := ⟨rfl, rfl, rfl, by decide +kernel, rfl, by decide +kernel, by decide +kernel⟩
theorem ok_ed {f : Addr} {fd : FuncData} {TLs : List (Addr × Str)} (F : Fun K "_law_ends_right" "_law_ends_right" sEd f fd) (B : Bn mg) (C1 : Callee P w K mg base CX0 2 "_law_all_items" ["_law_told"] spAi) (C2 : Callee P w K mg base CX0 1 "_law_items" ["_law_places_here"] spIt) (C3 : Callee P w K mg base CX0 3 "_law_places" ["_law_lens_here", "_law_pins"] spPlc) (C4 : Callee P w K mg base CX0 2 "_law_pick" ["_law_lens_here", "_law_some"] spPick)
    (C5 : Callee P w K mg base CX0 12 "_law_picture_right" ["_law_items_here"] (spRt TLs)) (C6 : Callee P w K mg base CX0 12 "_law_album_right" ["_law_items_here"] (spRt TLs)) : FnOk P w K mg base CX0 13 f fd ["_law_lens_here", "_law_told"] (spEd TLs) := by
  obtain ⟨f1, fd1, m1, k1, b1, G1⟩ := C1
  obtain ⟨f2, fd2, m2, k2, b2, G2⟩ := C2
  obtain ⟨f3, fd3, m3, k3, b3, G3⟩ := C3
  obtain ⟨f4, fd4, m4, k4, b4, G4⟩ := C4
  obtain ⟨f5, fd5, m5, k5, b5, G5⟩ := C5
  obtain ⟨f6, fd6, m6, k6, b6, G6⟩ := C6
  have nd := scEd.nd
  refine F.ok scEd (fun vs H Q E h => ?_) (fun cdv A outer s H vs Q E hr h => ?_)
  · obtain ⟨p, D, n, k, as, pss, rfl, _⟩ := h
    rfl
  · obtain ⟨p, D, n, k, as, pss, rfl, hv, hn, td, pne, l8, tok, hT, q⟩ := h
    refine ⟨_, (pss_cons (ps_asg (pe_tup (pa_cons ((pe_callB call_len_seq (by rfl) B.len PySem.boot_len (pa_cons ((pe_ix ix_list (pv 1) (pe_int) (fun _ _ => rfl))) pa_nil))) (pa_cons ((pe_call G1 (hr.mono (by decide)) rfl m1 k1 b1 .nil pass0 (pa_cons (pv 1) pa_nil))) pa_nil))) (pg_tup rfl (pgs_cons ((pg_name (i := 2) nd rfl (Or.inr rfl))) (pgs_cons ((pg_name (i := 3) nd rfl (Or.inl rfl))) pgs_nil)))) (pss_cons ((ps_set (i := 4) nd rfl (Or.inl rfl) ((pe_call G2 (hr.mono (by decide)) rfl m2 k2 b2 .nil pass0 (pa_cons ((pe_call G3 (hr.mono (by decide)) rfl m3 k3 b3 .nil pass0 (pa_cons (pv 0) (pa_cons (pe_int) pa_nil)))) pa_nil))))) (pss_cons (ps_if (PW.pt (pw_or (pt_not (pt_val (pe_call G5 (hr.mono (by decide)) rfl m5 k5 b5 .nil pass0 (pa_cons (pe_op op_cat (pe_op op_cat (pe_call G2 (hr.mono (by decide)) rfl m2 k2 b2 .nil pass0 (pa_cons ((pe_ix ix_list (pv 1) (pe_int) (fun _ _ => rfl))) pa_nil)) (pe_lst (pa_cons (pe_str) pa_nil))) (pv 4)) pa_nil)))) (pw_or1 (pt_not (pt_val (pe_call G5 (hr.mono (by decide)) rfl m5 k5 b5 .nil pass0 (pa_cons (pe_op op_cat (pe_op op_cat (pe_call G2 (hr.mono (by decide)) rfl m2 k2 b2 .nil pass0 (pa_cons ((pe_call G3 (hr.mono (by decide)) rfl m3 k3 b3 .nil pass0 (pa_cons (pv 0) (pa_cons (pe_int) pa_nil)))) pa_nil)) (pe_lst (pa_cons (pe_str) pa_nil))) (pv 4)) pa_nil))))))) (pss_one (ps_ret pe_bl)) pss_nil) (pss_cons (ps_if (PW.pt (pw_or (pt_not (pt_val (pe_call G5 (hr.mono (by decide)) rfl m5 k5 b5 .nil pass0 (pa_cons ((pe_call G2 (hr.mono (by decide)) rfl m2 k2 b2 .nil pass0 (pa_cons ((pe_call G3 (hr.mono (by decide)) rfl m3 k3 b3 .nil pass0 (pa_cons (pv 0) (pa_cons (pe_int) pa_nil)))) pa_nil))) pa_nil)))) (pw_or (pt_not (pt_val (pe_call G5 (hr.mono (by decide)) rfl m5 k5 b5 .nil pass0 (pa_cons (pv 4) pa_nil)))) (pw_or1 (pt_not (pt_val (pe_call G6 (hr.mono (by decide)) rfl m6 k6 b6 .nil pass0 (pa_cons (pe_op op_cat (pv 3) (pe_lst (pa_cons (pe_str) pa_nil))) pa_nil)))))))) (pss_one (ps_ret pe_bl)) pss_nil) (pss_cons ((ps_set (i := 5) nd rfl (Or.inl rfl) (pe_lst (pa_cons (pe_op op_cat (pv 3) (pe_lst (pa_cons (pe_str) pa_nil))) (pa_cons (pe_op op_cat (pv 3) (pe_lst (pa_cons (pe_str) pa_nil))) (pa_cons (pe_op op_cat (pe_op op_cat (pv 3) (pe_lst (pa_cons (pe_str) pa_nil))) (pv 4)) (pa_cons (pe_op op_cat (pe_op op_cat (pv 3) (pe_lst (pa_cons (pe_str) pa_nil))) (pe_call G2 (hr.mono (by decide)) rfl m2 k2 b2 .nil pass0 (pa_cons ((pe_call G3 (hr.mono (by decide)) rfl m3 k3 b3 .nil pass0 (pa_cons (pv 0) (pa_cons ((pe_call G4 (hr.mono (by decide)) rfl m4 k4 b4 .nil pass0 (pa_cons (pv 0) (pa_cons (pe_lst (pa_cons (pe_int) (pa_cons (pe_op op_sub (pv 2) pe_int) (pa_cons (pe_op op_add (pv 2) pe_int) (pa_cons (pv 2) pa_nil))))) pa_nil)))) pa_nil)))) pa_nil))) pa_nil))))))) (pss_cons (ps_expr (pe_bm PySem.F.plainAttrs_list PySem.F.slot_list_append PySem.F.type_list_append mt_append (pv 5) (pa_cons ((pe_call G1 (hr.mono (by decide)) rfl m1 k1 b1 .nil pass0 (pa_cons ((pe_lc (own := [("_law_number_here", 6)]) (g := gName 6) (tt := tYes) rfl nd ((pi_range1 rfl B.range (pa_cons ((pe_call G4 (hr.mono (by decide)) rfl m4 k4 b4 .nil pass0 (pa_cons (pv 0) (pa_cons (pe_lst (pa_cons (pe_int) (pa_cons (pe_int) pa_nil))) pa_nil)))) pa_nil))) (blkOk_by (N := nEd) (sc := defScope sEd) (by decide +kernel)) (fun _ _ _ _ _ => (pg_name (i := 6) nd rfl (Or.inl rfl))) (fun _ _ _ _ _ => pts_nil) (fun _ _ _ _ _ => (pe_call G3 (hr.mono (by decide)) rfl m3 k3 b3 .nil pass0 (pa_cons (pv 0) (pa_cons (pv 2) pa_nil)))))) pa_nil))) pa_nil))) (pss_one (ps_ret (pe_cmpR (op_eqD hr.units) (pe_lc (own := [("_law_other", 7)]) (g := gName 7) rfl nd (pi_list (pv 5)) (blkOk_by (N := nEd) (sc := defScope sEd) (by decide +kernel)) (fun _ _ _ _ _ => (pg_name (i := 7) nd rfl (Or.inl rfl))) (fun _ _ _ _ _ => pts_one (pt_not (pt_val (pe_call G6 (hr.mono (by decide)) rfl m6 k6 b6 .nil pass0 (pa_cons (pv 7) pa_nil))))) (fun _ _ _ _ _ => pe_int)) (pe_lst pa_nil) (nomark _)))))))))), ?_⟩
    have e47 : PySem.Str.ofString "/" = SX.S [47] := str_S rfl
    have k47 : ∀ ps ∈ pss, ps.length = k ∧ OkP ps := tok
    have bb : ∀ ps ∈ pss, ps.length ≤ 8 ∧ Bd2 ps := fun ps h => ⟨by have := (tok ps h).2.2.1; omega, (tok ps h).2.2.2⟩
    have ne2 : ∀ ps ∈ pss, ps ≠ [] := fun ps h z => by
      have := (tok ps h).2.1
      rw [z] at this
      exact absurd this (by decide)
    obtain ⟨p0, pz, ep⟩ : ∃ p0 pz, pss = p0 :: pz := by
      cases pss with
      | nil => exact absurd rfl pne
      | cons a b => exact ⟨a, b, rfl⟩
    have hp0 : p0 ∈ pss := by rw [ep]; exact List.mem_cons_self
    obtain ⟨a0, ea0, ts0, lp0⟩ := td.at (i := 0) (ps := p0) (by rw [ep]; rfl)
    obtain ⟨l0k, ok0⟩ := tok p0 hp0
    have k4 := ok0.1
    have k7 := ok0.2.1
    refine ⟨_, rfl, D, _, 0, .ref a0, rfl, rfl, SqL.of td.1, atI_nat (j := 0) ea0, a0, _, rfl, .inl (SqL.of lp0.1), ?_⟩
    rw [List.length_map, lp0.len, l0k]
    refine ⟨_, rfl, D, as, pss, rfl, td, by omega, bb, fun H1 I s1 n1 hI => ?_⟩
    refine ⟨by show 2 ≤ sizeLine; decide, fun t nt => ?_⟩
    have s2 := same_new (o := .tup [V.int (k : Nat), V.ref I]) nt
    refine ⟨t, _, rfl, SqT.of upd_same, rfl, _, _, rfl, _, _, rfl, rfl, ?_⟩
    generalize upd H1 t (.tup [V.int (k : Nat), V.ref I]) = H2 at s2 ⊢
    have z2 : Same H H2 := s1.trans s2
    have IA := (ib_aI hI bb (by omega) pne ne2).same s2
    have v2 := hv.same z2
    have T2 := hT.ext z2
    clear s1 s2 hI
    -- more
    refine ⟨_, rfl, p, n, 1, rfl, v2, by omega, by decide, fun H3 a3 ts3 ps3 s3 v3 _ _ lp3 le3 bd3 => ?_⟩
    refine ⟨a3, ps3, rfl, ⟨ts3, lp3⟩, by omega, bd3, fun H4 M s4 nM hM => ?_⟩
    have IM := ib_pI hM bd3 (by omega) (fun z => by rw [z] at le3; cases le3)
    have z4 : Kz p H H4 := ((Kz.same z2).trans (Kz.ofS s3)).trans (Kz.same s4)
    have IA := (IA.sb v2 s3).same s4
    have T4 := (tabs_sb T2 v2 s3).ext s4
    have v4 := v3.same s4
    clear v2 T2 z2 s3 v3 lp3 s4 hM
    generalize ps3 = pm at IM
    -- a picture with a place more
    have cat3 : ∀ {Hc : Hp} {b c : Addr} {xs ys : Its} {n1 n2 : Nat} {R : V → Hp → Prop}, Ib Hc b xs n1 61 → Ib Hc c ys n2 61 → n1 + n2 ≤ 10000 → (∀ H' d, Same Hc H' → Ib H' d (xs ++ ys) (n1 + n2) 61 → R (.ref d) H') → rCat (.ref b) (.ref c) Hc R := fun {Hc b c xs ys n1 n2 R} h g hz r => ⟨b, c, _, _, rfl, rfl, h.at_, g.at_, by rw [List.length_map, List.length_map]; have := h.few; have := g.few; show _ ≤ 2 ^ 24; omega, fun d nd => r _ d (same_new nd) (h.app g upd_same)⟩
    have one : ∀ {Hc : Hp} {d : Addr} {st : String} {a : Cd}, Hc d = none → (PySem.Str.ofString st).cps.toList = a → a.length ≤ 61 → decide (∀ c ∈ a, c < 1114112) = true → Same Hc (upd Hc d (.lst [V.str (PySem.Str.ofString st)])) ∧ Ib (upd Hc d (.lst [V.str (PySem.Str.ofString st)])) d [a] 1 61 := fun hn h1 h2 h3 => ⟨same_new hn, ib_one upd_same h1 h2 h3⟩
    have td4 := td.kq hv z4.k
    obtain ⟨a0', ea0', ts0', lp0'⟩ := td4.at (i := 0) (ps := p0) (by rw [ep]; rfl)
    refine ⟨_, rfl, D, _, 0, .ref a0', rfl, rfl, SqL.of td4.1, atI_nat (j := 0) ea0', a0', p0, rfl, ⟨ts0', lp0'⟩, by omega, ok0.2.2, fun H5 B5 s5 n5 hB => ?_⟩
    have IB := ib_pI hB ok0.2.2 (by omega) (ne2 p0 hp0)
    refine ⟨by show 1 ≤ sizeLine; decide, fun e6 ne6 => ?_⟩
    obtain ⟨s6, I6⟩ := one (Hc := H5) (d := e6) (st := "/") ne6 rfl (by decide) (by decide)
    generalize upd H5 e6 (.lst [V.str (PySem.Str.ofString "/")]) = H6 at s6 I6 ⊢
    refine cat3 (IB.same s6) I6 (by decide) fun H7 d7 s7 I7 => ?_
    have s47 := (s5.trans s6).trans s7
    refine ⟨_, rfl, cat3 I7 (IM.same s47) (by decide) fun H8 d8 s8 I8 => ?_⟩
    have s48 := s47.trans s8
    refine ⟨d8, _, rfl, I8.le (by decide) (by decide), T4.ext s48, fun H9 x9 T9 => ⟨_, rfl, iteF ?_⟩⟩
    have x49 : Ext H4 H9 := (ext_of s48).trans x9
    have z9 := z4.trans (Kz.ofE x49)
    have v9 := v4.ext x49
    have IA := IA.ext x49
    have IM := IM.ext x49
    clear x49 x9 s48 s47 s5 s6 s7 s8 I6 I7 I8 IB hB td4 lp0' T4 v4 z4
    -- seven places and one more
    refine ⟨_, rfl, p, _, 7, rfl, v9, by omega, by decide, fun H10 a10 ts10 ps10 s10 v10 _ _ lp10 le10 bd10 => ?_⟩
    refine ⟨a10, ps10, rfl, ⟨ts10, lp10⟩, by omega, bd10, fun H11 B11 s11 n11 hB => ?_⟩
    have IB := ib_pI hB bd10 (by omega) (fun z => by rw [z] at le10; cases le10)
    refine ⟨by show 1 ≤ sizeLine; decide, fun e6 ne6 => ?_⟩
    obtain ⟨s6, I6⟩ := one (Hc := H11) (d := e6) (st := "/") ne6 rfl (by decide) (by decide)
    generalize upd H11 e6 (.lst [V.str (PySem.Str.ofString "/")]) = H12 at s6 I6 ⊢
    refine cat3 (IB.same s6) I6 (by decide) fun H13 d13 s13 I13 => ?_
    have s113 := s6.trans s13
    have IM13 := ((IM.sb v9 s10).same s11).same s113
    refine ⟨_, rfl, cat3 I13 IM13 (by decide) fun H14 d14 s14 I14 => ?_⟩
    have s1014 := (s11.trans s113).trans s14
    refine ⟨d14, _, rfl, I14.le (by decide) (by decide), (tabs_sb T9 v9 s10).ext s1014, fun H15 x15 T15 => ⟨_, rfl, iteF ?_⟩⟩
    have x105 : Ext H10 H15 := (ext_of s1014).trans x15
    have z15 := (z9.trans (Kz.ofS s10)).trans (Kz.ofE x105)
    have IA := (IA.sb v9 s10).ext x105
    have IM := (IM.sb v9 s10).ext x105
    have v15 := v10.ext x105
    clear x105 x15 s1014 s113 s6 s13 s14 s11 s10 I6 I13 I14 IM13 IB hB lp10 v9 T9 z9 v10
    generalize H15 = J at *
    -- three places, one place, an empty item
    refine ⟨_, rfl, p, _, 3, rfl, v15, by omega, by decide, fun H16 a16 ts16 ps16 s16 v16 _ _ lp16 le16 bd16 => ?_⟩
    refine ⟨a16, ps16, rfl, ⟨ts16, lp16⟩, by omega, bd16, fun H17 B17 s17 n17 hB => ?_⟩
    have IB := ib_pI hB bd16 (by omega) (fun z => by rw [z] at le16; cases le16)
    refine ⟨B17, _, rfl, IB.le (by decide) (by decide), (tabs_sb T15 v15 s16).ext s17, fun H18 x18 T18 => ⟨_, rfl, iteF ?_⟩⟩
    have x1618 : Ext H16 H18 := (ext_of s17).trans x18
    have z18 := (z15.trans (Kz.ofS s16)).trans (Kz.ofE x1618)
    have IA := (IA.sb v15 s16).ext x1618
    have IM := (IM.sb v15 s16).ext x1618
    have v18 := v16.ext x1618
    clear x1618 x18 s17 s16 v16 lp16 IB hB v15 T15 z15
    refine ⟨_, rfl, M, _, rfl, IM.le (by decide) (by decide), T18, fun H19 x19 T19 => ⟨_, rfl, iteF ?_⟩⟩
    have IA := IA.ext x19
    have IM := IM.ext x19
    have v19 := v18.ext x19
    have z19 := z18.trans (Kz.ofE x19)
    clear x19 v18 T18 z18
    refine ⟨_, rfl, by show 1 ≤ sizeLine; decide, fun e20 ne20 => ?_⟩
    obtain ⟨s20, I20⟩ := one (Hc := H19) (d := e20) (st := "") ne20 rfl (by decide) (by decide)
    generalize upd H19 e20 (.lst [V.str (PySem.Str.ofString "")]) = H20 at s20 I20 ⊢
    refine cat3 (IA.same s20) I20 (by decide) fun H21 d21 s21 I21 => ?_
    have s1921 := s20.trans s21
    refine ⟨d21, _, rfl, I21.le (by decide) (by decide), T19.ext s1921, fun H22 x22 T22 => ⟨_, rfl, iteF ?_⟩⟩
    have x1922 : Ext H19 H22 := (ext_of s1921).trans x22
    have IA := IA.ext x1922
    have IM := IM.ext x1922
    have v22 := v19.ext x1922
    have z22 := z19.trans (Kz.ofE x1922)
    clear x1922 x22 s1921 s21 s20 I20 I21 v19 T19 z19
    -- others
    generalize H22 = J at *
    refine ⟨_, rfl, by show 1 ≤ sizeLine; decide, fun e23 ne23 => ?_⟩
    obtain ⟨s23a, I23a⟩ := one (Hc := J) (d := e23) (st := ";") ne23 rfl (by decide) (by decide)
    generalize upd J e23 (.lst [V.str (PySem.Str.ofString ";")]) = H23a at s23a I23a ⊢
    refine cat3 (IA.same s23a) I23a (by decide) fun H23 d23 s23 I23 => ?_
    have t23 := s23a.trans s23
    have IA := IA.same t23
    have IM := IM.same t23
    refine ⟨_, rfl, by show 1 ≤ sizeLine; decide, fun e24 ne24 => ?_⟩
    obtain ⟨s24a, I24a⟩ := one (Hc := H23) (d := e24) (st := "/") ne24 rfl (by decide) (by decide)
    generalize upd H23 e24 (.lst [V.str (PySem.Str.ofString "/")]) = H24a at s24a I24a ⊢
    refine cat3 (IA.same s24a) I24a (by decide) fun H24 d24 s24 I24 => ?_
    have t24 := s24a.trans s24
    have IA := IA.same t24
    have IM := IM.same t24
    refine ⟨_, rfl, by show 1 ≤ sizeLine; decide, fun e25 ne25 => ?_⟩
    obtain ⟨s25a, I25a⟩ := one (Hc := H24) (d := e25) (st := "/") ne25 rfl (by decide) (by decide)
    generalize upd H24 e25 (.lst [V.str (PySem.Str.ofString "/")]) = H25a at s25a I25a ⊢
    refine cat3 (IA.same s25a) I25a (by decide) fun H25 d25 s25 I25 => ?_
    have t25 := s25a.trans s25
    have IA := IA.same t25
    have IM := IM.same t25
    have IM25 := IM
    refine ⟨_, rfl, cat3 I25 IM25 (by decide) fun H26 d26 s26 I26 => ?_⟩
    have IA := IA.same s26
    have IM := IM.same s26
    refine ⟨_, rfl, by show 1 ≤ sizeLine; decide, fun e27 ne27 => ?_⟩
    obtain ⟨s27a, I27a⟩ := one (Hc := H26) (d := e27) (st := ";") ne27 rfl (by decide) (by decide)
    generalize upd H26 e27 (.lst [V.str (PySem.Str.ofString ";")]) = H27a at s27a I27a ⊢
    refine cat3 (IA.same s27a) I27a (by decide) fun H27 d27 s27 I27 => ?_
    have t27 := s27a.trans s27
    have IA := IA.same t27
    have IM := IM.same t27
    have J23 := (((I23.same t24).same t25).same s26).same t27
    have J24 := ((I24.same t25).same s26).same t27
    have J26 := I26.same t27
    have u27 := (((t23.trans t24).trans t25).trans s26).trans t27
    have v27 := v22.same u27
    have T27 := T22.ext u27
    have z27 := z22.trans (Kz.same u27)
    refine ⟨_, rfl, _, rfl, _, rfl, _, _, rfl, rfl, _, rfl, _, _, rfl, rfl, _, rfl, by show 4 ≤ sizeLine; decide, fun c28 nc28 => ?_⟩
    have s28 := same_new (o := .lst [V.int 3, V.int ((k : Nat) - 1), V.int ((k : Nat) + 1), V.int (k : Nat)]) nc28
    have g28 : upd H27 c28 (.lst [V.int 3, V.int ((k : Nat) - 1), V.int ((k : Nat) + 1), V.int (k : Nat)]) c28 = some (.lst [V.int 3, V.int ((k : Nat) - 1), V.int ((k : Nat) + 1), V.int (k : Nat)]) := upd_same
    have v28 := v27.same s28
    refine ⟨p, c28, _, _, rfl, v28, by omega, g28, v27.not_none nc28, by show 0 < 4; decide, by show 4 ≤ 1000; decide, fun H29 y s29 v29 hy => ?_⟩
    obtain ⟨kk, rfl, kk3, kk8⟩ : ∃ kk : Nat, y = .int (kk : Nat) ∧ 3 ≤ kk ∧ kk ≤ 8 := by
      simp only [List.mem_cons, List.not_mem_nil, or_false] at hy
      rcases hy with rfl | rfl | rfl | rfl
      · exact ⟨3, rfl, by decide, by decide⟩
      · exact ⟨k - 1, by congr 1; omega, by omega, by omega⟩
      · exact ⟨k + 1, by congr 1, by omega, by omega⟩
      · exact ⟨k, rfl, by omega, by omega⟩
    refine ⟨p, _, kk, rfl, v29, by omega, kk8, fun H30 a30 ts30 ps30 s30 v30 _ _ lp30 le30 bd30 => ?_⟩
    refine ⟨a30, ps30, rfl, ⟨ts30, lp30⟩, by omega, bd30, fun H31 B31 s31 n31 hB => ?_⟩
    have IB := ib_pI hB bd30 (by omega) (fun z => by rw [z] at le30; have e0 : ([] : PS).length = 0 := rfl; omega)
    have mv : ∀ {b : Addr} {its : Its} {n m : Nat}, Ib H27 b its n m → Ib H31 b its n m := fun h => (((h.same s28).sb v28 s29).sb v29 s30).same s31
    refine cat3 (mv I27) IB (by decide) fun H32 d32 s32 I32 => ?_
    have K23 := (mv J23).same s32
    have K24 := (mv J24).same s32
    have K26 := (mv J26).same s32
    have v32 := (v30.same s31).same s32
    have T32 := ((tabs_sb (tabs_sb (T27.ext s28) v28 s29) v29 s30).ext s31).ext s32
    have z32 := ((((z27.trans (Kz.same s28)).trans (Kz.ofS s29)).trans (Kz.ofS s30)).trans (Kz.same s31)).trans (Kz.same s32)
    clear mv IB I27 J23 J24 J26 I23 I24 I25 I26 IM25 v27 v28 v29 v30 v22 T27 T22 s28 s29 s30 s31 s32 t23 t24 t25 s26 t27 u27 z27 z22 g28 hB lp30
    refine ⟨by show 4 ≤ sizeLine; decide, fun O nO => ?_⟩
    have s33 := same_new (o := .lst [V.ref d23, V.ref d24, V.ref d26, V.ref d32]) nO
    have g33 : upd H32 O (.lst [V.ref d23, V.ref d24, V.ref d26, V.ref d32]) O = some (.lst [V.ref d23, V.ref d24, V.ref d26, V.ref d32]) := upd_same
    have nOp := v32.not_none nO
    have hOn : ∀ b u, b ≠ p → (∀ ps, u ≠ .tbl ps) → H b = some u → b ≠ O := fun b u n t e => ne_of_none (z32.k b u n t e) nO
    generalize upd H32 O (.lst [V.ref d23, V.ref d24, V.ref d26, V.ref d32]) = H33 at s33 g33 ⊢
    have K23 := K23.same s33
    have K24 := K24.same s33
    have K26 := K26.same s33
    have K32 := I32.same s33
    have v33 := v32.same s33
    have T33 := T32.ext s33
    have z33 := z32.trans (Kz.same s33)
    refine ⟨_, rfl, .inl ⟨rfl, _, SqL.of g33⟩, ?_⟩
    refine ⟨_, rfl, by show 2 ≤ sizeLine; decide, fun c34 nc34 => ?_⟩
    have s34 := same_new (o := .lst [V.int 8, V.int 9]) nc34
    have g34 : upd H33 c34 (.lst [V.int 8, V.int 9]) c34 = some (.lst [V.int 8, V.int 9]) := upd_same
    have v34 := v33.same s34
    refine ⟨p, c34, _, _, rfl, v34, by omega, g34, v33.not_none nc34, by show 0 < 2; decide, by show 2 ≤ 1000; decide, fun H35 y s35 v35 hy => ?_⟩
    obtain ⟨mm, rfl, mm1, mm9⟩ : ∃ mm : Nat, y = .int (mm : Nat) ∧ 1 ≤ mm ∧ mm ≤ 9 := by
      simp only [List.mem_cons, List.not_mem_nil, or_false] at hy
      rcases hy with rfl | rfl
      · exact ⟨8, rfl, by decide, by decide⟩
      · exact ⟨9, rfl, by decide, by decide⟩
    have K23 := (K23.same s34).sb v34 s35
    have K24 := (K24.same s34).sb v34 s35
    have K26 := (K26.same s34).sb v34 s35
    have K32 := (K32.same s34).sb v34 s35
    have g35 := s35.1 _ _ nOp (s34 _ _ g33)
    have T35 := tabs_sb (T33.ext s34) v34 s35
    have z35 := (z33.trans (Kz.same s34)).trans (Kz.ofS s35)
    obtain ⟨nn, hnn, v35⟩ : ∃ nn, nn ≤ n + 400 ∧ Lens H35 p nn := ⟨_, by omega, v35⟩
    clear s34 s35 v34 v33 T33 z33 g33 g34 v32 T32 z32 s33
    refine ⟨(mm : Int), rfl, by omega, by omega, fun R hR => ?_⟩
    rw [Int.toNat_natCast]
    refine lc_range (lo := 0) (n := mm) (fun i H' => SB p H35 H' ∧ Lens H' p (nn + 48 * i) ∧ ∃ as pss, pss.length = i ∧ Told H' R as pss ∧ (∀ ps ∈ pss, ps.length = k ∧ Bd2 ps) ∧ R ∉ as) ⟨SB.of (same_new hR), v35.same (same_new hR), [], [], rfl, ⟨upd_same, .nil⟩, (fun ps h => absurd h List.not_mem_nil), List.not_mem_nil⟩ (fun i H' hi pv => ?_) (fun H36 pv => ?_)
    · obtain ⟨s, v, as, pss, l, td, tk, nm⟩ := pv
      refine ⟨rfl, ?_⟩
      refine ⟨_, rfl, _, rfl, p, _, k, rfl, v, by omega, by omega, fun H2 a ts ps s2 v2 _ a0 lp lps okp => ?_⟩
      have td2 := td.sb v s2
      have nDa : a ≠ R := by
        rintro rfl
        rw [td.1] at a0
        cases a0
      refine ⟨_, td2.1, by rw [List.length_map, td2.len, l]; exact small1000 (by omega), (s.trans s2).upd v35 hR, (v2.upd v35 (s.trans s2) hR).le (by omega), as ++ [a], pss ++ [ps], by rw [List.length_append, l]; rfl, ⟨by rw [upd_same, List.map_append]; rfl, ?_⟩, fun qs hq => ?_, fun hm => ?_⟩
      · exact paired_snoc (lpx_upd nm td2.1 td2.2) ⟨ts, (show LP (upd H2 R _) a ts ps from ⟨by rw [upd_ne nDa]; exact lp.1, prs_upd td2.1 lp.2⟩)⟩
      · rcases List.mem_append.mp hq with z | z
        · exact tk qs z
        · rw [List.mem_singleton.mp z]
          exact ⟨lps, okp⟩
      · rcases List.mem_append.mp hm with z | z
        · exact nm z
        · exact nDa (List.mem_singleton.mp z).symm
    · obtain ⟨s36, v36, as5, pss5, l5, td5, tk5, _⟩ := pv
      have bb5 : ∀ ps ∈ pss5, ps.length ≤ 8 ∧ Bd2 ps := fun ps h => ⟨by have := (tk5 ps h).1; omega, (tk5 ps h).2⟩
      refine ⟨R, as5, pss5, rfl, td5, by omega, bb5, fun H37 A5 s37 nA hA => ?_⟩
      have K5 := ib_aI hA bb5 (by omega) (fun z => by rw [z] at l5; have e0 : ([] : PSS).length = 0 := rfl; omega) (fun ps h z => by have := (tk5 ps h).1; rw [z] at this; have e0 : ([] : PS).length = 0 := rfl; omega)
      have K23 := (K23.sb v35 s36).same s37
      have K24 := (K24.sb v35 s36).same s37
      have K26 := (K26.sb v35 s36).same s37
      have K32 := (K32.sb v35 s36).same s37
      have g37 := s37 _ _ (s36.1 _ _ nOp g35)
      have T37 := (tabs_sb T35 v35 s36).ext s37
      have z37 := (z35.trans (Kz.ofS s36)).trans (Kz.same s37)
      obtain ⟨nn2, hnn2, v37⟩ : ∃ nn2, nn2 ≤ n + 900 ∧ Lens H37 p nn2 := ⟨_, by omega, v36.same s37⟩
      clear s36 s37 v36 v35 T35 z35 g35 hA td5
      refine ⟨O, _, _, rfl, rfl, g37, by show 4 < sizeLine; decide, ?_⟩
      have T38 := tabs_upd (o := .lst ([V.ref d23, V.ref d24, V.ref d26, V.ref d32] ++ [V.ref A5])) T37 g37
      have g38 : upd H37 O (.lst ([V.ref d23, V.ref d24, V.ref d26, V.ref d32] ++ [V.ref A5])) O = some (.lst [V.ref d23, V.ref d24, V.ref d26, V.ref d32, V.ref A5]) := upd_same
      have K23 := K23.updr (o := .lst ([V.ref d23, V.ref d24, V.ref d26, V.ref d32] ++ [V.ref A5])) g37
      have K24 := K24.updr (o := .lst ([V.ref d23, V.ref d24, V.ref d26, V.ref d32] ++ [V.ref A5])) g37
      have K26 := K26.updr (o := .lst ([V.ref d23, V.ref d24, V.ref d26, V.ref d32] ++ [V.ref A5])) g37
      have K32 := K32.updr (o := .lst ([V.ref d23, V.ref d24, V.ref d26, V.ref d32] ++ [V.ref A5])) g37
      have K5 := K5.updr (o := .lst ([V.ref d23, V.ref d24, V.ref d26, V.ref d32] ++ [V.ref A5])) g37
      have v38 := lens_updr (o := .lst ([V.ref d23, V.ref d24, V.ref d26, V.ref d32] ++ [V.ref A5])) v37 g37 nOp
      have z38 := kz_upd (o := .lst ([V.ref d23, V.ref d24, V.ref d26, V.ref d32] ++ [V.ref A5])) z37 hOn nOp
      generalize upd H37 O (.lst ([V.ref d23, V.ref d24, V.ref d26, V.ref d32] ++ [V.ref A5])) = H38 at *
      refine ⟨_, rfl, O, rfl, ⟨_, SqL.of g38⟩, fun R2 hR2 => ?_⟩
      refine lc_list (K := K) (a := O) (xs := [V.ref d23, V.ref d24, V.ref d26, V.ref d32, V.ref A5]) (fun i H' => Ext H38 H' ∧ LamX.Tabs TLs H' ∧ H' R2 = some (.lst [])) ⟨ext_of (same_new hR2), T38.ext (same_new hR2), upd_same⟩ (fun i H' _ p => SqL.of (Ext.lst p.1 g38)) (fun i x H' hx p => ?_) (fun H' p => ?_)
      · obtain ⟨x1, T1, r1⟩ := p
        obtain ⟨b, its, rfl, hI⟩ : ∃ (b : Addr) (its : Its), x = .ref b ∧ Ib H38 b its 1000 6000 := by
          have hm := List.mem_of_getElem? hx
          simp only [List.mem_cons, List.not_mem_nil, or_false] at hm
          rcases hm with rfl | rfl | rfl | rfl | rfl
          · exact ⟨_, _, rfl, K23.le (by decide) (by decide)⟩
          · exact ⟨_, _, rfl, K24.le (by decide) (by decide)⟩
          · exact ⟨_, _, rfl, K26.le (by decide) (by decide)⟩
          · exact ⟨_, _, rfl, K32.le (by decide) (by decide)⟩
          · exact ⟨_, _, rfl, K5.le (by decide) (by decide)⟩
        refine ⟨rfl, _, rfl, b, its, rfl, hI.ext x1, T1, fun H2 x2 T2 => ⟨_, rfl, iteF ⟨x1.trans x2, T2, Ext.lst x2 r1⟩⟩⟩
      · obtain ⟨x1, T1, r1⟩ := p
        refine ⟨by show 0 ≤ sizeLine; decide, fun e he => ?_⟩
        have s9 := same_new (o := .lst []) he
        refine ⟨.list [], .list [], .lst (SqL.of (s9 _ _ r1)) .nil, .lst (SqL.of upd_same) .nil, by decide, by decide, ?_⟩
        exact q _ ((z38.trans (Kz.ofE x1)).trans (Kz.same s9)) (((v38.ext x1).same s9).le (by omega)) (T1.ext s9)
end
end K17

namespace K17
open PySem PySem.Spec PyProof.Rows L2
theorem AlbF.kq {H H' : Hp} {CA C p : Addr} {n : Nat} {a : Addr} {cs : List Addr} {pss : PSS} (h : AlbF H CA C a cs pss) (v : Lens H p n) (s : Kq p H H') : AlbF H' CA C a cs pss := by
  obtain ⟨c, x, y, e0⟩ := v.at
  have st : ∀ {b : Addr} {o : HO}, H b = some o → (∀ xs, o ≠ .lst xs) → (∀ ps, o ≠ .tbl ps) → H' b = some o := fun {b o} e n1 n2 => s _ _ (fun z => n1 _ (by rw [z, e0] at e; exact (Option.some.inj e).symm)) n2 e
  have tp : ∀ {b : Addr} {xs : List V}, H b = some (.tup xs) → H' b = some (.tup xs) := fun e => st e (by intro _ z; cases z) (by intro _ z; cases z)
  obtain ⟨dx, t, u, rs, e, et, pp, eu, r⟩ := h
  exact ⟨dx, t, u, rs, st e (by intro _ z; cases z) (by intro _ z; cases z), tp et, paired_mono pp fun _ _ z => z.kq v s, tp eu, paired_mono r fun _ _ z => tp z⟩
theorem tx2_lay : PyData.canLay0 (.list [txD 0, txD 0]) = true := by
  have h := tx_lay 0
  simp [PyData.canLay0, PyData.canLayAll0, h]
theorem tx2_sh : SeqAt.shaped (.list [txD 0, txD 0]) = true := by
  have h : PyData.depth (.list [txD 0, txD 0]) ≤ 64 := by simp [txD, PyData.depth, PyData.depthAll]
  unfold SeqAt.shaped
  rw [tx2_lay, decide_eq_true h]
  rfl
theorem tx2_ev : PyData.eqv (.list [txD 0, txD 0]) (.list [txD 0, txD 0]) = true := PySem.SeqAt.eqv_refl _ tx2_lay
theorem pI_len2 : ∀ m : PS, m.length ≤ (pI m).length
  | [] => Nat.le_refl _
  | [_] => by show 1 ≤ 2; decide
  | p :: q :: r => by
    have ih := pI_len2 (q :: r)
    rw [pI_cons p (by simp)]
    simp only [List.length_cons] at ih ⊢
    omega
/-- a picture's own items are read into it -/
theorem read_pI {l : PS} (ok : OkP l) : conv (pI l) [] (lp (pI l) 4 7 ((pI l).length + 1) 0 []) = .inr (l, (pI l).length) := by
  have ne : l ≠ [] := fun z => by have := ok.1; rw [z] at this; exact absurd this (by decide)
  have h := lp_pI (its := pI l) (few := 4) (most := 7) l ((pI l).length + 1) 0 [] [] ne (by rw [List.append_nil]; rfl) ok.2.2 (by show 4 ≤ 0 + l.length; have := ok.1; omega) (by show 0 + l.length ≤ 7; have := ok.2.1; omega) (.inl (by intro z; cases z)) (Nat.le_trans (pI_len2 l) (Nat.le_succ _))
  rw [h]
  have hf : fin (pI l) [] (0 + (pI l).length) = true := by
    unfold fin
    rw [decide_eq_true (Nat.zero_add _)]
    rfl
  unfold conv
  dsimp only
  rw [if_pos hf, Nat.zero_add]
  rfl
/-- an album's own items are read into it -/
theorem read_aI {k : Nat} {pss : PSS} (tok : Tok k pss) (ne : pss ≠ []) (l8 : pss.length ≤ 8) : convA (aI pss) (lalb (aI pss)) = .inr pss := by
  cases pss with
  | nil => exact absurd rfl ne
  | cons l ms =>
    obtain ⟨lk, ok⟩ := tok l List.mem_cons_self
    have lne : l ≠ [] := fun z => by have := ok.1; rw [z] at this; exact absurd this (by decide)
    have e0 : aI (l :: ms) = pI l ++ fI ms := rfl
    have h := lp_pI (its := aI (l :: ms)) (few := 4) (most := 7) l ((aI (l :: ms)).length + 1) 0 [] (fI ms) lne rfl ok.2.2 (by show 4 ≤ 0 + l.length; have := ok.1; omega) (by show 0 + l.length ≤ 7; have := ok.2.1; omega) (.inl (fI_head ms)) (by rw [e0, List.length_append]; have := pI_len2 l; omega)
    unfold lalb
    rw [h]
    show convA _ (la _ l.length 8 (0 + (pI l).length) [l]) = _
    rw [Nat.zero_add]
    have hm : ∀ q ∈ ms, q.length = l.length ∧ Bd2 q := fun q hq => by
      obtain ⟨q1, q2⟩ := tok q (List.mem_cons_of_mem _ hq)
      exact ⟨by omega, q2.2.2⟩
    have l8' : ms.length + 1 ≤ 8 := l8
    rw [la_fI (by have := ok.1; omega) ms 8 _ [l] (by rw [e0, List.drop_left']; rfl) hm (by show 1 + ms.length ≤ 8; omega) (by omega) (by rw [e0, List.length_append]; omega)]
    exact if_pos rfl
section
variable {P : Program} {w : World} {K : PySem.W.Frag} {mg : Str → Option Value} {base : Heap} {C CA CB CB2 CF CT CS CX : Addr}
/-! ### law -/
def spLaw (K : PySem.W.Frag) (TLs : List (Addr × Str)) : Sp := fun vs H Q _ => ∃ (a : Addr) (ns : List Int), vs = [.ref a] ∧ SqL K H a (ns.map V.int) ∧ ns.length ≤ 63 ∧ LamX.Tabs TLs H ∧ ∀ H', Q (.bl true) H'
abbrev sLaw : Stmt := top 60
abbrev nLaw : List Str := ["_law_script", "_law_lens_here", "_law_pins", "_law_told", "_law_album", "_law_items_here", "_law_turn", "_law_bent_here", "_law_heard_here", "_law_odd", "_law_number_here", "_law_places_here"]
theorem scLaw : FnScope nLaw ["_law_script"] (defScope sLaw) := ⟨rfl, rfl, rfl, by decide +kernel, rfl, by decide +kernel, by decide +kernel⟩
def qLaw : Str := (envOfC "law" (defScope sLaw) 0 0 (.ref 0)).qual ++ "<lambda>"
theorem ok_law {f c Pt g : Addr} {fdH : FuncData} {oc kV doc pm ct : Value} {od an : Option Addr} {osl : Array (Option Value)} {TLs : List (Addr × Str)} (hmT : (Pt, qLaw) ∈ TLs) (hU : ∀ x ∈ TLs, x.1 = Pt → x.2 = qLaw)
    (lk : K.lookup f = some ⟨oc, od, .func (PySem.W.fnOf "law" "law" (defArgs sLaw) (defBody sLaw) (defScope sLaw) .none kV doc pm an (.ref c) ct), osl⟩) (hcd : PySem.W.codeIn K (.ref c) "law" = true)
    (TB : LamX.TabB base mg c Pt) (B : Bn mg) (T : Pc P w K mg base C CB) (TA : Ac P w K mg base C CA CB2 CF CT) (RP : Rd P w K mg base C (spPr K C CX)) (RA : Rd P w K mg base CA (spAr K C CA CX)) (kS1 : PySem.W.kitOne K (.ref C) (.type "str") = some false) (kS2 : PySem.W.kitOne K (.ref CA) (.type "str") = some false) (S : SeT K mg CS CX) (FH : Fun K "_law_heard" "_law_heard" sHd g fdH) (mH : mg "_law_heard" = some (.ref g))
    (C1 : Callee P w K mg base CX0 1 "_law_lens" ["_law_script"] (spLens K)) (C2 : Callee P w K mg base CX0 2 "_law_pick" ["_law_lens_here", "_law_some"] spPick) (C3 : Callee P w K mg base CX0 3 "_law_places" ["_law_lens_here", "_law_pins"] spPlc) (C4 : Callee P w K mg base CX0 2 "_law_all_items" ["_law_told"] spAi) (C5 : Callee P w K mg base CX0 1 "_law_items" ["_law_places_here"] spIt)
    (C6 : Callee P w K mg base CX0 12 "_law_album_right" ["_law_items_here"] (spRt TLs)) (C7 : Callee P w K mg base CX0 12 "_law_picture_right" ["_law_items_here"] (spRt TLs)) (C8 : Callee P w K mg base CX0 13 "_law_ends_right" ["_law_lens_here", "_law_told"] (spEd TLs)) (C9 : Callee P w K mg base CX0 3 "_law_bent" ["_law_lens_here", "_law_items_here"] spBe) :
    FnOk P w K mg base CX0 14 f (PySem.W.fnOf "law" "law" (defArgs sLaw) (defBody sLaw) (defScope sLaw) .none kV doc pm an (.ref c) ct) ["_law_script"] (spLaw K TLs) := by
  obtain ⟨f1, fd1, m1, k1, b1, G1⟩ := C1
  obtain ⟨f2, fd2, m2, k2, b2, G2⟩ := C2
  obtain ⟨f3, fd3, m3, k3, b3, G3⟩ := C3
  obtain ⟨f4, fd4, m4, k4, b4, G4⟩ := C4
  obtain ⟨f5, fd5, m5, k5, b5, G5⟩ := C5
  obtain ⟨f6, fd6, m6, k6, b6, G6⟩ := C6
  obtain ⟨f7, fd7, m7, k7, b7, G7⟩ := C7
  obtain ⟨f8, fd8, m8, k8, b8, G8⟩ := C8
  obtain ⟨f9, fd9, m9, k9, b9, G9'⟩ := C9
  obtain ⟨ocH, odH, kVH, docH, pmH, anH, cdvH, ctH, oslH, rfl, lkH, hcH⟩ := FH.ex
  have bH := FH.binds (ps := ["_law_ask"]) fun _ _ _ _ _ _ us hl => match us, hl with | [_], _ => rfl
  obtain ⟨fA, fdA, MA, GA, bA, kA⟩ := RA.m
  obtain ⟨fR, fdR, MR, GR, bR, kR⟩ := RP.m
  obtain ⟨fS, fdS, GS, hsS, hfS, bS⟩ := T.st
  obtain ⟨fE, fdE, GE, hsE, hfE, bE⟩ := T.eq
  obtain ⟨fT, fdT, GT, hsT, hfT, bT⟩ := TA.st
  obtain ⟨fQ, fdQ, GQ, hsQ, hfQ, bQ⟩ := TA.eq
  have IA : ∃ (fI : Addr) (fd : FuncData), Mk K CA fI ∧ FnOk P w K mg base (L2.CX P w) 4 fI fd ["self", "pictures"] (spAI K C CA CB2 CF CT) ∧ Binds K fd ["self", "pictures"] [] := let ⟨fI, fd, M, G, b, _⟩ := TA.ini; ⟨fI, fd, M, G, b⟩
  have nd := scLaw.nd
  refine fn_of lk hcd scLaw (fun vs H Q E h => ?_) fun A outer s H vs Q E hr h => ?_
  · obtain ⟨a, ns, rfl, _⟩ := h
    rfl
  suffices hh : ∃ t, PSs (cxOf CX0 P w K mg base nLaw "law" (defScope sLaw) f (.ref c) A outer s H E).nox (defBody sLaw) t ∧ t { nx := fun _ H' => Q .non H', rt := Q } (L2.start nLaw vs) H from let ⟨t, h1, h2⟩ := hh; ⟨t, h1.nox, h2⟩
  obtain ⟨a, ns, rfl, hs, l63, hT, q⟩ := h
  refine ⟨_, (pss_cons ((ps_set (i := 1) nd rfl (Or.inr rfl) ((pe_call G1 (hr.mono (by decide)) rfl m1 k1 b1 .nil pass0 (pa_cons (pv 0) pa_nil))))) (pss_cons ((ps_set (i := 2) nd rfl (Or.inr rfl) ((pe_call G2 (hr.mono (by decide)) rfl m2 k2 b2 .nil pass0 (pa_cons (pv 1) (pa_cons (pe_lst (pa_cons (pe_int) (pa_cons (pe_int) (pa_cons (pe_int) (pa_cons (pe_int) pa_nil))))) pa_nil)))))) (pss_cons ((ps_setLc (i := 3) (own := [("_law_number_here", 10)]) (g := gName 10) (tt := tYes) rfl nd rfl rfl (sw_true rfl rfl rfl (by decide +kernel)) ((pi_range1 rfl B.range (pa_cons ((pe_call G2 (hr.mono (by decide)) rfl m2 k2 b2 .nil pass0 (pa_cons (pv 1) (pa_cons (pe_lst (pa_cons (pe_int) (pa_cons (pe_int) (pa_cons (pe_int) (pa_cons (pe_int) pa_nil))))) pa_nil)))) pa_nil))) (blkOk_by (N := nLaw) (sc := defScope sLaw) (by decide +kernel)) (fun _ _ _ _ _ => (pg_name (i := 10) nd rfl (Or.inl rfl))) (fun _ _ _ _ _ => pts_nil) (fun _ _ _ _ _ => (pe_call G3 (hr.mono (by decide)) rfl m3 k3 b3 .nil pass0 (pa_cons (pv 1) (pa_cons (pv 2) pa_nil)))))) (pss_cons (ps_par (i := 4) (j := 5) rfl nd rfl rfl (by decide) rfl rfl (pa_cons (pe_mkA (E := E0) K TA.mgC IA (hr.mono (by decide)) passL rfl (pa_cons ((pe_lc (own := [("_law_places_here", 11)]) (g := gName 11) (tt := tYes) rfl nd (pi_list (pv 3)) (blkOk_by (N := nLaw) (sc := defScope sLaw) (by decide +kernel)) (fun _ _ _ _ _ => (pg_name (i := 11) nd rfl (Or.inl rfl))) (fun _ _ _ _ _ => pts_nil) (fun _ _ _ _ _ => pe_mkPc (E := E0) K T (hr.mono (by decide)) passL rfl (pa_cons (pv 11) pa_nil)))) pa_nil)) (pa_cons ((pe_call G4 (hr.mono (by decide)) rfl m4 k4 b4 .nil pass0 (pa_cons (pv 3) pa_nil))) pa_nil)) (by rfl)) (pss_cons (ps_if (PW.pt (pw_or ((pt_cmpR op_ne ((pe_callTy (T := "str") (call_strI GT hsT hfT bT (hr.mono (by decide))) (by rfl) B.str (by decide +kernel) (pa_cons (pv 4) pa_nil))) (pe_joinN pe_str (pv 5)) (nomark _))) (pw_or (pt_cmpR (op_neI GQ hsQ hfQ bQ TA.n.ne TA.t.pc.hm (hr.mono (by decide))) (pe_smeth (E := E0) (pe_glob (v := .ref CA) rfl TA.mgC rfl) MA GA (hr.mono (by decide)) bA passL (pa_cons ((pe_callTy (T := "str") (call_strI GT hsT hfT bT (hr.mono (by decide))) (by rfl) B.str (by decide +kernel) (pa_cons (pv 4) pa_nil))) pa_nil)) (pv 4) (nomark _)) (pw_or1 ((pt_cmpR op_ne ((pe_callTy (T := "str") (call_strP GS hsS hfS bS (hr.mono (by decide))) (by rfl) B.str (by decide +kernel) (pa_cons ((pe_mkP (E := E0) T (hr.mono (by decide)) passL rfl (pa_cons ((pe_ix ix_list (pv 3) (pe_int) (fun _ _ => rfl))) pa_nil))) pa_nil))) (pe_joinN pe_str (pe_call G5 (hr.mono (by decide)) rfl m5 k5 b5 .nil pass0 (pa_cons ((pe_ix ix_list (pv 3) (pe_int) (fun _ _ => rfl))) pa_nil))) (nomark _))))))) (pss_one (ps_ret pe_bl)) pss_nil) (pss_cons (ps_if (PW.pt (pw_or (pt_cmpR (op_neP GE hsE hfE bE T.n T.t (hr.mono (by decide))) (pe_smethK (E := E0) (pe_glob (v := .ref C) rfl T.mgC rfl) MR GR (hr.mono (by decide)) kR passL (pk_cons (pe_callTy (T := "str") (call_strP GS hsS hfS bS (hr.mono (by decide))) (by rfl) B.str (by decide +kernel) (pa_cons ((pe_ix ix_tup (pe_fld (pv 4) rfl) (pe_int) (fun _ _ => rfl))) pa_nil)) pk_nil)) (pe_mkP (E := E0) T (hr.mono (by decide)) passL rfl (pa_cons ((pe_ix ix_list (pv 3) (pe_int) (fun _ _ => rfl))) pa_nil)) (nomark _)) (pw_or (pt_not (pt_val (pe_call G6 (hr.mono (by decide)) rfl m6 k6 b6 .nil pass0 (pa_cons (pv 5) pa_nil)))) (pw_or1 (pt_not (pt_val (pe_call G8 (hr.mono (by decide)) rfl m8 k8 b8 .nil pass0 (pa_cons (pv 1) (pa_cons (pv 3) pa_nil))))))))) (pss_one (ps_ret pe_bl)) pss_nil) (pss_cons (ps_for PassesOwn.never rfl (pi_range1 rfl B.range (pa_cons (pe_int) pa_nil)) (pg_name (i := 6) nd rfl (Or.inl rfl)) (pss_cons ((ps_set (i := 7) nd rfl (Or.inl rfl) (pe_call G9' (hr.mono (by decide)) rfl m9 k9 b9 .nil pass0 (pa_cons (pv 1) (pa_cons (pv 5) pa_nil))))) (pss_one (ps_if (PW.pt (pw_or (pt_not (pt_val (pe_call G6 (hr.mono (by decide)) rfl m6 k6 b6 .nil pass0 (pa_cons (pv 7) pa_nil)))) (pw_or (pt_not (pt_val (pe_call G6 (hr.mono (by decide)) rfl m6 k6 b6 .nil pass0 (pa_cons (pe_call G9' (hr.mono (by decide)) rfl m9 k9 b9 .nil pass0 (pa_cons (pv 1) (pa_cons (pv 7) pa_nil))) pa_nil)))) (pw_or1 (pt_not (pt_val (pe_call G7 (hr.mono (by decide)) rfl m7 k7 b7 .nil pass0 (pa_cons (pe_call G9' (hr.mono (by decide)) rfl m9 k9 b9 .nil pass0 (pa_cons (pv 1) (pa_cons ((pe_call G5 (hr.mono (by decide)) rfl m5 k5 b5 .nil pass0 (pa_cons ((pe_ix ix_list (pv 3) (pe_int) (fun _ _ => rfl))) pa_nil))) pa_nil))) pa_nil)))))))) (pss_one (ps_ret pe_bl)) pss_nil)))) (pss_cons ((ps_set (i := 9) nd rfl (Or.inr rfl) ((pe_call G2 (hr.mono (by decide)) rfl m2 k2 b2 .nil pass0 (pa_cons (pv 1) (pa_cons (pe_lst (pa_cons (pe_non) (pa_cons (pe_int) (pa_cons (pv 5) (pa_cons (pv 4) (pa_cons (pe_bl) (pa_cons (pe_tup pa_nil) (pa_cons ((pe_mkP (E := E0) T (hr.mono (by decide)) passL rfl (pa_cons ((pe_ix ix_list (pv 3) (pe_int) (fun _ _ => rfl))) pa_nil))) (pa_cons (pe_dnewK) pa_nil))))))))) pa_nil)))))) (pss_cons ((ps_set (i := 8) nd rfl (Or.inl rfl) (pe_lst (pa_cons ((LamX.pe_lamcall (T := TLs) (TT := THeard CX) (Ng := nHd) (a := "_law_ask") (k := 9) rfl mH FH.kp lkH hcH bH scHd rfl (Or.inl rfl) (heard_gives B S) TB rfl hmT hU (hr.mono (by decide)) (LamX.lamS_by (by show LamX.lamSB (defScope sLaw) _ = true; decide +kernel)) rfl (fun _ _ _ _ _ => rfl) (fun A outer s H E f c hr => pe_smeth (E := E) (pe_glob (v := .ref CA) rfl TA.mgC rfl) MA GA hr bA lam_passes (pa_cons (pv 9) pa_nil)))) pa_nil)))) (pss_cons (ps_expr (pe_bm PySem.F.plainAttrs_list PySem.F.slot_list_append PySem.F.type_list_append mt_append (pv 8) (pa_cons ((LamX.pe_lamcall (T := TLs) (TT := THeard CX) (Ng := nHd) (a := "_law_ask") (k := 9) rfl mH FH.kp lkH hcH bH scHd rfl (Or.inl rfl) (heard_gives B S) TB rfl hmT hU (hr.mono (by decide)) (LamX.lamS_by (by show LamX.lamSB (defScope sLaw) _ = true; decide +kernel)) rfl (fun _ _ _ _ _ => rfl) (fun A outer s H E f c hr => pe_smeth (E := E) (pe_glob (v := .ref C) rfl T.mgC rfl) MR GR hr bR lam_passes (pa_cons (pv 9) pa_nil)))) pa_nil))) (pss_one (ps_ret (pe_cmpR (op_eqD hr.units) (pv 8) (pe_op op_rep (pe_lst (pa_cons (pe_tup (pa_cons (pe_str) (pa_cons (pe_int) (pa_cons (pe_int) pa_nil)))) pa_nil)) pe_int) (nomark _)))))))))))))), ?_⟩
  refine ⟨_, rfl, a, ns, rfl, hs, l63, fun H1 p s1 n1 v1 => ?_⟩
  have T1 := hT.ext s1
  refine ⟨_, rfl, by show 4 ≤ sizeLine; decide, fun c2 nc2 => ?_⟩
  have s2 := same_new (o := .lst [V.int 4, V.int 5, V.int 7, V.int 6]) nc2
  refine ⟨p, c2, _, _, rfl, v1.same s2, by omega, upd_same, v1.not_none nc2, by show 0 < 4; decide, by show 4 ≤ 1000; decide, fun H2 x s3 v2 hx => ?_⟩
  obtain ⟨k, rfl, hk4, hk7⟩ : ∃ k : Nat, x = .int k ∧ 4 ≤ k ∧ k ≤ 7 := by
    simp only [List.mem_cons, List.not_mem_nil, or_false] at hx
    rcases hx with rfl | rfl | rfl | rfl
    · exact ⟨4, rfl, by decide, by decide⟩
    · exact ⟨5, rfl, by decide, by decide⟩
    · exact ⟨7, rfl, by decide, by decide⟩
    · exact ⟨6, rfl, by decide, by decide⟩
  have T2 := tabs_sb (T1.ext s2) (v1.same s2) s3
  clear hx s3 s2 nc2 T1 v1 s1
  refine ⟨_, rfl, by show 4 ≤ sizeLine; decide, fun c3 nc3 => ?_⟩
  have s4 := same_new (o := .lst [V.int 2, V.int 1, V.int 3, V.int 8]) nc3
  refine ⟨p, c3, _, _, rfl, v2.same s4, by omega, upd_same, v2.not_none nc3, by show 0 < 4; decide, by show 4 ≤ 1000; decide, fun H3 x s5 v3 hx => ?_⟩
  obtain ⟨m, rfl, hm0, hm8⟩ : ∃ m : Nat, x = .int m ∧ 1 ≤ m ∧ m ≤ 8 := by
    simp only [List.mem_cons, List.not_mem_nil, or_false] at hx
    rcases hx with rfl | rfl | rfl | rfl
    · exact ⟨2, rfl, by decide, by decide⟩
    · exact ⟨1, rfl, by decide, by decide⟩
    · exact ⟨3, rfl, by decide, by decide⟩
    · exact ⟨8, rfl, by decide, by decide⟩
  have T3 := tabs_sb (T2.ext s4) (v2.same s4) s5
  clear hx s5 s4 nc3 T2 v2
  refine ⟨(m : Int), rfl, by omega, by omega, fun D hD => ?_⟩
  rw [Int.toNat_natCast]
  refine lc_range (lo := 0) (n := m) (fun i H' => SB p H3 H' ∧ Lens H' p (2 + 48 * i) ∧ ∃ as pss, pss.length = i ∧ Told H' D as pss ∧ Tok k pss ∧ D ∉ as) ⟨SB.of (same_new hD), (v3.same (same_new hD)).le (by omega), [], [], rfl, ⟨upd_same, .nil⟩, (fun ps h => absurd h List.not_mem_nil), List.not_mem_nil⟩ (fun i H' hi pv => ?_) (fun H4 pv => ?_)
  · obtain ⟨s, v, as, pss, l, td, tk, nm⟩ := pv
    refine ⟨rfl, ?_⟩
    refine ⟨_, rfl, _, rfl, p, _, k, rfl, v, by omega, by omega, fun H2 a ts ps s2 v2 _ a0 lp lps okp => ?_⟩
    have td2 := td.sb v s2
    have nDa : a ≠ D := by
      rintro rfl
      rw [td.1] at a0
      cases a0
    refine ⟨_, td2.1, by rw [List.length_map, td2.len, l]; exact small1000 (by omega), (s.trans s2).upd v3 hD, (v2.upd v3 (s.trans s2) hD).le (by omega), as ++ [a], pss ++ [ps], by rw [List.length_append, l]; rfl, ⟨by rw [upd_same, List.map_append]; rfl, ?_⟩, fun qs hq => ?_, fun hm => ?_⟩
    · exact paired_snoc (lpx_upd nm td2.1 td2.2) ⟨ts, (show LP (upd H2 D _) a ts ps from ⟨by rw [upd_ne nDa]; exact lp.1, prs_upd td2.1 lp.2⟩)⟩
    · rcases List.mem_append.mp hq with z | z
      · exact tk qs z
      · rw [List.mem_singleton.mp z]
        exact ⟨lps, by omega, by omega, okp⟩
    · rcases List.mem_append.mp hm with z | z
      · exact nm z
      · exact nDa (List.mem_singleton.mp z).symm
  obtain ⟨s4, v4, as, pss, lp5, td, tok, _⟩ := pv
  have T4 := tabs_sb T3 v3 s4
  have pne : pss ≠ [] := fun z => by
    rw [z] at lp5
    have e0 : ([] : PSS).length = 0 := rfl
    omega
  have l8 : pss.length ≤ 8 := by omega
  obtain ⟨nn, hnn, v4⟩ : ∃ nn, nn ≤ 500 ∧ Lens H4 p nn := ⟨_, by omega, v4⟩
  clear s4 v3 T3 lp5
  have las := td.len
  -- the album
  refine ⟨_, rfl, D, rfl, ⟨_, SqL.of td.1⟩, fun E0' hE => ?_⟩
  have lok : ∀ ps ∈ pss, OkP ps := fun ps h => (tok ps h).2
  have bb : ∀ ps ∈ pss, ps.length ≤ 8 ∧ Bd2 ps := fun ps h => ⟨by have := (lok ps h).2.1; omega, (lok ps h).2.2⟩
  have ne2 : ∀ ps ∈ pss, ps ≠ [] := fun ps h z => by
    have := (lok ps h).1
    rw [z] at this
    exact absurd this (by decide)
  refine lc_list (K := K) (a := D) (xs := as.map V.ref) (fun i H' => Same H4 H' ∧ ∃ cs : List Addr, cs.length = i ∧ H' E0' = some (.lst (cs.map V.ref)) ∧ Pics H' C cs (pss.take i)) ⟨same_new hE, [], rfl, upd_same, .nil⟩ (fun i H' _ p => SqL.of (p.1 _ _ td.1)) (fun i x H' hx p => ?_) (fun H5 p => ?_)
  · obtain ⟨s5, cs, lc, gE, hp⟩ := p
    obtain ⟨a5, ps, _, rfl, eps, ts5, l5⟩ := td.mem hx
    have hi : i < pss.length := (List.getElem?_eq_some_iff.mp eps).1
    refine ⟨rfl, yes_of ⟨_, rfl, _, rfl, mkP_of (H := H4) ⟨ts5, l5.same s5⟩ (lok ps (List.mem_of_getElem? eps)) fun c H6 s6 n6 pf => ?_⟩⟩
    have gE6 := s6 _ _ gE
    refine ⟨_, gE6, by rw [List.length_map, lc]; exact small1000 (by omega), fun z o ez => ?_, cs ++ [c], by rw [List.length_append, lc]; rfl, by rw [upd_same, List.map_append]; rfl, ?_⟩
    · rw [upd_ne (ne_of_none ez hE)]
      exact s6 _ _ (s5 _ _ ez)
    · rw [take_more eps]
      exact paired_snoc ((hp.same s6).updl gE6) (pf.updl gE6)
  obtain ⟨s5, cs, _, gE, hp⟩ := p
  rw [List.length_map, las, List.take_length] at hp
  refine ⟨_, rfl, mkA_of (.inl gE) hp (fun ps h => (tok ps h).1) pne l8 fun al H6 s6 n6 alb => ?_⟩
  have s46 := s5.trans s6
  refine ⟨_, rfl, D, as, pss, rfl, td.same s46, by omega, bb, fun H7 I s7 n7 hI => ⟨_, _, rfl, ?_⟩⟩
  have s47 := s46.trans s7
  have IA := ib_aI hI bb (by omega) pne ne2
  have td7 := td.same s47
  have alb7 := alb.same s7
  have v7 := v4.same s47
  have T7 := T4.ext s47
  clear s47 s46 s5 s6 s7 gE hp alb hI td v4 T4 hE
  -- its text
  have e32 : PySem.Str.ofString " " = SX.S [32] := str_S rfl
  have tA : albT pss = SX.S (TL.joinL [32] (aI pss)) := albT_S pne ne2
  have zA : ∀ {its : Its} {n : Nat}, (∀ a ∈ its, a.length ≤ 61) → its.length ≤ n → n ≤ 1000 → ((its.map SX.S).map (·.length)).sum + (its.map SX.S).length * (PySem.Str.ofString " ").length ≤ 16777216 := fun {its n} h1 h2 h3 => by
    have h4 := sum_its h1
    have h5 : (PySem.Str.ofString " ").length = 1 := rfl
    have h6 : its.length * 61 ≤ 1000 * 61 := Nat.mul_le_mul_right _ (by omega)
    rw [List.length_map, h5]
    omega
  obtain ⟨dx, tt, uu, rs, ha, ht, pa, hu, hr0⟩ := id alb7
  refine ⟨_, rfl, al, dx, _, rfl, ha, al, cs, pss, rfl, alb7, lok, l8, fun H8 s8 => ⟨_, rfl, ?_⟩⟩
  have IA8 := IA.same s8
  refine ⟨⟨_, rfl⟩, _, rfl, _, I, (aI pss).map SX.S, rfl, rfl, .inl (SqL.of (by rw [List.map_map]; exact IA8.at_)), zA IA.len IA.few (by decide), rfl, _, rfl, ?_⟩
  rw [e32, SX.join_S, tA, decide_eq_true rfl]
  refine iteF ?_
  -- read again
  have hx : TL.spl [32] 0 [] (TL.joinL [32] (aI pss)) = aI pss := split_items IA.ne (aI_free pss)
  have xA : (TL.joinL [32] (aI pss)).length ≤ 8000000 := by
    have h1 := join_le IA.len
    have h2 : (aI pss).length * (61 + 1) ≤ 225 * (61 + 1) := Nat.mul_le_mul_right _ IA.few
    omega
  have rA := read_aI tok pne l8
  have alb8 := alb7.same s8
  refine ⟨rfl, _, rfl, al, dx, _, rfl, s8 _ _ ha, al, cs, pss, rfl, alb8, lok, l8, fun H9 s9 => ⟨_, rfl, _, rfl, .inr ⟨TL.joinL [32] (aI pss), congrArg V.str tA, xA, fun j hj => ?_, fun t2 ht2 cs2 a2 H10 s10 n10 alb2 => ?_⟩⟩⟩
  · rw [hx, rA] at hj
    cases hj
  rw [hx, rA] at ht2
  obtain rfl : pss = t2 := Sum.inr.inj ht2
  have s810 := s9.trans s10
  refine ⟨_, rfl, neA_in TA.t alb2 (alb8.same s810) ⟨_, rfl, ?_⟩⟩
  rw [decide_eq_true rfl]
  refine iteF ?_
  have td10 := (td7.same s8).same s810
  have alb10 := alb8.same s810
  have IA10 := IA8.same s810
  have v10 := (v7.same s8).same s810
  have T10 := (T7.ext s8).ext s810
  clear s9 s10 s810 s8 alb2 n10 ht2
  obtain ⟨p0, pz, ep⟩ : ∃ p0 pz, pss = p0 :: pz := by
    cases pss with
    | nil => exact absurd rfl pne
    | cons a b => exact ⟨a, b, rfl⟩
  have hp0 : p0 ∈ pss := by rw [ep]; exact List.mem_cons_self
  have ok0 := lok p0 hp0
  obtain ⟨a0, ea0, ts0, lp0⟩ := td10.at (i := 0) (ps := p0) (by rw [ep]; rfl)
  have tP : picT p0 = SX.S (TL.joinL [32] (pI p0)) := picT_S (ne2 p0 hp0)
  refine ⟨_, rfl, D, _, 0, .ref a0, rfl, rfl, SqL.of td10.1, atI_nat (j := 0) ea0, _, rfl, mkP_of (H := H10) ⟨ts0, lp0⟩ ok0 fun pc H11 s11 n11 pf => ?_⟩
  refine ⟨pc, p0, rfl, pf, ok0, fun H12 s12 hz => ⟨⟨_, rfl⟩, ?_⟩⟩
  have s1012 := s11.trans s12
  have td12 := td10.same s1012
  have lp12 := lp0.same s1012
  refine ⟨_, rfl, D, _, 0, .ref a0, rfl, rfl, SqL.of td12.1, atI_nat (j := 0) ea0, a0, p0, rfl, ⟨ts0, lp12⟩, (bb p0 hp0).1, ok0.2.2, fun H13 I0 s13 n13 hI0 => ?_⟩
  have IP := ib_pI hI0 ok0.2.2 (bb p0 hp0).1 (ne2 p0 hp0)
  refine ⟨_, I0, (pI p0).map SX.S, rfl, rfl, .inl (SqL.of (by rw [List.map_map]; exact IP.at_)), zA IP.len IP.few (by decide), rfl, _, rfl, ?_⟩
  rw [SX.join_S, tP, decide_eq_true rfl]
  refine iteF ?_
  have s1013 := s1012.trans s13
  have td13 := td10.same s1013
  have alb13 := alb10.same s1013
  have IA13 := IA10.same s1013
  have v13 := v10.same s1013
  have T13 := T10.ext s1013
  clear s11 s12 s13 s1012 s1013 pf IP hI0 td12 lp12 alb10 IA10 v10 T10 td10 hz
  -- a picture read again
  have hxP : TL.spl [32] 0 [] (TL.joinL [32] (pI p0)) = pI p0 := split_items (pI_ne (ne2 p0 hp0)) (pI_free p0)
  have xP : (TL.joinL [32] (pI p0)).length ≤ 8000000 := by
    have h1 := join_le (pI_lens p0 ok0.2.2)
    have h3 := pI_le p0
    have h4 := ok0.2.1
    have h2 : (pI p0).length * (61 + 1) ≤ 24 * (61 + 1) := Nat.mul_le_mul_right _ (by omega)
    omega
  have rP := read_pI ok0
  obtain ⟨dx3, tt3, uu3, rs3, ha3, ht3, pa3, _⟩ := id alb13
  obtain ⟨c0, hc0, pf0⟩ := paired_of pa3 (i := 0) (y := p0) (by rw [ep]; rfl)
  refine ⟨rfl, _, rfl, al, CA, dx3, _, .ref tt3, rfl, ha3, TA.t.pc.cls, TA.t.n2, rfl, tt3, _, 0, .ref c0, rfl, rfl, SqT.of ht3, atI_nat (j := 0) (by rw [List.getElem?_map, hc0]; rfl), c0, p0, rfl, pf0, ok0, fun H14 s14 hz => ⟨rfl, _, rfl, .inr ⟨TL.joinL [32] (pI p0), congrArg V.str tP, xP, fun j hj => ?_, fun l2 j hj a3 H15 s15 n15 pf3 => ?_⟩⟩⟩
  · rw [hxP, rP] at hj
    cases hj
  rw [hxP, rP] at hj
  have e2 : p0 = l2 := congrArg Prod.fst (Sum.inr.inj hj)
  subst e2
  have s1315 := s14.trans s15
  have td15 := td13.same s1315
  obtain ⟨a1, ea1, ts1, lp1⟩ := td15.at (i := 0) (ps := p0) (by rw [ep]; rfl)
  refine ⟨_, rfl, D, _, 0, .ref a1, rfl, rfl, SqL.of td15.1, atI_nat (j := 0) ea1, _, rfl, mkP_of (H := H15) ⟨ts1, lp1⟩ ok0 fun pc2 H16 s16 n16 pf4 => ?_⟩
  refine ⟨a3, p0, true, rfl, pf3.same s16, (.inr ⟨pc2, p0, rfl, pf4, (decide_eq_true rfl).symm⟩), _, rfl, iteF ?_⟩
  have s1316 := s1315.trans s16
  have td16 := td13.same s1316
  have alb16 := alb13.same s1316
  have IA16 := IA13.same s1316
  have v16 := v13.same s1316
  have T16 := T13.ext s1316
  clear s1316 s16 s1315 s14 s15 pf3 pf4 td15 alb13 IA13 v13 T13 td13 hz pf0 ha3 ht3 pa3
  refine ⟨_, rfl, I, _, rfl, IA16.le (by decide) (by decide), T16, fun H17 x17 T17 => ⟨_, rfl, iteF ?_⟩⟩
  have td17 := td16.ext x17
  have IA17 := IA16.ext x17
  have v17 := v16.ext x17
  have z17 : Kz p H16 H17 := Kz.ofE x17
  refine ⟨_, rfl, _, rfl, p, D, nn, k, as, pss, rfl, v17, by omega, td17, pne, l8, tok, T17, fun H18 z18 v18 T18 => ⟨_, rfl, iteF ?_⟩⟩
  have td18 := td17.kq v17 z18.k
  have IA18 := IA17.kq v17 z18.k
  have alb18 : AlbF H18 CA C al cs pss := (alb16.kq v16 z17.k).kq v17 z18.k
  clear td17 IA17 v17 T17 x17 z17 z18 td16 IA16 v16 T16 alb16
  -- six turns
  refine ⟨6, rfl, by decide, by decide, ?_⟩
  refine for_range (lo := 0) (n := 6) (fun i σ H' => Kz p H18 H' ∧ Lens H' p (nn + 1000 + 18 * i) ∧ LamX.Tabs TLs H' ∧ ∃ x6 x7, σ = [some (.ref a), some (.ref p), some (.int (k : Nat)), some (.ref D), some (.ref al), some (.ref I), x6, x7, none, none, none, none]) ⟨Kz.refl p H18, v18, T18, _, _, rfl⟩ (fun i σ H' hi pv => ?_) (fun σ H19 pv => ?_)
  · obtain ⟨z, v, T0, x6, x7, rfl⟩ := pv
    refine ⟨_, rfl, _, rfl, p, I, _, 225, 5000, aI pss, rfl, v, by omega, (IA18.kq v18 z.k).le (Nat.le_refl _) (by decide), by decide, by decide, by decide, fun K1 d its1 s1 v1 I1 => ?_⟩
    refine ⟨_, rfl, d, its1, rfl, I1.le (by decide) (by decide), tabs_sb T0 v s1, fun K2 x2 T2 => ⟨_, rfl, iteF ?_⟩⟩
    refine ⟨_, rfl, _, rfl, p, d, _, 451, 5001, its1, rfl, v1.ext x2, by omega, I1.ext x2, by decide, by decide, by decide, fun K3 d2 its2 s3 v3 I3 => ⟨d2, its2, rfl, I3.le (by decide) (by decide), tabs_sb T2 (v1.ext x2) s3, fun K4 x4 T4 => ⟨_, rfl, iteF ?_⟩⟩⟩
    have z4 : Kz p H18 K4 := (((z.trans (Kz.ofS s1)).trans (Kz.ofE x2)).trans (Kz.ofS s3)).trans (Kz.ofE x4)
    have td4 := td18.kq v18 z4.k
    have v4 := v3.ext x4
    obtain ⟨a4, ea4, ts4, lp4⟩ := td4.at (i := 0) (ps := p0) (by rw [ep]; rfl)
    refine ⟨_, rfl, _, rfl, D, _, 0, .ref a4, rfl, rfl, SqL.of td4.1, atI_nat (j := 0) ea4, a4, p0, rfl, ⟨ts4, lp4⟩, (bb p0 hp0).1, ok0.2.2, fun K5 I5 s5 n5 hI5 => ?_⟩
    have IP := ib_pI hI5 ok0.2.2 (bb p0 hp0).1 (ne2 p0 hp0)
    refine ⟨p, I5, _, 24, 5000, pI p0, rfl, v4.same s5, by omega, IP.le (Nat.le_refl _) (by decide), by decide, by decide, by decide, fun K6 d3 its3 s6 v6 I6 => ⟨d3, its3, rfl, I6.le (by decide) (by decide), tabs_sb (T4.ext s5) (v4.same s5) s6, fun K7 x7' T7 => ⟨_, rfl, iteF ?_⟩⟩⟩
    exact ⟨((z4.trans (Kz.same s5)).trans (Kz.ofS s6)).trans (Kz.ofE x7'), (v6.ext x7').le (by omega), T7, _, _, rfl⟩
  obtain ⟨z, v19, T19, x6, x7, rfl⟩ := pv
  have td19 := td18.kq v18 z.k
  have alb19 := alb18.kq v18 z.k
  have IA19 := IA18.kq v18 z.k
  clear z td18 alb18 IA18 v18 T18
  -- what is no text
  obtain ⟨a9, ea9, ts9, lp9⟩ := td19.at (i := 0) (ps := p0) (by rw [ep]; rfl)
  refine ⟨_, rfl, _, rfl, _, rfl, by show 0 ≤ sizeLine; decide, fun t20 nt20 => ?_⟩
  have s20 := same_new (o := .tup []) nt20
  have g20 : upd H19 t20 (.tup []) t20 = some (.tup []) := upd_same
  generalize upd H19 t20 (.tup []) = H20 at s20 g20 ⊢
  have td20 := td19.same s20
  have lp20 := lp9.same s20
  refine ⟨_, rfl, D, _, 0, .ref a9, rfl, rfl, SqL.of td20.1, atI_nat (j := 0) ea9, _, rfl, mkP_of (H := H20) ⟨ts9, lp20⟩ ok0 fun pc9 H21 s21 n21 pf9 => ?_⟩
  intro q22 nq22
  have s22 := same_new (o := .dK []) nq22
  have g22 : upd H21 q22 (.dK []) q22 = some (.dK []) := upd_same
  generalize upd H21 q22 (.dK []) = H22 at s22 g22 ⊢
  refine ⟨by show 8 ≤ sizeLine; decide, fun c23 nc23 => ?_⟩
  generalize h23 : upd H22 c23 (HO.lst _) = H23
  have g23 : H23 c23 = some (.lst [V.non, V.int 5, V.ref I, V.ref al, V.bl true, V.ref t20, V.ref pc9, V.ref q22]) := by rw [← h23]; exact upd_same
  have s23 : Same H22 H23 := by rw [← h23]; exact same_new nc23
  have s1923 := ((s20.trans s21).trans s22).trans s23
  have v23 := v19.same s1923
  have nc : c23 ≠ p := ((v19.same s20).same (s21.trans s22)).not_none nc23
  refine ⟨p, c23, _, _, rfl, v23, by omega, g23, nc, by show 0 < 8; decide, by show 8 ≤ 1000; decide, fun H24 x s24 v24 hx => ?_⟩
  have IA24 := (IA19.same s1923).sb v23 s24
  have alb24 := (alb19.same s1923).sb v23 s24
  have pf24 := (pf9.same (s22.trans s23)).sb v23 s24
  have g20' := s24.1 _ _ (v23.not_tup ((s21.trans s22).trans s23 _ _ g20)) ((s21.trans s22).trans s23 _ _ g20)
  have nq : q22 ≠ p := by
    obtain ⟨_, _, _, e⟩ := v23.at
    exact L2.ne_of (s23 _ _ g22) e (by intro z; cases z)
  have g22' := s24.1 _ _ nq (s23 _ _ g22)
  have T24 := tabs_sb (T19.ext s1923) v23 s24
  have NS : ∃ t, (∀ H', Ext H24 H' → TyX K H' x t) ∧ PySem.W.kitOne K t (.type "str") = some false := by
    simp only [List.mem_cons, List.not_mem_nil, or_false] at hx
    rcases hx with rfl | rfl | rfl | rfl | rfl | rfl | rfl | rfl
    · exact ⟨_, fun H' _ => .base .non, kit_ty (by decide +kernel : kitB _ _ = some false)⟩
    · exact ⟨_, fun H' _ => .base (.int _), kit_ty (by decide +kernel : kitB _ _ = some false)⟩
    · exact ⟨_, fun H' e => .base (.lst (Ext.lst e IA24.at_)), kit_ty (by decide +kernel : kitB _ _ = some false)⟩
    · exact ⟨_, fun H' e => (alb24.kq v24 (Kq.ofE e)).ty TA.t, kS2⟩
    · exact ⟨_, fun H' _ => .base (.bl _), kit_ty (by decide +kernel : kitB _ _ = some false)⟩
    · exact ⟨_, fun H' e => .base (.tup (Ext.tup e g20')), kit_ty (by decide +kernel : kitB _ _ = some false)⟩
    · exact ⟨_, fun H' e => (pf24.ext e).ty T.t, kS1⟩
    · exact ⟨_, fun H' e => .base (.dK (e _ _ g22' (by intro ps z; cases z))), kit_ty (by decide +kernel : kitB _ _ = some false)⟩
  obtain ⟨tx, hty, hk⟩ := NS
  clear hx g20' g22' nq IA24 alb24 pf24 v24 s24 v23 s1923 g23 s23 h23 nc23 g22 s22 nq22 pf9 n21 s21 lp20 td20 g20 s20 nt20 lp9
  refine lam_in T24 (fun H25 N x25 T25 hN => ?_)
  refine ⟨rfl, _, rfl, _, rfl, .inl ⟨tx, hty _ x25, hk, rz_hd fun H26 u s26 hu => ?_⟩⟩
  refine ⟨by show 1 ≤ sizeLine; decide, fun l nl => ?_⟩
  have s27 := same_new (o := .lst [V.ref u]) nl
  have g27 : upd H26 l (.lst [V.ref u]) l = some (.lst [V.ref u]) := upd_same
  have hu27 := s27 _ _ hu
  generalize upd H26 l (.lst [V.ref u]) = H27 at s27 g27 hu27 ⊢
  have x27 : Ext H24 H27 := x25.trans (ext_of (s26.trans s27))
  refine ⟨_, rfl, .inl ⟨rfl, _, SqL.of g27⟩, ?_⟩
  refine lam_in ((T25.ext s26).ext s27) (fun H28 N2 x28 T28 hN2 => ?_)
  refine ⟨rfl, _, rfl, _, rfl, .inl ⟨tx, hty _ (x27.trans x28), hk, rz_hd fun H29 u2 s29 hu2 => ?_⟩⟩
  have g29 := s29 _ _ (Ext.lst x28 g27)
  have hu29 := s29 _ _ (Ext.tup x28 hu27)
  refine ⟨l, _, _, rfl, rfl, g29, by show 1 < sizeLine; decide, ?_⟩
  have g30 : upd H29 l (.lst ([V.ref u] ++ [V.ref u2])) l = some (.lst [V.ref u, V.ref u2]) := upd_same
  have hu30 : upd H29 l (.lst ([V.ref u] ++ [V.ref u2])) u = some (.tup [V.str "text", V.int 0, V.int ((0 : Nat) : Int)]) := by rw [upd_ne (L2.ne_of hu29 g29 (by intro z; cases z))]; exact hu29
  have hv30 : upd H29 l (.lst ([V.ref u] ++ [V.ref u2])) u2 = some (.tup [V.str "text", V.int 0, V.int ((0 : Nat) : Int)]) := by rw [upd_ne (L2.ne_of hu2 g29 (by intro z; cases z))]; exact hu2
  generalize upd H29 l (.lst ([V.ref u] ++ [V.ref u2])) = H30 at g30 hu30 hv30 ⊢
  refine ⟨_, rfl, by show 3 ≤ sizeLine; decide, fun w nw => ?_⟩
  have s31 := same_new (o := .tup [V.str "text", V.int 0, V.int 0]) nw
  have g31 : upd H30 w (.tup [V.str "text", V.int 0, V.int 0]) w = some (.tup [V.str "text", V.int 0, V.int ((0 : Nat) : Int)]) := upd_same
  generalize upd H30 w (.tup [V.str "text", V.int 0, V.int 0]) = H31 at s31 g31 ⊢
  refine ⟨by show 1 ≤ sizeLine; decide, fun l2 nl2 => ?_⟩
  have s32 := same_new (o := .lst [V.ref w]) nl2
  have g32 : upd H31 l2 (.lst [V.ref w]) l2 = some (.lst [V.ref w]) := upd_same
  generalize upd H31 l2 (.lst [V.ref w]) = H32 at s32 g32 ⊢
  refine ⟨l2, 2, _, rfl, rfl, g32, by decide, by decide, by show 1 * 2 ≤ sizeLine; decide, fun l3 nl3 => ?_⟩
  have s33 := same_new (o := .lst (List.replicate (Int.toNat 2) [V.ref w]).flatten) nl3
  have g33 : upd H32 l3 (.lst (List.replicate (Int.toNat 2) [V.ref w]).flatten) l3 = some (.lst [V.ref w, V.ref w]) := upd_same
  generalize upd H32 l3 (.lst (List.replicate (Int.toNat 2) [V.ref w]).flatten) = H33 at s33 g33 ⊢
  have sz := (s31.trans s32).trans s33
  have gw := s33 _ _ (s32 _ _ g31)
  refine ⟨_, _, .lst (SqL.of (sz _ _ g30)) (.cons (tx_dp (sz _ _ hu30)) (.cons (tx_dp (sz _ _ hv30)) .nil)), .lst (SqL.of g33) (.cons (tx_dp gw) (.cons (tx_dp gw) .nil)), tx2_sh, tx2_sh, ?_⟩
  rw [tx2_ev]
  exact q _
end
end K17

namespace K17
open PySem PySem.Spec PyProof.Rows L2
/-! ### what the written part says, looked up at once -/
def oexB (K : PySem.W.Frag) (C : Addr) : Bool := match K.lookup C with
  | some ⟨.type "type", _, .cls cd, sl⟩ => (match cd.mro, sl.toList with
    | .ref C' :: bm, [_, _, _, _, some (.builtin n), _] => C' == C && n == "ValueError.__new__" && !cd.hasDel && cd.hasDict && PySem.HandSPX.refsVE bm
    | _, _ => false)
  | _ => false
theorem oexB_ok {K : PySem.W.Frag} {C : Addr} (q : oexB K C = true) : ∃ nm qn N bs bm sn sub ab col dd k0 k1 k2 k3 k5, K.lookup C = some (excClassObj nm qn C N bs bm true sn sub ab col dd k0 k1 k2 k3 k5 "ValueError.__new__") ∧ PySem.HandSPX.refsVE bm = true := by
  unfold oexB at q
  split at q
  · rename_i dd cd sl ho
    split at q
    · rename_i C' bm k0 k1 k2 k3 n k5 hm hs
      simp only [Bool.and_eq_true, beq_iff_eq, Bool.not_eq_true'] at q
      obtain ⟨⟨⟨⟨rfl, rfl⟩, hdel⟩, hd⟩, ht⟩ := q
      obtain ⟨nm, bs, mro, ns, qn, hdc, sn, sub, ab, col, del⟩ := cd
      dsimp only at hm hdel hd
      subst hm hdel hd
      have hsl : sl = #[k0, k1, k2, k3, some (.builtin "ValueError.__new__"), k5] := by
        obtain ⟨l⟩ := sl
        simp only at hs
        rw [hs]
      subst hsl
      exact ⟨nm, qn, ns, bs, bm, sn, sub, ab, col, dd, k0, k1, k2, k3, k5, ho, ht⟩
    · cases q
  · cases q
def badB (K : PySem.W.Frag) (C CS : Addr) : Bool := oexB K C && (decide (PySem.W.findIn K (.ref C) "__setattr__" = some (some (.builtin "object.__setattr__"))) && (decide (PySem.W.subIn K (.ref C) (.type "BaseException") = some true) && (decide (PySem.W.typeIn K (.ref C) = some (.type "type")) && (PySem.W.keepIn K (.ref C) &&
  (decide (PySem.W.findIn K (.ref C) "__getattribute__" = some (some (.builtin "BaseException.__getattribute__"))) && (decide (PySem.W.findIn K (.ref C) "__getattr__" = some none) && (PySem.W.hasDictIn K C && (decide (PySem.W.findIn K (.ref C) "__class__" = some (some (.builtin "object.__class__"))) &&
  (decide (PySem.W.specialIn K (.builtin "object.__class__") "__get__" = some (some (.builtin "getset_descriptor.__get__"))) && (decide (PySem.W.takesIn K (.builtin "object.__class__") = some true) && (decide (PySem.W.mroIn K C (.type "object") = some true) &&
  (decide (PySem.W.findIn K (.ref C) "part" = some none) && decide (PySem.W.exmOne K (.ref C) (.ref CS) = some true)))))))))))))
theorem badB_ok {K : PySem.W.Frag} {C CS : Addr} (h : badB K C CS = true) : OexC K C ∧ ExcC K C ∧ XfC K C ∧ PySem.W.findIn K (.ref C) "part" = some none ∧ PySem.W.exmOne K (.ref C) (.ref CS) = some true := by
  unfold badB at h
  simp only [Bool.and_eq_true, decide_eq_true_eq] at h
  obtain ⟨h0, h1, h2, h3, h4, h5, h6, h7, h8, h9, h10, h11, h12, h13⟩ := h
  exact ⟨⟨oexB_ok h0, h1, h2, h3, h4⟩, ⟨h5, h6, h2, h7, h8, h9, h10, h11⟩, ⟨h5, h6, h2, h7⟩, h12, h13⟩
def picB (K : PySem.W.Frag) (C : Addr) : Bool := PySem.W.plainGet K C Str.empty && (PySem.W.hasDictIn K C && (PySem.W.plainOver K C && (decide (PySem.W.findIn K (.ref C) "__setattr__" = some (some (.builtin "object.__setattr__"))) && (decide (PySem.W.findIn K (.ref C) "__class__" = some (some (.builtin "object.__class__"))) &&
  (decide (PySem.W.specialIn K (.builtin "object.__class__") "__get__" = some (some (.builtin "getset_descriptor.__get__"))) && (decide (PySem.W.takesIn K (.builtin "object.__class__") = some true) && (decide (PySem.W.mroIn K C (.type "object") = some true) &&
  (decide (PySem.W.kitOne K (.ref C) (.type "int") = some false) && (decide (PySem.W.kitOne K (.ref C) (.type "bool") = some false) && (decide (PySem.W.kitOne K (.ref C) (.type "tuple") = some false) && (decide (PySem.W.kitAny K (.ref C) [.type "list", .type "tuple"] = some false) &&
  (decide (PySem.W.findIn K (.ref C) "places" = some none) && (decide (PySem.W.findIn K (.ref C) "pins" = some none) && (decide (PySem.W.findIn K (.ref C) "rows" = some none) && (decide (PySem.W.findIn K (.ref C) "__ne__" = some (some (.builtin "object.__ne__"))) &&
  (PySem.W.makesIn K C && (PySem.W.keepIn K (.ref C) && (["NoneType", "str", "list", "tuple"].all fun t => decide (PySem.W.kitOne K (.type t) (.ref C) = some false) && PySem.W.notFirst K C (.type t)))))))))))))))))))
theorem picB_ok {K : PySem.W.Frag} {C : Addr} (h : picB K C = true) : PicT K C ∧ PicN K C ∧ PySem.W.makesIn K C = true ∧ PySem.W.keepIn K (.ref C) = true := by
  unfold picB at h
  rw [Bool.and_eq_true, Bool.and_eq_true, Bool.and_eq_true, Bool.and_eq_true, Bool.and_eq_true, Bool.and_eq_true, Bool.and_eq_true, Bool.and_eq_true, Bool.and_eq_true, Bool.and_eq_true, Bool.and_eq_true, Bool.and_eq_true, Bool.and_eq_true, Bool.and_eq_true, Bool.and_eq_true, Bool.and_eq_true, Bool.and_eq_true, Bool.and_eq_true] at h
  obtain ⟨h0, h1, h2, h3, h4, h5, h6, h7, h8, h9, h10, h11, h12, h13, h14, h15, h16, h17, h18⟩ := h
  refine ⟨⟨⟨⟨h0, h1, h2, of_decide_eq_true h3⟩, of_decide_eq_true h4, of_decide_eq_true h5, of_decide_eq_true h6, of_decide_eq_true h7, of_decide_eq_true h8, of_decide_eq_true h9, of_decide_eq_true h10, of_decide_eq_true h11⟩, (show PySem.W.findIn K (.ref C) "places" = some none from of_decide_eq_true h12), (show PySem.W.findIn K (.ref C) "pins" = some none from of_decide_eq_true h13), (show PySem.W.findIn K (.ref C) "rows" = some none from of_decide_eq_true h14)⟩, ⟨fun t ht => ?_, of_decide_eq_true h15⟩, h16, h17⟩
  have z := List.all_eq_true.mp h18 t ht
  rw [Bool.and_eq_true] at z
  exact ⟨of_decide_eq_true z.1, z.2⟩
def tooB (K : PySem.W.Frag) (C CS : Addr) : Bool := oexB K C && (decide (PySem.W.findIn K (.ref C) "__setattr__" = some (some (.builtin "object.__setattr__"))) && (decide (PySem.W.subIn K (.ref C) (.type "BaseException") = some true) && (decide (PySem.W.typeIn K (.ref C) = some (.type "type")) && (PySem.W.keepIn K (.ref C) &&
  (decide (PySem.W.findIn K (.ref C) "__getattribute__" = some (some (.builtin "BaseException.__getattribute__"))) && (decide (PySem.W.findIn K (.ref C) "__getattr__" = some none) && (PySem.W.hasDictIn K C && (decide (PySem.W.findIn K (.ref C) "__class__" = some (some (.builtin "object.__class__"))) &&
  (decide (PySem.W.specialIn K (.builtin "object.__class__") "__get__" = some (some (.builtin "getset_descriptor.__get__"))) && (decide (PySem.W.takesIn K (.builtin "object.__class__") = some true) && (decide (PySem.W.mroIn K C (.type "object") = some true) &&
  (decide (PySem.W.findIn K (.ref C) "what" = some none) && (decide (PySem.W.findIn K (.ref C) "most" = some none) && decide (PySem.W.exmOne K (.ref C) (.ref CS) = some true))))))))))))))
theorem tooB_ok {K : PySem.W.Frag} {C CS : Addr} (h : tooB K C CS = true) : OexC K C ∧ ExcC K C ∧ XfC K C ∧ PySem.W.findIn K (.ref C) "what" = some none ∧ PySem.W.findIn K (.ref C) "most" = some none ∧ PySem.W.exmOne K (.ref C) (.ref CS) = some true := by
  unfold tooB at h
  simp only [Bool.and_eq_true, decide_eq_true_eq] at h
  obtain ⟨h0, h1, h2, h3, h4, h5, h6, h7, h8, h9, h10, h11, h12, h13, h14⟩ := h
  exact ⟨⟨oexB_ok h0, h1, h2, h3, h4⟩, ⟨h5, h6, h2, h7, h8, h9, h10, h11⟩, ⟨h5, h6, h2, h7⟩, h12, h13, h14⟩
def txtB (K : PySem.W.Frag) (C CS : Addr) : Bool := oexB K C && (decide (PySem.W.findIn K (.ref C) "__setattr__" = some (some (.builtin "object.__setattr__"))) && (decide (PySem.W.subIn K (.ref C) (.type "BaseException") = some true) && (decide (PySem.W.typeIn K (.ref C) = some (.type "type")) && (PySem.W.keepIn K (.ref C) &&
  (decide (PySem.W.findIn K (.ref C) "__getattribute__" = some (some (.builtin "BaseException.__getattribute__"))) && (decide (PySem.W.findIn K (.ref C) "__getattr__" = some none) && (PySem.W.hasDictIn K C && (decide (PySem.W.findIn K (.ref C) "__class__" = some (some (.builtin "object.__class__"))) &&
  (decide (PySem.W.specialIn K (.builtin "object.__class__") "__get__" = some (some (.builtin "getset_descriptor.__get__"))) && (decide (PySem.W.takesIn K (.builtin "object.__class__") = some true) && (decide (PySem.W.mroIn K C (.type "object") = some true) &&
  (decide (PySem.W.findIn K (.ref C) "line" = some none) && (decide (PySem.W.findIn K (.ref C) "item" = some none) && decide (PySem.W.exmOne K (.ref C) (.ref CS) = some true))))))))))))))
theorem txtB_ok {K : PySem.W.Frag} {C CS : Addr} (h : txtB K C CS = true) : OexC K C ∧ ExcC K C ∧ XfC K C ∧ PySem.W.findIn K (.ref C) "line" = some none ∧ PySem.W.findIn K (.ref C) "item" = some none ∧ PySem.W.exmOne K (.ref C) (.ref CS) = some true := by
  unfold txtB at h
  simp only [Bool.and_eq_true, decide_eq_true_eq] at h
  obtain ⟨h0, h1, h2, h3, h4, h5, h6, h7, h8, h9, h10, h11, h12, h13, h14⟩ := h
  exact ⟨⟨oexB_ok h0, h1, h2, h3, h4⟩, ⟨h5, h6, h2, h7, h8, h9, h10, h11⟩, ⟨h5, h6, h2, h7⟩, h12, h13, h14⟩
def albB (K : PySem.W.Frag) (C : Addr) : Bool := PySem.W.plainGet K C Str.empty && (PySem.W.hasDictIn K C && (PySem.W.plainOver K C && (decide (PySem.W.findIn K (.ref C) "__setattr__" = some (some (.builtin "object.__setattr__"))) && (decide (PySem.W.findIn K (.ref C) "__class__" = some (some (.builtin "object.__class__"))) &&
  (decide (PySem.W.specialIn K (.builtin "object.__class__") "__get__" = some (some (.builtin "getset_descriptor.__get__"))) && (decide (PySem.W.takesIn K (.builtin "object.__class__") = some true) && (decide (PySem.W.mroIn K C (.type "object") = some true) &&
  (decide (PySem.W.kitOne K (.ref C) (.type "int") = some false) && (decide (PySem.W.kitOne K (.ref C) (.type "bool") = some false) && (decide (PySem.W.kitOne K (.ref C) (.type "tuple") = some false) && (decide (PySem.W.kitAny K (.ref C) [.type "list", .type "tuple"] = some false) &&
  (decide (PySem.W.findIn K (.ref C) "pins" = some none) && (decide (PySem.W.findIn K (.ref C) "pictures" = some none) && (decide (PySem.W.findIn K (.ref C) "rows" = some none) && (decide (PySem.W.findIn K (.ref C) "__ne__" = some (some (.builtin "object.__ne__"))) &&
  (PySem.W.makesIn K C && (PySem.W.keepIn K (.ref C) && (["NoneType", "str", "list", "tuple"].all fun t => decide (PySem.W.kitOne K (.type t) (.ref C) = some false) && PySem.W.notFirst K C (.type t)))))))))))))))))))
theorem albB_ok {K : PySem.W.Frag} {C : Addr} (h : albB K C = true) : AlbT K C ∧ PicN K C ∧ PySem.W.makesIn K C = true ∧ PySem.W.keepIn K (.ref C) = true := by
  unfold albB at h
  rw [Bool.and_eq_true, Bool.and_eq_true, Bool.and_eq_true, Bool.and_eq_true, Bool.and_eq_true, Bool.and_eq_true, Bool.and_eq_true, Bool.and_eq_true, Bool.and_eq_true, Bool.and_eq_true, Bool.and_eq_true, Bool.and_eq_true, Bool.and_eq_true, Bool.and_eq_true, Bool.and_eq_true, Bool.and_eq_true, Bool.and_eq_true, Bool.and_eq_true] at h
  obtain ⟨h0, h1, h2, h3, h4, h5, h6, h7, h8, h9, h10, h11, h12, h13, h14, h15, h16, h17, h18⟩ := h
  refine ⟨⟨⟨⟨h0, h1, h2, of_decide_eq_true h3⟩, of_decide_eq_true h4, of_decide_eq_true h5, of_decide_eq_true h6, of_decide_eq_true h7, of_decide_eq_true h8, of_decide_eq_true h9, of_decide_eq_true h10, of_decide_eq_true h11⟩, (show PySem.W.findIn K (.ref C) "pins" = some none from of_decide_eq_true h12), (show PySem.W.findIn K (.ref C) "pictures" = some none from of_decide_eq_true h13), (show PySem.W.findIn K (.ref C) "rows" = some none from of_decide_eq_true h14)⟩, ⟨fun t ht => ?_, of_decide_eq_true h15⟩, h16, h17⟩
  have z := List.all_eq_true.mp h18 t ht
  rw [Bool.and_eq_true] at z
  exact ⟨of_decide_eq_true z.1, z.2⟩
theorem kbn17 {K : PySem.W.Frag} {fd : FuncData} {ps ks : List Str} {n : Nat} (h : ∀ us ws : List Value, us.length = n → ws.length = ks.length → bindArgs fd ⟨us, ks.zip ws⟩ = pure (ps.zip (us ++ ws))) : KBn K fd ps n ks (fun us ws => us ++ ws) (fun vs zs => vs ++ zs) where
  to := fun s us ws _ l1 l2 => .of_eq (h us ws l1 l2)
  rel := fun r z => r.append z
theorem all_mk {l : PySem.W.OpenLaw} {w : World} {K : PySem.W.Frag} {h : Heap} {mg : Str → Option Value} {fa : Addr} {C CA CS CB CE CF CT CX P1 P2 P3 qpR qaR c57 c58 c60 f13 f14 f15 f24 f25 f26 f27 f30 f31 f32 f33 f34 f35 f40 f45 f46 f47 f48 f49 f50 f51 f52 f53 f54 f55 f56 f57 f58 f59 f60 fxB fxE fxF fxT fxX fpI fpE fpS faI faE faS fpR faR : Addr} {zspR zsaR : List Value} {od13 an13 od14 an14 od15 an15 od24 an24 od25 an25 od26 an26 od27 an27 od30 an30 od31 an31 od32 an32 od33 an33 od34 an34 od35 an35 od40 an40 od45 an45 od46 an46 od47 an47 od48 an48 od49 an49 od50 an50 od51 an51 od52 an52 od53 an53 od54 an54 od55 an55 od56 an56 od57 an57 od58 an58 od59 an59 od60 an60 odxB anxB odxE anxE odxF anxF odxT anxT odxX anxX odpI anpI odpE anpE odpS anpS odaI anaI odaE anaE odaS anaS odpR anpR odaR anaR : Option Addr} {sl13 sl14 sl15 sl24 sl25 sl26 sl27 sl30 sl31 sl32 sl33 sl34 sl35 sl40 sl45 sl46 sl47 sl48 sl49 sl50 sl51 sl52 sl53 sl54 sl55 sl56 sl57 sl58 sl59 sl60 slxB slxE slxF slxT slxX slpI slpE slpS slaI slaE slaS slpR slaR : Array (Option Value)} {oc13 kV13 dc13 pm13 cv13 ct13 oc14 kV14 dc14 pm14 cv14 ct14 oc15 kV15 dc15 pm15 cv15 ct15 oc24 kV24 dc24 pm24 cv24 ct24 oc25 kV25 dc25 pm25 cv25 ct25 oc26 kV26 dc26 pm26 cv26 ct26 oc27 kV27 dc27 pm27 cv27 ct27 oc30 kV30 dc30 pm30 cv30 ct30 oc31 kV31 dc31 pm31 cv31 ct31 oc32 kV32 dc32 pm32 cv32 ct32 oc33 kV33 dc33 pm33 cv33 ct33 oc34 kV34 dc34 pm34 cv34 ct34 oc35 kV35 dc35 pm35 cv35 ct35 oc40 kV40 dc40 pm40 cv40 ct40 oc45 kV45 dc45 pm45 cv45 ct45 oc46 kV46 dc46 pm46 cv46 ct46 oc47 kV47 dc47 pm47 cv47 ct47 oc48 kV48 dc48 pm48 cv48 ct48 oc49 kV49 dc49 pm49 cv49 ct49 oc50 kV50 dc50 pm50 cv50 ct50 oc51 kV51 dc51 pm51 cv51 ct51 oc52 kV52 dc52 pm52 cv52 ct52 oc53 kV53 dc53 pm53 cv53 ct53 oc54 kV54 dc54 pm54 cv54 ct54 oc55 kV55 dc55 pm55 cv55 ct55 oc56 kV56 dc56 pm56 cv56 ct56 oc57 kV57 dc57 pm57 ct57 oc58 kV58 dc58 pm58 ct58 oc59 kV59 dc59 pm59 cv59 ct59 oc60 kV60 dc60 pm60 ct60 ocxB kVxB dcxB pmxB cvxB ctxB ocxE kVxE dcxE pmxE cvxE ctxE ocxF kVxF dcxF pmxF cvxF ctxF ocxT kVxT dcxT pmxT cvxT ctxT ocxX kVxX dcxX pmxX cvxX ctxX ocpI kVpI dcpI pmpI cvpI ctpI ocpE kVpE dcpE pmpE cvpE ctpE ocpS kVpS dcpS pmpS cvpS ctpS ocaI kVaI dcaI pmaI cvaI ctaI ocaE kVaE dcaE pmaE cvaE ctaE ocaS kVaS dcaS pmaS cvaS ctaS ocpR kVpR dcpR pmpR cvpR ctpR ocaR kVaR dcaR pmaR cvaR ctaR : Value} {tL t4 t7 t8 t60 : PySem.Tok}
    (X : K.In h) (G : h.Ns mainGlobals mg) (hfa : mg "law" = some (.ref fa)) (tab1 : h.get? P1 = some { cls := .none, data := .fields #[] }) (tab2 : h.get? P2 = some { cls := .none, data := .fields #[] }) (tab3 : h.get? P3 = some { cls := .none, data := .fields #[] })
    (n12 : P1 ≠ P2) (n13 : P1 ≠ P3) (n23 : P2 ≠ P3)
    (gC : PySem.W.nsIn K mainGlobals "Picture" = some (some (.ref C)))
    (gCA : PySem.W.nsIn K mainGlobals "Album" = some (some (.ref CA)))
    (gCS : PySem.W.nsIn K mainGlobals "SeenError" = some (some (.ref CS)))
    (gCB : PySem.W.nsIn K mainGlobals "BadAlbum" = some (some (.ref CB)))
    (gCE : PySem.W.nsIn K mainGlobals "BadPicture" = some (some (.ref CE)))
    (gCF : PySem.W.nsIn K mainGlobals "Misfit" = some (some (.ref CF)))
    (gCT : PySem.W.nsIn K mainGlobals "TooMany" = some (some (.ref CT)))
    (gCX : PySem.W.nsIn K mainGlobals "BadText" = some (some (.ref CX)))
    (gL : PySem.W.nsIn K mainGlobals "LIMIT" = some (some (.int 1000000000 tL)))
    (g4 : PySem.W.nsIn K mainGlobals "FEWEST_PINS" = some (some (.int 4 t4)))
    (g7 : PySem.W.nsIn K mainGlobals "MOST_PINS" = some (some (.int 7 t7)))
    (g8 : PySem.W.nsIn K mainGlobals "MOST_PICTURES" = some (some (.int 8 t8)))
    (g60 : PySem.W.nsIn K mainGlobals "MOST_DIGITS" = some (some (.int 60 t60)))
    (ixB : PySem.W.findIn K (.ref CB) "__init__" = some (some (.ref fxB)))
    (txB : PySem.W.typeIn K (.ref fxB) = some (.type "function"))
    (ixE : PySem.W.findIn K (.ref CE) "__init__" = some (some (.ref fxE)))
    (txE : PySem.W.typeIn K (.ref fxE) = some (.type "function"))
    (ixF : PySem.W.findIn K (.ref CF) "__init__" = some (some (.ref fxF)))
    (txF : PySem.W.typeIn K (.ref fxF) = some (.type "function"))
    (ixT : PySem.W.findIn K (.ref CT) "__init__" = some (some (.ref fxT)))
    (txT : PySem.W.typeIn K (.ref fxT) = some (.type "function"))
    (ixX : PySem.W.findIn K (.ref CX) "__init__" = some (some (.ref fxX)))
    (txX : PySem.W.typeIn K (.ref fxX) = some (.type "function"))
    (ipI : PySem.W.findIn K (.ref C) "__init__" = some (some (.ref fpI)))
    (npI : PySem.W.isFn K (.ref fpI) = true)
    (ipE : PySem.W.findIn K (.ref C) "__eq__" = some (some (.ref fpE)))
    (npE : PySem.W.isFn K (.ref fpE) = true)
    (ipS : PySem.W.findIn K (.ref C) "__str__" = some (some (.ref fpS)))
    (npS : PySem.W.isFn K (.ref fpS) = true)
    (iaI : PySem.W.findIn K (.ref CA) "__init__" = some (some (.ref faI)))
    (naI : PySem.W.isFn K (.ref faI) = true)
    (iaE : PySem.W.findIn K (.ref CA) "__eq__" = some (some (.ref faE)))
    (naE : PySem.W.isFn K (.ref faE) = true)
    (iaS : PySem.W.findIn K (.ref CA) "__str__" = some (some (.ref faS)))
    (naS : PySem.W.isFn K (.ref faS) = true)
    (sapR : PySem.W.readsIn K C (.type "type") = true)
    (sbpR : PySem.W.specialIn K (.ref C) "__getattribute__" = some (some (.builtin "type.__getattribute__")))
    (gppR : PySem.W.findCls K (.ref C) (.type "type") "read" = some (.get (.builtin "staticmethod.__get__") (.ref qpR) .none (.ref C)))
    (grpR : PySem.W.recIn K qpR "staticmethod" = some (.ref fpR :: zspR))
    (saaR : PySem.W.readsIn K CA (.type "type") = true)
    (sbaR : PySem.W.specialIn K (.ref CA) "__getattribute__" = some (some (.builtin "type.__getattribute__")))
    (gpaR : PySem.W.findCls K (.ref CA) (.type "type") "read" = some (.get (.builtin "staticmethod.__get__") (.ref qaR) .none (.ref CA)))
    (graR : PySem.W.recIn K qaR "staticmethod" = some (.ref faR :: zsaR))
    (lxB : K.lookup fxB = some ⟨ocxB, odxB, .func (PySem.W.fnOf "__init__" "BadAlbum.__init__" (defArgs sAI) (defBody sAI) (defScope sAI) .none kVxB dcxB pmxB anxB cvxB ctxB), slxB⟩)
    (cxB : PySem.W.codeIn K cvxB "BadAlbum.__init__" = true)
    (kxB : PySem.W.keepIn K (.ref fxB) = true)
    (lxE : K.lookup fxE = some ⟨ocxE, odxE, .func (PySem.W.fnOf "__init__" "BadPicture.__init__" (defArgs sBI) (defBody sBI) (defScope sBI) .none kVxE dcxE pmxE anxE cvxE ctxE), slxE⟩)
    (cxE : PySem.W.codeIn K cvxE "BadPicture.__init__" = true)
    (kxE : PySem.W.keepIn K (.ref fxE) = true)
    (lxF : K.lookup fxF = some ⟨ocxF, odxF, .func (PySem.W.fnOf "__init__" "Misfit.__init__" (defArgs sFI) (defBody sFI) (defScope sFI) .none kVxF dcxF pmxF anxF cvxF ctxF), slxF⟩)
    (cxF : PySem.W.codeIn K cvxF "Misfit.__init__" = true)
    (kxF : PySem.W.keepIn K (.ref fxF) = true)
    (lxT : K.lookup fxT = some ⟨ocxT, odxT, .func (PySem.W.fnOf "__init__" "TooMany.__init__" (defArgs sTI) (defBody sTI) (defScope sTI) .none kVxT dcxT pmxT anxT cvxT ctxT), slxT⟩)
    (cxT : PySem.W.codeIn K cvxT "TooMany.__init__" = true)
    (kxT : PySem.W.keepIn K (.ref fxT) = true)
    (lxX : K.lookup fxX = some ⟨ocxX, odxX, .func (PySem.W.fnOf "__init__" "BadText.__init__" (defArgs sTX) (defBody sTX) (defScope sTX) .none kVxX dcxX pmxX anxX cvxX ctxX), slxX⟩)
    (cxX : PySem.W.codeIn K cvxX "BadText.__init__" = true)
    (kxX : PySem.W.keepIn K (.ref fxX) = true)
    (lpI : K.lookup fpI = some ⟨ocpI, odpI, .func (PySem.W.fnOf "__init__" "Picture.__init__" (defArgs sPI) (defBody sPI) (defScope sPI) .none kVpI dcpI pmpI anpI cvpI ctpI), slpI⟩)
    (cpI : PySem.W.codeIn K cvpI "Picture.__init__" = true)
    (kpI : PySem.W.keepIn K (.ref fpI) = true)
    (lpE : K.lookup fpE = some ⟨ocpE, odpE, .func (PySem.W.fnOf "__eq__" "Picture.__eq__" (defArgs sEqP) (defBody sEqP) (defScope sEqP) .none kVpE dcpE pmpE anpE cvpE ctpE), slpE⟩)
    (cpE : PySem.W.codeIn K cvpE "Picture.__eq__" = true)
    (kpE : PySem.W.keepIn K (.ref fpE) = true)
    (lpS : K.lookup fpS = some ⟨ocpS, odpS, .func (PySem.W.fnOf "__str__" "Picture.__str__" (defArgs sStrP) (defBody sStrP) (defScope sStrP) .none kVpS dcpS pmpS anpS cvpS ctpS), slpS⟩)
    (cpS : PySem.W.codeIn K cvpS "Picture.__str__" = true)
    (kpS : PySem.W.keepIn K (.ref fpS) = true)
    (laI : K.lookup faI = some ⟨ocaI, odaI, .func (PySem.W.fnOf "__init__" "Album.__init__" (defArgs sAlI) (defBody sAlI) (defScope sAlI) .none kVaI dcaI pmaI anaI cvaI ctaI), slaI⟩)
    (caI : PySem.W.codeIn K cvaI "Album.__init__" = true)
    (kaI : PySem.W.keepIn K (.ref faI) = true)
    (laE : K.lookup faE = some ⟨ocaE, odaE, .func (PySem.W.fnOf "__eq__" "Album.__eq__" (defArgs sEqA) (defBody sEqA) (defScope sEqA) .none kVaE dcaE pmaE anaE cvaE ctaE), slaE⟩)
    (caE : PySem.W.codeIn K cvaE "Album.__eq__" = true)
    (kaE : PySem.W.keepIn K (.ref faE) = true)
    (laS : K.lookup faS = some ⟨ocaS, odaS, .func (PySem.W.fnOf "__str__" "Album.__str__" (defArgs sStrA) (defBody sStrA) (defScope sStrA) .none kVaS dcaS pmaS anaS cvaS ctaS), slaS⟩)
    (caS : PySem.W.codeIn K cvaS "Album.__str__" = true)
    (kaS : PySem.W.keepIn K (.ref faS) = true)
    (lpR : K.lookup fpR = some ⟨ocpR, odpR, .func (PySem.W.fnOf "read" "Picture.read" (defArgs sPr) (defBody sPr) (defScope sPr) .none kVpR dcpR pmpR anpR cvpR ctpR), slpR⟩)
    (cpR : PySem.W.codeIn K cvpR "Picture.read" = true)
    (kpR : PySem.W.keepIn K (.ref fpR) = true)
    (laR : K.lookup faR = some ⟨ocaR, odaR, .func (PySem.W.fnOf "read" "Album.read" (defArgs sAr) (defBody sAr) (defScope sAr) .none kVaR dcaR pmaR anaR cvaR ctaR), slaR⟩)
    (caR : PySem.W.codeIn K cvaR "Album.read" = true)
    (kaR : PySem.W.keepIn K (.ref faR) = true)
    (hB : badB K CB CS = true)
    (hE : badB K CE CS = true)
    (hF : badB K CF CS = true)
    (hT : tooB K CT CS = true)
    (hX : txtB K CX CS = true)
    (hC : picB K C = true)
    (hA : albB K CA = true)
    (hx1 : PySem.W.kitOne K (.ref C) (.ref CA) = some false)
    (hx2 : PySem.W.notFirst K CA (.ref C) = true)
    (hx3 : PySem.W.kitOne K (.ref CA) (.ref C) = some false)
    (hk1 : PySem.W.kitOne K (.type "tuple") (.ref C) = some false)
    (hk2 : PySem.W.kitOne K (.type "tuple") (.ref CA) = some false)
    (hk3 : PySem.W.kitOne K (.type "NoneType") (.ref CX) = some false)
    (hk4 : PySem.W.kitOne K (.ref C) (.type "str") = some false)
    (hk5 : PySem.W.kitOne K (.ref CA) (.type "str") = some false)
    (a13 : PySem.W.nsIn K mainGlobals "is_integer" = some (some (.ref f13)))
    (l13 : K.lookup f13 = some ⟨oc13, od13, .func (PySem.W.fnOf "is_integer" "is_integer" (defArgs sInt) (defBody sInt) (defScope sInt) .none kV13 dc13 pm13 an13 cv13 ct13), sl13⟩)
    (cc13 : PySem.W.codeIn K cv13 "is_integer" = true)
    (k13 : PySem.W.keepIn K (.ref f13) = true)
    (a14 : PySem.W.nsIn K mainGlobals "is_within" = some (some (.ref f14)))
    (l14 : K.lookup f14 = some ⟨oc14, od14, .func (PySem.W.fnOf "is_within" "is_within" (defArgs sWithin) (defBody sWithin) (defScope sWithin) .none kV14 dc14 pm14 an14 cv14 ct14), sl14⟩)
    (cc14 : PySem.W.codeIn K cv14 "is_within" = true)
    (k14 : PySem.W.keepIn K (.ref f14) = true)
    (a15 : PySem.W.nsIn K mainGlobals "is_list" = some (some (.ref f15)))
    (l15 : K.lookup f15 = some ⟨oc15, od15, .func (PySem.W.fnOf "is_list" "is_list" (defArgs sIsList) (defBody sIsList) (defScope sIsList) .none kV15 dc15 pm15 an15 cv15 ct15), sl15⟩)
    (cc15 : PySem.W.codeIn K cv15 "is_list" = true)
    (k15 : PySem.W.keepIn K (.ref f15) = true)
    (a24 : PySem.W.nsIn K mainGlobals "is_row" = some (some (.ref f24)))
    (l24 : K.lookup f24 = some ⟨oc24, od24, .func (PySem.W.fnOf "is_row" "is_row" (defArgs sRow) (defBody sRow) (defScope sRow) .none kV24 dc24 pm24 an24 cv24 ct24), sl24⟩)
    (cc24 : PySem.W.codeIn K cv24 "is_row" = true)
    (k24 : PySem.W.keepIn K (.ref f24) = true)
    (a25 : PySem.W.nsIn K mainGlobals "are_rows" = some (some (.ref f25)))
    (l25 : K.lookup f25 = some ⟨oc25, od25, .func (PySem.W.fnOf "are_rows" "are_rows" (defArgs sRows) (defBody sRows) (defScope sRows) .none kV25 dc25 pm25 an25 cv25 ct25), sl25⟩)
    (cc25 : PySem.W.codeIn K cv25 "are_rows" = true)
    (k25 : PySem.W.keepIn K (.ref f25) = true)
    (a26 : PySem.W.nsIn K mainGlobals "are_places" = some (some (.ref f26)))
    (l26 : K.lookup f26 = some ⟨oc26, od26, .func (PySem.W.fnOf "are_places" "are_places" (defArgs sPlaces) (defBody sPlaces) (defScope sPlaces) .none kV26 dc26 pm26 an26 cv26 ct26), sl26⟩)
    (cc26 : PySem.W.codeIn K cv26 "are_places" = true)
    (k26 : PySem.W.keepIn K (.ref f26) = true)
    (a27 : PySem.W.nsIn K mainGlobals "steps_along" = some (some (.ref f27)))
    (l27 : K.lookup f27 = some ⟨oc27, od27, .func (PySem.W.fnOf "steps_along" "steps_along" (defArgs sSteps) (defBody sSteps) (defScope sSteps) .none kV27 dc27 pm27 an27 cv27 ct27), sl27⟩)
    (cc27 : PySem.W.codeIn K cv27 "steps_along" = true)
    (k27 : PySem.W.keepIn K (.ref f27) = true)
    (a30 : PySem.W.nsIn K mainGlobals "items_of" = some (some (.ref f30)))
    (l30 : K.lookup f30 = some ⟨oc30, od30, .func (PySem.W.fnOf "items_of" "items_of" (defArgs sIof) (defBody sIof) (defScope sIof) .none kV30 dc30 pm30 an30 cv30 ct30), sl30⟩)
    (cc30 : PySem.W.codeIn K cv30 "items_of" = true)
    (k30 : PySem.W.keepIn K (.ref f30) = true)
    (a31 : PySem.W.nsIn K mainGlobals "_is_written" = some (some (.ref f31)))
    (l31 : K.lookup f31 = some ⟨oc31, od31, .func (PySem.W.fnOf "_is_written" "_is_written" (defArgs sWr) (defBody sWr) (defScope sWr) .none kV31 dc31 pm31 an31 cv31 ct31), sl31⟩)
    (cc31 : PySem.W.codeIn K cv31 "_is_written" = true)
    (k31 : PySem.W.keepIn K (.ref f31) = true)
    (a32 : PySem.W.nsIn K mainGlobals "number_at" = some (some (.ref f32)))
    (l32 : K.lookup f32 = some ⟨oc32, od32, .func (PySem.W.fnOf "number_at" "number_at" (defArgs sNa) (defBody sNa) (defScope sNa) .none kV32 dc32 pm32 an32 cv32 ct32), sl32⟩)
    (cc32 : PySem.W.codeIn K cv32 "number_at" = true)
    (k32 : PySem.W.keepIn K (.ref f32) = true)
    (a33 : PySem.W.nsIn K mainGlobals "_ends_at" = some (some (.ref f33)))
    (l33 : K.lookup f33 = some ⟨oc33, od33, .func (PySem.W.fnOf "_ends_at" "_ends_at" (defArgs sEn) (defBody sEn) (defScope sEn) .none kV33 dc33 pm33 an33 cv33 ct33), sl33⟩)
    (cc33 : PySem.W.codeIn K cv33 "_ends_at" = true)
    (k33 : PySem.W.keepIn K (.ref f33) = true)
    (a34 : PySem.W.nsIn K mainGlobals "places_at" = some (some (.ref f34)))
    (l34 : K.lookup f34 = some ⟨oc34, od34, .func (PySem.W.fnOf "places_at" "places_at" (defArgs sPl) (defBody sPl) (defScope sPl) .none kV34 dc34 pm34 an34 cv34 ct34), sl34⟩)
    (cc34 : PySem.W.codeIn K cv34 "places_at" = true)
    (k34 : PySem.W.keepIn K (.ref f34) = true)
    (a35 : PySem.W.nsIn K mainGlobals "_behind_slash" = some (some (.ref f35)))
    (l35 : K.lookup f35 = some ⟨oc35, od35, .func (PySem.W.fnOf "_behind_slash" "_behind_slash" (defArgs sBs) (defBody sBs) (defScope sBs) .none kV35 dc35 pm35 an35 cv35 ct35), sl35⟩)
    (cc35 : PySem.W.codeIn K cv35 "_behind_slash" = true)
    (k35 : PySem.W.keepIn K (.ref f35) = true)
    (a40 : PySem.W.nsIn K mainGlobals "picture_at" = some (some (.ref f40)))
    (l40 : K.lookup f40 = some ⟨oc40, od40, .func (PySem.W.fnOf "picture_at" "picture_at" (defArgs sPa) (defBody sPa) (defScope sPa) .none kV40 dc40 pm40 an40 cv40 ct40), sl40⟩)
    (cc40 : PySem.W.codeIn K cv40 "picture_at" = true)
    (k40 : PySem.W.keepIn K (.ref f40) = true)
    (a45 : PySem.W.nsIn K mainGlobals "_law_lens" = some (some (.ref f45)))
    (l45 : K.lookup f45 = some ⟨oc45, od45, .func (PySem.W.fnOf "_law_lens" "_law_lens" (defArgs sLens) (defBody sLens) (defScope sLens) .none kV45 dc45 pm45 an45 cv45 ct45), sl45⟩)
    (cc45 : PySem.W.codeIn K cv45 "_law_lens" = true)
    (k45 : PySem.W.keepIn K (.ref f45) = true)
    (a46 : PySem.W.nsIn K mainGlobals "_law_shot" = some (some (.ref f46)))
    (l46 : K.lookup f46 = some ⟨oc46, od46, .func (PySem.W.fnOf "_law_shot" "_law_shot" (defArgs sShot) (defBody sShot) (defScope sShot) .none kV46 dc46 pm46 an46 cv46 ct46), sl46⟩)
    (cc46 : PySem.W.codeIn K cv46 "_law_shot" = true)
    (k46 : PySem.W.keepIn K (.ref f46) = true)
    (a47 : PySem.W.nsIn K mainGlobals "_law_pick" = some (some (.ref f47)))
    (l47 : K.lookup f47 = some ⟨oc47, od47, .func (PySem.W.fnOf "_law_pick" "_law_pick" (defArgs sPick) (defBody sPick) (defScope sPick) .none kV47 dc47 pm47 an47 cv47 ct47), sl47⟩)
    (cc47 : PySem.W.codeIn K cv47 "_law_pick" = true)
    (k47 : PySem.W.keepIn K (.ref f47) = true)
    (a48 : PySem.W.nsIn K mainGlobals "_law_number" = some (some (.ref f48)))
    (l48 : K.lookup f48 = some ⟨oc48, od48, .func (PySem.W.fnOf "_law_number" "_law_number" (defArgs sNu) (defBody sNu) (defScope sNu) .none kV48 dc48 pm48 an48 cv48 ct48), sl48⟩)
    (cc48 : PySem.W.codeIn K cv48 "_law_number" = true)
    (k48 : PySem.W.keepIn K (.ref f48) = true)
    (a49 : PySem.W.nsIn K mainGlobals "_law_places" = some (some (.ref f49)))
    (l49 : K.lookup f49 = some ⟨oc49, od49, .func (PySem.W.fnOf "_law_places" "_law_places" (defArgs sPlc) (defBody sPlc) (defScope sPlc) .none kV49 dc49 pm49 an49 cv49 ct49), sl49⟩)
    (cc49 : PySem.W.codeIn K cv49 "_law_places" = true)
    (k49 : PySem.W.keepIn K (.ref f49) = true)
    (a50 : PySem.W.nsIn K mainGlobals "_law_items" = some (some (.ref f50)))
    (l50 : K.lookup f50 = some ⟨oc50, od50, .func (PySem.W.fnOf "_law_items" "_law_items" (defArgs sIt) (defBody sIt) (defScope sIt) .none kV50 dc50 pm50 an50 cv50 ct50), sl50⟩)
    (cc50 : PySem.W.codeIn K cv50 "_law_items" = true)
    (k50 : PySem.W.keepIn K (.ref f50) = true)
    (a51 : PySem.W.nsIn K mainGlobals "_law_all_items" = some (some (.ref f51)))
    (l51 : K.lookup f51 = some ⟨oc51, od51, .func (PySem.W.fnOf "_law_all_items" "_law_all_items" (defArgs sAi) (defBody sAi) (defScope sAi) .none kV51 dc51 pm51 an51 cv51 ct51), sl51⟩)
    (cc51 : PySem.W.codeIn K cv51 "_law_all_items" = true)
    (k51 : PySem.W.keepIn K (.ref f51) = true)
    (a52 : PySem.W.nsIn K mainGlobals "_law_is_number" = some (some (.ref f52)))
    (l52 : K.lookup f52 = some ⟨oc52, od52, .func (PySem.W.fnOf "_law_is_number" "_law_is_number" (defArgs sIn) (defBody sIn) (defScope sIn) .none kV52 dc52 pm52 an52 cv52 ct52), sl52⟩)
    (cc52 : PySem.W.codeIn K cv52 "_law_is_number" = true)
    (k52 : PySem.W.keepIn K (.ref f52) = true)
    (a53 : PySem.W.nsIn K mainGlobals "_law_in_places" = some (some (.ref f53)))
    (l53 : K.lookup f53 = some ⟨oc53, od53, .func (PySem.W.fnOf "_law_in_places" "_law_in_places" (defArgs sLp) (defBody sLp) (defScope sLp) .none kV53 dc53 pm53 an53 cv53 ct53), sl53⟩)
    (cc53 : PySem.W.codeIn K cv53 "_law_in_places" = true)
    (k53 : PySem.W.keepIn K (.ref f53) = true)
    (a54 : PySem.W.nsIn K mainGlobals "_law_in_album" = some (some (.ref f54)))
    (l54 : K.lookup f54 = some ⟨oc54, od54, .func (PySem.W.fnOf "_law_in_album" "_law_in_album" (defArgs sLa) (defBody sLa) (defScope sLa) .none kV54 dc54 pm54 an54 cv54 ct54), sl54⟩)
    (cc54 : PySem.W.codeIn K cv54 "_law_in_album" = true)
    (k54 : PySem.W.keepIn K (.ref f54) = true)
    (a55 : PySem.W.nsIn K mainGlobals "_law_bent" = some (some (.ref f55)))
    (l55 : K.lookup f55 = some ⟨oc55, od55, .func (PySem.W.fnOf "_law_bent" "_law_bent" (defArgs sBe) (defBody sBe) (defScope sBe) .none kV55 dc55 pm55 an55 cv55 ct55), sl55⟩)
    (cc55 : PySem.W.codeIn K cv55 "_law_bent" = true)
    (k55 : PySem.W.keepIn K (.ref f55) = true)
    (a56 : PySem.W.nsIn K mainGlobals "_law_heard" = some (some (.ref f56)))
    (l56 : K.lookup f56 = some ⟨oc56, od56, .func (PySem.W.fnOf "_law_heard" "_law_heard" (defArgs sHd) (defBody sHd) (defScope sHd) .none kV56 dc56 pm56 an56 cv56 ct56), sl56⟩)
    (cc56 : PySem.W.codeIn K cv56 "_law_heard" = true)
    (k56 : PySem.W.keepIn K (.ref f56) = true)
    (a57 : PySem.W.nsIn K mainGlobals "_law_picture_right" = some (some (.ref f57)))
    (l57 : K.lookup f57 = some ⟨oc57, od57, .func (PySem.W.fnOf "_law_picture_right" "_law_picture_right" (defArgs sPc) (defBody sPc) (defScope sPc) .none kV57 dc57 pm57 an57 (.ref c57) ct57), sl57⟩)
    (cc57 : PySem.W.codeIn K (.ref c57) "_law_picture_right" = true)
    (k57 : PySem.W.keepIn K (.ref f57) = true)
    (a58 : PySem.W.nsIn K mainGlobals "_law_album_right" = some (some (.ref f58)))
    (l58 : K.lookup f58 = some ⟨oc58, od58, .func (PySem.W.fnOf "_law_album_right" "_law_album_right" (defArgs sAb) (defBody sAb) (defScope sAb) .none kV58 dc58 pm58 an58 (.ref c58) ct58), sl58⟩)
    (cc58 : PySem.W.codeIn K (.ref c58) "_law_album_right" = true)
    (k58 : PySem.W.keepIn K (.ref f58) = true)
    (a59 : PySem.W.nsIn K mainGlobals "_law_ends_right" = some (some (.ref f59)))
    (l59 : K.lookup f59 = some ⟨oc59, od59, .func (PySem.W.fnOf "_law_ends_right" "_law_ends_right" (defArgs sEd) (defBody sEd) (defScope sEd) .none kV59 dc59 pm59 an59 cv59 ct59), sl59⟩)
    (cc59 : PySem.W.codeIn K cv59 "_law_ends_right" = true)
    (k59 : PySem.W.keepIn K (.ref f59) = true)
    (a60 : PySem.W.nsIn K mainGlobals "law" = some (some (.ref f60)))
    (l60 : K.lookup f60 = some ⟨oc60, od60, .func (PySem.W.fnOf "law" "law" (defArgs sLaw) (defBody sLaw) (defScope sLaw) .none kV60 dc60 pm60 an60 (.ref c60) ct60), sl60⟩)
    (cc60 : PySem.W.codeIn K (.ref c60) "law" = true)
    (k60 : PySem.W.keepIn K (.ref f60) = true)
    (hd1 : PySem.W.codeHdIn K c57 P1 = true)
    (nT1 : K.lookup P1 = none)
    (hd2 : PySem.W.codeHdIn K c58 P2 = true)
    (nT2 : K.lookup P2 = none)
    (hd3 : PySem.W.codeHdIn K c60 P3 = true)
    (nT3 : K.lookup P3 = none)
    (z_isinstance : PySem.W.nsIn K mainGlobals "isinstance" = some none)
    (z_int : PySem.W.nsIn K mainGlobals "int" = some none)
    (z_bool : PySem.W.nsIn K mainGlobals "bool" = some none)
    (z_list : PySem.W.nsIn K mainGlobals "list" = some none)
    (z_tuple : PySem.W.nsIn K mainGlobals "tuple" = some none)
    (z_all : PySem.W.nsIn K mainGlobals "all" = some none)
    (z_len : PySem.W.nsIn K mainGlobals "len" = some none)
    (z_range : PySem.W.nsIn K mainGlobals "range" = some none)
    (z_abs : PySem.W.nsIn K mainGlobals "abs" = some none)
    (z_str : PySem.W.nsIn K mainGlobals "str" = some none)
    (z_sum : PySem.W.nsIn K mainGlobals "sum" = some none)
    (z_min : PySem.W.nsIn K mainGlobals "min" = some none)
    (z_enumerate : PySem.W.nsIn K mainGlobals "enumerate" = some none)
    (z_any : PySem.W.nsIn K mainGlobals "any" = some none) :
    LamX.LawAtS l w K CX0 14 63 "_law_script" mg fa h := by
  have e := hfa.symm.trans (PySem.W.mg_of X G a60)
  cases e
  have F13 := fun_mk (st := sInt) l13 cc13 k13
  have F14 := fun_mk (st := sWithin) l14 cc14 k14
  have F15 := fun_mk (st := sIsList) l15 cc15 k15
  have F24 := fun_mk (st := sRow) l24 cc24 k24
  have F25 := fun_mk (st := sRows) l25 cc25 k25
  have F26 := fun_mk (st := sPlaces) l26 cc26 k26
  have F27 := fun_mk (st := sSteps) l27 cc27 k27
  have F30 := fun_mk (st := sIof) l30 cc30 k30
  have F31 := fun_mk (st := sWr) l31 cc31 k31
  have F32 := fun_mk (st := sNa) l32 cc32 k32
  have F33 := fun_mk (st := sEn) l33 cc33 k33
  have F34 := fun_mk (st := sPl) l34 cc34 k34
  have F35 := fun_mk (st := sBs) l35 cc35 k35
  have F40 := fun_mk (st := sPa) l40 cc40 k40
  have F45 := fun_mk (st := sLens) l45 cc45 k45
  have F46 := fun_mk (st := sShot) l46 cc46 k46
  have F47 := fun_mk (st := sPick) l47 cc47 k47
  have F48 := fun_mk (st := sNu) l48 cc48 k48
  have F49 := fun_mk (st := sPlc) l49 cc49 k49
  have F50 := fun_mk (st := sIt) l50 cc50 k50
  have F51 := fun_mk (st := sAi) l51 cc51 k51
  have F52 := fun_mk (st := sIn) l52 cc52 k52
  have F53 := fun_mk (st := sLp) l53 cc53 k53
  have F54 := fun_mk (st := sLa) l54 cc54 k54
  have F55 := fun_mk (st := sBe) l55 cc55 k55
  have F56 := fun_mk (st := sHd) l56 cc56 k56
  have F57 := fun_mk (st := sPc) l57 cc57 k57
  have F58 := fun_mk (st := sAb) l58 cc58 k58
  have F59 := fun_mk (st := sEd) l59 cc59 k59
  have F60 := fun_mk (st := sLaw) l60 cc60 k60
  have FxB := fun_mk (st := sAI) lxB cxB kxB
  have FxE := fun_mk (st := sBI) lxE cxE kxE
  have FxF := fun_mk (st := sFI) lxF cxF kxF
  have FxT := fun_mk (st := sTI) lxT cxT kxT
  have FxX := fun_mk (st := sTX) lxX cxX kxX
  have FpI := fun_mk (st := sPI) lpI cpI kpI
  have FpE := fun_mk (st := sEqP) lpE cpE kpE
  have FpS := fun_mk (st := sStrP) lpS cpS kpS
  have FaI := fun_mk (st := sAlI) laI caI kaI
  have FaE := fun_mk (st := sEqA) laE caE kaE
  have FaS := fun_mk (st := sStrA) laS caS kaS
  have FpR := fun_mk (st := sPr) lpR cpR kpR
  have FaR := fun_mk (st := sAr) laR caR kaR
  have B : Bn mg := ⟨PySem.W.mg_none_of X G z_isinstance, PySem.W.mg_none_of X G z_int, PySem.W.mg_none_of X G z_bool, PySem.W.mg_none_of X G z_list, PySem.W.mg_none_of X G z_tuple, PySem.W.mg_none_of X G z_all, PySem.W.mg_none_of X G z_len, PySem.W.mg_none_of X G z_range, PySem.W.mg_none_of X G z_abs, PySem.W.mg_none_of X G z_str, PySem.W.mg_none_of X G z_sum, PySem.W.mg_none_of X G z_min, PySem.W.mg_none_of X G z_enumerate⟩
  have n_any := PySem.W.mg_none_of X G z_any
  obtain ⟨oxxB, exxB, xfxB, noxB, subxB⟩ := badB_ok hB
  obtain ⟨oxxE, exxE, xfxE, noxE, subxE⟩ := badB_ok hE
  obtain ⟨oxxF, exxF, xfxF, noxF, subxF⟩ := badB_ok hF
  obtain ⟨oxxT, exxT, xfxT, no1, no2, subxT⟩ := tooB_ok hT
  obtain ⟨oxxX, exxX, xfxX, no3, no4, subxX⟩ := txtB_ok hX
  obtain ⟨pt, pn, mk, kc⟩ := picB_ok hC
  obtain ⟨at_, an_, amk, akc⟩ := albB_ok hA
  have TBr : BrTxt K mg CE fxE := ⟨oxxE, PySem.W.mg_of X G gCE, noxE, ixE, txE⟩
  have TTr : TmT K mg CT fxT := ⟨oxxT, PySem.W.mg_of X G gCT, no1, no2, ixT, txT⟩
  have TXr : TxT K mg CX fxX := ⟨oxxX, PySem.W.mg_of X G gCX, no3, no4, ixX, txX⟩
  have S : SeT K mg CS CX := ⟨PySem.W.mg_of X G gCS, PySem.W.mg_of X G gCX, subxX, exxX, xfxX, hk3, no3, no4⟩
  have L : ∃ t, mg "LIMIT" = some (.int 1000000000 t) := ⟨tL, PySem.W.mg_of X G gL⟩
  have L4 : ∃ t, mg "FEWEST_PINS" = some (.int 4 t) := ⟨t4, PySem.W.mg_of X G g4⟩
  have L7 : ∃ t, mg "MOST_PINS" = some (.int 7 t) := ⟨t7, PySem.W.mg_of X G g7⟩
  have L8 : ∃ t, mg "MOST_PICTURES" = some (.int 8 t) := ⟨t8, PySem.W.mg_of X G g8⟩
  have L60 : ∃ t, mg "MOST_DIGITS" = some (.int 60 t) := ⟨t60, PySem.W.mg_of X G g60⟩
  refine ⟨PySem.W.fnOf "law" "law" (defArgs sLaw) (defBody sLaw) (defScope sLaw) .none kV60 dc60 pm60 an60 (.ref c60) ct60, [(c57, P1), (c58, P2), (c60, P3)], spLaw K [(P1, qPc), (P2, qAb), (P3, qLaw)], fun p hp => ?_, fun p hp => ?_, fun p hp => ?_, fun s u => .of_eq rfl, fun H a ns hl _ hT hS => ?_, fun base _ _ TBs => ?_⟩
  · simp only [List.mem_cons, List.not_mem_nil, or_false] at hp
    rcases hp with rfl | rfl | rfl
    · exact tab1
    · exact tab2
    · exact tab3
  · simp only [List.mem_cons, List.not_mem_nil, or_false] at hp
    rcases hp with rfl | rfl | rfl
    · exact nT1
    · exact nT2
    · exact nT3
  · simp only [List.mem_cons, List.not_mem_nil, or_false] at hp
    rcases hp with rfl | rfl | rfl
    · exact PySem.W.codeHd_of_K X hd1
    · exact PySem.W.codeHd_of_K X hd2
    · exact PySem.W.codeHd_of_K X hd3
  · refine ⟨a, ns, rfl, hS, hl, fun x hx => ?_, fun _ => rfl⟩
    simp only [List.mem_cons, List.not_mem_nil, or_false] at hx
    rcases hx with rfl | rfl | rfl
    · exact LamX.TabS.nil (hT (c57, P1) (by simp))
    · exact LamX.TabS.nil (hT (c58, P2) (by simp))
    · exact LamX.TabS.nil (hT (c60, P3) (by simp))
  · have MB : ErM l.prog w K mg base "BadAlbum" "part" CB := ⟨fxB, _, ⟨oxxB, PySem.W.mg_of X G gCB, noxB, ixB, txB⟩, ok_ai FxB, FxB.binds (ps := ["self", "part"]) fun _ _ _ _ _ _ us hl => match us, hl with | [_, _], _ => rfl⟩
    have MF : ErM l.prog w K mg base "Misfit" "part" CF := ⟨fxF, _, ⟨oxxF, PySem.W.mg_of X G gCF, noxF, ixF, txF⟩, ok_fi FxF, FxF.binds (ps := ["self", "part"]) fun _ _ _ _ _ _ us hl => match us, hl with | [_, _], _ => rfl⟩
    have C13d : Callee l.prog w K mg base CX0 1 "is_integer" ["value"] (spInt K) := ⟨f13, _, PySem.W.mg_of X G a13, F13.kp, F13.binds (ps := ["value"]) fun _ _ _ _ _ _ us hl => match us, hl with | [_], _ => rfl, ok_int F13 B⟩
    have C14d : Callee l.prog w K mg base CX0 2 "is_within" ["value", "least", "most"] (spWithin K) := ⟨f14, _, PySem.W.mg_of X G a14, F14.kp, F14.binds (ps := ["value", "least", "most"]) fun _ _ _ _ _ _ us hl => match us, hl with | [_, _, _], _ => rfl, ok_within F14 C13d⟩
    have C15d : Callee l.prog w K mg base CX0 1 "is_list" ["value"] (spIsList K) := ⟨f15, _, PySem.W.mg_of X G a15, F15.kp, F15.binds (ps := ["value"]) fun _ _ _ _ _ _ us hl => match us, hl with | [_], _ => rfl, ok_isList F15 B⟩
    have C24d : Callee l.prog w K mg base CX0 3 "is_row" ["value", "fewest", "most"] (spRow K) := ⟨f24, _, PySem.W.mg_of X G a24, F24.kp, F24.binds (ps := ["value", "fewest", "most"]) fun _ _ _ _ _ _ us hl => match us, hl with | [_, _, _], _ => rfl, ok_row F24 B L C15d C14d⟩
    have C25d : Callee l.prog w K mg base CX0 4 "are_rows" ["value", "size"] (spRows K) := ⟨f25, _, PySem.W.mg_of X G a25, F25.kp, F25.binds (ps := ["value", "size"]) fun _ _ _ _ _ _ us hl => match us, hl with | [_, _], _ => rfl, ok_rows F25 B C15d C24d⟩
    have C26d : Callee l.prog w K mg base CX0 5 "are_places" ["value", "size"] (spPlaces K) := ⟨f26, _, PySem.W.mg_of X G a26, F26.kp, F26.binds (ps := ["value", "size"]) fun _ _ _ _ _ _ us hl => match us, hl with | [_, _], _ => rfl, ok_places F26 B C25d⟩
    have C27d : Callee l.prog w K mg base CX0 1 "steps_along" ["places"] spSteps := ⟨f27, _, PySem.W.mg_of X G a27, F27.kp, F27.binds (ps := ["places"]) fun _ _ _ _ _ _ us hl => match us, hl with | [_], _ => rfl, ok_steps F27 B⟩
    have C30d : Callee l.prog w K mg base (L2.CX l.prog w) 3 "items_of" ["text"] (spIof K CX) := ⟨f30, _, PySem.W.mg_of X G a30, F30.kp, F30.binds (ps := ["text"]) fun _ _ _ _ _ _ us hl => match us, hl with | [_], _ => rfl, ok_iof F30 B TXr FxX⟩
    have C31d : Callee l.prog w K mg base CX0 1 "_is_written" ["item"] spWr := ⟨f31, _, PySem.W.mg_of X G a31, F31.kp, F31.binds (ps := ["item"]) fun _ _ _ _ _ _ us hl => match us, hl with | [_], _ => rfl, ok_wr F31 B L60⟩
    have C32d : Callee l.prog w K mg base (L2.CX l.prog w) 3 "number_at" ["items", "at", "least", "most"] (spNa CX) := ⟨f32, _, PySem.W.mg_of X G a32, F32.kp, F32.binds (ps := ["items", "at", "least", "most"]) fun _ _ _ _ _ _ us hl => match us, hl with | [_, _, _, _], _ => rfl, ok_na F32 B TXr FxX C31d C14d⟩
    have C33d : Callee l.prog w K mg base CX0 1 "_ends_at" ["items", "at", "ends"] spEn := ⟨f33, _, PySem.W.mg_of X G a33, F33.kp, F33.binds (ps := ["items", "at", "ends"]) fun _ _ _ _ _ _ us hl => match us, hl with | [_, _, _], _ => rfl, ok_en F33 B⟩
    have C35d : Callee l.prog w K mg base (L2.CX l.prog w) 3 "_behind_slash" ["items", "at", "can_stand"] (spBs CX) := ⟨f35, _, PySem.W.mg_of X G a35, F35.kp, F35.binds (ps := ["items", "at", "can_stand"]) fun _ _ _ _ _ _ us hl => match us, hl with | [_, _, _], _ => rfl, ok_bs F35 B TXr FxX⟩
    have C34d : Callee l.prog w K mg base (L2.CX l.prog w) 4 "places_at" ["items", "at", "fewest", "most", "ends"] (spPl CX) := ⟨f34, _, PySem.W.mg_of X G a34, F34.kp, F34.binds (ps := ["items", "at", "fewest", "most", "ends"]) fun _ _ _ _ _ _ us hl => match us, hl with | [_, _, _, _, _], _ => rfl, ok_pl F34 B L C33d C35d C32d⟩
    have mC := PySem.W.mg_of X G gC
    have mA := PySem.W.mg_of X G gCA
    have GI := ok_pi (P := l.prog) (w := w) (base := base) FpI B pt TBr FxE C26d C27d
    have bI := FpI.binds (ps := ["self", "places"]) fun _ _ _ _ _ _ us hl => match us, hl with | [_, _], _ => rfl
    have MkI : Mk K C fpI := ⟨mk, ipI, npI, kc⟩
    have TP : Pc l.prog w K mg base C CE := ⟨mC, pt, pn, ⟨fpI, _, MkI, GI, bI, kbn17 fun us ws h1 h2 => match us, ws, h1, h2 with | [_], [_], _, _ => rfl⟩, ⟨fpE, _, ok_eqP FpE B pt pn mC, ipE, npE, FpE.binds (ps := ["self", "other"]) fun _ _ _ _ _ _ us hl => match us, hl with | [_, _], _ => rfl⟩, ⟨fpS, _, ok_strP FpS pt, ipS, npS, FpS.binds (ps := ["self"]) fun _ _ _ _ _ _ us hl => match us, hl with | [_], _ => rfl⟩⟩
    have GA := ok_ali (P := l.prog) (w := w) (base := base) FaI B n_any pt at_ mC L8 MB MF TTr FxT C15d
    have bA := FaI.binds (ps := ["self", "pictures"]) fun _ _ _ _ _ _ us hl => match us, hl with | [_, _], _ => rfl
    have MkA : Mk K CA faI := ⟨amk, iaI, naI, akc⟩
    have TA : Ac l.prog w K mg base C CA CB CF CT := ⟨mA, at_, an_, ⟨hx1, hx2⟩, hx3, ⟨faI, _, MkA, GA, bA, kbn17 fun us ws h1 h2 => match us, ws, h1, h2 with | [_], [_], _, _ => rfl⟩, ⟨faE, _, ok_eqA FaE B at_ TP mA, iaE, naE, FaE.binds (ps := ["self", "other"]) fun _ _ _ _ _ _ us hl => match us, hl with | [_, _], _ => rfl⟩, ⟨faS, _, ok_strA FaS B at_ TP, iaS, naS, FaS.binds (ps := ["self"]) fun _ _ _ _ _ _ us hl => match us, hl with | [_], _ => rfl⟩⟩
    have C40d : Callee l.prog w K mg base (L2.CX l.prog w) 8 "picture_at" ["items", "at"] (spPa C CX) := ⟨f40, _, PySem.W.mg_of X G a40, F40.kp, F40.binds (ps := ["items", "at"]) fun _ _ _ _ _ _ us hl => match us, hl with | [_, _], _ => rfl, ok_pa F40 B TP L4 L7 C34d⟩
    have RP : Rd l.prog w K mg base C (spPr K C CX) := ⟨fpR, _, ⟨⟨sapR, sbpR⟩, ⟨_, gppR, _, grpR⟩, FpR.kp⟩, ok_pr FpR B C30d C40d, FpR.binds (ps := ["text"]) fun _ _ _ _ _ _ us hl => match us, hl with | [_], _ => rfl, kbn17 fun us ws h1 h2 => match us, ws, h1, h2 with | [], [_], _, _ => rfl⟩
    have RA : Rd l.prog w K mg base CA (spAr K C CA CX) := ⟨faR, _, ⟨⟨saaR, sbaR⟩, ⟨_, gpaR, _, graR⟩, FaR.kp⟩, ok_ar FaR B TP TA L4 L7 L8 C30d C34d, FaR.binds (ps := ["text"]) fun _ _ _ _ _ _ us hl => match us, hl with | [_], _ => rfl, kbn17 fun us ws h1 h2 => match us, ws, h1, h2 with | [], [_], _, _ => rfl⟩
    have C45d : Callee l.prog w K mg base CX0 1 "_law_lens" ["_law_script"] (spLens K) := ⟨f45, _, PySem.W.mg_of X G a45, F45.kp, F45.binds (ps := ["_law_script"]) fun _ _ _ _ _ _ us hl => match us, hl with | [_], _ => rfl, ok_lens F45 B⟩
    have C46d : Callee l.prog w K mg base CX0 1 "_law_shot" ["_law_lens_here", "_law_many"] spShot := ⟨f46, _, PySem.W.mg_of X G a46, F46.kp, F46.binds (ps := ["_law_lens_here", "_law_many"]) fun _ _ _ _ _ _ us hl => match us, hl with | [_, _], _ => rfl, ok_shot F46 B⟩
    have C47d : Callee l.prog w K mg base CX0 2 "_law_pick" ["_law_lens_here", "_law_some"] spPick := ⟨f47, _, PySem.W.mg_of X G a47, F47.kp, F47.binds (ps := ["_law_lens_here", "_law_some"]) fun _ _ _ _ _ _ us hl => match us, hl with | [_, _], _ => rfl, ok_pick F47 B C46d⟩
    have C48d : Callee l.prog w K mg base CX0 2 "_law_number" ["_law_lens_here"] spNu := ⟨f48, _, PySem.W.mg_of X G a48, F48.kp, F48.binds (ps := ["_law_lens_here"]) fun _ _ _ _ _ _ us hl => match us, hl with | [_], _ => rfl, ok_nu F48 C46d⟩
    have C49d : Callee l.prog w K mg base CX0 3 "_law_places" ["_law_lens_here", "_law_pins"] spPlc := ⟨f49, _, PySem.W.mg_of X G a49, F49.kp, F49.binds (ps := ["_law_lens_here", "_law_pins"]) fun _ _ _ _ _ _ us hl => match us, hl with | [_, _], _ => rfl, ok_plc F49 B C48d⟩
    have C50d : Callee l.prog w K mg base CX0 1 "_law_items" ["_law_places_here"] spIt := ⟨f50, _, PySem.W.mg_of X G a50, F50.kp, F50.binds (ps := ["_law_places_here"]) fun _ _ _ _ _ _ us hl => match us, hl with | [_], _ => rfl, ok_it F50 B⟩
    have C51d : Callee l.prog w K mg base CX0 2 "_law_all_items" ["_law_told"] spAi := ⟨f51, _, PySem.W.mg_of X G a51, F51.kp, F51.binds (ps := ["_law_told"]) fun _ _ _ _ _ _ us hl => match us, hl with | [_], _ => rfl, ok_alit F51 B C50d⟩
    have C52d : Callee l.prog w K mg base CX0 1 "_law_is_number" ["_law_items_here", "_law_at"] spIn := ⟨f52, _, PySem.W.mg_of X G a52, F52.kp, F52.binds (ps := ["_law_items_here", "_law_at"]) fun _ _ _ _ _ _ us hl => match us, hl with | [_, _], _ => rfl, ok_in F52 B⟩
    have C53d : Callee l.prog w K mg base CX0 2 "_law_in_places" ["_law_items_here", "_law_at", "_law_fewest", "_law_most"] spLp := ⟨f53, _, PySem.W.mg_of X G a53, F53.kp, F53.binds (ps := ["_law_items_here", "_law_at", "_law_fewest", "_law_most"]) fun _ _ _ _ _ _ us hl => match us, hl with | [_, _, _, _], _ => rfl, ok_lp' F53 B C52d⟩
    have C54d : Callee l.prog w K mg base CX0 3 "_law_in_album" ["_law_items_here"] spLa := ⟨f54, _, PySem.W.mg_of X G a54, F54.kp, F54.binds (ps := ["_law_items_here"]) fun _ _ _ _ _ _ us hl => match us, hl with | [_], _ => rfl, ok_la F54 B C53d⟩
    have C55d : Callee l.prog w K mg base CX0 3 "_law_bent" ["_law_lens_here", "_law_items_here"] spBe := ⟨f55, _, PySem.W.mg_of X G a55, F55.kp, F55.binds (ps := ["_law_lens_here", "_law_items_here"]) fun _ _ _ _ _ _ us hl => match us, hl with | [_, _], _ => rfl, ok_be F55 B C46d C47d⟩
    have mH := PySem.W.mg_of X G a56
    have hm1 : (P1, qPc) ∈ [(P1, qPc), (P2, qAb), (P3, qLaw)] := by simp
    have hu1 : ∀ x ∈ [(P1, qPc), (P2, qAb), (P3, qLaw)], x.1 = P1 → x.2 = qPc := fun x hx e => by
      simp only [List.mem_cons, List.not_mem_nil, or_false] at hx
      rcases hx with rfl | rfl | rfl
      · rfl
      · exact absurd e n12.symm
      · exact absurd e n13.symm
    have TB1 := TBs (c57, P1) (by simp)
    have hm2 : (P2, qAb) ∈ [(P1, qPc), (P2, qAb), (P3, qLaw)] := by simp
    have hu2 : ∀ x ∈ [(P1, qPc), (P2, qAb), (P3, qLaw)], x.1 = P2 → x.2 = qAb := fun x hx e => by
      simp only [List.mem_cons, List.not_mem_nil, or_false] at hx
      rcases hx with rfl | rfl | rfl
      · exact absurd e n12
      · rfl
      · exact absurd e n23.symm
    have TB2 := TBs (c58, P2) (by simp)
    have hm3 : (P3, qLaw) ∈ [(P1, qPc), (P2, qAb), (P3, qLaw)] := by simp
    have hu3 : ∀ x ∈ [(P1, qPc), (P2, qAb), (P3, qLaw)], x.1 = P3 → x.2 = qLaw := fun x hx e => by
      simp only [List.mem_cons, List.not_mem_nil, or_false] at hx
      rcases hx with rfl | rfl | rfl
      · exact absurd e n13
      · exact absurd e n23
      · rfl
    have TB3 := TBs (c60, P3) (by simp)
    have C57d : Callee l.prog w K mg base CX0 12 "_law_picture_right" ["_law_items_here"] (spRt [(P1, qPc), (P2, qAb), (P3, qLaw)]) := ⟨f57, _, PySem.W.mg_of X G a57, F57.kp, F57.binds (ps := ["_law_items_here"]) fun _ _ _ _ _ _ us hl => match us, hl with | [_], _ => rfl, ok_pc hm1 hu1 l57 cc57 TB1 B TP RP hk1 S F56 mH C53d⟩
    have C58d : Callee l.prog w K mg base CX0 12 "_law_album_right" ["_law_items_here"] (spRt [(P1, qPc), (P2, qAb), (P3, qLaw)]) := ⟨f58, _, PySem.W.mg_of X G a58, F58.kp, F58.binds (ps := ["_law_items_here"]) fun _ _ _ _ _ _ us hl => match us, hl with | [_], _ => rfl, ok_ab hm2 hu2 l58 cc58 TB2 B TP TA RA hk2 S F56 mH C54d⟩
    have C59d : Callee l.prog w K mg base CX0 13 "_law_ends_right" ["_law_lens_here", "_law_told"] (spEd [(P1, qPc), (P2, qAb), (P3, qLaw)]) := ⟨f59, _, PySem.W.mg_of X G a59, F59.kp, F59.binds (ps := ["_law_lens_here", "_law_told"]) fun _ _ _ _ _ _ us hl => match us, hl with | [_, _], _ => rfl, ok_ed F59 B C51d C50d C49d C47d C57d C58d⟩
    exact ok_law hm3 hu3 l60 cc60 TB3 B TP TA RP RA hk4 hk5 S F56 mH C45d C47d C49d C51d C50d C58d C57d C59d C55d
end K17

open PySem PySem.W PyProof.Rows in
set_option maxRecDepth 100000 in
set_option maxHeartbeats 0 in
theorem PySem.Challenge.cw_farseen_k17_texts_of_pictures_and_albums_holds : PySem.Challenge.rw_farseen_k17_texts_of_pictures_and_albums.Holds := by
  w_on; o_law; k_head; (case hw => w_witness2)
  k_fill
  refine LamX.walk_ofTs (l := PySem.Challenge.rw_farseen_k17_texts_of_pictures_and_albums) (n := 63) (k := 14) (x := "_law_script") (CX := fun _ => L2.CX0) rfl (by decide) rfl ⟨rfl, by decide, by decide⟩ (fun w h Y => PySem.W.km_in_of Y) ?F (fun _ _ _ _ _ z => z)
  case F =>
    intro w mg fa h Y KX G hmg
    refine' K17.all_mk (P1 := 598) (P2 := 603) (P3 := 613) KX G hmg (PySem.W.km_tabs_of Y 598 (by decide)) (PySem.W.km_tabs_of Y 603 (by decide)) (PySem.W.km_tabs_of Y 613 (by decide)) (by decide) (by decide) (by decide) ?gC ?gCA ?gCS ?gCB ?gCE ?gCF ?gCT ?gCX ?gL ?g4 ?g7 ?g8 ?g60 ?ixB ?txB ?ixE ?txE ?ixF ?txF ?ixT ?txT ?ixX ?txX ?ipI ?npI ?ipE ?npE ?ipS ?npS ?iaI ?naI ?iaE ?naE ?iaS ?naS ?sapR ?sbpR ?gppR ?grpR ?saaR ?sbaR ?gpaR ?graR ?lxB ?cxB ?kxB ?lxE ?cxE ?kxE ?lxF ?cxF ?kxF ?lxT ?cxT ?kxT ?lxX ?cxX ?kxX ?lpI ?cpI ?kpI ?lpE ?cpE ?kpE ?lpS ?cpS ?kpS ?laI ?caI ?kaI ?laE ?caE ?kaE ?laS ?caS ?kaS ?lpR ?cpR ?kpR ?laR ?caR ?kaR ?hB ?hE ?hF ?hT ?hX ?hC ?hA ?hx1 ?hx2 ?hx3 ?hk1 ?hk2 ?hk3 ?hk4 ?hk5 ?a13 ?l13 ?cc13 ?k13 ?a14 ?l14 ?cc14 ?k14 ?a15 ?l15 ?cc15 ?k15 ?a24 ?l24 ?cc24 ?k24 ?a25 ?l25 ?cc25 ?k25 ?a26 ?l26 ?cc26 ?k26 ?a27 ?l27 ?cc27 ?k27 ?a30 ?l30 ?cc30 ?k30 ?a31 ?l31 ?cc31 ?k31 ?a32 ?l32 ?cc32 ?k32 ?a33 ?l33 ?cc33 ?k33 ?a34 ?l34 ?cc34 ?k34 ?a35 ?l35 ?cc35 ?k35 ?a40 ?l40 ?cc40 ?k40 ?a45 ?l45 ?cc45 ?k45 ?a46 ?l46 ?cc46 ?k46 ?a47 ?l47 ?cc47 ?k47 ?a48 ?l48 ?cc48 ?k48 ?a49 ?l49 ?cc49 ?k49 ?a50 ?l50 ?cc50 ?k50 ?a51 ?l51 ?cc51 ?k51 ?a52 ?l52 ?cc52 ?k52 ?a53 ?l53 ?cc53 ?k53 ?a54 ?l54 ?cc54 ?k54 ?a55 ?l55 ?cc55 ?k55 ?a56 ?l56 ?cc56 ?k56 ?a57 ?l57 ?cc57 ?k57 ?a58 ?l58 ?cc58 ?k58 ?a59 ?l59 ?cc59 ?k59 ?a60 ?l60 ?cc60 ?k60 ?hd1 ?nT1 ?hd2 ?nT2 ?hd3 ?nT3 ?z_isinstance ?z_int ?z_bool ?z_list ?z_tuple ?z_all ?z_len ?z_range ?z_abs ?z_str ?z_sum ?z_min ?z_enumerate ?z_any
    (case gC => k_is)
    (case gCA => k_is)
    (case gCS => k_is)
    (case gCB => k_is)
    (case gCE => k_is)
    (case gCF => k_is)
    (case gCT => k_is)
    (case gCX => k_is)
    (case gL => k_is)
    (case g4 => k_is)
    (case g7 => k_is)
    (case g8 => k_is)
    (case g60 => k_is)
    (case ixB => k_is)
    (case txB => k_is)
    (case ixE => k_is)
    (case txE => k_is)
    (case ixF => k_is)
    (case txF => k_is)
    (case ixT => k_is)
    (case txT => k_is)
    (case ixX => k_is)
    (case txX => k_is)
    (case ipI => k_is)
    (case npI => k_is)
    (case ipE => k_is)
    (case npE => k_is)
    (case ipS => k_is)
    (case npS => k_is)
    (case iaI => k_is)
    (case naI => k_is)
    (case iaE => k_is)
    (case naE => k_is)
    (case iaS => k_is)
    (case naS => k_is)
    (case sapR => k_is)
    (case sbpR => k_is)
    (case gppR => k_is)
    (case grpR => k_is)
    (case saaR => k_is)
    (case sbaR => k_is)
    (case gpaR => k_is)
    (case graR => k_is)
    (case lxB => k_is)
    (case cxB => k_is)
    (case kxB => k_is)
    (case lxE => k_is)
    (case cxE => k_is)
    (case kxE => k_is)
    (case lxF => k_is)
    (case cxF => k_is)
    (case kxF => k_is)
    (case lxT => k_is)
    (case cxT => k_is)
    (case kxT => k_is)
    (case lxX => k_is)
    (case cxX => k_is)
    (case kxX => k_is)
    (case lpI => k_is)
    (case cpI => k_is)
    (case kpI => k_is)
    (case lpE => k_is)
    (case cpE => k_is)
    (case kpE => k_is)
    (case lpS => k_is)
    (case cpS => k_is)
    (case kpS => k_is)
    (case laI => k_is)
    (case caI => k_is)
    (case kaI => k_is)
    (case laE => k_is)
    (case caE => k_is)
    (case kaE => k_is)
    (case laS => k_is)
    (case caS => k_is)
    (case kaS => k_is)
    (case lpR => k_is)
    (case cpR => k_is)
    (case kpR => k_is)
    (case laR => k_is)
    (case caR => k_is)
    (case kaR => k_is)
    (case hB => first | kernel_rfl | k_is | rfl)
    (case hE => first | kernel_rfl | k_is | rfl)
    (case hF => first | kernel_rfl | k_is | rfl)
    (case hT => first | kernel_rfl | k_is | rfl)
    (case hX => first | kernel_rfl | k_is | rfl)
    (case hC => first | kernel_rfl | k_is | rfl)
    (case hA => first | kernel_rfl | k_is | rfl)
    (case hx1 => first | kernel_rfl | k_is | rfl)
    (case hx2 => first | kernel_rfl | k_is | rfl)
    (case hx3 => first | kernel_rfl | k_is | rfl)
    (case hk1 => first | kernel_rfl | k_is | rfl)
    (case hk2 => first | kernel_rfl | k_is | rfl)
    (case hk3 => first | kernel_rfl | k_is | rfl)
    (case hk4 => first | kernel_rfl | k_is | rfl)
    (case hk5 => first | kernel_rfl | k_is | rfl)
    (case a13 => k_is)
    (case l13 => k_is)
    (case cc13 => k_is)
    (case k13 => k_is)
    (case a14 => k_is)
    (case l14 => k_is)
    (case cc14 => k_is)
    (case k14 => k_is)
    (case a15 => k_is)
    (case l15 => k_is)
    (case cc15 => k_is)
    (case k15 => k_is)
    (case a24 => k_is)
    (case l24 => k_is)
    (case cc24 => k_is)
    (case k24 => k_is)
    (case a25 => k_is)
    (case l25 => k_is)
    (case cc25 => k_is)
    (case k25 => k_is)
    (case a26 => k_is)
    (case l26 => k_is)
    (case cc26 => k_is)
    (case k26 => k_is)
    (case a27 => k_is)
    (case l27 => k_is)
    (case cc27 => k_is)
    (case k27 => k_is)
    (case a30 => k_is)
    (case l30 => k_is)
    (case cc30 => k_is)
    (case k30 => k_is)
    (case a31 => k_is)
    (case l31 => k_is)
    (case cc31 => k_is)
    (case k31 => k_is)
    (case a32 => k_is)
    (case l32 => k_is)
    (case cc32 => k_is)
    (case k32 => k_is)
    (case a33 => k_is)
    (case l33 => k_is)
    (case cc33 => k_is)
    (case k33 => k_is)
    (case a34 => k_is)
    (case l34 => k_is)
    (case cc34 => k_is)
    (case k34 => k_is)
    (case a35 => k_is)
    (case l35 => k_is)
    (case cc35 => k_is)
    (case k35 => k_is)
    (case a40 => k_is)
    (case l40 => k_is)
    (case cc40 => k_is)
    (case k40 => k_is)
    (case a45 => k_is)
    (case l45 => k_is)
    (case cc45 => k_is)
    (case k45 => k_is)
    (case a46 => k_is)
    (case l46 => k_is)
    (case cc46 => k_is)
    (case k46 => k_is)
    (case a47 => k_is)
    (case l47 => k_is)
    (case cc47 => k_is)
    (case k47 => k_is)
    (case a48 => k_is)
    (case l48 => k_is)
    (case cc48 => k_is)
    (case k48 => k_is)
    (case a49 => k_is)
    (case l49 => k_is)
    (case cc49 => k_is)
    (case k49 => k_is)
    (case a50 => k_is)
    (case l50 => k_is)
    (case cc50 => k_is)
    (case k50 => k_is)
    (case a51 => k_is)
    (case l51 => k_is)
    (case cc51 => k_is)
    (case k51 => k_is)
    (case a52 => k_is)
    (case l52 => k_is)
    (case cc52 => k_is)
    (case k52 => k_is)
    (case a53 => k_is)
    (case l53 => k_is)
    (case cc53 => k_is)
    (case k53 => k_is)
    (case a54 => k_is)
    (case l54 => k_is)
    (case cc54 => k_is)
    (case k54 => k_is)
    (case a55 => k_is)
    (case l55 => k_is)
    (case cc55 => k_is)
    (case k55 => k_is)
    (case a56 => k_is)
    (case l56 => k_is)
    (case cc56 => k_is)
    (case k56 => k_is)
    (case a57 => k_is)
    (case l57 => k_is)
    (case cc57 => k_is)
    (case k57 => k_is)
    (case a58 => k_is)
    (case l58 => k_is)
    (case cc58 => k_is)
    (case k58 => k_is)
    (case a59 => k_is)
    (case l59 => k_is)
    (case cc59 => k_is)
    (case k59 => k_is)
    (case a60 => k_is)
    (case l60 => k_is)
    (case cc60 => k_is)
    (case k60 => k_is)
    (case hd1 => first | kernel_rfl | rfl)
    (case nT1 => first | kernel_rfl | rfl)
    (case hd2 => first | kernel_rfl | rfl)
    (case nT2 => first | kernel_rfl | rfl)
    (case hd3 => first | kernel_rfl | rfl)
    (case nT3 => first | kernel_rfl | rfl)
    (case z_isinstance => k_is)
    (case z_int => k_is)
    (case z_bool => k_is)
    (case z_list => k_is)
    (case z_tuple => k_is)
    (case z_all => k_is)
    (case z_len => k_is)
    (case z_range => k_is)
    (case z_abs => k_is)
    (case z_str => k_is)
    (case z_sum => k_is)
    (case z_min => k_is)
    (case z_enumerate => k_is)
    (case z_any => k_is)
