import PyProof.Rows.All
import Wide.All
import OpenK.AllK
import Wide.FinOn
import HandS.ForMost
import HandS.IsInst
import HandS.Gcd
import HandS.Wide
import HandS.ExcInit
import HandS.WordsExc
import HandS.ExcIs
import HandS.Style
import KE.KExcIs
import HandS.Lambda
import HandS.ExcValue
import HandS.ExcField
import HandS.CallLocal
import HandS.NoneIn
import HandS.EndTab
import KE.KNestM
import HandS.HeadWalk
import PySem.Challenge.RW_farseen_k04_ratios_in_lowest_terms
set_option Elab.async false
set_option linter.all false
set_option maxRecDepth 100000
set_option maxHeartbeats 8000000
namespace K4
def gcdI (p q : Int) : Nat := Nat.gcd p.natAbs q.natAbs
def lowG (n d : Int) : Int := if d < 0 then -((gcdI n d : Nat) : Int) else ((gcdI n d : Nat) : Int)
def low (n d : Int) : Int × Int := (n.fdiv (lowG n d), d.fdiv (lowG n d))
theorem lowG_dvd (n d : Int) : lowG n d ∣ n ∧ lowG n d ∣ d := by
  have h1 : ((gcdI n d : Nat) : Int) ∣ n := Int.ofNat_dvd_left.mpr (Nat.gcd_dvd_left _ _)
  have h2 : ((gcdI n d : Nat) : Int) ∣ d := Int.ofNat_dvd_left.mpr (Nat.gcd_dvd_right _ _)
  unfold lowG
  split
  · exact ⟨Int.neg_dvd.mpr h1, Int.neg_dvd.mpr h2⟩
  · exact ⟨h1, h2⟩
theorem gcdI_pos {n d : Int} (h : d ≠ 0) : 0 < gcdI n d := Nat.gcd_pos_of_pos_right _ (Int.natAbs_pos.mpr h)
theorem lowG_ne {n d : Int} (h : d ≠ 0) : lowG n d ≠ 0 := by
  have := gcdI_pos (n := n) h
  unfold lowG
  split <;> omega
theorem lowG_abs (n d : Int) : (lowG n d).natAbs = gcdI n d := by
  unfold lowG
  split <;> simp
theorem low_eq {n d : Int} (h : d ≠ 0) : n = lowG n d * (low n d).1 ∧ d = lowG n d * (low n d).2 := by
  obtain ⟨⟨a, ha⟩, b, hb⟩ := lowG_dvd n d
  have hg := lowG_ne (n := n) h
  unfold low
  constructor
  · show n = lowG n d * n.fdiv (lowG n d)
    have e : n.fdiv (lowG n d) = a := by
      conv => lhs; lhs; rw [ha]
      exact Int.mul_fdiv_cancel_left a hg
    rw [e, ← ha]
  · show d = lowG n d * d.fdiv (lowG n d)
    have e : d.fdiv (lowG n d) = b := by
      conv => lhs; lhs; rw [hb]
      exact Int.mul_fdiv_cancel_left b hg
    rw [e, ← hb]
theorem Int.pos_of_mul_pos_of_pos' {a b : Int} (h : 0 < a * b) (ha : 0 < a) : 0 < b := by
  rcases Int.lt_or_le 0 b with z | z
  · exact z
  · have := Int.mul_nonpos_of_nonneg_of_nonpos (Int.le_of_lt ha) z
    omega
theorem low_pos {n d : Int} (h : d ≠ 0) : 0 < (low n d).2 := by
  have e := (low_eq (n := n) h).2
  have g := gcdI_pos (n := n) h
  by_cases hd : d < 0
  · have hg : lowG n d = -((gcdI n d : Nat) : Int) := by unfold lowG; rw [if_pos hd]
    rw [hg] at e
    have : 0 < ((gcdI n d : Nat) : Int) * (low n d).2 := by
      have : -((gcdI n d : Nat) : Int) * (low n d).2 = -(((gcdI n d : Nat) : Int) * (low n d).2) := Int.neg_mul _ _
      omega
    exact Int.pos_of_mul_pos_of_pos' this (by omega)
  · have hg : lowG n d = ((gcdI n d : Nat) : Int) := by unfold lowG; rw [if_neg hd]
    rw [hg] at e
    have : 0 < ((gcdI n d : Nat) : Int) * (low n d).2 := by omega
    exact Int.pos_of_mul_pos_of_pos' this (by omega)
theorem low_gcd {n d : Int} (h : d ≠ 0) : gcdI (low n d).1 (low n d).2 = 1 := by
  obtain ⟨e1, e2⟩ := low_eq (n := n) h
  have g := gcdI_pos (n := n) h
  have a1 : n.natAbs = gcdI n d * (low n d).1.natAbs := by
    conv => lhs; rw [e1]
    rw [Int.natAbs_mul, lowG_abs]
  have a2 : d.natAbs = gcdI n d * (low n d).2.natAbs := by
    conv => lhs; rw [e2]
    rw [Int.natAbs_mul, lowG_abs]
  have z : gcdI n d = gcdI n d * gcdI (low n d).1 (low n d).2 := by
    conv => lhs; unfold gcdI; rw [a1, a2, Nat.gcd_mul_left]
    rfl
  have : gcdI n d * 1 = gcdI n d * gcdI (low n d).1 (low n d).2 := by omega
  exact (Nat.eq_of_mul_eq_mul_left g this).symm
theorem low_cross {n d : Int} (h : d ≠ 0) : (low n d).1 * d = n * (low n d).2 := by
  obtain ⟨e1, e2⟩ := low_eq (n := n) h
  generalize (low n d).1 = p at e1 e2 ⊢
  generalize (low n d).2 = q at e1 e2 ⊢
  generalize lowG n d = g at e1 e2
  subst e2
  rw [e1]
  grind
theorem low_le {n d : Int} (h : d ≠ 0) : (low n d).1.natAbs ≤ n.natAbs ∧ (low n d).2.natAbs ≤ d.natAbs := by
  obtain ⟨e1, e2⟩ := low_eq (n := n) h
  have g := gcdI_pos (n := n) h
  constructor
  · conv => rhs; rw [e1]
    rw [Int.natAbs_mul, lowG_abs]
    exact Nat.le_mul_of_pos_left _ g
  · conv => rhs; rw [e2]
    rw [Int.natAbs_mul, lowG_abs]
    exact Nat.le_mul_of_pos_left _ g
/-- two ratios in lowest terms, equal as numbers, are one -/
theorem low_one {p q r s : Int} (hq : 0 < q) (hs : 0 < s) (h1 : gcdI p q = 1) (h2 : gcdI r s = 1) (e : p * s = r * q) : p = r ∧ q = s := by
  have en : p.natAbs * s.natAbs = r.natAbs * q.natAbs := by rw [← Int.natAbs_mul, ← Int.natAbs_mul, e]
  have c1 : Nat.Coprime q.natAbs p.natAbs := by rw [Nat.coprime_comm]; exact h1
  have c2 : Nat.Coprime s.natAbs r.natAbs := by rw [Nat.coprime_comm]; exact h2
  have d1 : q.natAbs ∣ s.natAbs := c1.dvd_of_dvd_mul_left ⟨r.natAbs, by rw [en, Nat.mul_comm]⟩
  have d2 : s.natAbs ∣ q.natAbs := c2.dvd_of_dvd_mul_left ⟨p.natAbs, by rw [← en, Nat.mul_comm]⟩
  have eq : q.natAbs = s.natAbs := Nat.dvd_antisymm d1 d2
  have : q = s := by omega
  subst this
  exact ⟨Int.eq_of_mul_eq_mul_right (by omega) e, rfl⟩
end K4

namespace K4
open PySem PySem.Spec PyProof.Rows L2
def top (i : Nat) : Stmt := PySem.Challenge.pw_farseen_k04_ratios_in_lowest_terms.main.body.getD i (.Pass ⟨0, 0, 0, 0⟩)
/-! ### values: kinds -/
def isI : V → Bool
  | .int _ => true
  | _ => false
/-- a value of a built-in kind -/
inductive Kd (H : Hp) : V → String → Prop
  | non : Kd H .non "NoneType"
  | bl (b : Bool) : Kd H (.bl b) "bool"
  | int (i : Int) : Kd H (.int i) "int"
  | str (x : Str) : Kd H (.str x) "str"
  | lst {a : Addr} {xs : List V} (e : H a = some (.lst xs)) : Kd H (.ref a) "list"
  | tup {a : Addr} {xs : List V} (e : H a = some (.tup xs)) : Kd H (.ref a) "tuple"
  | dK {a : Addr} {kvs : List (Key × V)} (e : H a = some (.dK kvs)) : Kd H (.ref a) "dict"
theorem Kd.ty {K : PySem.W.Frag} {H : Hp} {v : V} {t : String} (k : Kd H v t) : TyX K H v (.type t) := by
  cases k with
  | non => exact .base .non
  | bl b => exact .base (.bl b)
  | int i => exact .base (.int i)
  | str x => exact .base (.str x)
  | lst e => exact .base (.lst e)
  | tup e => exact .base (.tup e)
  | dK e => exact .base (.dK e)
theorem Kd.same {H H' : Hp} {v : V} {t : String} (k : Kd H v t) (s : Same H H') : Kd H' v t := by
  cases k with
  | non => exact .non
  | bl b => exact .bl b
  | int i => exact .int i
  | str x => exact .str x
  | lst e => exact .lst (s _ _ e)
  | tup e => exact .tup (s _ _ e)
  | dK e => exact .dK (s _ _ e)
theorem Kd.int? {K : PySem.W.Frag} {H : Hp} {v : V} {t : String} (k : Kd H v t) : ∃ b c, PySem.W.kitOne K (.type t) (.type "int") = some b ∧ PySem.W.kitOne K (.type t) (.type "bool") = some c ∧ (b && !c) = isI v := by
  cases k with
  | non => exact ⟨_, _, kit_ty (by decide +kernel : kitB _ _ = some false), kit_ty (by decide +kernel : kitB _ _ = some false), rfl⟩
  | bl b => exact ⟨_, _, kit_ty (by decide +kernel : kitB _ _ = some true), kit_ty (by decide +kernel : kitB _ _ = some true), rfl⟩
  | int i => exact ⟨_, _, kit_ty (by decide +kernel : kitB _ _ = some true), kit_ty (by decide +kernel : kitB _ _ = some false), rfl⟩
  | str x => exact ⟨_, _, kit_ty (by decide +kernel : kitB _ _ = some false), kit_ty (by decide +kernel : kitB _ _ = some false), rfl⟩
  | lst e => exact ⟨_, _, kit_ty (by decide +kernel : kitB _ _ = some false), kit_ty (by decide +kernel : kitB _ _ = some false), rfl⟩
  | tup e => exact ⟨_, _, kit_ty (by decide +kernel : kitB _ _ = some false), kit_ty (by decide +kernel : kitB _ _ = some false), rfl⟩
  | dK e => exact ⟨_, _, kit_ty (by decide +kernel : kitB _ _ = some false), kit_ty (by decide +kernel : kitB _ _ = some false), rfl⟩
/-- whether it is a list or a tuple -/
def seqT (t : String) : Bool := t == "list" || t == "tuple"
theorem Kd.seq? {K : PySem.W.Frag} {H : Hp} {v : V} {t : String} (k : Kd H v t) : PySem.W.kitAny K (.type t) [.type "list", .type "tuple"] = some (seqT t) := by
  cases k with
  | non => exact kitAny_cons (kit_ty (by decide +kernel : kitB _ _ = some false)) (fun _ => kitAny_cons (kit_ty (by decide +kernel : kitB _ _ = some false)) (fun _ => kitAny_nil) (fun z => nomatch z)) (fun z => nomatch z)
  | bl b => exact kitAny_cons (kit_ty (by decide +kernel : kitB _ _ = some false)) (fun _ => kitAny_cons (kit_ty (by decide +kernel : kitB _ _ = some false)) (fun _ => kitAny_nil) (fun z => nomatch z)) (fun z => nomatch z)
  | int i => exact kitAny_cons (kit_ty (by decide +kernel : kitB _ _ = some false)) (fun _ => kitAny_cons (kit_ty (by decide +kernel : kitB _ _ = some false)) (fun _ => kitAny_nil) (fun z => nomatch z)) (fun z => nomatch z)
  | str x => exact kitAny_cons (kit_ty (by decide +kernel : kitB _ _ = some false)) (fun _ => kitAny_cons (kit_ty (by decide +kernel : kitB _ _ = some false)) (fun _ => kitAny_nil) (fun z => nomatch z)) (fun z => nomatch z)
  | lst e => exact kitAny_cons (kit_ty (by decide +kernel : kitB _ _ = some true)) (fun z => nomatch z) (fun _ => rfl)
  | tup e => exact kitAny_cons (kit_ty (by decide +kernel : kitB _ _ = some false)) (fun _ => kitAny_cons (kit_ty (by decide +kernel : kitB _ _ = some true)) (fun z => nomatch z) (fun _ => rfl)) (fun z => nomatch z)
  | dK e => exact kitAny_cons (kit_ty (by decide +kernel : kitB _ _ = some false)) (fun _ => kitAny_cons (kit_ty (by decide +kernel : kitB _ _ = some false)) (fun _ => kitAny_nil) (fun z => nomatch z)) (fun z => nomatch z)
/-- a list or a tuple of these -/
def Sq (H : Hp) (a : Addr) (xs : List V) : Prop := H a = some (.lst xs) ∨ H a = some (.tup xs)
theorem Sq.same {H H' : Hp} {a : Addr} {xs : List V} (k : Sq H a xs) (s : Same H H') : Sq H' a xs := k.elim (fun e => .inl (s _ _ e)) (fun e => .inr (s _ _ e))
def AllKd (H : Hp) (xs : List V) : Prop := ∀ x ∈ xs, ∃ t, Kd H x t
theorem AllKd.same {H H' : Hp} {xs : List V} (k : AllKd H xs) (s : Same H H') : AllKd H' xs := fun x hx => let ⟨t, h⟩ := k x hx; ⟨t, h.same s⟩
theorem same_new {H : Hp} {p : Addr} {o : HO} (h : H p = none) : Same H (upd H p o) := fun b u e => by
  rw [upd_ne (ne_of_none e h)]
  exact e
/-! ### the built-in names -/
structure Bn (mg : Str → Option Value) : Prop where
  isinstance : mg "isinstance" = none
  int : mg "int" = none
  bool : mg "bool" = none
  list : mg "list" = none
  tuple : mg "tuple" = none
  all : mg "all" = none
  len : mg "len" = none
  range : mg "range" = none
  abs : mg "abs" = none
section
variable {P : Program} {w : World} {K : PySem.W.Frag} {mg : Str → Option Value} {base : Heap}
/-! ### is_integer -/
def spInt : Sp := fun vs H Q _ => ∃ v t, vs = [v] ∧ Kd H v t ∧ Q (.bl (isI v)) H
abbrev sInt : Stmt := top 6
theorem scInt : FnScope ["value"] ["value"] (defScope sInt) := ⟨rfl, rfl, rfl, by decide +kernel, rfl, by decide +kernel, by decide +kernel⟩
theorem ok_int {f : Addr} {fd : FuncData} (F : Fun K "is_integer" "is_integer" sInt f fd) (B : Bn mg) : FnOk P w K mg base CX0 1 f fd ["value"] spInt := by
  refine F.ok scInt (fun vs H Q E h => ?_) (fun cdv A outer s H vs Q E hr h => ?_)
  · obtain ⟨v, t, rfl, _⟩ := h
    rfl
  · obtain ⟨v, t, rfl, k, q⟩ := h
    refine ⟨_, pss_one (ps_ret (pe_and (pe_callB call_isi (by rfl) B.isinstance boot_isinstance (pa_cons (pv 0) (pa_cons (pe_bltn (v := .ty "int") (by rfl) B.int boot_int rfl) pa_nil)))
      (pe_one (pe_not (pe_callB call_isi (by rfl) B.isinstance boot_isinstance (pa_cons (pv 0) (pa_cons (pe_bltn (v := .ty "bool") (by rfl) B.bool boot_bool rfl) pa_nil))))))), ?_⟩
    obtain ⟨b, c, hb, hc, e⟩ := k.int? (K := K)
    refine ⟨_, rfl, _, _, _, _, b, rfl, .ty _, k.ty, hb, b, rfl, ?_⟩
    cases b with
    | true =>
      refine iteT ⟨_, rfl, _, _, _, _, c, rfl, .ty _, k.ty, hc, c, rfl, ?_⟩
      rw [← e] at q
      simpa using q
    | false =>
      refine iteF ?_
      rw [← e] at q
      simpa using q
/-! ### is_list -/
def spIsList : Sp := fun vs H Q _ => ∃ v t, vs = [v] ∧ Kd H v t ∧ ∀ H', Same H H' → Q (.bl (seqT t)) H'
abbrev sIsList : Stmt := top 7
theorem scIsList : FnScope ["value"] ["value"] (defScope sIsList) := ⟨rfl, rfl, rfl, by decide +kernel, rfl, by decide +kernel, by decide +kernel⟩
theorem ok_isList {f : Addr} {fd : FuncData} (F : Fun K "is_list" "is_list" sIsList f fd) (B : Bn mg) : FnOk P w K mg base CX0 1 f fd ["value"] spIsList := by
  refine F.ok scIsList (fun vs H Q E h => ?_) (fun cdv A outer s H vs Q E hr h => ?_)
  · obtain ⟨v, t, rfl, _⟩ := h
    rfl
  · obtain ⟨v, t, rfl, k, q⟩ := h
    refine ⟨_, pss_one (ps_ret (pe_callB call_isiT (by rfl) B.isinstance boot_isinstance (pa_cons (pv 0) (pa_cons (pe_tup (pa_cons (pe_bltn (v := .ty "list") (by rfl) B.list (by decide +kernel) rfl) (pa_cons (pe_bltn (v := .ty "tuple") (by rfl) B.tuple (by decide +kernel) rfl) pa_nil))) pa_nil)))), ?_⟩
    refine ⟨_, rfl, by show 2 ≤ sizeLine; decide, fun p hp => ?_⟩
    exact ⟨_, p, _, _, _, seqT t, rfl, upd_same, .cons (.ty _) (.cons (.ty _) .nil), (k.same (same_new hp)).ty, k.seq?, q _ (same_new hp)⟩
end
end K4

namespace K4
open PySem PySem.Spec PyProof.Rows L2
/-- a def that may be called by its name -/
def Callee (P : Program) (w : World) (K : PySem.W.Frag) (mg : Str → Option Value) (base : Heap) (CX : CXT) (k : Nat) (x : Str) (ps : List Str) (sp : Sp) : Prop :=
  ∃ (f : Addr) (fd : FuncData), mg x = some (.ref f) ∧ PySem.W.keepIn K (.ref f) = true ∧ Binds K fd ps [] ∧ FnOk P w K mg base CX k f fd ps sp
/-- judged: no list and no tuple, or one of these things -/
def Jg (H : Hp) (v : V) : Option (List V) → Prop
  | none => ∃ t, Kd H v t ∧ seqT t = false
  | some xs => ∃ a, v = .ref a ∧ Sq H a xs ∧ AllKd H xs ∧ xs.length ≤ 100
theorem Jg.same {H H' : Hp} {v : V} : ∀ {o : Option (List V)}, Jg H v o → Same H H' → Jg H' v o
  | none, ⟨t, k, e⟩, s => ⟨t, k.same s, e⟩
  | some xs, ⟨a, e, q, k, l⟩, s => ⟨a, e, q.same s, k.same s, l⟩
theorem Jg.kd {H : Hp} {v : V} : ∀ {o : Option (List V)}, Jg H v o → ∃ t, Kd H v t ∧ seqT t = o.isSome
  | none, ⟨t, k, e⟩ => ⟨t, k, e⟩
  | some xs, ⟨a, e, q, k, l⟩ => by
    subst e
    rcases q with q | q
    · exact ⟨_, .lst q, rfl⟩
    · exact ⟨_, .tup q, rfl⟩
def intsB : Option (List V) → Bool
  | none => false
  | some xs => xs.all isI

def ratB : Option (List V) → Bool
  | some [.int p, .int q] => decide (0 < q) && decide (gcdI p q = 1)
  | _ => false
theorem take_more {α : Type} : ∀ {l : List α} {i : Nat} {x : α}, l[i]? = some x → l.take (i + 1) = l.take i ++ [x]
  | [], i, x, h => by simp at h
  | a :: l, 0, x, h => by
    have e : a = x := Option.some.inj h
    subst e
    rfl
  | a :: l, i + 1, x, h => by
    have ih := take_more (l := l) (i := i) (x := x) h
    show a :: l.take (i + 1) = a :: l.take i ++ [x]
    rw [ih]
    rfl
section
variable {P : Program} {w : World} {K : PySem.W.Frag} {mg : Str → Option Value} {base : Heap}
theorem c_int {f : Addr} {fd : FuncData} (F : Fun K "is_integer" "is_integer" sInt f fd) (hm : mg "is_integer" = some (.ref f)) (B : Bn mg) : Callee P w K mg base CX0 1 "is_integer" ["value"] spInt :=
  ⟨f, fd, hm, F.kp, F.binds (ps := ["value"]) fun _ _ _ _ _ _ us hl => match us, hl with | [_], _ => rfl, ok_int F B⟩
theorem c_isList {f : Addr} {fd : FuncData} (F : Fun K "is_list" "is_list" sIsList f fd) (hm : mg "is_list" = some (.ref f)) (B : Bn mg) : Callee P w K mg base CX0 1 "is_list" ["value"] spIsList :=
  ⟨f, fd, hm, F.kp, F.binds (ps := ["value"]) fun _ _ _ _ _ _ us hl => match us, hl with | [_], _ => rfl, ok_isList F B⟩
/-! ### are_integers -/
def spInts : Sp := fun vs H Q _ => ∃ v o, vs = [v] ∧ Jg H v o ∧ ∀ H', Same H H' → Q (.bl (intsB o)) H'
abbrev sInts : Stmt := top 8
theorem scInts : FnScope ["value", "item"] ["value"] (defScope sInts) := ⟨rfl, rfl, rfl, by decide +kernel, rfl, by decide +kernel, by decide +kernel⟩
/-- the comprehension's word -/
def IntsAt (H0 : Hp) (D : Addr) (xs : List V) (i : Nat) (H : Hp) : Prop := Same H0 H ∧ H D = some (.lst ((xs.take i).map fun x => V.bl (isI x)))
theorem ints_step {H0 : Hp} {D : Addr} {xs : List V} {i : Nat} {x : V} {H : Hp} (hD : H0 D = none) (hx : xs[i]? = some x) (p : IntsAt H0 D xs i H) :
    IntsAt H0 D xs (i + 1) (upd H D (.lst ((xs.take i).map (fun x => V.bl (isI x)) ++ [V.bl (isI x)]))) := by
  refine ⟨fun b o e => ?_, ?_⟩
  · rw [upd_ne (ne_of_none e hD)]
    exact p.1 b o e
  · rw [upd_same, take_more hx, List.map_append]
    rfl
theorem len100 {α β : Type} {xs : List α} (h : xs.length ≤ 100) (i : Nat) (f : α → β) : ((xs.take i).map f).length < sizeLine := by
  rw [List.length_map, List.length_take]
  exact small1000 (Nat.le_trans (Nat.min_le_right _ _) (by omega))
theorem all_id {xs : List V} : (xs.map isI).all id = xs.all isI := by
  rw [List.all_map]
  rfl
theorem ok_ints {f : Addr} {fd : FuncData} (F : Fun K "are_integers" "are_integers" sInts f fd) (B : Bn mg) (C1 : Callee P w K mg base CX0 1 "is_integer" ["value"] spInt) (C2 : Callee P w K mg base CX0 1 "is_list" ["value"] spIsList) : FnOk P w K mg base CX0 2 f fd ["value"] spInts := by
  obtain ⟨f1, fd1, m1, k1, b1, G1⟩ := C1
  obtain ⟨f2, fd2, m2, k2, b2, G2⟩ := C2
  refine F.ok scInts (fun vs H Q E h => ?_) (fun cdv A outer s H vs Q E hr h => ?_)
  · obtain ⟨v, o, rfl, _⟩ := h
    rfl
  · obtain ⟨v, o, rfl, j, q⟩ := h
    obtain ⟨t, kd, et⟩ := j.kd
    cases o with
    | none =>
      refine ⟨_, pss_one (ps_ret (pe_and (pe_call G2 hr rfl m2 k2 b2 .nil pass0 (pa_cons (pv 0) pa_nil)) (pe_one (pe_callB (cr_all rfl) (by rfl) B.all boot_all (pa_cons
        (pe_lc (own := [("item", 1)]) (g := gName 1) (tt := tYes) rfl scInts.nd (pi_list (pv 0)) (blkOk_by (N := ["value", "item"]) (sc := defScope sInts) (by decide +kernel)) (fun _ _ _ _ _ => pg_name (i := 1) scInts.nd rfl (Or.inl rfl)) (fun _ _ _ _ _ => pts_nil)
          (fun _ _ _ _ _ => pe_call G1 hr rfl m1 k1 b1 .nil pass0 (pa_cons (pv 1) pa_nil))) pa_nil))))), ?_⟩
      refine ⟨_, rfl, _, t, rfl, kd, fun H1 s1 => ?_⟩
      rw [et]
      exact ⟨_, rfl, iteF (q _ s1)⟩
    | some xs =>
      obtain ⟨a, rfl, hs, hk, hl⟩ := j
      rcases hs with hs | hs
      · refine ⟨_, pss_one (ps_ret (pe_and (pe_call G2 hr rfl m2 k2 b2 .nil pass0 (pa_cons (pv 0) pa_nil)) (pe_one (pe_callB (cr_all rfl) (by rfl) B.all boot_all (pa_cons
          (pe_lc (own := [("item", 1)]) (g := gName 1) (tt := tYes) rfl scInts.nd (pi_list (pv 0)) (blkOk_by (N := ["value", "item"]) (sc := defScope sInts) (by decide +kernel)) (fun _ _ _ _ _ => pg_name (i := 1) scInts.nd rfl (Or.inl rfl)) (fun _ _ _ _ _ => pts_nil)
            (fun _ _ _ _ _ => pe_call G1 hr rfl m1 k1 b1 .nil pass0 (pa_cons (pv 1) pa_nil))) pa_nil))))), ?_⟩
        refine ⟨_, rfl, _, t, rfl, kd, fun H1 s1 => ?_⟩
        rw [et]
        refine ⟨_, rfl, iteT ?_⟩
        refine ⟨_, rfl, a, rfl, ⟨_, SqL.of (s1 _ _ hs)⟩, fun D hD => ?_⟩
        refine lc_list (K := K) (a := a) (xs := xs) (IntsAt H1 D xs) ⟨same_new hD, upd_same⟩ (fun i H' _ p => SqL.of (p.1 _ _ (s1 _ _ hs))) (fun i x H' hx p => ?_) (fun H' p => ?_)
        · obtain ⟨tx, kx⟩ := hk x (List.mem_of_getElem? hx)
          refine ⟨rfl, ?_⟩
          show tCall spInt [] E0 (tCons (tVar 1) tNil) _ H' _
          exact ⟨_, rfl, _, tx, rfl, (kx.same s1).same p.1, _, p.2, len100 hl _ _, ints_step hD hx p⟩
        · have e := p.2
          rw [List.take_length] at e
          refine ⟨D, xs.map isI, rfl, SqL.of (by rw [e, List.map_map]; rfl), ?_⟩
          rw [all_id]
          exact q _ (s1.trans p.1)
      · refine ⟨_, pss_one (ps_ret (pe_and (pe_call G2 hr rfl m2 k2 b2 .nil pass0 (pa_cons (pv 0) pa_nil)) (pe_one (pe_callB (cr_all rfl) (by rfl) B.all boot_all (pa_cons
          (pe_lc (own := [("item", 1)]) (g := gName 1) (tt := tYes) rfl scInts.nd (pi_tup (pv 0)) (blkOk_by (N := ["value", "item"]) (sc := defScope sInts) (by decide +kernel)) (fun _ _ _ _ _ => pg_name (i := 1) scInts.nd rfl (Or.inl rfl)) (fun _ _ _ _ _ => pts_nil)
            (fun _ _ _ _ _ => pe_call G1 hr rfl m1 k1 b1 .nil pass0 (pa_cons (pv 1) pa_nil))) pa_nil))))), ?_⟩
        refine ⟨_, rfl, _, t, rfl, kd, fun H1 s1 => ?_⟩
        rw [et]
        refine ⟨_, rfl, iteT ?_⟩
        refine ⟨_, rfl, a, rfl, ⟨_, SqT.of (s1 _ _ hs)⟩, fun D hD => ?_⟩
        refine lc_tup (K := K) (a := a) (xs := xs) (IntsAt H1 D xs) ⟨same_new hD, upd_same⟩ (fun i H' _ p => SqT.of (p.1 _ _ (s1 _ _ hs))) (fun i x H' hx p => ?_) (fun H' p => ?_)
        · obtain ⟨tx, kx⟩ := hk x (List.mem_of_getElem? hx)
          refine ⟨rfl, ?_⟩
          show tCall spInt [] E0 (tCons (tVar 1) tNil) _ H' _
          exact ⟨_, rfl, _, tx, rfl, (kx.same s1).same p.1, _, p.2, len100 hl _ _, ints_step hD hx p⟩
        · have e := p.2
          rw [List.take_length] at e
          refine ⟨D, xs.map isI, rfl, SqL.of (by rw [e, List.map_map]; rfl), ?_⟩
          rw [all_id]
          exact q _ (s1.trans p.1)
/-! ### is_ratio -/
def spRat : Sp := fun vs H Q _ => ∃ v o, vs = [v] ∧ Jg H v o ∧ ∀ H', Same H H' → Q (.bl (ratB o)) H'
abbrev sRat : Stmt := top 9
theorem scRat : FnScope ["value"] ["value"] (defScope sRat) := ⟨rfl, rfl, rfl, by decide +kernel, rfl, by decide +kernel, by decide +kernel⟩
theorem two_of : ∀ {xs : List V}, xs.all isI = true → xs.length = 2 → ∃ p q : Int, xs = [.int p, .int q]
  | [x, y], h, _ => by
    cases x <;> cases y <;> first | exact ⟨_, _, rfl⟩ | (exact nomatch h)
  | [], _, h => nomatch h
  | [_], _, h => nomatch h
  | _ :: _ :: _ :: _, _, h => by simp at h
theorem ratB_two {xs : List V} (h : ratB (some xs) = true) : ∃ p q : Int, xs = [.int p, .int q] := by
  unfold ratB at h
  split at h
  · rename_i p q e
    exact ⟨p, q, Option.some.inj e⟩
  · cases h
theorem ratB_no {xs : List V} (h : xs.all isI = false) : ratB (some xs) = false := by
  cases e : ratB (some xs) with
  | false => rfl
  | true =>
    obtain ⟨p, q, rfl⟩ := ratB_two e
    cases h
theorem ratB_len {xs : List V} (h : ¬ xs.length = 2) : ratB (some xs) = false := by
  cases e : ratB (some xs) with
  | false => rfl
  | true =>
    obtain ⟨p, q, rfl⟩ := ratB_two e
    exact absurd rfl h
theorem ok_rat {f fg : Addr} {fd : FuncData} (F : Fun K "is_ratio" "is_ratio" sRat f fd) (B : Bn mg) (hg : mg "gcd" = some (.builtin "math.gcd")) (C1 : Callee P w K mg base CX0 2 "are_integers" ["value"] spInts) : FnOk P w K mg base CX0 3 f fd ["value"] spRat := by
  obtain ⟨f1, fd1, m1, k1, b1, G1⟩ := C1
  refine F.ok scRat (fun vs H Q E h => ?_) (fun cdv A outer s H vs Q E hr h => ?_)
  · obtain ⟨v, o, rfl, _⟩ := h
    rfl
  · obtain ⟨v, o, rfl, j, q⟩ := h
    refine ⟨_, pss_cons (ps_if (PW.pt (pw_or (pt_not (pt_val (pe_call G1 hr rfl m1 k1 b1 .nil pass0 (pa_cons (pv 0) pa_nil)))) (pw_or1 (pt_cmpR op_ne (pe_callB call_len_seq (by rfl) B.len PySem.boot_len (pa_cons (pv 0) pa_nil)) pe_int (nomark _))))) (pss_one (ps_ret pe_bl)) pss_nil)
      (pss_one (ps_ret (pe_and (pe_cmpR op_gt (pe_ix ix_seq (pv 0) pe_int (fun _ _ => rfl)) pe_int (nomark _)) (pe_one (pe_cmpR op_eq (pe_callBfun cr_gcd (by rfl) hg (pa_cons (pe_ix ix_seq (pv 0) pe_int (fun _ _ => rfl)) (pa_cons (pe_ix ix_seq (pv 0) pe_int (fun _ _ => rfl)) pa_nil))) pe_int (nomark _)))))), ?_⟩
    refine ⟨_, rfl, _, o, rfl, j, fun H1 s1 => ⟨_, rfl, ?_⟩⟩
    cases o with
    | none => exact iteT (iteT (q _ s1))
    | some xs =>
      cases hi : xs.all isI with
      | false =>
        show if (!intsB (some xs)) = true then _ else _
        have e : intsB (some xs) = false := hi
        rw [e]
        refine iteT (iteT ?_)
        rw [← ratB_no hi]
        exact q _ s1
      | true =>
        obtain ⟨a, rfl, hs, hk, hl⟩ := j
        show if (!intsB (some xs)) = true then _ else _
        have e : intsB (some xs) = true := hi
        rw [e]
        have sq : SqL K H1 a xs ∨ SqT K H1 a xs := hs.elim (fun z => .inl (SqL.of (s1 _ _ z))) (fun z => .inr (SqT.of (s1 _ _ z)))
        refine iteF ⟨_, rfl, a, xs, rfl, sq, rfl, _, rfl, ?_⟩
        by_cases h2 : xs.length = 2
        · obtain ⟨p, r, rfl⟩ := two_of hi h2
          refine iteF ?_
          have ix : ∀ (i : Int) (v : V) (Q : VK), atI [V.int p, V.int r] i = some v → Q v H1 → rIx K (.ref a) (.int i) H1 Q := fun i v Q e h => sq.elim (fun z => .inl ⟨a, _, i, v, rfl, rfl, z, e, h⟩) (fun z => .inr (.inl ⟨a, _, i, v, rfl, rfl, z, e, h⟩))
          refine ⟨_, rfl, ix 1 _ _ rfl ⟨_, _, rfl, rfl, _, rfl, ?_⟩⟩
          by_cases h0 : 0 < r
          · rw [decide_eq_true h0]
            refine iteT ⟨_, rfl, ix 0 _ _ rfl ⟨_, rfl, ix 1 _ _ rfl ⟨_, _, rfl, rfl, ?_⟩⟩⟩
            have q2 := q _ s1
            have e2 : ratB (some [V.int p, V.int r]) = decide (V.int ((Nat.gcd p.natAbs r.natAbs : Nat) : Int) = V.int 1) := by
              show (decide (0 < r) && decide (gcdI p r = 1)) = _
              rw [decide_eq_true h0, Bool.true_and, Bool.eq_iff_iff, decide_eq_true_iff, decide_eq_true_iff]
              unfold gcdI
              constructor
              · intro z; rw [z]; rfl
              · intro z
                have := V.int.inj z
                omega
            rw [e2] at q2
            exact q2
          · rw [decide_eq_false h0]
            refine iteF ?_
            have q2 := q _ s1
            have e2 : ratB (some [V.int p, V.int r]) = false := by
              show (decide (0 < r) && decide (gcdI p r = 1)) = _
              rw [decide_eq_false h0]; rfl
            rw [e2] at q2
            exact q2
        · refine (show if (!decide (V.int xs.length = V.int (2 : Int))) = true then _ else _ from ?_)
          have e2 : decide (V.int xs.length = V.int (2 : Int)) = false := decide_eq_false fun z => h2 (by have := V.int.inj z; omega)
          rw [e2]
          refine iteT ?_
          have q2 := q _ s1
          rw [ratB_len h2] at q2
          exact q2
end
end K4

namespace K4
open PySem PySem.Spec PyProof.Rows L2
/-! ### floor division by any divisor but 0 -/
def CDivWN (_ j : Int) : Prop := j ≠ 0 ∧ j.natAbs.log2 < 9000
theorem op_fdivWN {X : Cx} : OpR X (binaryOp .FloorDiv) (rI CDivWN fun i j => .int (i.fdiv j)) := opI fun _ _ _ _ _ _ _ hc q => floordiv_int hc.1 q (.inl (PyProof.noPylong_of_log2 hc.2))
theorem cdiv_of {i j : Int} {b : Nat} (h : j ≠ 0) (hb : j.natAbs < 2 ^ b) (h0 : 0 < b) (h9 : b ≤ 9000) : CDivWN i j := ⟨h, Nat.lt_of_lt_of_le (PySem.Flt.log2_lt_of h0 hb) h9⟩
/-- the pair as a tuple's items -/
def pr (z : Int × Int) : List V := [.int z.1, .int z.2]
def Tup (H : Hp) (t : Addr) (z : Int × Int) : Prop := H t = some (.tup (pr z))
section
variable {P : Program} {w : World} {K : PySem.W.Frag} {mg : Str → Option Value} {base : Heap}
/-! ### lowest -/
def spLow : Sp := fun vs H Q _ => ∃ n d : Int, vs = [.int n, .int d] ∧ d ≠ 0 ∧ d.natAbs < 2 ^ 8000 ∧ ∀ H' t, Same H H' → H t = none → Tup H' t (low n d) → Q (.ref t) H'
abbrev sLow : Stmt := top 10
theorem scLow : FnScope ["number", "by", "divisor"] ["number", "by"] (defScope sLow) := ⟨rfl, rfl, rfl, by decide +kernel, rfl, by decide +kernel, by decide +kernel⟩
theorem lowG_lt {n d : Int} (h : d ≠ 0) (hd : d.natAbs < 2 ^ 8000) : (lowG n d).natAbs < 2 ^ 8000 := by
  rw [lowG_abs]
  exact Nat.lt_of_le_of_lt (Nat.le_of_dvd (Int.natAbs_pos.mpr h) (Nat.gcd_dvd_right _ _)) hd
theorem ok_low {f : Addr} {fd : FuncData} (F : Fun K "lowest" "lowest" sLow f fd) (hg : mg "gcd" = some (.builtin "math.gcd")) (C1 : Callee P w K mg base CX0 1 "is_integer" ["value"] spInt) : FnOk P w K mg base CX0 2 f fd ["number", "by"] spLow := by
  obtain ⟨f1, fd1, m1, k1, b1, G1⟩ := C1
  refine F.ok scLow (fun vs H Q E h => ?_) (fun cdv A outer s H vs Q E hr h => ?_)
  · obtain ⟨n, d, rfl, _⟩ := h
    rfl
  · obtain ⟨n, d, rfl, hd0, hd, q⟩ := h
    refine ⟨_, pss_cons (ps_if (pt_not (pt_val (pe_call G1 hr rfl m1 k1 b1 .nil pass0 (pa_cons (pv 0) pa_nil)))) pss_never pss_nil)
      (pss_cons (ps_if (PW.pt (pw_or (pt_not (pt_val (pe_call G1 hr rfl m1 k1 b1 .nil pass0 (pa_cons (pv 1) pa_nil)))) (pw_or1 (pt_cmpR op_eq (pv 1) pe_int (nomark _))))) pss_never pss_nil)
      (pss_cons (ps_set (i := 2) scLow.nd rfl (Or.inl rfl) (pe_callBfun cr_gcd (by rfl) hg (pa_cons (pv 0) (pa_cons (pv 1) pa_nil))))
      (pss_cons (ps_if (pt_cmpR op_lt (pv 1) pe_int (nomark _)) (pss_one (ps_set (i := 2) scLow.nd rfl (Or.inl rfl) (pe_un un_neg (pv 2)))) pss_nil)
      (pss_one (ps_ret (pe_tup (pa_cons (pe_op op_fdivWN (pv 0) (pv 2)) (pa_cons (pe_op op_fdivWN (pv 1) (pv 2)) pa_nil)))))))), ?_⟩
    have hG := lowG_ne (n := n) hd0
    have hL := lowG_lt (n := n) hd0 hd
    have fin : ∀ g : Int, g = lowG n d → tRet (tTup (tCons (tOp (rI CDivWN fun i j => .int (i.fdiv j)) (tVar 0) (tVar 2)) (tCons (tOp (rI CDivWN fun i j => .int (i.fdiv j)) (tVar 1) (tVar 2)) tNil))) { nx := fun _ H' => Q .non H', rt := Q } [some (.int n), some (.int d), some (.int g)] H := by
      rintro g rfl
      refine ⟨_, rfl, _, rfl, n, _, rfl, rfl, cdiv_of hG hL (by decide) (by decide), _, rfl, _, rfl, d, _, rfl, rfl, cdiv_of hG hL (by decide) (by decide), by show 2 ≤ sizeLine; decide, fun p hp => ?_⟩
      exact q _ p (same_new hp) hp upd_same
    refine ⟨_, rfl, _, _, rfl, .int n, true, rfl, iteF ?_⟩
    refine ⟨_, rfl, _, _, rfl, .int d, true, rfl, iteF ⟨_, rfl, rfl, _, rfl, ?_⟩⟩
    have e0 : decide (V.int d = V.int 0) = false := decide_eq_false fun z => hd0 (V.int.inj z)
    rw [e0]
    refine iteF ⟨_, rfl, _, rfl, n, d, rfl, ?_⟩
    refine ⟨_, rfl, d, 0, rfl, rfl, _, rfl, ?_⟩
    by_cases hn : d < 0
    · rw [decide_eq_true hn]
      refine iteT ⟨_, rfl, _, rfl, ?_⟩
      exact fin _ (by unfold lowG; rw [if_pos hn]; rfl)
    · rw [decide_eq_false hn]
      refine iteF ?_
      exact fin _ (by unfold lowG; rw [if_neg hn]; rfl)
end
end K4

namespace K4
open PySem PySem.Spec PyProof.Rows L2
/-! ### BadRatio -/
/-- what the top has written of BadRatio (at C), of its __init__ (at fI) -/
structure BrTxt (K : PySem.W.Frag) (mg : Str → Option Value) (C fI : Addr) : Prop where
  oex : OexC K C
  mgC : mg "BadRatio" = some (.ref C)
  noP : PySem.W.findIn K (.ref C) "part" = some none
  iC : PySem.W.findIn K (.ref C) "__init__" = some (some (.ref fI))
  tI : PySem.W.typeIn K (.ref fI) = some (.type "function")
section
variable {P : Program} {w : World} {K : PySem.W.Frag} {mg : Str → Option Value} {base : Heap}
def spInit (K : PySem.W.Frag) (C : Addr) : Sp := fun vs H Q _ => ∃ (a : Addr) (y : V), vs = [.ref a, y] ∧ OexC K C ∧ PySem.W.findIn K (.ref C) "part" = some none ∧ H a = some (exo a C none) ∧
  ∀ dx, H dx = none → dx ≠ a → Q .non (upd (upd H dx (exd dx [(("part" : Str), y)])) a (exo a C (some dx)))
abbrev sInit : Stmt := inClass (top 4) 0
theorem scInit : FnScope ["self", "part"] ["self", "part"] (defScope sInit) := ⟨rfl, rfl, rfl, by decide +kernel, rfl, by decide +kernel, by decide +kernel⟩
theorem ok_init {f C : Addr} {fd : FuncData} (F : Fun K "__init__" "BadRatio.__init__" sInit f fd) : FnOk P w K mg base CX0 1 f fd ["self", "part"] (spInit K C) := by
  refine F.ok scInit (fun vs H Q E h => ?_) (fun cdv A outer s H vs Q E hr h => ?_)
  · obtain ⟨a, y, rfl, _⟩ := h
    rfl
  · obtain ⟨a, y, rfl, T, no, ha, q⟩ := h
    refine ⟨_, pss_one (ps_ost (pv 0) (pv 1)), ?_⟩
    exact ⟨_, rfl, _, rfl, a, C, rfl, T, no, .inl ⟨ha, q⟩⟩
/-! ### _check_both -/
/-- a BadRatio is raised: its own dict d, new, tells the part -/
def Rz (C : Addr) (z : Str) (H : Hp) (E : XK) : Prop := ∀ d H', Same H H' → H d = none → H' d = some (.xd [(("part" : Str), .str z)]) → E (.ref C) (some d) H'
theorem raised {H H1 : Hp} {C a dx : Addr} {z : Str} {E : XK} (h : Rz C z H E) (s1 : Same H H1) (ha : H1 a = none) (hd : upd H1 a (exo a C none) dx = none) (ne : dx ≠ a) :
    E (.ref C) (some dx) (upd (L2.del (upd (upd (upd H1 a (exo a C none)) dx (exd dx [(("part" : Str), V.str z)])) a (exo a C (some dx))) a) dx (.xd [(("part" : Str), V.str z)])) := by
  have hd1 : H1 dx = none := by
    rw [upd_ne ne] at hd
    exact hd
  refine h dx _ (fun b o e => ?_) (s1.free hd1) upd_same
  have e1 := s1 b o e
  have nb : b ≠ dx := ne_of_none e1 hd1
  have na : b ≠ a := ne_of_none e1 ha
  rw [upd_ne nb, del_ne na, upd_ne na, upd_ne nb, upd_ne na]
  exact e1
def spChk (C : Addr) : Sp := fun vs H Q E => ∃ (v u : V) (o1 o2 : Option (List V)), vs = [v, u] ∧ Jg H v o1 ∧ Jg H u o2 ∧ (ratB o1 = false → Rz C "one" H E) ∧ (ratB o1 = true → ratB o2 = false → Rz C "other" H E) ∧
  (ratB o1 = true → ratB o2 = true → ∀ H', Same H H' → Q .non H')
abbrev sChk : Stmt := top 12
theorem scChk : FnScope ["one", "other"] ["one", "other"] (defScope sChk) := ⟨rfl, rfl, rfl, by decide +kernel, rfl, by decide +kernel, by decide +kernel⟩
theorem Rz.same {C : Addr} {z : Str} {H H1 : Hp} {E : XK} (h : Rz C z H E) (s : Same H H1) : Rz C z H1 E := fun d H' s' n e => h d H' (s.trans s') (s.free n) e
theorem ok_chk {f C fI : Addr} {fd fdI : FuncData} (F : Fun K "_check_both" "_check_both" sChk f fd) (T : BrTxt K mg C fI) (FI : Fun K "__init__" "BadRatio.__init__" sInit fI fdI) (C1 : Callee P w K mg base CX0 3 "is_ratio" ["value"] spRat) :
    FnOk P w K mg base (L2.CX P w) 4 f fd ["one", "other"] (spChk C) := by
  obtain ⟨f1, fd1, m1, k1, b1, G1⟩ := C1
  have bI := FI.binds (ps := ["self", "part"]) fun _ _ _ _ _ _ us hl => match us, hl with | [_, _], _ => rfl
  have GI : FnOk P w K mg base CX0 1 fI fdI ["self", "part"] (spInit K C) := ok_init FI
  refine F.okX scChk (fun vs H Q E h => ?_) (fun cdv A outer s H vs Q E hr h => ?_)
  · obtain ⟨v, u, o1, o2, rfl, _⟩ := h
    rfl
  · obtain ⟨v, u, o1, o2, rfl, j1, j2, e1, e2, q⟩ := h
    refine ⟨_, pss_cons (ps_if (pt_not (pt_val (pe_call G1 hr rfl m1 k1 b1 .nil pass0 (pa_cons (pv 0) pa_nil)))) (pss_one (ps_raise rfl (takes_of rfl rfl rfl rfl) (pmk_oex T.oex T.iC T.tI GI (hr.mono (by decide)) bI .nil pass0 rfl T.mgC (pa_cons pe_str pa_nil)))) pss_nil)
      (pss_one (ps_if (pt_not (pt_val (pe_call G1 hr rfl m1 k1 b1 .nil pass0 (pa_cons (pv 1) pa_nil)))) (pss_one (ps_raise rfl (takes_of rfl rfl rfl rfl) (pmk_oex T.oex T.iC T.tI GI (hr.mono (by decide)) bI .nil pass0 rfl T.mgC (pa_cons pe_str pa_nil)))) pss_nil)), ?_⟩
    refine ⟨_, rfl, _, o1, rfl, j1, fun H1 s1 => ⟨_, rfl, ?_⟩⟩
    cases h1 : ratB o1 with
    | false =>
      refine iteT ⟨by show 1 ≤ 1000; decide, fun a ha => ⟨a, _, rfl, T.oex, T.noP, upd_same, fun dx hdx ne => ⟨rfl, dx, _, upd_same, ?_, ?_, raised (e1 h1) s1 ha hdx ne⟩⟩⟩
      · rw [upd_ne ne, upd_same]
      · rw [upd_ne ne] at hdx
        exact hdx
    | true =>
      refine iteF ⟨_, rfl, _, o2, rfl, j2.same s1, fun H2 s2 => ⟨_, rfl, ?_⟩⟩
      cases h2 : ratB o2 with
      | false =>
        refine iteT ⟨by show 1 ≤ 1000; decide, fun a ha => ⟨a, _, rfl, T.oex, T.noP, upd_same, fun dx hdx ne => ⟨rfl, dx, _, upd_same, ?_, ?_, raised (e2 h1 h2) (s1.trans s2) ha hdx ne⟩⟩⟩
        · rw [upd_ne ne, upd_same]
        · rw [upd_ne ne] at hdx
          exact hdx
      | true => exact iteF (q h1 h2 _ (s1.trans s2))
end
end K4

namespace K4
open PySem PySem.Spec PyProof.Rows L2
def Sm (x : Int) : Prop := x.natAbs < 2 ^ 3000
theorem Sm.mul {x y : Int} (h : Sm x) (k : Sm y) : CMulW x y := wide_mul h k (by decide) (by decide) (by decide)
theorem Sm.lt {x y : Int} (h : Sm x) (k : Sm y) : (x * y).natAbs < 2 ^ 8000 := Nat.lt_of_lt_of_le (wide_lt h k) (Nat.pow_le_pow_right (by decide) (by decide))
def cmpI (d : Int) : Int := if d = 0 then 0 else if 0 < d then 1 else -1
/-- a new tuple of these is handed back -/
def RT (z : Int × Int) (H : Hp) (Q : VK) : Prop := ∀ H' t, Same H H' → H t = none → Tup H' t z → Q (.ref t) H'
def RI (z : Int) (H : Hp) (Q : VK) : Prop := ∀ H', Same H H' → Q (.int z) H'
abbrev R4 := Int → Int → Int → Int → Hp → VK → Prop
def rPlus : R4 := fun p q r s => RT (low (p * s + r * q) (q * s))
def rMinus : R4 := fun p q r s => RT (low (p * s - r * q) (q * s))
def rTimes : R4 := fun p q r s => RT (low (p * r) (q * s))
def rOver : R4 := fun p q r s => RT (low (p * s) (q * r))
def rCmp : R4 := fun p q r s => RI (cmpI (p * s - r * q))
def spOp (C : Addr) (zero : Bool) (R : R4) : Sp := fun vs H Q E => ∃ (v u : V) (o1 o2 : Option (List V)), vs = [v, u] ∧ Jg H v o1 ∧ Jg H u o2 ∧ (ratB o1 = false → Rz C "one" H E) ∧ (ratB o1 = true → ratB o2 = false → Rz C "other" H E) ∧
  ∀ p q r s : Int, o1 = some [.int p, .int q] → o2 = some [.int r, .int s] → 0 < q → gcdI p q = 1 → 0 < s → gcdI r s = 1 →
    (zero = true → r = 0 → Rz C "other" H E) ∧ ((zero = true → r ≠ 0) → Sm p ∧ Sm q ∧ Sm r ∧ Sm s ∧ R p q r s H Q)
theorem ratB_some {o : Option (List V)} (h : ratB o = true) : ∃ p q : Int, o = some [.int p, .int q] ∧ 0 < q ∧ gcdI p q = 1 := by
  cases o with
  | none => cases h
  | some xs =>
    obtain ⟨p, q, rfl⟩ := ratB_two h
    have h : (decide (0 < q) && decide (gcdI p q = 1)) = true := h
    rw [Bool.and_eq_true, decide_eq_true_iff, decide_eq_true_iff] at h
    exact ⟨p, q, rfl, h.1, h.2⟩
section
variable {K : PySem.W.Frag} {H : Hp} {v : V} {p q : Int}
theorem ix0 (j : Jg H v (some [.int p, .int q])) {Q : VK} (h : Q (.int p) H) : rIx K v (.int 0) H Q := by
  obtain ⟨a, rfl, hs, _⟩ := j
  rcases hs with z | z
  · exact .inl ⟨a, _, 0, _, rfl, rfl, SqL.of z, rfl, h⟩
  · exact .inr (.inl ⟨a, _, 0, _, rfl, rfl, SqT.of z, rfl, h⟩)
theorem ix1 (j : Jg H v (some [.int p, .int q])) {Q : VK} (h : Q (.int q) H) : rIx K v (.int 1) H Q := by
  obtain ⟨a, rfl, hs, _⟩ := j
  rcases hs with z | z
  · exact .inl ⟨a, _, 1, _, rfl, rfl, SqL.of z, rfl, h⟩
  · exact .inr (.inl ⟨a, _, 1, _, rfl, rfl, SqT.of z, rfl, h⟩)
end
section
variable {P : Program} {w : World} {K : PySem.W.Frag} {mg : Str → Option Value} {base : Heap} {C : Addr}
abbrev sPlus : Stmt := top 13
abbrev sMinus : Stmt := top 14
abbrev sTimes : Stmt := top 15
abbrev sOver : Stmt := top 16
abbrev sCmp : Stmt := top 17
theorem scPlus : FnScope ["one", "other"] ["one", "other"] (defScope sPlus) := ⟨rfl, rfl, rfl, by decide +kernel, rfl, by decide +kernel, by decide +kernel⟩
theorem scMinus : FnScope ["one", "other"] ["one", "other"] (defScope sMinus) := ⟨rfl, rfl, rfl, by decide +kernel, rfl, by decide +kernel, by decide +kernel⟩
theorem scTimes : FnScope ["one", "other"] ["one", "other"] (defScope sTimes) := ⟨rfl, rfl, rfl, by decide +kernel, rfl, by decide +kernel, by decide +kernel⟩
theorem scOver : FnScope ["one", "other"] ["one", "other"] (defScope sOver) := ⟨rfl, rfl, rfl, by decide +kernel, rfl, by decide +kernel, by decide +kernel⟩
theorem scCmp : FnScope ["one", "other", "difference"] ["one", "other"] (defScope sCmp) := ⟨rfl, rfl, rfl, by decide +kernel, rfl, by decide +kernel, by decide +kernel⟩
theorem RT.same {z : Int × Int} {H H1 : Hp} {Q : VK} (h : RT z H Q) (s : Same H H1) : RT z H1 Q := fun H' t s' n e => h H' t (s.trans s') (s.free n) e
theorem RI.same {z : Int} {H H1 : Hp} {Q : VK} (h : RI z H Q) (s : Same H H1) : RI z H1 Q := fun H' s' => h H' (s.trans s')
theorem mul_ne {q s : Int} (h : 0 < q) (k : s ≠ 0) : q * s ≠ 0 := Int.mul_ne_zero (by omega) k
theorem ok_plus {f : Addr} {fd : FuncData} (F : Fun K "plus" "plus" sPlus f fd) (C1 : Callee P w K mg base (L2.CX P w) 4 "_check_both" ["one", "other"] (spChk C)) (C2 : Callee P w K mg base CX0 2 "lowest" ["number", "by"] spLow) :
    FnOk P w K mg base (L2.CX P w) 5 f fd ["one", "other"] (spOp C false rPlus) := by
  obtain ⟨f1, fd1, m1, k1, b1, G1⟩ := C1
  obtain ⟨f2, fd2, m2, k2, b2, G2⟩ := C2
  refine F.okX scPlus (fun vs H Q E h => ?_) (fun cdv A outer s H vs Q E hr h => ?_)
  · obtain ⟨v, u, o1, o2, rfl, _⟩ := h
    rfl
  · obtain ⟨v, u, o1, o2, rfl, j1, j2, e1, e2, q⟩ := h
    refine ⟨_, pss_cons (ps_expr (pe_call (E := E) G1 hr rfl m1 k1 b1 .nil (passes_call (takes_of rfl rfl rfl rfl) (fun _ _ _ _ h => h)) (pa_cons (pv 0) (pa_cons (pv 1) pa_nil))))
      (pss_one (ps_ret (pe_call G2 (hr.mono (by decide)) rfl m2 k2 b2 .nil pass0 (pa_cons (pe_op op_add (pe_op op_mulW (pe_ix ix_seq (pv 0) pe_int (fun _ _ => rfl)) (pe_ix ix_seq (pv 1) pe_int (fun _ _ => rfl))) (pe_op op_mulW (pe_ix ix_seq (pv 1) pe_int (fun _ _ => rfl)) (pe_ix ix_seq (pv 0) pe_int (fun _ _ => rfl))))
        (pa_cons (pe_op op_mulW (pe_ix ix_seq (pv 0) pe_int (fun _ _ => rfl)) (pe_ix ix_seq (pv 1) pe_int (fun _ _ => rfl))) pa_nil))))), ?_⟩
    refine ⟨_, rfl, _, rfl, v, u, o1, o2, rfl, j1, j2, e1, e2, fun h1 h2 H1 s1 => ?_⟩
    obtain ⟨a, b, rfl, hb, hab⟩ := ratB_some h1
    obtain ⟨c, d, rfl, hd, hcd⟩ := ratB_some h2
    obtain ⟨_, q⟩ := q a b c d rfl rfl hb hab hd hcd
    obtain ⟨ha, hbS, hc, hdS, q⟩ := q (fun z => nomatch z)
    have i1 := j1.same s1
    have i2 := j2.same s1
    exact ⟨_, rfl, ix0 i1 ⟨_, rfl, ix1 i2 ⟨_, _, rfl, rfl, ha.mul hdS, _, rfl, ix0 i2 ⟨_, rfl, ix1 i1 ⟨_, _, rfl, rfl, hc.mul hbS, _, _, rfl, rfl, _, rfl, ix1 i1 ⟨_, rfl, ix1 i2 ⟨_, _, rfl, rfl, hbS.mul hdS, _, _, rfl,
      mul_ne hb (by omega), hbS.lt hdS, q.same s1⟩⟩⟩⟩⟩⟩⟩
theorem ok_minus {f : Addr} {fd : FuncData} (F : Fun K "minus" "minus" sMinus f fd) (C1 : Callee P w K mg base (L2.CX P w) 4 "_check_both" ["one", "other"] (spChk C)) (C2 : Callee P w K mg base CX0 2 "lowest" ["number", "by"] spLow) :
    FnOk P w K mg base (L2.CX P w) 5 f fd ["one", "other"] (spOp C false rMinus) := by
  obtain ⟨f1, fd1, m1, k1, b1, G1⟩ := C1
  obtain ⟨f2, fd2, m2, k2, b2, G2⟩ := C2
  refine F.okX scMinus (fun vs H Q E h => ?_) (fun cdv A outer s H vs Q E hr h => ?_)
  · obtain ⟨v, u, o1, o2, rfl, _⟩ := h
    rfl
  · obtain ⟨v, u, o1, o2, rfl, j1, j2, e1, e2, q⟩ := h
    refine ⟨_, pss_cons (ps_expr (pe_call (E := E) G1 hr rfl m1 k1 b1 .nil (passes_call (takes_of rfl rfl rfl rfl) (fun _ _ _ _ h => h)) (pa_cons (pv 0) (pa_cons (pv 1) pa_nil))))
      (pss_one (ps_ret (pe_call G2 (hr.mono (by decide)) rfl m2 k2 b2 .nil pass0 (pa_cons (pe_op op_sub (pe_op op_mulW (pe_ix ix_seq (pv 0) pe_int (fun _ _ => rfl)) (pe_ix ix_seq (pv 1) pe_int (fun _ _ => rfl))) (pe_op op_mulW (pe_ix ix_seq (pv 1) pe_int (fun _ _ => rfl)) (pe_ix ix_seq (pv 0) pe_int (fun _ _ => rfl))))
        (pa_cons (pe_op op_mulW (pe_ix ix_seq (pv 0) pe_int (fun _ _ => rfl)) (pe_ix ix_seq (pv 1) pe_int (fun _ _ => rfl))) pa_nil))))), ?_⟩
    refine ⟨_, rfl, _, rfl, v, u, o1, o2, rfl, j1, j2, e1, e2, fun h1 h2 H1 s1 => ?_⟩
    obtain ⟨a, b, rfl, hb, hab⟩ := ratB_some h1
    obtain ⟨c, d, rfl, hd, hcd⟩ := ratB_some h2
    obtain ⟨_, q⟩ := q a b c d rfl rfl hb hab hd hcd
    obtain ⟨ha, hbS, hc, hdS, q⟩ := q (fun z => nomatch z)
    have i1 := j1.same s1
    have i2 := j2.same s1
    exact ⟨_, rfl, ix0 i1 ⟨_, rfl, ix1 i2 ⟨_, _, rfl, rfl, ha.mul hdS, _, rfl, ix0 i2 ⟨_, rfl, ix1 i1 ⟨_, _, rfl, rfl, hc.mul hbS, _, _, rfl, rfl, _, rfl, ix1 i1 ⟨_, rfl, ix1 i2 ⟨_, _, rfl, rfl, hbS.mul hdS, _, _, rfl,
      mul_ne hb (by omega), hbS.lt hdS, q.same s1⟩⟩⟩⟩⟩⟩⟩
theorem ok_times {f : Addr} {fd : FuncData} (F : Fun K "times" "times" sTimes f fd) (C1 : Callee P w K mg base (L2.CX P w) 4 "_check_both" ["one", "other"] (spChk C)) (C2 : Callee P w K mg base CX0 2 "lowest" ["number", "by"] spLow) :
    FnOk P w K mg base (L2.CX P w) 5 f fd ["one", "other"] (spOp C false rTimes) := by
  obtain ⟨f1, fd1, m1, k1, b1, G1⟩ := C1
  obtain ⟨f2, fd2, m2, k2, b2, G2⟩ := C2
  refine F.okX scTimes (fun vs H Q E h => ?_) (fun cdv A outer s H vs Q E hr h => ?_)
  · obtain ⟨v, u, o1, o2, rfl, _⟩ := h
    rfl
  · obtain ⟨v, u, o1, o2, rfl, j1, j2, e1, e2, q⟩ := h
    refine ⟨_, pss_cons (ps_expr (pe_call (E := E) G1 hr rfl m1 k1 b1 .nil (passes_call (takes_of rfl rfl rfl rfl) (fun _ _ _ _ h => h)) (pa_cons (pv 0) (pa_cons (pv 1) pa_nil))))
      (pss_one (ps_ret (pe_call G2 (hr.mono (by decide)) rfl m2 k2 b2 .nil pass0 (pa_cons (pe_op op_mulW (pe_ix ix_seq (pv 0) pe_int (fun _ _ => rfl)) (pe_ix ix_seq (pv 1) pe_int (fun _ _ => rfl)))
        (pa_cons (pe_op op_mulW (pe_ix ix_seq (pv 0) pe_int (fun _ _ => rfl)) (pe_ix ix_seq (pv 1) pe_int (fun _ _ => rfl))) pa_nil))))), ?_⟩
    refine ⟨_, rfl, _, rfl, v, u, o1, o2, rfl, j1, j2, e1, e2, fun h1 h2 H1 s1 => ?_⟩
    obtain ⟨a, b, rfl, hb, hab⟩ := ratB_some h1
    obtain ⟨c, d, rfl, hd, hcd⟩ := ratB_some h2
    obtain ⟨_, q⟩ := q a b c d rfl rfl hb hab hd hcd
    obtain ⟨ha, hbS, hc, hdS, q⟩ := q (fun z => nomatch z)
    have i1 := j1.same s1
    have i2 := j2.same s1
    exact ⟨_, rfl, ix0 i1 ⟨_, rfl, ix0 i2 ⟨_, _, rfl, rfl, ha.mul hc, _, rfl, ix1 i1 ⟨_, rfl, ix1 i2 ⟨_, _, rfl, rfl, hbS.mul hdS, _, _, rfl,
      mul_ne hb (by omega), hbS.lt hdS, q.same s1⟩⟩⟩⟩⟩
end
end K4

namespace K4
open PySem PySem.Spec PyProof.Rows L2
section
variable {P : Program} {w : World} {K : PySem.W.Frag} {mg : Str → Option Value} {base : Heap} {C : Addr}
theorem ok_over {f fI : Addr} {fd fdI : FuncData} (F : Fun K "over" "over" sOver f fd) (T : BrTxt K mg C fI) (FI : Fun K "__init__" "BadRatio.__init__" sInit fI fdI) (C1 : Callee P w K mg base (L2.CX P w) 4 "_check_both" ["one", "other"] (spChk C)) (C2 : Callee P w K mg base CX0 2 "lowest" ["number", "by"] spLow) :
    FnOk P w K mg base (L2.CX P w) 5 f fd ["one", "other"] (spOp C true rOver) := by
  obtain ⟨f1, fd1, m1, k1, b1, G1⟩ := C1
  obtain ⟨f2, fd2, m2, k2, b2, G2⟩ := C2
  have bI := FI.binds (ps := ["self", "part"]) fun _ _ _ _ _ _ us hl => match us, hl with | [_, _], _ => rfl
  have GI : FnOk P w K mg base CX0 1 fI fdI ["self", "part"] (spInit K C) := ok_init FI
  refine F.okX scOver (fun vs H Q E h => ?_) (fun cdv A outer s H vs Q E hr h => ?_)
  · obtain ⟨v, u, o1, o2, rfl, _⟩ := h
    rfl
  · obtain ⟨v, u, o1, o2, rfl, j1, j2, e1, e2, q⟩ := h
    refine ⟨_, pss_cons (ps_expr (pe_call (E := E) G1 hr rfl m1 k1 b1 .nil (passes_call (takes_of rfl rfl rfl rfl) (fun _ _ _ _ h => h)) (pa_cons (pv 0) (pa_cons (pv 1) pa_nil))))
      (pss_cons (ps_if (pt_cmpR op_eq (pe_ix ix_seq (pv 1) pe_int (fun _ _ => rfl)) pe_int (nomark _)) (pss_one (ps_raise rfl (takes_of rfl rfl rfl rfl) (pmk_oex T.oex T.iC T.tI GI (hr.mono (by decide)) bI .nil pass0 rfl T.mgC (pa_cons pe_str pa_nil)))) pss_nil)
      (pss_one (ps_ret (pe_call G2 (hr.mono (by decide)) rfl m2 k2 b2 .nil pass0 (pa_cons (pe_op op_mulW (pe_ix ix_seq (pv 0) pe_int (fun _ _ => rfl)) (pe_ix ix_seq (pv 1) pe_int (fun _ _ => rfl)))
        (pa_cons (pe_op op_mulW (pe_ix ix_seq (pv 0) pe_int (fun _ _ => rfl)) (pe_ix ix_seq (pv 1) pe_int (fun _ _ => rfl))) pa_nil)))))), ?_⟩
    refine ⟨_, rfl, _, rfl, v, u, o1, o2, rfl, j1, j2, e1, e2, fun h1 h2 H1 s1 => ?_⟩
    obtain ⟨a, b, rfl, hb, hab⟩ := ratB_some h1
    obtain ⟨c, d, rfl, hd, hcd⟩ := ratB_some h2
    obtain ⟨z, q⟩ := q a b c d rfl rfl hb hab hd hcd
    have i1 := j1.same s1
    have i2 := j2.same s1
    refine ⟨_, rfl, ix0 i2 ⟨rfl, _, rfl, ?_⟩⟩
    by_cases hc0 : c = 0
    · rw [decide_eq_true (by rw [hc0])]
      refine iteT ⟨by show 1 ≤ 1000; decide, fun e he => ⟨e, _, rfl, T.oex, T.noP, upd_same, fun dx hdx ne => ⟨rfl, dx, _, upd_same, ?_, ?_, raised (z rfl hc0) s1 he hdx ne⟩⟩⟩
      · rw [upd_ne ne, upd_same]
      · rw [upd_ne ne] at hdx
        exact hdx
    · rw [decide_eq_false (fun z => hc0 (V.int.inj z))]
      obtain ⟨ha, hbS, hc, hdS, q⟩ := q (fun _ => hc0)
      refine iteF ?_
      exact ⟨_, rfl, ix0 i1 ⟨_, rfl, ix1 i2 ⟨_, _, rfl, rfl, ha.mul hdS, _, rfl, ix1 i1 ⟨_, rfl, ix0 i2 ⟨_, _, rfl, rfl, hbS.mul hc, _, _, rfl,
        mul_ne hb hc0, hbS.lt hc, q.same s1⟩⟩⟩⟩⟩
theorem ok_cmp {f : Addr} {fd : FuncData} (F : Fun K "compared" "compared" sCmp f fd) (C1 : Callee P w K mg base (L2.CX P w) 4 "_check_both" ["one", "other"] (spChk C)) :
    FnOk P w K mg base (L2.CX P w) 5 f fd ["one", "other"] (spOp C false rCmp) := by
  obtain ⟨f1, fd1, m1, k1, b1, G1⟩ := C1
  refine F.okX scCmp (fun vs H Q E h => ?_) (fun cdv A outer s H vs Q E hr h => ?_)
  · obtain ⟨v, u, o1, o2, rfl, _⟩ := h
    rfl
  · obtain ⟨v, u, o1, o2, rfl, j1, j2, e1, e2, q⟩ := h
    refine ⟨_, pss_cons (ps_expr (pe_call (E := E) G1 hr rfl m1 k1 b1 .nil (passes_call (takes_of rfl rfl rfl rfl) (fun _ _ _ _ h => h)) (pa_cons (pv 0) (pa_cons (pv 1) pa_nil))))
      (pss_cons (ps_set (i := 2) scCmp.nd rfl (Or.inl rfl) (pe_op op_sub (pe_op op_mulW (pe_ix ix_seq (pv 0) pe_int (fun _ _ => rfl)) (pe_ix ix_seq (pv 1) pe_int (fun _ _ => rfl))) (pe_op op_mulW (pe_ix ix_seq (pv 1) pe_int (fun _ _ => rfl)) (pe_ix ix_seq (pv 0) pe_int (fun _ _ => rfl)))))
      (pss_cons (ps_if (pt_cmpR op_eq (pv 2) pe_int (nomark _)) (pss_one (ps_ret pe_int)) pss_nil)
      (pss_one (ps_ret (pe_ifExp (pt_cmpR op_gt (pv 2) pe_int (nomark _)) pe_int (pe_un un_neg pe_int)))))), ?_⟩
    refine ⟨_, rfl, _, rfl, v, u, o1, o2, rfl, j1, j2, e1, e2, fun h1 h2 H1 s1 => ?_⟩
    obtain ⟨a, b, rfl, hb, hab⟩ := ratB_some h1
    obtain ⟨c, d, rfl, hd, hcd⟩ := ratB_some h2
    obtain ⟨_, q⟩ := q a b c d rfl rfl hb hab hd hcd
    obtain ⟨ha, hbS, hc, hdS, q⟩ := q (fun z => nomatch z)
    have i1 := j1.same s1
    have i2 := j2.same s1
    refine ⟨_, rfl, ix0 i1 ⟨_, rfl, ix1 i2 ⟨_, _, rfl, rfl, ha.mul hdS, _, rfl, ix0 i2 ⟨_, rfl, ix1 i1 ⟨_, _, rfl, rfl, hc.mul hbS, _, _, rfl, rfl, _, rfl, rfl, _, rfl, ?_⟩⟩⟩⟩⟩
    have q := q _ s1
    unfold cmpI at q
    by_cases h0 : a * d - c * b = 0
    · rw [decide_eq_true (show (fun i j => V.int (i - j)) (a * d) (c * b) = V.int 0 from congrArg V.int h0)]
      rw [if_pos h0] at q
      exact iteT q
    · rw [decide_eq_false (fun z => h0 (V.int.inj z))]
      rw [if_neg h0] at q
      refine iteF ⟨_, rfl, _, _, rfl, rfl, _, rfl, ?_⟩
      by_cases hp : 0 < a * d - c * b
      · rw [decide_eq_true hp]
        rw [if_pos hp] at q
        exact iteT q
      · rw [decide_eq_false hp]
        rw [if_neg hp] at q
        exact iteF ⟨_, rfl, q⟩
end
end K4

namespace K4
open PySem PySem.Spec PyProof.Rows L2
/-! ### the vat -/
/-- but at p all stands as it stood, and the list at p begins as it began -/
structure SB (p : Addr) (H H' : Hp) : Prop where
  on : ∀ b o, b ≠ p → H b = some o → H' b = some o
  hd : ∀ x r, H p = some (.lst (x :: r)) → ∃ r', H' p = some (.lst (x :: r'))
instance {p : Addr} {H H' : Hp} : CoeFun (SB p H H') (fun _ => ∀ b o, b ≠ p → H b = some o → H' b = some o) := ⟨fun s => s.on⟩
theorem SB.refl (p : Addr) (H : Hp) : SB p H H := ⟨fun _ _ _ h => h, fun _ r h => ⟨r, h⟩⟩
theorem SB.trans {p : Addr} {H H1 H2 : Hp} (a : SB p H H1) (b : SB p H1 H2) : SB p H H2 := ⟨fun c o n h => b.on c o n (a.on c o n h), fun x r h => let ⟨r1, h1⟩ := a.hd x r h; b.hd x r1 h1⟩
theorem SB.of {p : Addr} {H H' : Hp} (s : Same H H') : SB p H H' := ⟨fun b o _ h => s b o h, fun _ r h => ⟨r, s _ _ h⟩⟩
theorem SB.set {p : Addr} {H : Hp} {x : V} {r r' : List V} (h : H p = some (.lst (x :: r))) : SB p H (upd H p (.lst (x :: r'))) := ⟨fun b o nb e => by rw [upd_ne nb]; exact e, fun y q e => by
  rw [h] at e
  cases e
  exact ⟨r', upd_same⟩⟩
/-- the vat at p, of n draws at most -/
def Vat (H : Hp) (p : Addr) (n : Nat) : Prop := ∃ (c : Addr) (ns : List Int) (spot store : Int), H p = some (.lst [.ref c, .int spot, .int store]) ∧ H c = some (.lst (ns.map V.int)) ∧ ns.length ≤ 63 ∧ 0 ≤ spot ∧ spot ≤ n
theorem Vat.same {H H' : Hp} {p : Addr} {n : Nat} (v : Vat H p n) (s : Same H H') : Vat H' p n := by
  obtain ⟨c, ns, a, b, h1, h2, h⟩ := v
  exact ⟨c, ns, a, b, s _ _ h1, s _ _ h2, h⟩
theorem Vat.le {H : Hp} {p : Addr} {n m : Nat} (v : Vat H p n) (h : n ≤ m) : Vat H p m := by
  obtain ⟨c, ns, a, b, h1, h2, h3, h4, h5⟩ := v
  exact ⟨c, ns, a, b, h1, h2, h3, h4, by omega⟩
/-- a comprehension without a test keeps every item -/
theorem yes_of {T N : Hp → Prop} {σ : L2.St} {H : Hp} (h : T H) : tYes σ H fun b H3 => if b = true then T H3 else N H3 := by
  show if true = true then T H else N H
  rw [if_pos rfl]
  exact h
section
variable {P : Program} {w : World} {K : PySem.W.Frag} {mg : Str → Option Value} {base : Heap}
def spVat (K : PySem.W.Frag) : Sp := fun vs H Q _ => ∃ (a : Addr) (ns : List Int), vs = [.ref a] ∧ SqL K H a (ns.map V.int) ∧ ns.length ≤ 63 ∧ ∀ H' p, Same H H' → H p = none → Vat H' p 0 → Q (.ref p) H'
abbrev sVat : Stmt := top 19
theorem scVat : FnScope ["_law_script", "_law_cell"] ["_law_script"] (defScope sVat) := ⟨rfl, rfl, rfl, by decide +kernel, rfl, by decide +kernel, by decide +kernel⟩
theorem cut_ints (ns : List Int) (lo hi : Option Int) : ∃ ms : List Int, cutV (ns.map V.int) lo hi = ms.map V.int ∧ ms.length ≤ ns.length := by
  refine ⟨(ns.drop (HT.sIx (ns.map V.int).length 0 lo)).take (HT.sIx (ns.map V.int).length (ns.map V.int).length hi - HT.sIx (ns.map V.int).length 0 lo), ?_, ?_⟩
  · unfold cutV
    rw [List.map_take, List.map_drop]
  · rw [List.length_take, List.length_drop]
    omega
theorem get_ints {ns : List Int} {i : Nat} {x : V} (h : (ns.map V.int)[i]? = some x) : ∃ z, ns[i]? = some z ∧ x = .int z := by
  rw [List.getElem?_map] at h
  cases e : ns[i]? with
  | none =>
    rw [e] at h
    cases h
  | some z =>
    rw [e] at h
    exact ⟨z, rfl, (Option.some.inj h).symm⟩
theorem ok_vat {f : Addr} {fd : FuncData} (F : Fun K "_law_vat" "_law_vat" sVat f fd) (B : Bn mg) : FnOk P w K mg base CX0 1 f fd ["_law_script"] (spVat K) := by
  refine F.ok scVat (fun vs H Q E h => ?_) (fun cdv A outer s H vs Q E hr h => ?_)
  · obtain ⟨a, ns, rfl, _⟩ := h
    rfl
  · obtain ⟨a, ns, rfl, hS, hl, q⟩ := h
    refine ⟨_, pss_one (ps_ret (pe_lst (pa_cons (pe_lc (own := [("_law_cell", 1)]) (g := gName 1) (tt := tYes) rfl scVat.nd (pi_list (pe_slice sl_list (pv 0) po_none (po_some pe_int))) (blkOk_by (N := ["_law_script", "_law_cell"]) (sc := defScope sVat) (by decide +kernel)) (fun _ _ _ _ _ => pg_name (i := 1) scVat.nd rfl (Or.inl rfl)) (fun _ _ _ _ _ => pts_nil)
      (fun _ _ _ _ _ => pe_callTy call_int1 (by rfl) B.int boot_int (pa_cons (pv 1) pa_nil))) (pa_cons pe_int (pa_cons pe_int pa_nil))))), ?_⟩
    obtain ⟨ms, em, hm⟩ := cut_ints ns none (some 60)
    refine ⟨_, rfl, 60, rfl, a, _, rfl, hS, fun p hp => ?_⟩
    rw [em]
    refine ⟨p, rfl, ⟨_, SqL.of upd_same⟩, fun D hD => ?_⟩
    refine lc_list (K := K) (a := p) (xs := ms.map V.int) (fun i H' => Same (upd H p (.lst (ms.map V.int))) H' ∧ H' D = some (.lst ((ms.map V.int).take i))) ⟨same_new hD, upd_same⟩ (fun i H' _ p' => SqL.of (p'.1 _ _ upd_same)) (fun i x H' hx p' => ?_) (fun H' p' => ?_)
    · obtain ⟨z, _, rfl⟩ := get_ints hx
      refine ⟨rfl, yes_of ?_⟩
      refine ⟨_, rfl, .inl ⟨z, rfl, _, p'.2, ?_, ?_, ?_⟩⟩
      · rw [List.length_take, List.length_map]
        exact small1000 (by omega)
      · intro b o e
        rw [upd_ne (ne_of_none e hD)]
        exact p'.1 b o e
      · rw [upd_same, take_more hx]
    · have e := p'.2
      rw [List.take_length] at e
      refine ⟨by show 3 ≤ sizeLine; decide, fun t ht => ?_⟩
      have s0 : Same H (upd H p (.lst (ms.map V.int))) := same_new hp
      refine q _ t ((s0.trans p'.1).trans (same_new ht)) (s0.free (p'.1.free ht)) ⟨D, ms, 0, 0, upd_same, ?_, by omega, by decide, by decide⟩
      rw [upd_ne (ne_of_none e ht)]
      exact e
end
end K4

namespace K4
open PySem PySem.Spec PyProof.Rows L2
section
variable {P : Program} {w : World} {K : PySem.W.Frag} {mg : Str → Option Value} {base : Heap}
def spDip : Sp := fun vs H Q _ => ∃ (p : Addr) (m : Int) (n : Nat), vs = [.ref p, .int m] ∧ Vat H p n ∧ n < 60000 ∧ 0 < m ∧ m.natAbs < 2 ^ 64 ∧ ∀ H' d, SB p H H' → Vat H' p (n + 1) → 0 ≤ d → d < m → Q (.int d) H'
abbrev sDip : Stmt := top 20
abbrev nDip : List Str := ["_law_vat_here", "_law_many", "_law_store", "_law_cells", "_law_spot", "_law_cell", "_law_mixed"]
theorem scDip : FnScope nDip ["_law_vat_here", "_law_many"] (defScope sDip) := ⟨rfl, rfl, rfl, by decide +kernel, rfl, by decide +kernel, by decide +kernel⟩
theorem dp_ints {H : Hp} : ∀ ns : List Int, DpAll K H (ns.map V.int) (ns.map PyData.int)
  | [] => .nil
  | n :: ns => .cons (.int n) (dp_ints ns)
theorem ix_cells {ns : List Int} {spot : Int} (h0 : 0 ≤ spot) (hn : ns ≠ []) : ∃ z, atI (ns.map V.int) (spot % (ns.map V.int).length) = some (.int z) := by
  have hl : 0 < ns.length := List.length_pos_iff.mpr hn
  have e1 := Int.emod_nonneg spot (show ((ns.map V.int).length : Int) ≠ 0 by rw [List.length_map]; omega)
  have e2 := Int.emod_lt_of_pos spot (show (0 : Int) < ((ns.map V.int).length : Int) by rw [List.length_map]; omega)
  obtain ⟨j, hj⟩ := Int.eq_ofNat_of_zero_le e1
  have hj2 : j < ns.length := by
    rw [List.length_map] at hj e2
    omega
  refine ⟨ns[j], ?_⟩
  rw [hj]
  refine atI_nat ?_
  rw [List.getElem?_map, List.getElem?_eq_getElem hj2]
  rfl
theorem mix_lt (x : Int) : 0 ≤ x % 2147483549 ∧ x % 2147483549 < 2147483549 := ⟨Int.emod_nonneg _ (by decide), Int.emod_lt_of_pos _ (by decide)⟩
theorem mixmul (x j : Int) : CMul (x % 2147483549) j := .inl ⟨by have := mix_lt x; omega, by have := mix_lt x; omega⟩
theorem pw5 (x : Int) {spot : Int} (h0 : 0 ≤ spot) (h1 : spot < 60000) : CPow (x % 2147483587 + 31019 * spot + 2011) 5 := by
  have a := Int.emod_nonneg x (show (2147483587 : Int) ≠ 0 by decide)
  have b := Int.emod_lt_of_pos x (show (0 : Int) < 2147483587 by decide)
  exact ⟨by decide, by decide, by omega⟩
theorem pw3 (y spot : Int) (a : 0 ≤ y) (b : y < 2147483549) (h0 : 0 ≤ spot) (h1 : spot < 60000) : CPow (y * (2 * spot + 1013) + 53017 * spot * spot + 6011) 3 := by
  have c1 : y * (2 * spot + 1013) ≤ 2147483549 * 121013 := Int.mul_le_mul (by omega) (by omega) (by omega) (by omega)
  have c0 : 0 ≤ y * (2 * spot + 1013) := Int.mul_nonneg a (by omega)
  have d1 : 53017 * spot * spot ≤ 53017 * 60000 * 60000 := Int.mul_le_mul (by omega) (by omega) (by omega) (by omega)
  have d0 : 0 ≤ 53017 * spot * spot := Int.mul_nonneg (by omega) h0
  exact ⟨by decide, by decide, by omega⟩
theorem ok_dip {f : Addr} {fd : FuncData} (F : Fun K "_law_dip" "_law_dip" sDip f fd) (B : Bn mg) : FnOk P w K mg base CX0 1 f fd ["_law_vat_here", "_law_many"] spDip := by
  refine F.ok scDip (fun vs H Q E h => ?_) (fun cdv A outer s H vs Q E hr h => ?_)
  · obtain ⟨p, m, n, rfl, _⟩ := h
    rfl
  · obtain ⟨p, m, n, rfl, ⟨c, ns, spot, store, hp, hc, hl, h0, h1⟩, hn, hm0, hm, q⟩ := h
    have nd := scDip.nd
    refine ⟨_, (pss_cons (ps_if (pt_cmpR op_gt (pe_ix ix_list (pv 0) (pe_int) (fun _ _ => rfl)) pe_int (nomark _))
        (pss_cons ((ps_set (i := 2) nd rfl (Or.inl rfl) ((pe_ix ix_list (pv 0) (pe_int) (fun _ _ => rfl))))) (pss_cons (ps_asg (pe_op op_fdivWN (pe_callTy call_int1 (by rfl) B.int boot_int (pa_cons (pv 2) pa_nil)) (pv 1)) (pg_sub (pv 0) pe_int set_list)) (pss_one (ps_ret (pe_op op_mod (pe_callTy call_int1 (by rfl) B.int boot_int (pa_cons (pv 2) pa_nil)) (pv 1)))))) pss_nil) (pss_cons (ps_par (i := 3) (j := 4) rfl nd rfl rfl (by decide) rfl rfl (pa_cons ((pe_ix ix_list (pv 0) (pe_int) (fun _ _ => rfl))) (pa_cons ((pe_ix ix_list (pv 0) (pe_int) (fun _ _ => rfl))) pa_nil)) (by rfl)) (pss_cons (ps_asg (pe_op op_add (pv 4) pe_int) (pg_sub (pv 0) pe_int set_list)) (pss_cons ((ps_set (i := 5) nd rfl (Or.inl rfl) (pe_op op_add (pe_op op_mul pe_int (pv 4)) pe_int))) (pss_cons (ps_if (pt_cmpR (op_neD hr.units) (pv 3) (pe_lst pa_nil) (nomark _))
        (pss_one ((ps_set (i := 5) nd rfl (Or.inl rfl) ((pe_ix ix_list (pv 3) (pe_op op_mod (pe_callTy call_int1 (by rfl) B.int boot_int (pa_cons (pv 4) pa_nil)) (pe_callB call_len_seq (by rfl) B.len PySem.boot_len (pa_cons (pv 3) pa_nil))) (fun _ _ => rfl)))))) pss_nil) (pss_cons (ps_if (PW.pt (pw_and (pt_cmpR op_lt (pv 4) (pe_callB call_len_seq (by rfl) B.len PySem.boot_len (pa_cons (pv 3) pa_nil)) (nomark _)) (pw_and1 (pt_cmpR op_ge (pe_callB call_abs (by rfl) B.abs (by decide +kernel) (pa_cons (pv 5) pa_nil)) (pe_op op_pow pe_int pe_int) (nomark _)))))
        (pss_cons ((ps_set (i := 2) nd rfl (Or.inl rfl) (pe_op op_add (pe_op op_mul pe_int (pe_op op_sub (pe_callB call_abs (by rfl) B.abs (by decide +kernel) (pa_cons (pv 5) pa_nil)) (pe_op op_pow pe_int pe_int))) (pe_callTy call_int1 (by rfl) B.int boot_int (pa_cons (pe_cmpR op_lt (pv 5) pe_int (nomark _)) pa_nil))))) (pss_cons (ps_asg (pe_op op_fdivWN (pe_callTy call_int1 (by rfl) B.int boot_int (pa_cons (pv 2) pa_nil)) (pv 1)) (pg_sub (pv 0) pe_int set_list)) (pss_one (ps_ret (pe_op op_mod (pe_callTy call_int1 (by rfl) B.int boot_int (pa_cons (pv 2) pa_nil)) (pv 1)))))) pss_nil) (pss_cons ((ps_set (i := 6) nd rfl (Or.inl rfl) (pe_op op_mod (pe_callTy call_int1 (by rfl) B.int boot_int (pa_cons (pe_op op_pow (pe_op op_add (pe_op op_add (pe_op op_mod (pe_callTy call_int1 (by rfl) B.int boot_int (pa_cons (pv 5) pa_nil)) pe_int) (pe_op op_mul pe_int (pv 4))) pe_int) pe_int) pa_nil)) pe_int))) (pss_cons ((ps_set (i := 6) nd rfl (Or.inl rfl) (pe_op op_mod (pe_callTy call_int1 (by rfl) B.int boot_int (pa_cons (pe_op op_pow (pe_op op_add (pe_op op_add (pe_op op_mul (pv 6) (pe_op op_add (pe_op op_mul pe_int (pv 4)) pe_int)) (pe_op op_mul (pe_op op_mul pe_int (pv 4)) (pv 4))) pe_int) pe_int) pa_nil)) pe_int))) (pss_one (ps_ret (pe_op op_mod (pe_callTy call_int1 (by rfl) B.int boot_int (pa_cons (pe_op op_fdiv (pv 6) pe_int) pa_nil)) (pv 1)))))))))))), ?_⟩
    have hdm : ∀ x : Int, CDivWN x m := fun x => cdiv_of (by omega) hm (by decide) (by decide)
    have npc : c ≠ p := ne_of hc hp (by cases ns with
      | nil => intro z; cases z
      | cons => intro z; cases z)
    refine ⟨_, rfl, p, _, 2, _, rfl, rfl, SqL.of hp, rfl, _, _, rfl, rfl, _, rfl, ?_⟩
    have fin : ∀ (x st sp : Int) (H1 : Hp), H1 p = some (.lst [.ref c, .int sp, .int st]) → SB p H H1 → 0 ≤ sp → sp ≤ (n + 1 : Nat) → Q (.int (x % m)) H1 := fun x st sp H1 e s1 h0 h1 =>
      q _ _ s1 ⟨c, ns, sp, st, e, s1 _ _ npc hc, hl, h0, h1⟩ (Int.emod_nonneg _ (by omega)) (Int.emod_lt_of_pos _ hm0)
    by_cases hpos : 0 < store
    · rw [decide_eq_true hpos]
      refine iteT ⟨_, rfl, p, _, 2, _, rfl, rfl, SqL.of hp, rfl, ?_⟩
      refine ⟨_, rfl, .inl ⟨_, rfl, _, rfl, _, _, rfl, rfl, hdm _, ?_⟩⟩
      refine ⟨_, rfl, p, _, 2, 2, rfl, rfl, hp, rfl, ?_⟩
      refine ⟨_, rfl, .inl ⟨_, rfl, _, rfl, _, _, rfl, rfl, hm0, ?_⟩⟩
      exact fin store _ spot _ upd_same (SB.set hp) h0 (by omega)
    · rw [decide_eq_false hpos]
      refine iteF ⟨_, rfl, p, _, 0, _, rfl, rfl, SqL.of hp, rfl, _, rfl, p, _, 1, _, rfl, rfl, SqL.of hp, rfl, _, _, rfl, ?_⟩
      refine ⟨_, rfl, _, _, rfl, rfl, _, rfl, p, _, 1, 1, rfl, rfl, hp, rfl, ?_⟩
      have hp1 : (upd H p (.lst [.ref c, .int (spot + 1), .int store])) p = some (.lst [.ref c, .int (spot + 1), .int store]) := upd_same
      have s1 : SB p H (upd H p (.lst [.ref c, .int (spot + 1), .int store])) := SB.set hp
      have e1 : upd H p (.lst (List.set [V.ref c, V.int spot, V.int store] 1 (V.int (spot + 1)))) = upd H p (.lst [.ref c, .int (spot + 1), .int store]) := rfl
      generalize hH1 : upd H p (.lst [.ref c, .int (spot + 1), .int store]) = H1 at hp1 s1 e1
      rw [e1]
      refine ⟨_, rfl, _, _, rfl, rfl, .inl ⟨by decide, by decide⟩, _, _, rfl, rfl, ?_⟩
      have hc1 := s1 _ _ npc hc
      refine ⟨_, rfl, Nat.zero_le _, fun l hl' => ?_⟩
      have hp2 : upd H1 l (.lst []) p = some (.lst [.ref c, .int (spot + 1), .int store]) := same_new hl' _ _ hp1
      have hc2 : upd H1 l (.lst []) c = some (.lst (ns.map V.int)) := same_new hl' _ _ hc1
      have s2 : SB p H (upd H1 l (.lst [])) := s1.trans (SB.of (same_new hl'))
      have hl2 : upd H1 l (.lst []) l = some (.lst []) := upd_same
      have hsn : spot < 60000 := by omega
      clear hl'
      generalize upd H1 l (.lst []) = H2 at hp2 hc2 s2 hl2
      refine ⟨.list (ns.map PyData.int), .list [], .lst (SqL.of hc2) (dp_ints ns), .lst (SqL.of hl2) .nil, PySem.W.ke_shaped_ints ns, by decide, _, rfl, ?_⟩
      by_cases hnn : ns = []
      · have e : (!PyData.eqv (.list (ns.map PyData.int)) (.list [])) = false := by subst hnn; rfl
        rw [e]
        refine iteF ?_
        generalize 41017 * spot + 2011 = x
        refine ⟨_, rfl, _, rfl, c, _, rfl, .inl (SqL.of hc2), _, _, rfl, rfl, _, rfl, ?_⟩
        refine ite2 (fun ha => ?_) (fun ha => ?_)
        · refine ⟨_, rfl, _, rfl, _, _, rfl, rfl, ⟨by decide, by decide, by decide⟩, _, _, rfl, rfl, _, rfl, ?_⟩
          refine ite2 (fun hb => ?_) (fun hb => ?_)
          · refine ⟨_, rfl, _, rfl, _, _, rfl, rfl, ⟨by decide, by decide, by decide⟩, _, _, rfl, rfl, _, _, rfl, rfl, .inl ⟨by decide, by decide⟩, _, rfl, _, _, rfl, rfl, .inr ⟨_, rfl, _, _, rfl, rfl, ?_⟩⟩
            refine ⟨_, rfl, .inl ⟨_, rfl, _, rfl, _, _, rfl, rfl, hdm _, ?_⟩⟩
            refine ⟨_, rfl, p, _, 2, 2, rfl, rfl, hp2, rfl, ?_⟩
            refine ⟨_, rfl, .inl ⟨_, rfl, _, rfl, _, _, rfl, rfl, hm0, ?_⟩⟩
            exact fin _ _ (spot + 1) _ upd_same (s2.trans (SB.set hp2)) (by omega) (by omega)
          · refine ⟨_, rfl, .inl ⟨_, rfl, _, _, rfl, rfl, (by show (0 : Int) < 2147483587; decide), _, rfl, _, _, rfl, rfl, .inl ⟨by decide, by decide⟩, _, _, rfl, rfl, _, _, rfl, rfl, _, _, rfl, rfl, pw5 _ h0 hsn, .inl ⟨_, rfl, _, _, rfl, rfl, (by show (0 : Int) < 2147483549; decide), ?_⟩⟩⟩
            refine ⟨_, rfl, _, rfl, _, _, rfl, rfl, .inl ⟨by decide, by decide⟩, _, _, rfl, rfl, _, _, rfl, rfl, mixmul _ _, _, rfl, _, _, rfl, rfl, .inl ⟨by decide, by decide⟩, _, rfl, _, _, rfl, rfl, .inr ⟨by omega, by omega⟩, _, _, rfl, rfl, _, _, rfl, rfl, _, _, rfl, rfl, pw3 _ spot (mix_lt _).1 (mix_lt _).2 h0 hsn, .inl ⟨_, rfl, _, _, rfl, rfl, (by show (0 : Int) < 2147483629; decide), ?_⟩⟩
            refine ⟨_, rfl, _, _, rfl, rfl, ⟨by decide, by decide⟩, .inl ⟨_, rfl, _, rfl, _, _, rfl, rfl, hm0, ?_⟩⟩
            exact fin _ _ _ _ hp2 s2 (by omega) (by omega)
        · refine iteF ?_
          refine ⟨_, rfl, .inl ⟨_, rfl, _, _, rfl, rfl, (by show (0 : Int) < 2147483587; decide), _, rfl, _, _, rfl, rfl, .inl ⟨by decide, by decide⟩, _, _, rfl, rfl, _, _, rfl, rfl, _, _, rfl, rfl, pw5 _ h0 hsn, .inl ⟨_, rfl, _, _, rfl, rfl, (by show (0 : Int) < 2147483549; decide), ?_⟩⟩⟩
          refine ⟨_, rfl, _, rfl, _, _, rfl, rfl, .inl ⟨by decide, by decide⟩, _, _, rfl, rfl, _, _, rfl, rfl, mixmul _ _, _, rfl, _, _, rfl, rfl, .inl ⟨by decide, by decide⟩, _, rfl, _, _, rfl, rfl, .inr ⟨by omega, by omega⟩, _, _, rfl, rfl, _, _, rfl, rfl, _, _, rfl, rfl, pw3 _ spot (mix_lt _).1 (mix_lt _).2 h0 hsn, .inl ⟨_, rfl, _, _, rfl, rfl, (by show (0 : Int) < 2147483629; decide), ?_⟩⟩
          refine ⟨_, rfl, _, _, rfl, rfl, ⟨by decide, by decide⟩, .inl ⟨_, rfl, _, rfl, _, _, rfl, rfl, hm0, ?_⟩⟩
          exact fin _ _ _ _ hp2 s2 (by omega) (by omega)
      · have e : (!PyData.eqv (.list (ns.map PyData.int)) (.list [])) = true := by
          cases ns with
          | nil => exact absurd rfl hnn
          | cons => rfl
        rw [e]
        obtain ⟨z, hz⟩ := ix_cells (ns := ns) h0 hnn
        refine iteT ⟨_, rfl, _, rfl, .inl ⟨_, rfl, _, rfl, c, _, rfl, .inl (SqL.of hc2), _, _, rfl, rfl, ?_, c, _, _, _, rfl, rfl, SqL.of hc2, hz, ?_⟩⟩
        · rw [List.length_map]
          have := List.length_pos_iff.mpr hnn
          omega
        generalize z = x
        refine ⟨_, rfl, _, rfl, c, _, rfl, .inl (SqL.of hc2), _, _, rfl, rfl, _, rfl, ?_⟩
        refine ite2 (fun ha => ?_) (fun ha => ?_)
        · refine ⟨_, rfl, _, rfl, _, _, rfl, rfl, ⟨by decide, by decide, by decide⟩, _, _, rfl, rfl, _, rfl, ?_⟩
          refine ite2 (fun hb => ?_) (fun hb => ?_)
          · refine ⟨_, rfl, _, rfl, _, _, rfl, rfl, ⟨by decide, by decide, by decide⟩, _, _, rfl, rfl, _, _, rfl, rfl, .inl ⟨by decide, by decide⟩, _, rfl, _, _, rfl, rfl, .inr ⟨_, rfl, _, _, rfl, rfl, ?_⟩⟩
            refine ⟨_, rfl, .inl ⟨_, rfl, _, rfl, _, _, rfl, rfl, hdm _, ?_⟩⟩
            refine ⟨_, rfl, p, _, 2, 2, rfl, rfl, hp2, rfl, ?_⟩
            refine ⟨_, rfl, .inl ⟨_, rfl, _, rfl, _, _, rfl, rfl, hm0, ?_⟩⟩
            exact fin _ _ (spot + 1) _ upd_same (s2.trans (SB.set hp2)) (by omega) (by omega)
          · refine ⟨_, rfl, .inl ⟨_, rfl, _, _, rfl, rfl, (by show (0 : Int) < 2147483587; decide), _, rfl, _, _, rfl, rfl, .inl ⟨by decide, by decide⟩, _, _, rfl, rfl, _, _, rfl, rfl, _, _, rfl, rfl, pw5 _ h0 hsn, .inl ⟨_, rfl, _, _, rfl, rfl, (by show (0 : Int) < 2147483549; decide), ?_⟩⟩⟩
            refine ⟨_, rfl, _, rfl, _, _, rfl, rfl, .inl ⟨by decide, by decide⟩, _, _, rfl, rfl, _, _, rfl, rfl, mixmul _ _, _, rfl, _, _, rfl, rfl, .inl ⟨by decide, by decide⟩, _, rfl, _, _, rfl, rfl, .inr ⟨by omega, by omega⟩, _, _, rfl, rfl, _, _, rfl, rfl, _, _, rfl, rfl, pw3 _ spot (mix_lt _).1 (mix_lt _).2 h0 hsn, .inl ⟨_, rfl, _, _, rfl, rfl, (by show (0 : Int) < 2147483629; decide), ?_⟩⟩
            refine ⟨_, rfl, _, _, rfl, rfl, ⟨by decide, by decide⟩, .inl ⟨_, rfl, _, rfl, _, _, rfl, rfl, hm0, ?_⟩⟩
            exact fin _ _ _ _ hp2 s2 (by omega) (by omega)
        · refine iteF ?_
          refine ⟨_, rfl, .inl ⟨_, rfl, _, _, rfl, rfl, (by show (0 : Int) < 2147483587; decide), _, rfl, _, _, rfl, rfl, .inl ⟨by decide, by decide⟩, _, _, rfl, rfl, _, _, rfl, rfl, _, _, rfl, rfl, pw5 _ h0 hsn, .inl ⟨_, rfl, _, _, rfl, rfl, (by show (0 : Int) < 2147483549; decide), ?_⟩⟩⟩
          refine ⟨_, rfl, _, rfl, _, _, rfl, rfl, .inl ⟨by decide, by decide⟩, _, _, rfl, rfl, _, _, rfl, rfl, mixmul _ _, _, rfl, _, _, rfl, rfl, .inl ⟨by decide, by decide⟩, _, rfl, _, _, rfl, rfl, .inr ⟨by omega, by omega⟩, _, _, rfl, rfl, _, _, rfl, rfl, _, _, rfl, rfl, pw3 _ spot (mix_lt _).1 (mix_lt _).2 h0 hsn, .inl ⟨_, rfl, _, _, rfl, rfl, (by show (0 : Int) < 2147483629; decide), ?_⟩⟩
          refine ⟨_, rfl, _, _, rfl, rfl, ⟨by decide, by decide⟩, .inl ⟨_, rfl, _, rfl, _, _, rfl, rfl, hm0, ?_⟩⟩
          exact fin _ _ _ _ hp2 s2 (by omega) (by omega)
end
end K4

namespace K4
open PySem PySem.Spec PyProof.Rows L2
/-! ### Euclid's turns -/
theorem half_mod {t l : Nat} (h : 0 < t) (hl : t ≤ l) : 2 * (l % t) < l := by
  have h1 := Nat.mod_lt l h
  have h2 : t * (l / t) + l % t = l := Nat.div_add_mod l t
  have h3 : 1 ≤ l / t := (Nat.one_le_div_iff h).mpr hl
  have h4 : t * 1 ≤ t * (l / t) := Nat.mul_le_mul_left t h3
  omega
/-- what holds ahead of turn i -/
def Euc (i t l : Nat) : Prop := (i = 0 ∧ t < 2 ^ 4000 ∧ l < 2 ^ 4000) ∨ (1 ≤ i ∧ t < l ∧ t * l * 2 ^ (i - 1) < 2 ^ 8000)
theorem euc_step {i t l : Nat} (h : Euc i t l) (ht : 0 < t) : Euc (i + 1) (l % t) t := by
  refine .inr ⟨by omega, Nat.mod_lt l ht, ?_⟩
  rcases h with ⟨e, h1, h2⟩ | ⟨e, h1, h2⟩
  · subst e
    have a : l % t < 2 ^ 4000 := Nat.lt_of_le_of_lt (Nat.mod_le _ _) h2
    have b : l % t * t < 2 ^ 4000 * 2 ^ 4000 := Nat.mul_lt_mul'' a h1
    have c : 2 ^ 4000 * 2 ^ 4000 = 2 ^ 8000 := (Nat.pow_add 2 4000 4000).symm
    show l % t * t * 2 ^ 0 < 2 ^ 8000
    rw [Nat.pow_zero, Nat.mul_one, ← c]
    exact b
  · obtain ⟨j, rfl⟩ : ∃ j, i = j + 1 := ⟨i - 1, by omega⟩
    show l % t * t * 2 ^ (j + 1) < 2 ^ 8000
    have a := half_mod ht (Nat.le_of_lt h1)
    have b : 2 * (l % t) * t ≤ l * t := Nat.mul_le_mul_right t (Nat.le_of_lt a)
    have c : l % t * t * 2 ^ (j + 1) = 2 * (l % t) * t * 2 ^ j := by
      rw [Nat.pow_succ]
      generalize l % t = x
      generalize 2 ^ j = y
      grind
    rw [c]
    refine Nat.lt_of_le_of_lt (Nat.mul_le_mul_right _ b) ?_
    rw [Nat.mul_comm l t]
    exact h2
theorem euc_end {t l : Nat} (h : Euc 9000 t l) : t = 0 := by
  rcases h with ⟨e, _⟩ | ⟨_, h1, h2⟩
  · cases e
  · rcases Nat.eq_zero_or_pos t with z | z
    · exact z
    · exfalso
      have a : 1 ≤ t * l := Nat.mul_pos z (by omega)
      have b : 2 ^ 8999 ≤ t * l * 2 ^ 8999 := Nat.le_mul_of_pos_left _ a
      have c : (2 : Nat) ^ 8000 ≤ 2 ^ 8999 := Nat.pow_le_pow_right (by decide) (by decide)
      have d : t * l * 2 ^ 8999 < 2 ^ 8000 := h2
      exact absurd (Nat.lt_of_le_of_lt (Nat.le_trans c b) d) (Nat.lt_irrefl _)
theorem gcd_step (t l : Nat) : Nat.gcd (l % t) t = Nat.gcd t l := by
  rw [Nat.gcd_rec t l]
theorem abs_eq (i : Int) : (if i < 0 then -i else i) = ((i.natAbs : Nat) : Int) := by
  split <;> omega
section
variable {P : Program} {w : World} {K : PySem.W.Frag} {mg : Str → Option Value} {base : Heap}
/-! ### _law_pick -/
def spPick : Sp := fun vs H Q _ => ∃ (p a : Addr) (n : Nat) (xs : List V), vs = [.ref p, .ref a] ∧ Vat H p n ∧ n < 60000 ∧ H a = some (.lst xs) ∧ a ≠ p ∧ 0 < xs.length ∧ xs.length ≤ 1000 ∧ ∀ H' x, SB p H H' → Vat H' p (n + 1) → x ∈ xs → Q x H'
abbrev sPick : Stmt := top 21
theorem scPick : FnScope ["_law_vat_here", "_law_some"] ["_law_vat_here", "_law_some"] (defScope sPick) := ⟨rfl, rfl, rfl, by decide +kernel, rfl, by decide +kernel, by decide +kernel⟩
theorem ok_pick {f : Addr} {fd : FuncData} (F : Fun K "_law_pick" "_law_pick" sPick f fd) (B : Bn mg) (C1 : Callee P w K mg base CX0 1 "_law_dip" ["_law_vat_here", "_law_many"] spDip) : FnOk P w K mg base CX0 2 f fd ["_law_vat_here", "_law_some"] spPick := by
  obtain ⟨f1, fd1, m1, k1, b1, G1⟩ := C1
  refine F.ok scPick (fun vs H Q E h => ?_) (fun cdv A outer s H vs Q E hr h => ?_)
  · obtain ⟨p, a, n, xs, rfl, _⟩ := h
    rfl
  · obtain ⟨p, a, n, xs, rfl, hv, hn, ha, nap, h0, h1, q⟩ := h
    refine ⟨_, pss_one (ps_ret (pe_ix ix_list (pv 1) ((pe_call G1 (hr.mono (by decide)) rfl m1 k1 b1 .nil pass0 (pa_cons (pv 0) (pa_cons ((pe_callB call_len_seq (by rfl) B.len PySem.boot_len (pa_cons (pv 1) pa_nil))) pa_nil)))) (fun _ _ => rfl))), ?_⟩
    refine ⟨_, rfl, _, rfl, _, rfl, a, xs, rfl, .inl (SqL.of ha), p, _, n, rfl, hv, hn, by omega, by omega, fun H' d s1 v1 d0 d1 => ?_⟩
    obtain ⟨j, rfl⟩ := Int.eq_ofNat_of_zero_le d0
    have hj : j < xs.length := by omega
    exact ⟨a, xs, _, xs[j], rfl, rfl, SqL.of (s1 _ _ nap ha), atI_nat (List.getElem?_eq_getElem hj), q _ _ s1 v1 (List.getElem_mem hj)⟩
/-! ### _law_shared -/
def spShared : Sp := fun vs H Q _ => ∃ a b : Int, vs = [.int a, .int b] ∧ a.natAbs < 2 ^ 4000 ∧ b.natAbs < 2 ^ 4000 ∧ Q (.int ((gcdI a b : Nat) : Int)) H
abbrev sShared : Stmt := top 22
theorem scShared : FnScope ["_law_one", "_law_other", "_law_tail", "_law_left", "_law_turn"] ["_law_one", "_law_other"] (defScope sShared) := ⟨rfl, rfl, rfl, by decide +kernel, rfl, by decide +kernel, by decide +kernel⟩
theorem ok_shared {f : Addr} {fd : FuncData} (F : Fun K "_law_shared" "_law_shared" sShared f fd) (B : Bn mg) : FnOk P w K mg base CX0 1 f fd ["_law_one", "_law_other"] spShared := by
  refine F.ok scShared (fun vs H Q E h => ?_) (fun cdv A outer s H vs Q E hr h => ?_)
  · obtain ⟨a, b, rfl, _⟩ := h
    rfl
  · obtain ⟨a, b, rfl, ha, hb, q⟩ := h
    have nd := scShared.nd
    refine ⟨_, (pss_cons (ps_par (i := 2) (j := 3) rfl nd rfl rfl (by decide) rfl rfl (pa_cons ((pe_callB call_abs (by rfl) B.abs (by decide +kernel) (pa_cons (pv 0) pa_nil))) (pa_cons ((pe_callB call_abs (by rfl) B.abs (by decide +kernel) (pa_cons (pv 1) pa_nil))) pa_nil)) (by rfl)) (pss_cons (ps_for PassesOwn.never rfl (pi_range1 rfl B.range (pa_cons pe_int pa_nil)) (pg_name (i := 4) nd rfl (Or.inl rfl))
        (pss_cons (ps_if (pt_cmpR op_eq (pv 2) pe_int (nomark _)) (pss_one ps_break) pss_nil) (pss_one (ps_par (i := 2) (j := 3) rfl nd rfl rfl (by decide) rfl rfl (pa_cons (pe_op op_mod (pe_callTy call_int1 (by rfl) B.int boot_int (pa_cons (pv 3) pa_nil)) (pv 2)) (pa_cons (pv 2) pa_nil)) (by rfl))))) (pss_one (ps_ret (pv 3))))), ?_⟩
    refine ⟨_, rfl, a, rfl, _, rfl, b, rfl, _, _, rfl, ?_⟩
    rw [abs_eq, abs_eq]
    refine ⟨9000, rfl, by decide, by decide, ?_⟩
    refine for_range (n := 9000) (fun i σ H' => H' = H ∧ ∃ (t l : Nat) (v : Option V), σ = [some (.int a), some (.int b), some (.int t), some (.int l), v] ∧ Nat.gcd t l = gcdI a b ∧ Euc i t l)
      ⟨rfl, a.natAbs, b.natAbs, none, rfl, rfl, .inl ⟨rfl, ha, hb⟩⟩ ?_ ?_
    · rintro i σ H' hi ⟨rfl, t, l, v, rfl, hg, he⟩
      refine ⟨_, rfl, rfl, _, rfl, ?_⟩
      by_cases ht : t = 0
      · subst ht
        refine iteT ⟨_, rfl, ?_⟩
        rw [Nat.gcd_zero_left] at hg
        show Q (.int (l : Int)) _
        rw [hg]
        exact q
      · have e : decide (V.int (t : Int) = V.int 0) = false := decide_eq_false fun z => ht (by have := V.int.inj z; omega)
        rw [e]
        refine iteF ⟨_, rfl, .inl ⟨_, rfl, _, rfl, _, _, rfl, rfl, (by show (0 : Int) < (t : Int); omega), _, rfl, _, _, rfl, ?_⟩⟩
        exact ⟨rfl, l % t, t, _, rfl, by rw [gcd_step]; exact hg, euc_step he (by omega)⟩
    · rintro σ H' ⟨rfl, t, l, v, rfl, hg, he⟩
      have ht := euc_end he
      subst ht
      rw [Nat.gcd_zero_left] at hg
      refine ⟨_, rfl, ?_⟩
      show Q (.int (l : Int)) _
      rw [hg]
      exact q
end
end K4

namespace K4
open PySem PySem.Spec PyProof.Rows L2
theorem low_posd {n d : Int} (h : 0 < d) : low n d = (n.fdiv ((gcdI n d : Nat) : Int), d.fdiv ((gcdI n d : Nat) : Int)) := by
  unfold low lowG
  rw [if_neg (by omega)]
/-- in lowest terms, of fewer than k bits -/
structure Rat (k : Nat) (a b : Int) : Prop where
  pos : 0 < b
  gcd : gcdI a b = 1
  ha : a.natAbs < 2 ^ k
  hb : b.natAbs < 2 ^ k
theorem Rat.mono {k j : Nat} {a b : Int} (r : Rat k a b) (h : k ≤ j) : Rat j a b :=
  ⟨r.pos, r.gcd, Nat.lt_of_lt_of_le r.ha (Nat.pow_le_pow_right (by decide) h), Nat.lt_of_lt_of_le r.hb (Nat.pow_le_pow_right (by decide) h)⟩
section
variable {P : Program} {w : World} {K : PySem.W.Frag} {mg : Str → Option Value} {base : Heap}
/-! ### _law_ratio -/
def spRatio : Sp := fun vs H Q _ => ∃ (p : Addr) (most : Int) (n : Nat), vs = [.ref p, .int most] ∧ Vat H p n ∧ n + 3 ≤ 60000 ∧ 2 ≤ most ∧ most ≤ 2 ^ 40 ∧ ∀ H' t a b, SB p H H' → Vat H' p (n + 3) → Tup H' t (a, b) → Rat 40 a b → Q (.ref t) H'
abbrev sRatio : Stmt := top 23
abbrev nRatio : List Str := ["_law_vat_here", "_law_most", "_law_number", "_law_by", "_law_part"]
theorem scRatio : FnScope nRatio ["_law_vat_here", "_law_most"] (defScope sRatio) := ⟨rfl, rfl, rfl, by decide +kernel, rfl, by decide +kernel, by decide +kernel⟩
theorem ok_ratio {f : Addr} {fd : FuncData} (F : Fun K "_law_ratio" "_law_ratio" sRatio f fd) (B : Bn mg) (C1 : Callee P w K mg base CX0 1 "_law_dip" ["_law_vat_here", "_law_many"] spDip)
    (C2 : Callee P w K mg base CX0 2 "_law_pick" ["_law_vat_here", "_law_some"] spPick) (C3 : Callee P w K mg base CX0 1 "_law_shared" ["_law_one", "_law_other"] spShared) : FnOk P w K mg base CX0 3 f fd ["_law_vat_here", "_law_most"] spRatio := by
  obtain ⟨f1, fd1, m1, k1, b1, G1⟩ := C1
  obtain ⟨f2, fd2, m2, k2, b2, G2⟩ := C2
  obtain ⟨f3, fd3, m3, k3, b3, G3⟩ := C3
  refine F.ok scRatio (fun vs H Q E h => ?_) (fun cdv A outer s H vs Q E hr h => ?_)
  · obtain ⟨p, most, n, rfl, _⟩ := h
    rfl
  · obtain ⟨p, most, n, rfl, hv, hn, hm2, hm, q⟩ := h
    have nd := scRatio.nd
    have hm' : most ≤ 1099511627776 := hm
    refine ⟨_, (pss_cons (ps_par (i := 2) (j := 3) rfl nd rfl rfl (by decide) rfl rfl (pa_cons (pe_op op_add (pe_op op_sub (pe_call G1 (hr.mono (by decide)) rfl m1 k1 b1 .nil pass0 (pa_cons (pv 0) (pa_cons (pe_op op_sub (pe_op op_mul pe_int (pv 1)) pe_int) pa_nil))) (pv 1)) pe_int) (pa_cons (pe_op op_add pe_int (pe_call G1 (hr.mono (by decide)) rfl m1 k1 b1 .nil pass0 (pa_cons (pv 0) (pa_cons ((pe_call G2 (hr.mono (by decide)) rfl m2 k2 b2 .nil pass0 (pa_cons (pv 0) (pa_cons (pe_lst (pa_cons (pe_int) (pa_cons (pe_op op_sub (pv 1) pe_int) (pa_cons (pe_op op_sub (pv 1) pe_int) pa_nil)))) pa_nil)))) pa_nil)))) pa_nil)) (by rfl)) (pss_cons ((ps_set (i := 4) nd rfl (Or.inl rfl) ((pe_call G3 (hr.mono (by decide)) rfl m3 k3 b3 .nil pass0 (pa_cons (pv 2) (pa_cons (pv 3) pa_nil)))))) (pss_one (ps_ret (pe_tup (pa_cons ((pe_callTy call_int1 (by rfl) B.int boot_int (pa_cons (pe_op op_fdivWN (pv 2) (pv 4)) pa_nil))) (pa_cons ((pe_callTy call_int1 (by rfl) B.int boot_int (pa_cons (pe_op op_fdivWN (pv 3) (pv 4)) pa_nil))) pa_nil))))))), ?_⟩
    refine ⟨_, rfl, _, rfl, _, _, rfl, rfl, .inl ⟨by decide, by decide⟩, _, _, rfl, rfl, p, _, n, rfl, hv, by omega, by omega, by omega, fun H1 d1 s1 v1 d10 d11 => ?_⟩
    refine ⟨_, rfl, _, _, rfl, rfl, _, _, rfl, rfl, _, rfl, _, rfl, _, rfl, _, _, rfl, rfl, _, rfl, _, _, rfl, rfl, by show 3 ≤ sizeLine; decide, fun l hl => ?_⟩
    have sl := same_new (o := .lst [V.int 1, V.int (most - 1), V.int (most - 1)]) hl
    have nlp : l ≠ p := by
      obtain ⟨c, ns, a, b, e, _⟩ := v1
      exact (ne_of_none e hl).symm
    refine ⟨p, l, n + 1, _, rfl, v1.same sl, by omega, upd_same, nlp, by show 0 < 3; decide, by show 3 ≤ 1000; decide, fun H2 x s2 v2 hx => ?_⟩
    obtain ⟨pk, rfl, hpk0, hpk⟩ : ∃ z : Int, x = .int z ∧ 1 ≤ z ∧ z ≤ most - 1 := by
      simp only [List.mem_cons, List.not_mem_nil, or_false] at hx
      rcases hx with z | z | z
      · exact ⟨1, z, by omega, by omega⟩
      · exact ⟨most - 1, z, by omega, by omega⟩
      · exact ⟨most - 1, z, by omega, by omega⟩
    refine ⟨p, pk, n + 2, rfl, v2, by omega, by omega, by omega, fun H3 d3 s3 v3 d30 d31 => ?_⟩
    refine ⟨_, _, rfl, rfl, _, _, rfl, ?_⟩
    have hA : (d1 - most + 1).natAbs < 2 ^ 40 := by
      show (d1 - most + 1).natAbs < 1099511627776
      omega
    have hB : (1 + d3).natAbs < 2 ^ 40 := by
      show (1 + d3).natAbs < 1099511627776
      omega
    have hB0 : 0 < 1 + d3 := by omega
    have up : ∀ {x : Int}, x.natAbs < 2 ^ 40 → x.natAbs < 2 ^ 4000 := fun h => Nat.lt_of_lt_of_le h (Nat.pow_le_pow_right (by decide) (by decide))
    have hL := low_posd (n := d1 - most + 1) hB0
    have hg := gcdI_pos (n := d1 - most + 1) (d := 1 + d3) (by omega)
    have hgl : gcdI (d1 - most + 1) (1 + d3) < 2 ^ 40 := Nat.lt_of_le_of_lt (Nat.le_of_dvd (by omega) (Nat.gcd_dvd_right _ _)) hB
    refine ⟨_, rfl, _, rfl, _, _, rfl, up hA, up hB, ?_⟩
    have hc : ∀ x : Int, CDivWN x ((gcdI (d1 - most + 1) (1 + d3) : Nat) : Int) := fun x => cdiv_of (b := 40) (by omega) (by rw [Int.natAbs_natCast]; exact hgl) (by decide) (by decide)
    refine ⟨_, rfl, _, rfl, _, _, rfl, rfl, hc _, .inl ⟨_, rfl, _, rfl, _, rfl, _, _, rfl, rfl, hc _, .inl ⟨_, rfl, by show 2 ≤ sizeLine; decide, fun t ht => ?_⟩⟩⟩
    refine q _ t (low (d1 - most + 1) (1 + d3)).1 (low (d1 - most + 1) (1 + d3)).2 (((s1.trans (SB.of sl)).trans (s2.trans s3)).trans (SB.of (same_new ht))) (v3.same (same_new ht)) ?_ ⟨low_pos (by omega), low_gcd (by omega), Nat.lt_of_le_of_lt (low_le (by omega)).1 hA, Nat.lt_of_le_of_lt (low_le (by omega)).2 hB⟩
    unfold Tup
    rw [upd_same, hL]
    rfl
/-! ### _law_is -/
/-- this truth is handed back, all else as it was -/
def RB (b : Bool) (H : Hp) (Q : VK) : Prop := ∀ H', Same H H' → Q (.bl b) H'
def spIs : Sp := fun vs H Q _ => ∃ (t : Addr) (a b n d : Int), vs = [.ref t, .int n, .int d] ∧ Tup H t (a, b) ∧ Rat 4000 a b ∧ n.natAbs < 2 ^ 4000 ∧ d.natAbs < 2 ^ 4000 ∧ a * d = n * b ∧ RB true H Q
abbrev sIs : Stmt := top 24
abbrev nIs : List Str := ["_law_told", "_law_number", "_law_by", "_law_part"]
theorem scIs : FnScope nIs ["_law_told", "_law_number", "_law_by"] (defScope sIs) := ⟨rfl, rfl, rfl, by decide +kernel, rfl, by decide +kernel, by decide +kernel⟩
theorem ok_is {f : Addr} {fd : FuncData} (F : Fun K "_law_is" "_law_is" sIs f fd) (B : Bn mg) (C3 : Callee P w K mg base CX0 1 "_law_shared" ["_law_one", "_law_other"] spShared) : FnOk P w K mg base CX0 2 f fd ["_law_told", "_law_number", "_law_by"] spIs := by
  obtain ⟨f3, fd3, m3, k3, b3, G3⟩ := C3
  refine F.ok scIs (fun vs H Q E h => ?_) (fun cdv A outer s H vs Q E hr h => ?_)
  · obtain ⟨t, a, b, n, d, rfl, _⟩ := h
    rfl
  · obtain ⟨t, a, b, n, d, rfl, ht, hR, hn, hd, e, q⟩ := h
    have nd := scIs.nd
    have ht' : H t = some (.tup [V.int a, V.int b]) := ht
    refine ⟨_, (pss_cons (ps_if (PW.pt (pw_or (pt_not (pt_val (pe_callB (r := rIsi K) call_isi (by rfl) B.isinstance boot_isinstance (pa_cons (pv 0) (pa_cons (pe_bltn (v := .ty "tuple") (by rfl) B.tuple (by decide +kernel) rfl) pa_nil))))) (pw_or ((pt_cmpR op_ne ((pe_callB call_len_seq (by rfl) B.len PySem.boot_len (pa_cons (pv 0) pa_nil))) (pe_int) (nomark _))) (pw_or1 ((pt_cmpR (op_neD hr.units) (pe_lc (own := [("_law_part", 3)]) (g := gName 3) rfl nd (pi_tup (pv 0)) (blkOk_by (N := nIs) (sc := defScope sIs) (by decide +kernel)) (fun _ _ _ _ _ => pg_name (i := 3) nd rfl (Or.inl rfl))
            (fun _ _ _ _ _ => pts_one (PW.pt (pw_or (pt_not (pt_val (pe_callB (r := rIsi K) call_isi (by rfl) B.isinstance boot_isinstance (pa_cons (pv 3) (pa_cons (pe_bltn (v := .ty "int") (by rfl) B.int (by decide +kernel) rfl) pa_nil))))) (pw_or1 (pt_val (pe_callB (r := rIsi K) call_isi (by rfl) B.isinstance boot_isinstance (pa_cons (pv 3) (pa_cons (pe_bltn (v := .ty "bool") (by rfl) B.bool (by decide +kernel) rfl) pa_nil)))))))) (fun _ _ _ _ _ => pv 3)) (pe_lst pa_nil) (nomark _)))))))
        (pss_one (ps_ret pe_bl)) pss_nil) (pss_one (ps_ret (pe_and (pe_cmpR op_gt (pe_ix ix_tup (pv 0) (pe_int) (fun _ _ => rfl)) pe_int (nomark _)) (pe_and ((pe_cmpR op_eq ((pe_call G3 (hr.mono (by decide)) rfl m3 k3 b3 .nil pass0 (pa_cons ((pe_ix ix_tup (pv 0) (pe_int) (fun _ _ => rfl))) (pa_cons ((pe_ix ix_tup (pv 0) (pe_int) (fun _ _ => rfl))) pa_nil)))) (pe_int) (nomark _))) (pe_one ((pe_cmpR op_eq (pe_op op_mulW (pe_ix ix_tup (pv 0) (pe_int) (fun _ _ => rfl)) (pv 2)) (pe_op op_mulW (pv 1) (pe_ix ix_tup (pv 0) (pe_int) (fun _ _ => rfl))) (nomark _))))))))), ?_⟩
    refine ⟨_, rfl, _, _, _, _, true, rfl, .ty _, (Kd.tup ht').ty, kit_ty (by decide +kernel), _, rfl, iteF ?_⟩
    refine ⟨_, rfl, t, _, rfl, .inr (SqT.of ht'), rfl, _, rfl, iteF ?_⟩
    refine ⟨_, rfl, t, rfl, ⟨_, SqT.of ht'⟩, fun D hD => ?_⟩
    refine lc_tup (K := K) (a := t) (xs := [V.int a, V.int b]) (fun _ H' => Same H H' ∧ H' D = some (.lst [])) ⟨same_new hD, upd_same⟩ (fun i H' _ p => SqT.of (p.1 _ _ ht')) (fun i x H' hx p => ?_) (fun H' p => ?_)
    · obtain ⟨z, rfl⟩ : ∃ z, x = V.int z := by
        have := List.mem_of_getElem? hx
        simp only [List.mem_cons, List.not_mem_nil, or_false] at this
        rcases this with z | z
        · exact ⟨_, z⟩
        · exact ⟨_, z⟩
      refine ⟨rfl, ?_⟩
      refine ⟨_, rfl, _, _, _, _, true, rfl, .ty _, (Kd.int z : Kd H' _ _).ty, kit_ty (by decide +kernel), _, rfl, iteF ?_⟩
      refine ⟨_, rfl, _, _, _, _, false, rfl, .ty _, (Kd.int z : Kd H' _ _).ty, kit_ty (by decide +kernel), _, rfl, iteF p⟩
    · refine ⟨Nat.zero_le _, fun l hl => ?_⟩
      have s2 := p.1.trans (same_new (o := .lst []) hl)
      have ht2 : upd H' l (.lst []) t = some (.tup [V.int a, V.int b]) := s2 _ _ ht'
      have hD2 := same_new (o := .lst []) hl _ _ p.2
      refine ⟨.list [], .list [], .lst (SqL.of hD2) .nil, .lst (SqL.of upd_same) .nil, by decide, by decide, _, rfl, iteF ?_⟩
      have sq : SqT K (upd H' l (.lst [])) t [V.int a, V.int b] := SqT.of ht2
      refine ⟨_, rfl, t, _, 1, _, rfl, rfl, sq, rfl, _, _, rfl, rfl, _, rfl, ?_⟩
      rw [decide_eq_true hR.pos]
      refine iteT ⟨_, rfl, t, _, 0, _, rfl, rfl, sq, rfl, _, rfl, t, _, 1, _, rfl, rfl, sq, rfl, a, b, rfl, hR.ha, hR.hb, rfl, _, rfl, ?_⟩
      rw [hR.gcd, decide_eq_true (show V.int ((1 : Nat) : Int) = V.int 1 from rfl)]
      have c1 : CMulW a d := wide_mul hR.ha hd (by decide) (by decide) (by decide)
      have c2 : CMulW n b := wide_mul hn hR.hb (by decide) (by decide) (by decide)
      refine iteT ⟨_, rfl, t, _, 0, _, rfl, rfl, sq, rfl, _, rfl, _, _, rfl, rfl, c1, _, rfl, _, rfl, t, _, 1, _, rfl, rfl, sq, rfl, _, _, rfl, rfl, c2, rfl, ?_⟩
      rw [decide_eq_true (show (fun i j => V.int (i * j)) a d = (fun i j => V.int (i * j)) n b from congrArg V.int e)]
      exact q _ s2
end
end K4

namespace K4
open PySem PySem.Spec PyProof.Rows L2
/-! ### f(k = v, ..) -/
section
variable {X : Cx} {CX : CXT} {k : Nat} {f : Addr} {fd : FuncData} {ps ks : List Str} {sp : Sp} {E : XK} {x : Str} {p pos : Pos} {kws : List Keyword} {tk : TA} {g : List Value → List Value → List Value} {gV : List V → List V → List V}
theorem pe_callK0 (F : FnOk X.prog X.w X.K X.mg X.base CX k f fd ps sp) (hr : Room k X.A) (hg : Gl X x) (hm : X.mg x = some (.ref f)) (hk : PySem.W.keepIn X.K (.ref f) = true) (hb : KBinds X.K fd ps ks g gV) (hx : Passes CX X E)
    (hkw : PK X kws tk) (hall : (backToKw pos (keywordEach kws X.env)).all (·.1.isSome) = true := by rfl) (hks : (backToKw pos (keywordEach kws X.env)).filterMap (·.1) = ks := by rfl)
    (hdb : (x == ("__debug__" : Str)) = false := by decide)
    (hpl : ((backTo pos (starEach [] X.env)).any (·.1) || (backToKw pos (keywordEach kws X.env)).any (·.1.isNone)) = false := by rfl) :
    PE X (.Call (.Name x p) [] kws pos) (tCallK sp gV E tNil tk) := by
  refine ⟨fun pins s σ H Q I h => ?_⟩
  refine wpAny_Call_Name_kw (ld_glob I hg hm ?_ hdb)
  refine PySem.W.callWith_KW0 (h₀ := X.base) I.ok.mod.kin hk hall ?_ hpl
  refine thn (hkw.run pos pins s σ H _ I h) fun ws s2 ⟨zs, H2, I2, rz, q2⟩ => ⟨I2.kIn, ?_⟩
  rw [hks]
  exact run_fnk (us := []) (vs := []) F hr hb hx I2 .nil rz q2
end
def gSw {α : Type} : List α → List α → List α
  | [], [x, y] => [y, x]
  | _, _ => []
theorem kb_sw {K : PySem.W.Frag} {x : Str} {st : Stmt} {f : Addr} {fd : FuncData} (F : Fun K x x st f fd)
    (h : ∀ (kV doc pm : Value) (an : Option Addr) (cdv ct : Value) (u v : Value), bindArgs (PySem.W.fnOf x x (defArgs st) (defBody st) (defScope st) .none kV doc pm an cdv ct) ⟨[], [(("other" : Str), u), (("one" : Str), v)]⟩ = pure [(("one" : Str), v), (("other" : Str), u)]) :
    KBinds K fd ["one", "other"] ["other", "one"] gSw gSw where
  to := fun s us ws _ hl => by
    obtain ⟨oc, od, kV, doc, pm, an, cdv, ct, osl, rfl, lk, hcd⟩ := F.ex
    match us, ws, hl with
    | [], [u, v], _ => exact .of_eq (h kV doc pm an cdv ct u v)
  rel := fun {vs us zs ws} r z => by
    cases r with
    | nil =>
      cases z with
      | nil => exact .nil
      | cons a z =>
        cases z with
        | nil => exact .nil
        | cons b z =>
          cases z with
          | nil => exact .cons b (.cons a .nil)
          | cons c z => exact .nil
    | cons a r => exact .nil
def Callee2 (P : Program) (w : World) (K : PySem.W.Frag) (mg : Str → Option Value) (base : Heap) (x : Str) (sp : Sp) : Prop :=
  ∃ (f : Addr) (fd : FuncData), mg x = some (.ref f) ∧ PySem.W.keepIn K (.ref f) = true ∧ Binds K fd ["one", "other"] [] ∧ KBinds K fd ["one", "other"] ["other", "one"] gSw gSw ∧ FnOk P w K mg base (L2.CX P w) 5 f fd ["one", "other"] sp
/-! ### good pairs -/
section
variable {K : PySem.W.Frag} {H : Hp} {v u : V} {t s : Addr} {a b c d : Int} {C : Addr} {zero : Bool} {R : R4} {Q : VK} {k : Nat} {z y : Int × Int}
theorem kd2 : AllKd H [V.int a, V.int b] := fun x hx => by
  simp only [List.mem_cons, List.not_mem_nil, or_false] at hx
  rcases hx with e | e
  · exact ⟨_, by rw [e]; exact .int _⟩
  · exact ⟨_, by rw [e]; exact .int _⟩
theorem jg_t (h : Tup H t (a, b)) : Jg H (.ref t) (some [.int a, .int b]) := ⟨t, rfl, .inr h, kd2, by show 2 ≤ 100; decide⟩
theorem jg_l (h : H t = some (.lst [.int a, .int b])) : Jg H (.ref t) (some [.int a, .int b]) := ⟨t, rfl, .inl h, kd2, by show 2 ≤ 100; decide⟩
theorem ratB_of (r : Rat k a b) : ratB (some [.int a, .int b]) = true := by
  show (decide (0 < b) && decide (gcdI a b = 1)) = true
  rw [decide_eq_true r.pos, decide_eq_true r.gcd]
  rfl
theorem op_use (j1 : Jg H v (some [.int a, .int b])) (j2 : Jg H u (some [.int c, .int d])) (r1 : Rat k a b) (r2 : Rat k c d) (hk : k ≤ 3000) (h0 : zero = true → c ≠ 0) (h : R a b c d H Q) : spOp C zero R [v, u] H Q E0 := by
  refine ⟨v, u, _, _, rfl, j1, j2, fun e => ?_, fun _ e => ?_, fun p q r s e1 e2 h1 h2 h3 h4 => ?_⟩
  · rw [ratB_of r1] at e
    cases e
  · rw [ratB_of r2] at e
    cases e
  · cases e1
    cases e2
    have s1 := r1.mono hk
    have s2 := r2.mono hk
    exact ⟨fun e z => absurd z (h0 e), fun _ => ⟨s1.ha, s1.hb, s2.ha, s2.hb, h⟩⟩
theorem rat_low {n d : Int} (h : d ≠ 0) (hn : n.natAbs < 2 ^ k) (hd : d.natAbs < 2 ^ k) : Rat k (low n d).1 (low n d).2 :=
  ⟨low_pos h, low_gcd h, Nat.lt_of_le_of_lt (low_le h).1 hn, Nat.lt_of_le_of_lt (low_le h).2 hd⟩
theorem low_is {n d r s : Int} (h : d ≠ 0) (hs : 0 < s) (hg : gcdI r s = 1) (e : n * s = r * d) : low n d = (r, s) := by
  have c := low_cross (n := n) h
  have g := low_gcd (n := n) h
  have p := low_pos (n := n) h
  generalize low n d = l at c g p
  obtain ⟨x, y⟩ := l
  have c : x * d = n * y := c
  have e2 : x * s = r * y := by
    have : x * s * d = r * y * d := by grind
    exact Int.eq_of_mul_eq_mul_right h this
  obtain ⟨e3, e4⟩ := low_one p hs g hg e2
  rw [show x = r from e3, show y = s from e4]
theorem ml {x y : Int} {i j : Nat} (h : x.natAbs < 2 ^ i) (g : y.natAbs < 2 ^ j) (n : Nat) (e : i + j ≤ n) : (x * y).natAbs < 2 ^ n := Nat.lt_of_lt_of_le (wide_lt h g) (Nat.pow_le_pow_right (by decide) e)
theorem ad {x y : Int} {i j : Nat} (h : x.natAbs < 2 ^ i) (g : y.natAbs < 2 ^ j) (n : Nat) (e1 : i < n) (e2 : j < n) : (x + y).natAbs < 2 ^ n := by
  have a1 : 2 ^ i ≤ 2 ^ (n - 1) := Nat.pow_le_pow_right (by decide) (by omega)
  have a2 : 2 ^ j ≤ 2 ^ (n - 1) := Nat.pow_le_pow_right (by decide) (by omega)
  have a3 : 2 ^ n = 2 ^ (n - 1) * 2 := by rw [← Nat.pow_succ]; congr 1; omega
  have := Int.natAbs_add_le x y
  omega
theorem sb {x y : Int} {i j : Nat} (h : x.natAbs < 2 ^ i) (g : y.natAbs < 2 ^ j) (n : Nat) (e1 : i < n) (e2 : j < n) : (x - y).natAbs < 2 ^ n := by
  rw [Int.sub_eq_add_neg]
  exact ad h (by rw [Int.natAbs_neg]; exact g) n e1 e2
theorem dp_t (h : Tup H t z) : Dp K H (.ref t) (.tuple [.int z.1, .int z.2]) := .tup (SqT.of h) (.cons (.int _) (.cons (.int _) .nil))
theorem sh_t : SeqAt.shaped (.tuple [.int a, .int b]) = true := by rfl
theorem eq_t : PyData.eqv (.tuple [.int a, .int b]) (.tuple [.int a, .int b]) = true := by
  simp [PyData.eqv, PyData.eqvAll]
theorem ne_use (h1 : Tup H t z) (h2 : Tup H s z) (q : Q (.bl false) H) : rNeD K (.ref t) (.ref s) H Q := by
  refine ⟨_, _, dp_t h1, dp_t h2, sh_t, sh_t, ?_⟩
  rw [eq_t]
  exact q
theorem eq_use (h1 : Tup H t z) (h2 : Tup H s z) (q : Q (.bl true) H) : rEqD K (.ref t) (.ref s) H Q := by
  refine ⟨_, _, dp_t h1, dp_t h2, sh_t, sh_t, ?_⟩
  rw [eq_t]
  exact q
theorem Tup.same {H' : Hp} (h : Tup H t z) (s : Same H H') : Tup H' t z := s _ _ h
theorem is_use (h : Tup H t z) (r : Rat k z.1 z.2) {n m : Int} (hk : k ≤ 4000) (hn : n.natAbs < 2 ^ k) (hm : m.natAbs < 2 ^ k) (e : z.1 * m = n * z.2) (q : RB true H Q) : spIs [.ref t, .int n, .int m] H Q E0 :=
  ⟨t, z.1, z.2, n, m, rfl, h, r.mono hk, Nat.lt_of_lt_of_le hn (Nat.pow_le_pow_right (by decide) hk), Nat.lt_of_lt_of_le hm (Nat.pow_le_pow_right (by decide) hk), e, q⟩
end
end K4

namespace K4
open PySem PySem.Spec PyProof.Rows L2
section
variable {P : Program} {w : World} {K : PySem.W.Frag} {mg : Str → Option Value} {base : Heap} {C : Addr}
/-! ### _law_sums_right -/
def spSums : Sp := fun vs H Q _ => ∃ (t u : Addr) (a b c d : Int), vs = [.ref t, .ref u] ∧ Tup H t (a, b) ∧ Tup H u (c, d) ∧ Rat 40 a b ∧ Rat 40 c d ∧ RB true H Q
abbrev sSums : Stmt := top 25
abbrev nSums : List Str := ["_law_one", "_law_other", "_law_a", "_law_b", "_law_c", "_law_d", "_law_total", "_law_less", "_law_product", "_law_part"]
theorem scSums : FnScope nSums ["_law_one", "_law_other"] (defScope sSums) := ⟨rfl, rfl, rfl, by decide +kernel, rfl, by decide +kernel, by decide +kernel⟩
theorem ok_sums {f : Addr} {fd : FuncData} (F : Fun K "_law_sums_right" "_law_sums_right" sSums f fd) (B : Bn mg) (C1 : Callee2 P w K mg base "plus" (spOp C false rPlus)) (C2 : Callee2 P w K mg base "minus" (spOp C false rMinus)) (C3 : Callee2 P w K mg base "times" (spOp C false rTimes))
    (C4 : Callee2 P w K mg base "over" (spOp C true rOver)) (C5 : Callee P w K mg base CX0 2 "_law_is" ["_law_told", "_law_number", "_law_by"] spIs) : FnOk P w K mg base CX0 6 f fd ["_law_one", "_law_other"] spSums := by
  obtain ⟨f1, fd1, m1, k1, b1, kb1, G1⟩ := C1
  obtain ⟨f2, fd2, m2, k2, b2, kb2, G2⟩ := C2
  obtain ⟨f3, fd3, m3, k3, b3, kb3, G3⟩ := C3
  obtain ⟨f4, fd4, m4, k4, b4, kb4, G4⟩ := C4
  obtain ⟨f5, fd5, m5, k5, b5, G5⟩ := C5
  refine F.ok scSums (fun vs H Q E h => ?_) (fun cdv A outer s H vs Q E hr h => ?_)
  · obtain ⟨t, u, a, b, c, d, rfl, _⟩ := h
    rfl
  · obtain ⟨t, u, a, b, c, d, rfl, ht, hu, ra, rc, q⟩ := h
    have nd := scSums.nd
    refine ⟨_, (pss_cons (ps_asg (pe_tup (pa_cons (pv 0) (pa_cons (pv 1) pa_nil))) (pg_tup rfl (pgs_cons ((pg_tup rfl (pgs_cons ((pg_name (i := 2) nd rfl (Or.inl rfl))) (pgs_cons ((pg_name (i := 3) nd rfl (Or.inl rfl))) pgs_nil)))) (pgs_cons ((pg_tup rfl (pgs_cons ((pg_name (i := 4) nd rfl (Or.inl rfl))) (pgs_cons ((pg_name (i := 5) nd rfl (Or.inl rfl))) pgs_nil)))) pgs_nil)))) (pss_cons (ps_par3 (i := 6) (j := 7) (l := 8) rfl nd rfl rfl rfl (by decide) (by decide) (by decide) rfl rfl rfl (pa_cons ((pe_call (E := E0) G1 (hr.mono (by decide)) rfl m1 k1 b1 .nil passL (pa_cons (pv 0) (pa_cons ((pe_callTy call_list_of (by rfl) B.list (by decide +kernel) (pa_cons (pv 1) pa_nil))) pa_nil)))) (pa_cons ((pe_call (E := E0) G2 (hr.mono (by decide)) rfl m2 k2 b2 .nil passL (pa_cons ((pe_callTy call_list_of (by rfl) B.list (by decide +kernel) (pa_cons (pv 0) pa_nil))) (pa_cons (pv 1) pa_nil)))) (pa_cons ((pe_callK0 (E := E0) G3 (hr.mono (by decide)) rfl m3 k3 kb3 passL (pk_cons (pv 1) (pk_cons (pv 0) pk_nil)))) pa_nil))) (by rfl)) (pss_cons (ps_if (PW.pt (pw_or (pt_not (pt_val (pe_call G5 (hr.mono (by decide)) rfl m5 k5 b5 .nil pass0 (pa_cons (pv 6) (pa_cons (pe_op op_add (pe_op op_mulW (pv 2) (pv 5)) (pe_op op_mulW (pv 4) (pv 3))) (pa_cons ((pe_op op_mulW (pv 3) (pv 5))) pa_nil)))))) (pw_or (pt_not (pt_val (pe_call G5 (hr.mono (by decide)) rfl m5 k5 b5 .nil pass0 (pa_cons (pv 7) (pa_cons (pe_op op_sub (pe_op op_mulW (pv 2) (pv 5)) (pe_op op_mulW (pv 4) (pv 3))) (pa_cons ((pe_op op_mulW (pv 3) (pv 5))) pa_nil)))))) (pw_or1 (pt_not (pt_val (pe_call G5 (hr.mono (by decide)) rfl m5 k5 b5 .nil pass0 (pa_cons (pv 8) (pa_cons ((pe_op op_mulW (pv 2) (pv 4))) (pa_cons ((pe_op op_mulW (pv 3) (pv 5))) pa_nil)))))))))) (pss_one (ps_ret pe_bl)) pss_nil) (pss_cons (ps_if (PW.pt (pw_or ((pt_cmpR (op_neD hr.units) ((pe_callK0 (E := E0) G1 (hr.mono (by decide)) rfl m1 k1 kb1 passL (pk_cons (pv 0) (pk_cons (pv 1) pk_nil)))) (pv 6) (nomark _))) (pw_or ((pt_cmpR (op_neD hr.units) ((pe_call (E := E0) G2 (hr.mono (by decide)) rfl m2 k2 b2 .nil passL (pa_cons (pv 6) (pa_cons (pv 1) pa_nil)))) (pv 0) (nomark _))) (pw_or ((pt_cmpR (op_neD hr.units) ((pe_call (E := E0) G1 (hr.mono (by decide)) rfl m1 k1 b1 .nil passL (pa_cons (pv 7) (pa_cons (pv 1) pa_nil)))) (pv 0) (nomark _))) (pw_or1 ((pt_cmpR (op_neD hr.units) ((pe_call (E := E0) G3 (hr.mono (by decide)) rfl m3 k3 b3 .nil passL (pa_cons (pv 1) (pa_cons (pv 0) pa_nil)))) (pv 8) (nomark _)))))))) (pss_one (ps_ret pe_bl)) pss_nil) (pss_cons (ps_if (PW.pt (pw_or ((pt_cmpR (op_neD hr.units) ((pe_callK0 (E := E0) G2 (hr.mono (by decide)) rfl m2 k2 kb2 passL (pk_cons (pv 0) (pk_cons (pv 1) pk_nil)))) (pe_tup (pa_cons (pe_un un_neg (pe_ix ix_tup (pv 7) (pe_int) (fun _ _ => rfl))) (pa_cons ((pe_ix ix_tup (pv 7) (pe_int) (fun _ _ => rfl))) pa_nil))) (nomark _))) (pw_or1 ((pt_cmpR (op_neD hr.units) ((pe_call (E := E0) G2 (hr.mono (by decide)) rfl m2 k2 b2 .nil passL (pa_cons (pv 0) (pa_cons (pv 0) pa_nil)))) (pe_tup (pa_cons (pe_int) (pa_cons (pe_int) pa_nil))) (nomark _)))))) (pss_one (ps_ret pe_bl)) pss_nil) (pss_cons (ps_if (pt_cmpR op_eq (pv 4) (pe_int) (nomark _)) (pss_one (ps_ret (pe_cmpR (op_eqD hr.units) (pv 8) (pe_tup (pa_cons (pe_int) (pa_cons (pe_int) pa_nil))) (nomark _)))) pss_nil) (pss_cons ((ps_set (i := 9) nd rfl (Or.inl rfl) ((pe_call (E := E0) G4 (hr.mono (by decide)) rfl m4 k4 b4 .nil passL (pa_cons (pv 0) (pa_cons (pv 1) pa_nil)))))) (pss_one (ps_ret (pe_and ((pe_call G5 (hr.mono (by decide)) rfl m5 k5 b5 .nil pass0 (pa_cons (pv 9) (pa_cons ((pe_op op_mulW (pv 2) (pv 5))) (pa_cons ((pe_op op_mulW (pv 3) (pv 4))) pa_nil))))) (pe_and ((pe_cmpR (op_eqD hr.units) ((pe_call (E := E0) G3 (hr.mono (by decide)) rfl m3 k3 b3 .nil passL (pa_cons (pv 9) (pa_cons (pv 1) pa_nil)))) (pv 0) (nomark _))) (pe_and ((pe_cmpR (op_eqD hr.units) ((pe_callK0 (E := E0) G4 (hr.mono (by decide)) rfl m4 k4 kb4 passL (pk_cons (pv 1) (pk_cons (pv 8) pk_nil)))) (pv 0) (nomark _))) (pe_one ((pe_cmpR (op_eqD hr.units) ((pe_call (E := E0) G4 (hr.mono (by decide)) rfl m4 k4 b4 .nil passL (pa_cons (pv 1) (pa_cons (pv 1) pa_nil)))) (pe_tup (pa_cons (pe_int) (pa_cons (pe_int) pa_nil))) (nomark _)))))))))))))))), ?_⟩
    -- unpacking
    refine ⟨_, rfl, _, rfl, by show 2 ≤ sizeLine; decide, fun p hp => ?_⟩
    have s1 := same_new (o := .tup [V.ref t, V.ref u]) hp
    have ht1 := ht.same s1
    have hu1 := hu.same s1
    refine ⟨p, _, rfl, SqT.of upd_same, rfl, _, _, rfl, t, _, rfl, SqT.of ht1, rfl, _, _, rfl, _, _, rfl, rfl, _, _, rfl, u, _, rfl, SqT.of hu1, rfl, _, _, rfl, _, _, rfl, rfl, rfl, ?_⟩
    generalize upd H p (.tup [V.ref t, V.ref u]) = H1 at s1 ht1 hu1
    -- total, less, product
    have hbd : b * d ≠ 0 := Int.mul_ne_zero (by have := ra.pos; omega) (by have := rc.pos; omega)
    have wAD := ml ra.ha rc.hb 80 (by decide)
    have wCB := ml rc.ha ra.hb 80 (by decide)
    have wBD := ml ra.hb rc.hb 80 (by decide)
    have wAC := ml ra.ha rc.ha 80 (by decide)
    have up : ∀ {x : Int} {i : Nat}, x.natAbs < 2 ^ i → i ≤ 100 → x.natAbs < 2 ^ 100 := fun h e => Nat.lt_of_lt_of_le h (Nat.pow_le_pow_right (by decide) e)
    have wS := ad wAD wCB 100 (by decide) (by decide)
    have wM := sb wAD wCB 100 (by decide) (by decide)
    have cm : ∀ {x y : Int}, x.natAbs < 2 ^ 40 → y.natAbs < 2 ^ 40 → CMulW x y := fun h g => wide_mul h g (by decide) (by decide) (by decide)
    refine ⟨_, rfl, _, rfl, u, _, rfl, .inr (SqT.of hu1), fun l hl => ?_⟩
    have s2 := same_new (o := .lst [V.int c, V.int d]) hl
    refine op_use (jg_t (ht1.same s2)) (jg_l upd_same) ra rc (by decide) (fun z => nomatch z) (fun H3 tt s3 _ hT => ?_)
    have s3' := s2.trans s3
    refine ⟨_, rfl, t, _, rfl, .inr (SqT.of (ht1.same s3')), fun l4 hl4 => ?_⟩
    have s4 := same_new (o := .lst [V.int a, V.int b]) hl4
    refine ⟨_, rfl, op_use (jg_l upd_same) (jg_t (hu1.same (s3'.trans s4))) ra rc (by decide) (fun z => nomatch z) (fun H5 tl s5 _ hL => ?_)⟩
    have s5' := s4.trans s5
    have s35 := s3'.trans s5'
    refine ⟨_, rfl, _, rfl, op_use (jg_t (ht1.same s35)) (jg_t (hu1.same s35)) ra rc (by decide) (fun z => nomatch z) (fun H6 tp s6 _ hP => ?_)⟩
    have ht6 := ht1.same (s35.trans s6)
    have hu6 := hu1.same (s35.trans s6)
    have hT6 := hT.same (s5'.trans s6)
    have hL6 := hL.same s6
    have s16 := s1.trans (s35.trans s6)
    clear hT hL s6 s35 s5' s5 hl4 s4 s3' s3 s2 hl
    refine ⟨_, _, _, rfl, ?_⟩
    -- the mathematics
    have hdb : d * b ≠ 0 := by rw [Int.mul_comm]; exact hbd
    have rT := rat_low (k := 100) hbd wS (up wBD (by decide))
    have eT := low_cross (n := a * d + c * b) hbd
    have e1 : low (c * b + a * d) (d * b) = low (a * d + c * b) (b * d) := by rw [Int.add_comm, Int.mul_comm d b]
    generalize low (a * d + c * b) (b * d) = T at hT6 rT eT e1
    obtain ⟨T1, T2⟩ := T
    have eT : T1 * (b * d) = (a * d + c * b) * T2 := eT
    have rT : Rat 100 T1 T2 := rT
    have rL := rat_low (k := 100) hbd wM (up wBD (by decide))
    have eL := low_cross (n := a * d - c * b) hbd
    generalize low (a * d - c * b) (b * d) = L at hL6 rL eL
    obtain ⟨L1, L2⟩ := L
    have eL : L1 * (b * d) = (a * d - c * b) * L2 := eL
    have rL : Rat 100 L1 L2 := rL
    have rP := rat_low (k := 100) hbd (up wAC (by decide)) (up wBD (by decide))
    have eP := low_cross (n := a * c) hbd
    have e3 : low (c * a) (d * b) = low (a * c) (b * d) := by rw [Int.mul_comm c a, Int.mul_comm d b]
    generalize low (a * c) (b * d) = U at hP rP eP e3
    obtain ⟨P1, P2⟩ := U
    have eP : P1 * (b * d) = a * c * P2 := eP
    have rP : Rat 100 P1 P2 := rP
    have ra1 : Rat 100 a b := ra.mono (by decide)
    have rc1 : Rat 100 c d := rc.mono (by decide)
    have hb := ra.pos
    have hd := rc.pos
    have hT2 := rT.pos
    have hL2 := rL.pos
    have hP2 := rP.pos
    have e4 : low (T1 * d - c * T2) (T2 * d) = (a, b) := low_is (Int.mul_ne_zero (by omega) (by omega)) hb ra.gcd (by grind)
    have e5 : low (L1 * d + c * L2) (L2 * d) = (a, b) := low_is (Int.mul_ne_zero (by omega) (by omega)) hb ra.gcd (by grind)
    have e6 : low (c * b - a * d) (d * b) = (-L1, L2) := low_is hdb hL2 (by have := rL.gcd; unfold gcdI at this ⊢; rw [Int.natAbs_neg]; exact this) (by grind)
    have e7 : low (a * b - a * b) (b * b) = (0, 1) := low_is (Int.mul_ne_zero (by omega) (by omega)) (by decide) rfl (by grind)
    -- _law_is, three times
    refine ⟨_, rfl, _, rfl, _, rfl, _, _, rfl, rfl, cm ra.ha rc.hb, _, rfl, _, rfl, _, _, rfl, rfl, cm rc.ha ra.hb, _, _, rfl, rfl, _, rfl, _, rfl, _, _, rfl, rfl, cm ra.hb rc.hb, is_use hT6 rT (by decide) wS (up wBD (by decide)) eT (fun H7 s7 => ⟨_, rfl, iteF ?_⟩)⟩
    refine ⟨_, rfl, _, rfl, _, rfl, _, _, rfl, rfl, cm ra.ha rc.hb, _, rfl, _, rfl, _, _, rfl, rfl, cm rc.ha ra.hb, _, _, rfl, rfl, _, rfl, _, rfl, _, _, rfl, rfl, cm ra.hb rc.hb, is_use (hL6.same s7) rL (by decide) wM (up wBD (by decide)) eL (fun H8 s8 => ⟨_, rfl, iteF ?_⟩)⟩
    have s8' := s7.trans s8
    refine ⟨_, rfl, _, rfl, _, rfl, _, _, rfl, rfl, cm ra.ha rc.ha, _, rfl, _, rfl, _, _, rfl, rfl, cm ra.hb rc.hb, is_use (hP.same s8') rP (by decide) (up wAC (by decide)) (up wBD (by decide)) eP (fun H9 s9 => ⟨_, rfl, iteF ?_⟩)⟩
    have sA := s8'.trans s9
    clear s9 s8' s8 s7
    -- sums again
    refine ⟨_, rfl, _, rfl, op_use (jg_t (hu6.same sA)) (jg_t (ht6.same sA)) rc ra (by decide) (fun z => nomatch z) (fun H7 x s7 _ hX => ⟨_, rfl, ?_⟩)⟩
    rw [show low (c * b + a * d) (d * b) = (T1, T2) from e1] at hX
    have sA := sA.trans s7
    refine ne_use hX (hT6.same sA) ⟨_, rfl, iteF ?_⟩
    refine ⟨_, rfl, _, rfl, op_use (jg_t (hT6.same sA)) (jg_t (hu6.same sA)) rT rc1 (by decide) (fun z => nomatch z) (fun H8 x s8 _ hX => ⟨_, rfl, ?_⟩)⟩
    rw [e4] at hX
    have sA := sA.trans s8
    refine ne_use hX (ht6.same sA) ⟨_, rfl, iteF ?_⟩
    refine ⟨_, rfl, _, rfl, op_use (jg_t (hL6.same sA)) (jg_t (hu6.same sA)) rL rc1 (by decide) (fun z => nomatch z) (fun H9 x s9 _ hX => ⟨_, rfl, ?_⟩)⟩
    rw [e5] at hX
    have sA := sA.trans s9
    refine ne_use hX (ht6.same sA) ⟨_, rfl, iteF ?_⟩
    refine ⟨_, rfl, _, rfl, op_use (jg_t (hu6.same sA)) (jg_t (ht6.same sA)) rc ra (by decide) (fun z => nomatch z) (fun H10 x s10 _ hX => ⟨_, rfl, ?_⟩)⟩
    rw [show low (c * a) (d * b) = (P1, P2) from e3] at hX
    have sA := sA.trans s10
    refine ne_use hX (hP.same sA) ⟨_, rfl, iteF ?_⟩
    -- differences
    refine ⟨_, rfl, _, rfl, op_use (jg_t (hu6.same sA)) (jg_t (ht6.same sA)) rc ra (by decide) (fun z => nomatch z) (fun H11 x s11 _ hX => ?_)⟩
    rw [e6] at hX
    have sA := sA.trans s11
    have hLs : SqT K H11 tl [V.int L1, V.int L2] := SqT.of (hL6.same sA)
    refine ⟨_, rfl, tl, _, 0, _, rfl, rfl, hLs, rfl, _, rfl, _, rfl, tl, _, 1, _, rfl, rfl, hLs, rfl, by show 2 ≤ sizeLine; decide, fun p2 hp2 => ?_⟩
    have sB := same_new (o := .tup [V.int (-L1), V.int L2]) hp2
    have sA := sA.trans sB
    refine ne_use (z := (-L1, L2)) (hX.same sB) upd_same ⟨_, rfl, iteF ?_⟩
    refine ⟨_, rfl, _, rfl, op_use (jg_t (ht6.same sA)) (jg_t (ht6.same sA)) ra ra (by decide) (fun z => nomatch z) (fun H12 x s12 _ hX => ?_)⟩
    rw [e7] at hX
    have sA := sA.trans s12
    refine ⟨by show 2 ≤ sizeLine; decide, fun p3 hp3 => ?_⟩
    have sB := same_new (o := .tup [V.int 0, V.int 1]) hp3
    have sA := sA.trans sB
    refine ne_use (z := (0, 1)) (hX.same sB) upd_same ⟨_, rfl, iteF ?_⟩
    generalize upd H12 p3 (.tup [V.int 0, V.int 1]) = H13 at sA
    -- 0
    refine ⟨_, rfl, rfl, _, rfl, ?_⟩
    by_cases hc : c = 0
    · rw [decide_eq_true (show V.int c = V.int 0 from congrArg V.int hc)]
      have z1 : P1 = 0 := by
        have : P1 * (b * d) = 0 := by rw [eP, hc]; simp
        exact (Int.mul_eq_zero.mp this).resolve_right hbd
      obtain ⟨z2, z3⟩ := low_one (p := P1) (q := P2) (r := 0) (s := 1) hP2 (by decide) rP.gcd rfl (by rw [z1]; simp)
      subst z1
      subst z3
      refine iteT ⟨_, rfl, by show 2 ≤ sizeLine; decide, fun p4 hp4 => ?_⟩
      have sB := same_new (o := .tup [V.int 0, V.int 1]) hp4
      exact eq_use (z := (0, 1)) (hP.same (sA.trans sB)) upd_same (q _ (s16.trans (sA.trans sB)))
    · rw [decide_eq_false (fun z => hc (V.int.inj z))]
      have hbc : b * c ≠ 0 := Int.mul_ne_zero (by omega) hc
      have wBC := ml ra.hb rc.ha 80 (by decide)
      refine iteF ⟨_, rfl, _, rfl, op_use (jg_t (ht6.same sA)) (jg_t (hu6.same sA)) ra rc (by decide) (fun _ => hc) (fun H14 x s14 _ hX => ?_)⟩
      have sA := sA.trans s14
      have rO := rat_low (k := 100) hbc (up wAD (by decide)) (up wBC (by decide))
      have eO := low_cross (n := a * d) hbc
      generalize low (a * d) (b * c) = O at hX rO eO
      obtain ⟨O1, O2⟩ := O
      have eO : O1 * (b * c) = a * d * O2 := eO
      have rO : Rat 100 O1 O2 := rO
      have hO2 := rO.pos
      have e8 : low (O1 * c) (O2 * d) = (a, b) := low_is (Int.mul_ne_zero (by omega) (by omega)) hb ra.gcd (by grind)
      have e9 : low (P1 * d) (P2 * c) = (a, b) := low_is (Int.mul_ne_zero (by omega) hc) hb ra.gcd (by grind)
      have e10 : low (c * d) (d * c) = (1, 1) := low_is (Int.mul_ne_zero (by omega) hc) (by decide) rfl (by grind)
      refine ⟨_, rfl, _, rfl, _, rfl, _, _, rfl, rfl, cm ra.ha rc.hb, _, rfl, _, rfl, _, _, rfl, rfl, cm ra.hb rc.ha, is_use hX rO (by decide) (up wAD (by decide)) (up wBC (by decide)) eO (fun H15 s15 => ⟨_, rfl, iteT ?_⟩)⟩
      have sA := sA.trans s15
      refine ⟨_, rfl, _, rfl, op_use (jg_t (hX.same s15)) (jg_t (hu6.same sA)) rO rc1 (by decide) (fun z => nomatch z) (fun H16 y s17 _ hY => ⟨_, rfl, ?_⟩)⟩
      rw [e8] at hY
      have sA := sA.trans s17
      refine eq_use hY (ht6.same sA) ⟨_, rfl, iteT ?_⟩
      refine ⟨_, rfl, _, rfl, op_use (jg_t (hP.same sA)) (jg_t (hu6.same sA)) rP rc1 (by decide) (fun _ => hc) (fun H17 y s18 _ hY => ⟨_, rfl, ?_⟩)⟩
      rw [e9] at hY
      have sA := sA.trans s18
      refine eq_use hY (ht6.same sA) ⟨_, rfl, iteT ?_⟩
      refine ⟨_, rfl, _, rfl, op_use (jg_t (hu6.same sA)) (jg_t (hu6.same sA)) rc rc (by decide) (fun _ => hc) (fun H18 y s19 _ hY => ?_)⟩
      rw [e10] at hY
      have sA := sA.trans s19
      refine ⟨by show 2 ≤ sizeLine; decide, fun p5 hp5 => ?_⟩
      have sB := same_new (o := .tup [V.int 1, V.int 1]) hp5
      exact eq_use (z := (1, 1)) (hY.same sB) upd_same (q _ (s16.trans (sA.trans sB)))
end
end K4

namespace K4
open PySem PySem.Spec PyProof.Rows L2
theorem cmp_eq (x y : Int) : cmpI (x - y) = (if decide (y < x) = true then 1 else 0) - (if decide (x < y) = true then 1 else 0) := by
  unfold cmpI
  simp only [decide_eq_true_eq]
  split <;> split <;> split <;> omega
theorem cmp_neg (x y : Int) : cmpI (y - x) = -cmpI (x - y) := by
  unfold cmpI
  repeat' split
  all_goals omega
theorem Rat.neg {k : Nat} {a b : Int} (r : Rat k a b) : Rat k (-a) b := ⟨r.pos, by have := r.gcd; unfold gcdI at this ⊢; rw [Int.natAbs_neg]; exact this, by rw [Int.natAbs_neg]; exact r.ha, r.hb⟩
section
variable {P : Program} {w : World} {K : PySem.W.Frag} {mg : Str → Option Value} {base : Heap} {C : Addr}
/-! ### _law_order_right -/
def spOrder : Sp := fun vs H Q _ => ∃ (t u : Addr) (a b c d : Int), vs = [.ref t, .ref u] ∧ Tup H t (a, b) ∧ Tup H u (c, d) ∧ Rat 40 a b ∧ Rat 40 c d ∧ RB true H Q
abbrev sOrder : Stmt := top 27
abbrev nOrder : List Str := ["_law_one", "_law_other", "_law_left", "_law_right", "_law_due"]
theorem scOrder : FnScope nOrder ["_law_one", "_law_other"] (defScope sOrder) := ⟨rfl, rfl, rfl, by decide +kernel, rfl, by decide +kernel, by decide +kernel⟩
theorem ok_order {f : Addr} {fd : FuncData} (F : Fun K "_law_order_right" "_law_order_right" sOrder f fd) (B : Bn mg) (C1 : Callee2 P w K mg base "compared" (spOp C false rCmp)) : FnOk P w K mg base CX0 6 f fd ["_law_one", "_law_other"] spOrder := by
  obtain ⟨f1, fd1, m1, k1, b1, kb1, G1⟩ := C1
  refine F.ok scOrder (fun vs H Q E h => ?_) (fun cdv A outer s H vs Q E hr h => ?_)
  · obtain ⟨t, u, a, b, c, d, rfl, _⟩ := h
    rfl
  · obtain ⟨t, u, a, b, c, d, rfl, ht, hu, ra, rc, q⟩ := h
    have nd := scOrder.nd
    refine ⟨_, (pss_cons (ps_par (i := 2) (j := 3) rfl nd rfl rfl (by decide) rfl rfl (pa_cons ((pe_op op_mulW ((pe_ix ix_tup (pv 0) (pe_int) (fun _ _ => rfl))) ((pe_ix ix_tup (pv 1) (pe_int) (fun _ _ => rfl))))) (pa_cons ((pe_op op_mulW ((pe_ix ix_tup (pv 1) (pe_int) (fun _ _ => rfl))) ((pe_ix ix_tup (pv 0) (pe_int) (fun _ _ => rfl))))) pa_nil)) (by rfl)) (pss_cons ((ps_set (i := 4) nd rfl (Or.inl rfl) (pe_op op_sub (pe_callTy call_int1 (by rfl) B.int boot_int (pa_cons (pe_cmpR op_gt (pv 2) (pv 3) (nomark _)) pa_nil)) (pe_callTy call_int1 (by rfl) B.int boot_int (pa_cons (pe_cmpR op_lt (pv 2) (pv 3) (nomark _)) pa_nil))))) (pss_cons (ps_if (PW.pt (pw_or ((pt_cmpR op_ne ((pe_call (E := E0) G1 (hr.mono (by decide)) rfl m1 k1 b1 .nil passL (pa_cons (pv 0) (pa_cons (pv 1) pa_nil)))) (pv 4) (nomark _))) (pw_or ((pt_cmpR op_ne ((pe_callK0 (E := E0) G1 (hr.mono (by decide)) rfl m1 k1 kb1 passL (pk_cons ((pe_callTy call_list_of (by rfl) B.list (by decide +kernel) (pa_cons (pv 0) pa_nil))) (pk_cons (pv 1) pk_nil)))) (pe_un un_neg (pv 4)) (nomark _))) (pw_or1 ((pt_cmpR op_ne ((pe_call (E := E0) G1 (hr.mono (by decide)) rfl m1 k1 b1 .nil passL (pa_cons (pv 0) (pa_cons (pv 0) pa_nil)))) (pe_int) (nomark _))))))) (pss_one (ps_ret pe_bl)) pss_nil) (pss_one (ps_ret (pe_and ((pe_cmpR op_eq ((pe_call (E := E0) G1 (hr.mono (by decide)) rfl m1 k1 b1 .nil passL (pa_cons (pe_tup (pa_cons (pe_un un_neg (pe_ix ix_tup (pv 0) (pe_int) (fun _ _ => rfl))) (pa_cons ((pe_ix ix_tup (pv 0) (pe_int) (fun _ _ => rfl))) pa_nil))) (pa_cons (pe_tup (pa_cons (pe_un un_neg (pe_ix ix_tup (pv 1) (pe_int) (fun _ _ => rfl))) (pa_cons ((pe_ix ix_tup (pv 1) (pe_int) (fun _ _ => rfl))) pa_nil))) pa_nil)))) (pe_un un_neg (pv 4)) (nomark _))) (pe_one ((pe_callB (r := rIsi K) call_isi (by rfl) B.isinstance boot_isinstance (pa_cons ((pe_call (E := E0) G1 (hr.mono (by decide)) rfl m1 k1 b1 .nil passL (pa_cons (pv 0) (pa_cons (pv 1) pa_nil)))) (pa_cons (pe_bltn (v := .ty "int") (by rfl) B.int (by decide +kernel) rfl) pa_nil))))))))))), ?_⟩
    have cm : ∀ {x y : Int}, x.natAbs < 2 ^ 40 → y.natAbs < 2 ^ 40 → CMulW x y := fun h g => wide_mul h g (by decide) (by decide) (by decide)
    have hT : SqT K H t [V.int a, V.int b] := SqT.of ht
    have hU : SqT K H u [V.int c, V.int d] := SqT.of hu
    refine ⟨_, rfl, t, _, 0, _, rfl, rfl, hT, rfl, _, rfl, u, _, 1, _, rfl, rfl, hU, rfl, _, _, rfl, rfl, cm ra.ha rc.hb, _, rfl, u, _, 0, _, rfl, rfl, hU, rfl, _, rfl, t, _, 1, _, rfl, rfl, hT, rfl, _, _, rfl, rfl, cm rc.ha ra.hb, _, _, rfl, ?_⟩
    refine ⟨_, rfl, _, rfl, _, _, rfl, rfl, .inr ⟨_, rfl, _, rfl, _, rfl, _, _, rfl, rfl, .inr ⟨_, rfl, _, _, rfl, rfl, ?_⟩⟩⟩
    have eD := cmp_eq (a * d) (c * b)
    have hne : ∀ {x y : Int}, x = y → (!decide (V.int x = V.int y)) = false := fun e => by rw [e, decide_eq_true rfl]; rfl
    have heq : ∀ {x y : Int}, x = y → decide (V.int x = V.int y) = true := fun e => by rw [e, decide_eq_true rfl]
    refine ⟨_, rfl, _, rfl, op_use (jg_t ht) (jg_t hu) ra rc (by decide) (fun z => nomatch z) (fun H1 s1 => ⟨_, rfl, rfl, _, rfl, ?_⟩)⟩
    rw [hne eD]
    refine iteF ⟨_, rfl, t, _, rfl, .inr (SqT.of (ht.same s1)), fun l hl => ?_⟩
    have sl := same_new (o := .lst [V.int a, V.int b]) hl
    have s2 := s1.trans sl
    refine ⟨_, rfl, op_use (jg_t (hu.same s2)) (jg_l upd_same) rc ra (by decide) (fun z => nomatch z) (fun H2 s3 => ⟨_, rfl, _, rfl, rfl, _, rfl, ?_⟩)⟩
    rw [hne ((cmp_neg (a * d) (c * b)).trans (congrArg Neg.neg eD))]
    have s4 := s2.trans s3
    refine iteF ⟨_, rfl, _, rfl, op_use (jg_t (ht.same s4)) (jg_t (ht.same s4)) ra ra (by decide) (fun z => nomatch z) (fun H3 s5 => ⟨rfl, _, rfl, ?_⟩)⟩
    rw [hne (show cmpI (a * b - a * b) = 0 by rw [Int.sub_self]; rfl)]
    have s6 := s4.trans s5
    have hT3 : SqT K H3 t [V.int a, V.int b] := SqT.of (ht.same s6)
    refine iteF ⟨_, rfl, t, _, 0, _, rfl, rfl, hT3, rfl, _, rfl, _, rfl, t, _, 1, _, rfl, rfl, hT3, rfl, by show 2 ≤ sizeLine; decide, fun p hp => ?_⟩
    have s7 := same_new (o := .tup [V.int (-a), V.int b]) hp
    have hp7 : Tup (upd H3 p (.tup [V.int (-a), V.int b])) p (-a, b) := upd_same
    have s8 := s6.trans s7
    generalize upd H3 p (.tup [V.int (-a), V.int b]) = H4 at hp7 s8 s7
    have hU4 : SqT K H4 u [V.int c, V.int d] := SqT.of (hu.same s8)
    refine ⟨_, rfl, u, _, 0, _, rfl, rfl, hU4, rfl, _, rfl, _, rfl, u, _, 1, _, rfl, rfl, hU4, rfl, by show 2 ≤ sizeLine; decide, fun p2 hp2 => ?_⟩
    have s9 := same_new (o := .tup [V.int (-c), V.int d]) hp2
    have hp9 : Tup (upd H4 p2 (.tup [V.int (-c), V.int d])) p2 (-c, d) := upd_same
    have s10 := s8.trans s9
    refine op_use (jg_t (hp7.same s9)) (jg_t hp9) ra.neg rc.neg (by decide) (fun z => nomatch z) (fun H5 s11 => ⟨_, rfl, _, rfl, rfl, _, rfl, ?_⟩)
    have eN : cmpI (-a * d - -c * b) = -((if decide (c * b < a * d) = true then 1 else 0) - (if decide (a * d < c * b) = true then 1 else 0)) := by
      rw [← eD, ← cmp_neg, Int.neg_mul, Int.neg_mul]
      congr 1
      omega
    rw [heq eN]
    have s12 := s10.trans s11
    refine iteT ⟨_, rfl, _, rfl, op_use (jg_t (ht.same s12)) (jg_t (hu.same s12)) ra rc (by decide) (fun z => nomatch z) (fun H6 s13 => ?_)⟩
    exact ⟨_, _, _, _, true, rfl, .ty _, (Kd.int _ : Kd H6 _ _).ty, kit_ty (by decide +kernel), q _ (s12.trans s13)⟩
/-! ### _law_wide_right -/
def RV (p : Addr) (n : Nat) (b : Bool) (H : Hp) (Q : VK) : Prop := ∀ H', SB p H H' → Vat H' p n → Q (.bl b) H'
def spWide : Sp := fun vs H Q _ => ∃ (p : Addr) (n : Nat), vs = [.ref p] ∧ Vat H p n ∧ n + 6 ≤ 60000 ∧ RV p (n + 6) true H Q
abbrev sWide : Stmt := top 26
abbrev nWide : List Str := ["_law_vat_here", "_law_a", "_law_b", "_law_c", "_law_d", "_law_one", "_law_other"]
theorem scWide : FnScope nWide ["_law_vat_here"] (defScope sWide) := ⟨rfl, rfl, rfl, by decide +kernel, rfl, by decide +kernel, by decide +kernel⟩
theorem ok_wide {f : Addr} {fd : FuncData} (F : Fun K "_law_wide_right" "_law_wide_right" sWide f fd) (B : Bn mg) (C1 : Callee2 P w K mg base "plus" (spOp C false rPlus)) (C2 : Callee2 P w K mg base "minus" (spOp C false rMinus)) (C3 : Callee2 P w K mg base "times" (spOp C false rTimes))
    (C4 : Callee2 P w K mg base "over" (spOp C true rOver)) (C5 : Callee P w K mg base CX0 2 "_law_is" ["_law_told", "_law_number", "_law_by"] spIs) (C6 : Callee2 P w K mg base "compared" (spOp C false rCmp)) (C7 : Callee P w K mg base CX0 3 "_law_ratio" ["_law_vat_here", "_law_most"] spRatio) : FnOk P w K mg base CX0 6 f fd ["_law_vat_here"] spWide := by
  obtain ⟨f1, fd1, m1, k1, b1, kb1, G1⟩ := C1
  obtain ⟨f2, fd2, m2, k2, b2, kb2, G2⟩ := C2
  obtain ⟨f3, fd3, m3, k3, b3, kb3, G3⟩ := C3
  obtain ⟨f4, fd4, m4, k4, b4, kb4, G4⟩ := C4
  obtain ⟨f5, fd5, m5, k5, b5, G5⟩ := C5
  obtain ⟨f6, fd6, m6, k6, b6, kb6, G6⟩ := C6
  obtain ⟨f7, fd7, m7, k7, b7, G7⟩ := C7
  refine F.ok scWide (fun vs H Q E h => ?_) (fun cdv A outer s H vs Q E hr h => ?_)
  · obtain ⟨p, n, rfl, _⟩ := h
    rfl
  · obtain ⟨p, n, rfl, hv, hn, q⟩ := h
    have nd := scWide.nd
    refine ⟨_, (pss_cons (ps_asg (pe_tup (pa_cons ((pe_call G7 (hr.mono (by decide)) rfl m7 k7 b7 .nil pass0 (pa_cons (pv 0) (pa_cons (pe_op op_pow pe_int pe_int) pa_nil)))) (pa_cons ((pe_call G7 (hr.mono (by decide)) rfl m7 k7 b7 .nil pass0 (pa_cons (pv 0) (pa_cons (pe_op op_pow pe_int pe_int) pa_nil)))) pa_nil))) (pg_tup rfl (pgs_cons ((pg_tup rfl (pgs_cons ((pg_name (i := 1) nd rfl (Or.inl rfl))) (pgs_cons ((pg_name (i := 2) nd rfl (Or.inl rfl))) pgs_nil)))) (pgs_cons ((pg_tup rfl (pgs_cons ((pg_name (i := 3) nd rfl (Or.inl rfl))) (pgs_cons ((pg_name (i := 4) nd rfl (Or.inl rfl))) pgs_nil)))) pgs_nil)))) (pss_cons (ps_par (i := 5) (j := 6) rfl nd rfl rfl (by decide) rfl rfl (pa_cons (pe_tup (pa_cons (pv 1) (pa_cons (pv 2) pa_nil))) (pa_cons (pe_tup (pa_cons (pv 3) (pa_cons (pv 4) pa_nil))) pa_nil)) (by rfl)) (pss_cons (ps_if (PW.pt (pw_or (pt_not (pt_val (pe_call G5 (hr.mono (by decide)) rfl m5 k5 b5 .nil pass0 (pa_cons ((pe_call (E := E0) G1 (hr.mono (by decide)) rfl m1 k1 b1 .nil passL (pa_cons (pv 5) (pa_cons (pv 6) pa_nil)))) (pa_cons (pe_op op_add (pe_op op_mulW (pv 1) (pv 4)) (pe_op op_mulW (pv 3) (pv 2))) (pa_cons ((pe_op op_mulW (pv 2) (pv 4))) pa_nil)))))) (pw_or1 (pt_not (pt_val (pe_call G5 (hr.mono (by decide)) rfl m5 k5 b5 .nil pass0 (pa_cons ((pe_call (E := E0) G2 (hr.mono (by decide)) rfl m2 k2 b2 .nil passL (pa_cons (pv 5) (pa_cons (pv 6) pa_nil)))) (pa_cons (pe_op op_sub (pe_op op_mulW (pv 1) (pv 4)) (pe_op op_mulW (pv 3) (pv 2))) (pa_cons ((pe_op op_mulW (pv 2) (pv 4))) pa_nil))))))))) (pss_one (ps_ret pe_bl)) pss_nil) (pss_cons (ps_if (PW.pt (pw_or (pt_not (pt_val (pe_call G5 (hr.mono (by decide)) rfl m5 k5 b5 .nil pass0 (pa_cons ((pe_call (E := E0) G3 (hr.mono (by decide)) rfl m3 k3 b3 .nil passL (pa_cons (pv 5) (pa_cons (pv 6) pa_nil)))) (pa_cons ((pe_op op_mulW (pv 1) (pv 3))) (pa_cons ((pe_op op_mulW (pv 2) (pv 4))) pa_nil)))))) (pw_or1 ((pt_cmpR op_ne ((pe_call (E := E0) G6 (hr.mono (by decide)) rfl m6 k6 b6 .nil passL (pa_cons (pv 5) (pa_cons (pv 6) pa_nil)))) (pe_op op_sub (pe_callTy call_int1 (by rfl) B.int boot_int (pa_cons (pe_cmpR op_gt (pe_op op_mulW (pv 1) (pv 4)) (pe_op op_mulW (pv 3) (pv 2)) (nomark _)) pa_nil)) (pe_callTy call_int1 (by rfl) B.int boot_int (pa_cons (pe_cmpR op_lt (pe_op op_mulW (pv 1) (pv 4)) (pe_op op_mulW (pv 3) (pv 2)) (nomark _)) pa_nil))) (nomark _)))))) (pss_one (ps_ret pe_bl)) pss_nil) (pss_one (ps_ret (pe_or ((pe_cmpR op_eq (pv 3) (pe_int) (nomark _))) (pe_one ((pe_call G5 (hr.mono (by decide)) rfl m5 k5 b5 .nil pass0 (pa_cons ((pe_call (E := E0) G4 (hr.mono (by decide)) rfl m4 k4 b4 .nil passL (pa_cons (pv 5) (pa_cons (pv 6) pa_nil)))) (pa_cons ((pe_op op_mulW (pv 1) (pv 4))) (pa_cons ((pe_op op_mulW (pv 2) (pv 3))) pa_nil))))))))))))), ?_⟩
    refine ⟨_, rfl, _, _, rfl, rfl, ⟨by decide, by decide, by decide⟩, p, _, n, rfl, hv, by omega, by decide, by decide, fun H1 t a b s1 v1 ht ra => ?_⟩
    refine ⟨_, rfl, _, _, rfl, rfl, ⟨by decide, by decide, by decide⟩, p, _, n + 3, rfl, v1, by omega, by decide, by decide, fun H2 u c d s2 v2 hu rc => ?_⟩
    have ntp : t ≠ p := by
      obtain ⟨_, _, _, _, e, _⟩ := v1
      exact ne_of ht e (by intro z; cases z)
    have ht2 : Tup H2 t (a, b) := s2 _ _ ntp ht
    have s02 := s1.trans s2
    refine ⟨by show 2 ≤ sizeLine; decide, fun r hr' => ?_⟩
    have s3 := same_new (o := .tup [V.ref t, V.ref u]) hr'
    have ht3 := ht2.same s3
    have hu3 := hu.same s3
    have v3 := v2.same s3
    have s03 := s02.trans (SB.of s3)
    refine ⟨r, _, rfl, SqT.of upd_same, rfl, _, _, rfl, t, _, rfl, SqT.of ht3, rfl, _, _, rfl, _, _, rfl, rfl, _, _, rfl, u, _, rfl, SqT.of hu3, rfl, _, _, rfl, _, _, rfl, rfl, rfl, ?_⟩
    generalize upd H2 r (.tup [V.ref t, V.ref u]) = H3 at s3 ht3 hu3 v3 s03
    refine ⟨_, rfl, _, rfl, by show 2 ≤ sizeLine; decide, fun x hx => ?_⟩
    have s4 := same_new (o := .tup [V.int a, V.int b]) hx
    have hX : Tup (upd H3 x (.tup [V.int a, V.int b])) x (a, b) := upd_same
    have v4 := v3.same s4
    have s04 := s03.trans (SB.of s4)
    generalize upd H3 x (.tup [V.int a, V.int b]) = H4 at hX v4 s04
    refine ⟨_, rfl, _, rfl, by show 2 ≤ sizeLine; decide, fun y hy => ?_⟩
    have s5 := same_new (o := .tup [V.int c, V.int d]) hy
    have hY : Tup (upd H4 y (.tup [V.int c, V.int d])) y (c, d) := upd_same
    have v5 := v4.same s5
    have hX5 := hX.same s5
    have s05 := s04.trans (SB.of s5)
    generalize upd H4 y (.tup [V.int c, V.int d]) = H5 at hY v5 s05 hX5
    refine ⟨_, _, rfl, ?_⟩
    have hbd : b * d ≠ 0 := Int.mul_ne_zero (by have := ra.pos; omega) (by have := rc.pos; omega)
    have wAD := ml ra.ha rc.hb 80 (by decide)
    have wCB := ml rc.ha ra.hb 80 (by decide)
    have wBD := ml ra.hb rc.hb 80 (by decide)
    have wAC := ml ra.ha rc.ha 80 (by decide)
    have up : ∀ {x : Int} {i : Nat}, x.natAbs < 2 ^ i → i ≤ 100 → x.natAbs < 2 ^ 100 := fun h e => Nat.lt_of_lt_of_le h (Nat.pow_le_pow_right (by decide) e)
    have wS := ad wAD wCB 100 (by decide) (by decide)
    have wM := sb wAD wCB 100 (by decide) (by decide)
    have cm : ∀ {x y : Int}, x.natAbs < 2 ^ 40 → y.natAbs < 2 ^ 40 → CMulW x y := fun h g => wide_mul h g (by decide) (by decide) (by decide)
    refine ⟨_, rfl, _, rfl, op_use (jg_t hX5) (jg_t hY) ra rc (by decide) (fun z => nomatch z) (fun H6 tt s6 _ hT => ?_)⟩
    refine ⟨_, rfl, _, rfl, _, _, rfl, rfl, cm ra.ha rc.hb, _, rfl, _, rfl, _, _, rfl, rfl, cm rc.ha ra.hb, _, _, rfl, rfl, _, rfl, _, rfl, _, _, rfl, rfl, cm ra.hb rc.hb, is_use hT (rat_low (k := 100) hbd wS (up wBD (by decide))) (by decide) wS (up wBD (by decide)) (low_cross hbd) (fun H7 s7 => ⟨_, rfl, iteF ?_⟩)⟩
    have sA := s6.trans s7
    refine ⟨_, rfl, _, rfl, op_use (jg_t (hX5.same sA)) (jg_t (hY.same sA)) ra rc (by decide) (fun z => nomatch z) (fun H8 tt s8 _ hT => ?_)⟩
    refine ⟨_, rfl, _, rfl, _, _, rfl, rfl, cm ra.ha rc.hb, _, rfl, _, rfl, _, _, rfl, rfl, cm rc.ha ra.hb, _, _, rfl, rfl, _, rfl, _, rfl, _, _, rfl, rfl, cm ra.hb rc.hb, is_use hT (rat_low (k := 100) hbd wM (up wBD (by decide))) (by decide) wM (up wBD (by decide)) (low_cross hbd) (fun H9 s9 => ⟨_, rfl, iteF ?_⟩)⟩
    have sA := (sA.trans s8).trans s9
    refine ⟨_, rfl, _, rfl, op_use (jg_t (hX5.same sA)) (jg_t (hY.same sA)) ra rc (by decide) (fun z => nomatch z) (fun H10 tt s10 _ hT => ?_)⟩
    refine ⟨_, rfl, _, rfl, _, _, rfl, rfl, cm ra.ha rc.ha, _, rfl, _, rfl, _, _, rfl, rfl, cm ra.hb rc.hb, is_use hT (rat_low (k := 100) hbd (up wAC (by decide)) (up wBD (by decide))) (by decide) (up wAC (by decide)) (up wBD (by decide)) (low_cross hbd) (fun H11 s11 => ⟨_, rfl, iteF ?_⟩)⟩
    have sA := (sA.trans s10).trans s11
    refine ⟨_, rfl, _, rfl, op_use (jg_t (hX5.same sA)) (jg_t (hY.same sA)) ra rc (by decide) (fun z => nomatch z) (fun H12 s12 => ?_)⟩
    refine ⟨_, rfl, _, rfl, _, _, rfl, rfl, cm ra.ha rc.hb, _, rfl, _, rfl, _, _, rfl, rfl, cm rc.ha ra.hb, _, _, rfl, rfl, .inr ⟨_, rfl, _, rfl, _, rfl, _, _, rfl, rfl, cm ra.ha rc.hb, _, rfl, _, rfl, _, _, rfl, rfl, cm rc.ha ra.hb, _, _, rfl, rfl, .inr ⟨_, rfl, _, _, rfl, rfl, rfl, _, rfl, ?_⟩⟩⟩
    have hne : ∀ {x y : Int}, x = y → (!decide (V.int x = V.int y)) = false := fun e => by rw [e, decide_eq_true rfl]; rfl
    rw [hne (cmp_eq (a * d) (c * b))]
    have sA := sA.trans s12
    refine iteF ⟨_, rfl, rfl, _, rfl, ?_⟩
    by_cases hc : c = 0
    · rw [decide_eq_true (show V.int c = V.int 0 from congrArg V.int hc)]
      exact iteT (q _ (s05.trans (SB.of sA)) (v5.same sA))
    · rw [decide_eq_false (fun z => hc (V.int.inj z))]
      have hbc : b * c ≠ 0 := Int.mul_ne_zero (by have := ra.pos; omega) hc
      have wBC := ml ra.hb rc.ha 80 (by decide)
      refine iteF ⟨_, rfl, _, rfl, op_use (jg_t (hX5.same sA)) (jg_t (hY.same sA)) ra rc (by decide) (fun _ => hc) (fun H13 tt s13 _ hT => ?_)⟩
      refine ⟨_, rfl, _, rfl, _, _, rfl, rfl, cm ra.ha rc.hb, _, rfl, _, rfl, _, _, rfl, rfl, cm ra.hb rc.ha, is_use hT (rat_low (k := 100) hbc (up wAD (by decide)) (up wBC (by decide))) (by decide) (up wAD (by decide)) (up wBC (by decide)) (low_cross hbc) (fun H14 s14 => ?_)⟩
      have sA := (sA.trans s13).trans s14
      exact q _ (s05.trans (SB.of sA)) (v5.same sA)
end
end K4

namespace K4
open PySem PySem.Spec PyProof.Rows L2
/-! ### an exception that was caught and is kept by a name -/
/-- the exception object at a, of the class cls, its own dict d -/
def Held (cls : Value) (d : Option Addr) (a : Addr) : HO := .ext fun h => ∃ (ob : Obj) (fv : Array Value), h.get? a = some ob ∧ Zc cls d ob ∧ ob.data = .fields fv
section
variable {X : Cx} {pins : List (Addr × Obj)} {σ : L2.St} {H : Hp} {s : Shared} {a : Addr} {ob : Obj} {fv : Array Value} {cls : Value} {d : Option Addr}
/-- a pinned exception that is newer than the frame is tracked from here on -/
theorem track (I : Inv X ((a, ob) :: pins) σ H s) (hz : Zc cls d ob) (hd : ob.data = .fields fv) (n0 : X.s_0.heap.get? a = none) (np : ∀ p ∈ X.pn ++ pins, p.1 ≠ a) : Inv X pins σ (upd H a (Held cls d a)) s := by
  obtain ⟨ha, hn, hL, hF, _⟩ := I.pin (a, ob) (List.mem_append_right _ List.mem_cons_self)
  have ha : s.heap.get? a = some ob := ha
  have hn : H a = none := hn
  have hL : a ≠ X.env.locals := hL
  have new : ObjOk X.prog X.w (upd H a (Held cls d a)) s.heap a (Held cls d a) := ⟨⟨ob, fv, ha, hz, hd⟩, ⟨ob, ha⟩, fun _ _ ⟨o, v, e, r⟩ k => ⟨o, v, k o e, r⟩⟩
  have old : ∀ b o, X.s_0.heap.get? b = some o → b ≠ a := fun b o e z => by
    rw [z, n0] at e
    cases e
  have tr : ∀ b o, H b = some o → upd H a (Held cls d a) b = some o := fun b o e => by
    rw [upd_ne (ne_of_none e hn)]
    exact e
  have B := I.base
  refine ⟨I.ok, I.os, I.bare, ⟨B.keep, B.slot, fun b o e n x => ?_, B.there, fun b xs e => tr _ _ (B.tups b xs e), fun b o u e => tr _ _ (B.frzs b o u e), fun b ps e => ?_⟩, I.loc, I.cell, ?_, fun x c e => ?_, fun p hp => ?_, HOk.laidN I.hok (fun _ _ q => q) hn new, I.len⟩
  · rw [upd_ne (old b o e)]
    exact B.free b o e n x
  · obtain ⟨m, q⟩ := B.tbls b ps e
    exact ⟨m, tr _ _ q⟩
  · rw [upd_ne hL.symm]
    exact I.free
  · have nc : c ≠ a := fun z => by
      obtain ⟨v, o, q, q2⟩ := I.cell x c e
      rw [z, ha] at q
      cases q
      rw [hd] at q2
      cases q2
    rw [upd_ne nc]
    exact I.freeC x c e
  · have hp2 : p ∈ X.pn ++ ((a, ob) :: pins) := by
      rcases List.mem_append.mp hp with z | z
      · exact List.mem_append_left _ z
      · exact List.mem_append_right _ (List.mem_cons_of_mem _ z)
    obtain ⟨e1, e2, e3⟩ := I.pin p hp2
    exact ⟨e1, by rw [upd_ne (np p hp)]; exact e2, e3⟩
/-- isinstance(e, C) of a kept exception of just this class, and its field -/
theorem held_at (I : Inv X pins σ H s) (e : H a = some (Held cls d a)) : ∃ ob fv, s.heap.get? a = some ob ∧ Zc cls d ob ∧ ob.data = .fields fv := by
  have z : ObjOk X.prog X.w H s.heap a (.ext fun h => ∃ (ob : Obj) (fv : Array Value), h.get? a = some ob ∧ Zc cls d ob ∧ ob.data = .fields fv) := I.hok a _ e
  exact z.1
end
/-! ### try: .. except C as n: y = n -/
/-- what the clause wishes of what its body raises: it is C's, and behind it y (slot j) keeps it -/
def wKeep (K : PySem.W.Frag) (c : Value) (i j m : Nat) (D : Ends) : WX := fun cls d σ H =>
  PySem.W.exmOne K cls c = some true ∧ ∀ a, H a = none → σ.length = m → D.nx (((σ.set i (some (.ref a))).set j (some (.ref a))).set i none) (upd H a (Held cls d a))
section
variable {X : Cx} {x n y : Str} {c : Value} {i j : Nat} {body : List Stmt} {np px py ap hp tp : Pos} {tb : WX → TS}
theorem ps_try_keep (stk : X.stack = X.env :: X.outer) (fra : X.env.frame = some X.env.locals) (noex : X.ex = []) (nod : X.N.Nodup) (atI : X.N[i]? = some n) (atJ : X.N[j]? = some y) (kn : X.env.kindOf n = some .local) (ly : Loc X.env.scope y) (fy : X.fn y = true ∨ X.env.scope.names.lookup y = some .local) (nm : Names X x c)
    (hi : i < X.N.length) (d1 : (n == ("__debug__" : Str)) = false) (d2 : (n == ("__classdict__" : Str)) = false)
    (run : ∀ (W : WX) (pn : List (Addr × Obj)) (xe : Value → Shared → Prop), Takes (X.tr pn xe) W → PassesOwn (model X.prog X.w) X.A X.env xe → PSs (X.tr pn xe) body (tb W)) :
    PS X (.Try body [.ExceptHandler (some (.Name x np)) (some n) [.Assign [.Name y py] (.Name n px) ap] hp] [] [] tp) (fun D σ H => tb (wKeep X.K c i j X.N.length D) D σ H) := by
  refine ⟨fun pins s σ H D I wish => ?_⟩
  have good := I.ok
  have lone : Loc X.env.scope n := .inl kn
  have frames : X.A.frames = some (X.env :: X.outer) := by rw [good.frames, stk]
  refine wpAny_Try_except (wpAny_mono ((run (wKeep X.K c i j X.N.length D) (X.pn ++ pins) (fun e z => wpAny (model X.prog X.w) X.A (noteFrame e X.env) (fun _ z2 => wpAny (model X.prog X.w) X.A (setFlight e none)
      (fun _ z3 => wpAny (model X.prog X.w) X.A (handleBy e X.env [.ExceptHandler (some (.Name x np)) (some n) [.Assign [.Name y py] (.Name n px) ap] hp]) (SP X pins D) X.xe z3) X.xe z2) X.xe z) (fun u sT air => ?_) PassesOwn.looking).run [] s σ H D (I.toTry _) wish) (fun fl sE hE => ?_) (fun _ _ z => z))
  · obtain ⟨a, B, sG, pG, σG, HG, cls, d, rfl, JG, ground, slots, sky, free, hos, bare, ematch, keep⟩ := air
    have J : Inv X pins σG HG sG := JG.ofTry good
    rw [show (X.tr (X.pn ++ pins) _).stack = X.env :: X.outer from stk] at sky
    show wpAny (model X.prog X.w) X.A (noteFrame (.ref a) X.env) _ _ _
    refine Sky.land Zc.steady frames fra sky fun hA flA upA => ?_
    have JA : Inv X pins σG HG { sT with heap := hA } := J.landed ground flA.1 (slots.trans upA) hos bare
    obtain ⟨oA, vA, gA, zA, dA⟩ := flA.there
    have away : a ∉ frs (X.env :: X.outer) := fun hm => by
      obtain ⟨_, oz, ez, nf⟩ := flA.2.2.1.mem hm
      rw [gA] at ez
      cases ez
      exact nf _ dA
    have noL : a ≠ X.env.locals := fun z => away (List.mem_filterMap.mpr ⟨X.env, List.mem_cons_self, by rw [fra, z]⟩)
    have noF : a ∉ X.fs := fun hm => by
      obtain ⟨e, he, q⟩ := List.mem_filterMap.mp hm
      exact away (List.mem_filterMap.mpr ⟨e, List.mem_cons_of_mem _ he, q⟩)
    have SA := JA.suite gA dA free noL noF
    have Bnone : B.get? a = none := flA.2.1
    have offB : ∀ b o, sG.heap.get? b = some o → b ∉ frs X.stack → b ≠ a := fun b o e nf z => by
      have q := ground b o e nf
      rw [z, Bnone] at q
      cases q
    have off0 : X.s_0.heap.get? a = none := by
      cases e : X.s_0.heap.get? a with
      | none => rfl
      | some o =>
        obtain ⟨o2, q⟩ := J.base.there a o e (by rw [noex]; exact fun z => nomatch z)
        exact absurd rfl (offB a o2 q (by rw [stk]; exact away))
    have offP : ∀ p ∈ X.pn ++ pins, p.1 ≠ a := fun p hp => by
      obtain ⟨q, _, nl, nf, _⟩ := J.pin p hp
      refine offB p.1 _ q fun hm => ?_
      rw [stk] at hm
      obtain ⟨e, he, qe⟩ := List.mem_filterMap.mp hm
      rcases List.mem_cons.mp he with z | z
      · rw [z, fra] at qe
        exact nl (Option.some.inj qe).symm
      · exact nf (List.mem_filterMap.mpr ⟨e, z, qe⟩)
    -- the clause takes it
    refine wpAny_handleBy_cons (codeAny_handlers_test ?_) (by intro q; cases q)
    have look : PySem.W.Looks (model X.prog X.w) hA (typeOf (.ref a)) cls := fun _ _ _ _ k q => wpAny_typeOf_ref (k _ _ gA) (by rw [zA.1]; exact q)
    have answer := PySem.W.exm_one (M := model X.prog X.w) JA.kIn look ematch
    have named : ∀ {Q E : Value → Shared → Prop}, Q c { sT with heap := hA } → wpAny (model X.prog X.w) (X.A.mark (some (.ref a))) (eval (.Name x np) X.env) Q E { sT with heap := hA } := fun {Q E} q => by
      obtain ⟨g1, g2, g3 | ⟨g3, g4, g5⟩⟩ := nm
      · exact ld_glob (X := X.suite a ((a, oA) :: (X.pn ++ pins))) SA g1 g3 q g2
      · exact ld_blt (X := X.suite a ((a, oA) :: (X.pn ++ pins))) SA g1 g3 g4 q g5 g2
    refine named (answer.here ?_)
    refine codeAny_handlers_suite_as (HandSPX.lands_againZ flA fun hB flB upB => ?_)
    have JB : Inv X pins σG HG { sT with heap := hB } := J.landed ground flB.1 ((slots.trans upA).trans upB) hos bare
    obtain ⟨oB, vB, gB, zB, dB⟩ := flB.there
    have SB' := JB.suite gB dB free noL noF
    refine store_ok (X := X.suite a ((a, oB) :: (X.pn ++ pins))) (v := .ref a) SB' nod atI lone rfl (fun s5 S5 => ?_) (.inr kn)
    have vis : Vis X.env.scope n := .inl kn
    have suite : PSs (X.suite a ((a, oB) :: (X.pn ++ pins))) [.Assign [.Name y py] (.Name n px) ap] (tAsg (tVar i) (gName j)) := pss_one (ps_set nod atJ ly (pe_var atI vis d1 d2) rfl fy)
    have inI : (σG.set i (some (V.ref a)))[i]? = some (some (V.ref a)) := List.getElem?_set_self (by rw [J.len]; exact hi)
    refine wpAny_mono (suite.run [] s5 _ HG { nx := fun σ' H' => σ' = (σG.set i (some (V.ref a))).set j (some (V.ref a)) ∧ H' = HG, rt := fun _ _ => False } S5 ⟨_, inI, rfl, rfl⟩) (fun fl s6 h6 => ?_) (fun _ _ z => False.elim z)
    cases fl with
    | next =>
      obtain ⟨σ6, H6, S6, e1, e2⟩ := h6
      rw [e1, e2] at S6
      have K6 : Inv X ((a, oB) :: pins) ((σG.set i (some (V.ref a))).set j (some (V.ref a))) HG s6 := ⟨good, S6.os, S6.bare, S6.base, S6.loc, S6.cell, S6.free, S6.freeC, fun p hp => S6.pin p (by
        rw [List.append_nil]
        rcases List.mem_append.mp hp with z | z
        · exact List.mem_cons_of_mem _ (List.mem_append_left _ z)
        · rcases List.mem_cons.mp z with z | z
          · rw [z]
            exact List.mem_cons_self
          · exact List.mem_cons_of_mem _ (List.mem_append_right _ z)), S6.hok, S6.len⟩
      exact gone_ok K6 nod atI kn fun s7 K7 => ⟨_, _, track K7 zB dB off0 offP, keep a free J.len⟩
    | brk =>
      obtain ⟨_, _, _, z⟩ := h6
      exact z.elim
    | cont =>
      obtain ⟨_, _, _, z⟩ := h6
      exact z.elim
    | ret u =>
      obtain ⟨_, _, _, _, _, z⟩ := h6
      exact z.elim
  · cases fl with
    | next =>
      obtain ⟨_, _, J, q⟩ := hE
      exact wpAny_execs_nil ⟨_, _, J.ofTry good, q⟩
    | brk =>
      obtain ⟨_, _, J, q⟩ := hE
      exact ⟨_, _, J.ofTry good, q⟩
    | cont =>
      obtain ⟨_, _, J, q⟩ := hE
      exact ⟨_, _, J.ofTry good, q⟩
    | ret u =>
      obtain ⟨_, _, _, J, r, q⟩ := hE
      exact ⟨_, _, _, J.ofTry good, r, q⟩
end
end K4

namespace K4
open PySem PySem.Spec PyProof.Rows L2
theorem any_cls {K : PySem.W.Frag} {C : Addr} (h : PySem.W.hasDictIn K C = true) : (PySem.W.clsIn K C).isSome = true := by
  unfold PySem.W.hasDictIn at h
  cases e : PySem.W.clsIn K C with
  | some c => rfl
  | none =>
    rw [e] at h
    cases h
section
variable {X : Cx} {C : Addr}
/-- a kept exception of the class at C, with its fields -/
def Kept (C : Addr) (fs : List (Str × V)) (a : Addr) (H : Hp) : Prop := ∃ dd : Addr, H a = some (Held (.ref C) (some dd) a) ∧ H dd = some (.xd fs)
theorem kept_inst {pins : List (Addr × Obj)} {σ : L2.St} {H : Hp} {s : Shared} {a : Addr} {fs : List (Str × V)} (I : Inv X pins σ H s) (k : Kept C fs a H) :
    ∃ (ob : Obj) (mA : Str → Option Value) (od : Obj), PySem.W.InstAt s.heap a ob C (some od) ∧ (∀ f, RelO (fs.lookup f) (mA f)) ∧ ∀ n, PySem.W.lookIn n od = some (mA n) := by
  obtain ⟨dd, h1, h2⟩ := k
  obtain ⟨ob, fv, g, z, dt⟩ := held_at I h1
  have q : ObjOk X.prog X.w H s.heap dd (.xd fs) := I.hok dd _ h2
  obtain ⟨mA, ns, rel⟩ := q
  obtain ⟨od, go, lo⟩ := lookIn_ns ns
  exact ⟨ob, mA, od, ⟨g, z.1, by unfold PySem.W.notCls; rw [dt] <;> rfl, by rw [z.2]; exact go⟩, rel, lo⟩
def rIsH (C : Addr) : List V → Hp → VK → Prop := fun xs H Q => ∃ (a : Addr) (fs : List (Str × V)), xs = [.ref a, .ref C] ∧ Kept C fs a H ∧ Q (.bl true) H
theorem call_isH (E : ExcC X.K C) : CallR X (.builtin "isinstance") (rIsH C) := by
  intro pins s σ H xs us Q I r h
  obtain ⟨a, fs, rfl, k, q⟩ := h
  obtain ⟨u1, u2, rfl, r1, r2⟩ := vals2 r
  obtain rfl : u1 = Value.ref a := r1
  obtain rfl : u2 = Value.ref C := r2
  obtain ⟨ob, mA, od, J, _⟩ := kept_inst I k
  have one : PySem.W.kitOne X.K (.ref C) (.ref C) = some true := by
    unfold PySem.W.kitOne
    rw [if_pos (beq_self_eq_true _)]
  exact PySem.W.kia_one (PySem.W.kitx_exc (any_cls E.hd) E.hg E.hk E.hs E.ha E.hn E.ht E.hm) I.kIn J one (fun z => nomatch z) fun tk => ⟨.bl true, H, I.tok tk, rfl, q⟩
def tHf (C : Addr) (f : Str) (te : TE) : TE := fun σ H Q => te σ H fun x H1 => ∃ (a : Addr) (fs : List (Str × V)) (v : V), x = .ref a ∧ Kept C fs a H1 ∧ fs.lookup f = some v ∧ Q v H1
theorem pe_hf {e : Expr} {te : TE} {pos : Pos} {n : Str} (T : XfC X.K C) (no : PySem.W.findIn X.K (.ref C) n = some none) (he : PE X e te) (hb : attributeBase e n X.env (eval e X.env) = eval e X.env := by rfl) : PE X (.Attribute e n pos) (tHf C n te) := by
  refine ⟨fun pins s σ H Q I h => attr_of hb (thn (he.run pins s σ H _ I h) fun u s1 hh => ?_)⟩
  obtain ⟨x, H1, I1, rx, a, fs, v, rfl, k, l, q⟩ := hh
  obtain rfl : u = Value.ref a := rx
  obtain ⟨ob, mA, od, J, rel, lo⟩ := kept_inst I1 k
  obtain ⟨w, hw, rw'⟩ := RelO.some_of (v := v) (o := mA n) (by rw [← l]; exact rel n)
  exact HandSPX.exc_get I1.kIn J T.ga T.gg T.exC (PySem.W.findObj_own T.hdC no rfl (by rw [lo, hw])) (handed_of rw') ⟨v, H1, I1.tok _, rw', q⟩
end
/-! ### _law_heard -/
abbrev sHeard : Stmt := top 28
abbrev nHeard : List Str := ["_law_ask", "_law_caught", "error"]
theorem scHeard : FnScope nHeard ["_law_ask"] (defScope sHeard) := ⟨rfl, rfl, rfl, by decide +kernel, rfl, by decide +kernel, by decide +kernel⟩
/-- what asks raises a BadRatio; its part is handed back -/
def THeard (C : Addr) : (XK → Hp → VK → Prop) → Hp → VK → Prop := fun tl H Q => ∃ z : Str, ∀ N : VK, tl (fun cls d H' => cls = .ref C ∧ ∃ dd, d = some dd ∧ H' dd = some (.xd [(("part" : Str), .str z)]) ∧ ∀ H'', Same H' H'' → Q (.str z) H'') H N
/-- what the top has written of SeenError (at CS) beside BadRatio (at C) -/
structure SeTxt (K : PySem.W.Frag) (mg : Str → Option Value) (CS C : Addr) : Prop where
  mgS : mg "SeenError" = some (.ref CS)
  sub : PySem.W.exmOne K (.ref C) (.ref CS) = some true
  ex : ExcC K C
  xf : XfC K C
theorem set_one {σ : L2.St} {x : Option V} {y : V} (h : σ.length = 3) : (((σ.set 2 x).set 1 (some y)).set 2 none)[1]? = some (some y) := by
  match σ, h with
  | [a, b, c], _ => rfl
theorem heard_gives {X : Cx} {CS C fI g : Addr} {cdg : Value} {q : Str} (B : Bn X.mg) (T : BrTxt X.K X.mg C fI) (S : SeTxt X.K X.mg CS C) : LamX.GivesTo X nHeard "_law_heard" (defScope sHeard) g cdg (defBody sHeard) "_law_ask" q (THeard C) := by
  intro f c' s H Q tl act hc h
  obtain ⟨z, h⟩ := h
  have nd := scHeard.nd
  refine ⟨_, (pss_cons (ps_set (i := 1) nd rfl (Or.inl rfl) pe_non) (pss_cons (ps_try_keep (i := 2) (j := 1) (c := .ref CS) (tb := fun W D σ H => ∃ Ech : XK, (∀ cls d σ' H', Ech cls d H' → W cls d σ' H') ∧ σ[0]? = some (some (.ref f)) ∧ H c' = some (LamX.CodeO c' q) ∧ tl Ech H (fun _ H' => D.nx σ H'))
      rfl rfl rfl nd rfl rfl rfl (Or.inl rfl) (Or.inr rfl) ⟨rfl, by decide, Or.inl S.mgS⟩ (by show 2 < 3; decide) (by decide) (by decide) (fun W pn xe tk _ => ⟨fun pins s' σ H' D I h' => ?_⟩)) (pss_cons (ps_if (pt_val (pe_callB (r := rIsH C) (call_isH S.ex) (by rfl) B.isinstance boot_isinstance (pa_cons (pv 1) (pa_cons (pe_glob (v := .ref C) rfl T.mgC rfl) pa_nil)))) (pss_one (ps_ret (pe_hf S.xf T.noP (pv 1)))) pss_nil) (pss_one (ps_never))))), ?_⟩
  · obtain ⟨Ech, hW, h1, h2, h3⟩ := h'
    exact (pss_one (ps_expr (act W pn xe Ech _ _ tk hW))).run pins s' σ H' D I ⟨h1, h2, h3⟩
  · refine ⟨_, ?_, rfl, hc, h _⟩
    rintro cls d σ' H' ⟨rfl, dd, rfl, hd, q⟩
    refine ⟨S.sub, fun a ha hl => ?_⟩
    have hl : σ'.length = 3 := hl
    have nda : dd ≠ a := ne_of_none hd ha
    have k : Kept C [(("part" : Str), V.str z)] a (upd H' a (Held (.ref C) (some dd) a)) := ⟨dd, upd_same, by rw [upd_ne nda]; exact hd⟩
    refine ⟨_, set_one hl, a, _, rfl, k, _, rfl, iteT ⟨_, set_one hl, a, _, _, rfl, k, ?_, q _ (same_new ha)⟩⟩
    rfl
end K4

namespace K4
open PySem PySem.Spec PyProof.Rows L2
/-! ### what stands while the vat turns and lambdas are made -/
/-- but at p, and but tables of code objects, all stands as it stood -/
def Kp (p : Addr) (H H' : Hp) : Prop := ∀ b o, b ≠ p → (∀ ps, o ≠ .tbl ps) → H b = some o → H' b = some o
theorem Kp.refl (p : Addr) (H : Hp) : Kp p H H := fun _ _ _ _ h => h
theorem Kp.trans {p : Addr} {H H1 H2 : Hp} (a : Kp p H H1) (b : Kp p H1 H2) : Kp p H H2 := fun c o n t h => b c o n t (a c o n t h)
theorem Kp.of {p : Addr} {H H' : Hp} (s : Same H H') : Kp p H H' := fun b o _ _ h => s b o h
theorem Kp.ofS {p : Addr} {H H' : Hp} (s : SB p H H') : Kp p H H' := fun b o n _ h => s b o n h
theorem Kp.ofE {p : Addr} {H H' : Hp} (s : LamX.ExtN H H') : Kp p H H' := fun b o _ t h => s b o h t
section
variable {p a : Addr} {H H' : Hp} {xs : List V}
theorem Kp.tup (k : Kp p H H') (n : a ≠ p) (h : H a = some (.tup xs)) : H' a = some (.tup xs) := k a _ n (by intro ps z; cases z) h
theorem Kp.lst (k : Kp p H H') (n : a ≠ p) (h : H a = some (.lst xs)) : H' a = some (.lst xs) := k a _ n (by intro ps z; cases z) h
theorem Kp.dK {kvs : List (Key × V)} (k : Kp p H H') (n : a ≠ p) (h : H a = some (.dK kvs)) : H' a = some (.dK kvs) := k a _ n (by intro ps z; cases z) h
end
theorem Vat.ext {H H' : Hp} {p : Addr} {n : Nat} (v : Vat H p n) (s : LamX.ExtN H H') : Vat H' p n := by
  obtain ⟨c, ns, a, b, h1, h2, h⟩ := v
  exact ⟨c, ns, a, b, s _ _ h1 (by intro ps z; cases z), s _ _ h2 (by intro ps z; cases z), h⟩
theorem Vat.at {H : Hp} {p : Addr} {n : Nat} (v : Vat H p n) : ∃ xs, H p = some (.lst xs) := let ⟨_, _, _, _, h, _⟩ := v; ⟨_, h⟩
theorem codeO_no {c : Addr} {q : Str} {xs : List V} : LamX.CodeO c q ≠ .lst xs := fun z => by
  unfold LamX.CodeO at z
  cases z
theorem tabs_sb {T : List (Addr × Str)} {H H' : Hp} {p : Addr} {n : Nat} (t : LamX.Tabs T H) (v : Vat H p n) (s : SB p H H') : LamX.Tabs T H' := fun x hx => by
  obtain ⟨xs, hp⟩ := v.at
  obtain ⟨ps, h1, h2, h3⟩ := t x hx
  refine ⟨ps, s _ _ (ne_of h1 hp (by intro z; cases z)) h1, h2, fun pos cv hc => ?_⟩
  obtain ⟨c, e1, e2⟩ := h3 pos cv hc
  exact ⟨c, e1, s _ _ (ne_of e2 hp codeO_no) e2⟩
/-- no ratio, whatever the vat becomes -/
def Bad (p : Addr) (H : Hp) (v : V) : Prop := ∃ o, ratB o = false ∧ ∀ H', Kp p H H' → Jg H' v o
theorem Bad.kp {p : Addr} {H H' : Hp} {v : V} (b : Bad p H v) (k : Kp p H H') : Bad p H' v := let ⟨o, e, h⟩ := b; ⟨o, e, fun H2 k2 => h H2 (k.trans k2)⟩
theorem bad_scal {p : Addr} {H : Hp} {v : V} {t : String} (k : ∀ H', Kd H' v t) (e : seqT t = false) : Bad p H v := ⟨none, rfl, fun H' _ => ⟨t, k H', e⟩⟩
theorem bad_tup {p a : Addr} {H : Hp} {xs : List V} (n : a ≠ p) (h : H a = some (.tup xs)) (hk : ∀ H', AllKd H' xs) (hl : xs.length ≤ 100) (e : ratB (some xs) = false) : Bad p H (.ref a) := ⟨some xs, e, fun H' k => ⟨a, rfl, .inr (k.tup n h), hk H', hl⟩⟩
theorem kd1 {H : Hp} {xs : List V} (h : ∀ x ∈ xs, ∃ t, ∀ H, Kd H x t) : AllKd H xs := fun x hx => let ⟨t, k⟩ := h x hx; ⟨t, k H⟩
/-! ### asked for what is none -/
/-- one of two is no ratio: the first such is told -/
def spBad (C : Addr) : Sp := fun vs H _ E => ∃ (v u : V) (o1 o2 : Option (List V)), vs = [v, u] ∧ Jg H v o1 ∧ Jg H u o2 ∧ (ratB o1 = false ∨ ratB o2 = false) ∧ (ratB o1 = false → Rz C "one" H E) ∧ (ratB o1 = true → Rz C "other" H E)
theorem bad_op {C : Addr} {zero : Bool} {R : R4} (vs : List V) (H : Hp) (Q : VK) (E : XK) (h : spBad C vs H Q E) : spOp C zero R vs H Q E := by
  obtain ⟨v, u, o1, o2, rfl, j1, j2, hno, e1, e2⟩ := h
  refine ⟨v, u, o1, o2, rfl, j1, j2, e1, fun h _ => e2 h, fun p q r s z1 z2 h1 h2 h3 h4 => ?_⟩
  subst z1
  subst z2
  have t1 : ratB (some [.int p, .int q]) = true := by
    show (decide (0 < q) && decide (gcdI p q = 1)) = true
    rw [decide_eq_true h1, decide_eq_true h2]; rfl
  have t2 : ratB (some [.int r, .int s]) = true := by
    show (decide (0 < s) && decide (gcdI r s = 1)) = true
    rw [decide_eq_true h3, decide_eq_true h4]; rfl
  rcases hno with z | z
  · rw [t1] at z
    cases z
  · rw [t2] at z
    cases z
/-- a def that slot i may hold, of several -/
def tCallM (i : Nat) (fs : List Addr) (sp : Sp) (E : XK) (t : TA) : TE := fun σ H Q => ∃ f, f ∈ fs ∧ σ[i]? = some (some (.ref f)) ∧ t σ H fun vs H1 => sp vs H1 Q E
section
variable {X : Cx} {CX : CXT} {k i : Nat} {fs : List Addr} {ps : List Str} {sp : Sp} {E : XK} {x : Str} {p pos : Pos} {e : Expr} {es : List Expr} {t : TA}
theorem pe_callM (A : ∀ f ∈ fs, ∃ fd, PySem.W.keepIn X.K (.ref f) = true ∧ Binds X.K fd ps [] ∧ FnOk X.prog X.w X.K X.mg X.base CX k f fd ps sp) (hr : Room k X.A) (hN : X.N[i]? = some x) (hv : Vis X.env.scope x) (hx : Passes CX X E) (ha : PA X (e :: es) t)
    (hdb : (x == ("__debug__" : Str)) = false := by decide) (hcd : (x == ("__classdict__" : Str)) = false := by decide)
    (he : starEach (e :: es) X.env = (false, eval e X.env) :: starEach es X.env := by rfl) (hpl : (backTo pos (starEach es X.env)).any (·.1) = false := by rfl) : PE X (.Call (.Name x p) (e :: es) [] pos) (tCallM i fs sp E t) := by
  refine ⟨fun pins s σ H Q I h => ?_⟩
  obtain ⟨f, hf, hs, ht⟩ := h
  obtain ⟨fd, hk, hb, F⟩ := A f hf
  refine (pe_callL (i := i) (f := f) (sp := sp) (dvs := []) (E := E) F hr hN hv hk hb .nil hx ha hdb hcd he hpl).run pins s σ H Q I ⟨hs, ?_⟩
  have e0 : (fun (vs : List V) (H1 : Hp) => sp (vs ++ []) H1 Q E) = fun vs H1 => sp vs H1 Q E := by
    funext vs H1
    rw [List.append_nil]
  show t σ H (fun vs H1 => sp (vs ++ []) H1 Q E)
  rw [e0]
  exact ht
end
theorem lam_passes {X : Cx} {A : Around} {outer : List Env} {s : Shared} {H : Hp} {E : XK} {scope : Scope} {f c' : Addr} : Passes (L2.CX X.prog X.w) (LamX.lamCx X A outer s H E scope f c') E :=
  passes_call (X := LamX.lamCx X A outer s H E scope f c') (takes_of rfl rfl rfl rfl) (fun _ _ _ _ h => h)
end K4

namespace K4
open PySem PySem.Spec PyProof.Rows L2
abbrev sRef : Stmt := top 29
abbrev nRef : List Str := ["_law_vat_here", "_law_one", "_law_bad", "_law_odd", "_law_ill", "_law_ask", "_law_heard_here"]
theorem scRef : FnScope nRef ["_law_vat_here", "_law_one"] (defScope sRef) := ⟨rfl, rfl, rfl, by decide +kernel, rfl, by decide +kernel, by decide +kernel⟩
/-- how the lambdas' code objects are called -/
def qL : Str := (envOfC "_law_refused_right" (defScope sRef) 0 0 (.ref 0)).qual ++ "<lambda>"
/-- so many draws later, the tables as they must be, this truth is handed back -/
def RT2 (T : List (Addr × Str)) (p : Addr) (n : Nat) (b : Bool) (H : Hp) (Q : VK) : Prop := ∀ H', Kp p H H' → Vat H' p n → LamX.Tabs T H' → Q (.bl b) H'
def spRef (P : Addr) : Sp := fun vs H Q _ => ∃ (p u : Addr) (n : Nat) (a b : Int), vs = [.ref p, .ref u] ∧ Vat H p n ∧ n + 2 ≤ 60000 ∧ Tup H u (a, b) ∧ Rat 40 a b ∧ LamX.Tabs [(P, qL)] H ∧ RT2 [(P, qL)] p (n + 2) true H Q
/-- the two kinds of things that are asked for -/
theorem jg_scal {H : Hp} : Jg H .non none ∧ (∀ i, Jg H (.int i) none) ∧ ∀ x, Jg H (.str x) none := ⟨⟨_, .non, rfl⟩, fun i => ⟨_, .int i, rfl⟩, fun x => ⟨_, .str x, rfl⟩⟩
/-- what a lambda's asking comes to -/
def Ech (C : Addr) (z : Str) (Q : Hp → Prop) : XK := fun cls d H' => cls = .ref C ∧ ∃ dd, d = some dd ∧ H' dd = some (.xd [(("part" : Str), .str z)]) ∧ ∀ H'', Same H' H'' → Q H''
theorem ech_rz {C : Addr} {z : Str} {H : Hp} {E : XK} (h : ∀ d H', Same H H' → H d = none → H' d = some (.xd [(("part" : Str), .str z)]) → E (.ref C) (some d) H') : Rz C z H E := h
theorem bad_one {C : Addr} {H : Hp} {v u : V} {o1 o2 : Option (List V)} {Q : VK} {E : XK} (j1 : Jg H v o1) (j2 : Jg H u o2) (e : ratB o1 = false) (h : Rz C "one" H E) : spBad C [v, u] H Q E :=
  ⟨v, u, o1, o2, rfl, j1, j2, .inl e, fun _ => h, fun z => (by rw [e] at z; cases z)⟩
theorem bad_other {C : Addr} {H : Hp} {v u : V} {o1 o2 : Option (List V)} {Q : VK} {E : XK} (j1 : Jg H v o1) (j2 : Jg H u o2) (e1 : ratB o1 = true) (e : ratB o2 = false) (h : Rz C "other" H E) : spBad C [v, u] H Q E :=
  ⟨v, u, o1, o2, rfl, j1, j2, .inr e, fun z => (by rw [e1] at z; cases z), fun _ => h⟩
theorem over_zero {C : Addr} {H : Hp} {v u : V} {a b : Int} {k : Nat} {Q : VK} {E : XK} (j1 : Jg H v (some [.int a, .int b])) (j2 : Jg H u (some [.int 0, .int 1])) (r : Rat k a b) (h : Rz C "other" H E) : spOp C true rOver [v, u] H Q E :=
  ⟨v, u, _, _, rfl, j1, j2, fun e => (by rw [ratB_of r] at e; cases e), fun _ e => (by cases (show true = false from e)), fun p q r s e1 e2 h1 h2 h3 h4 => by
    cases e2
    exact ⟨fun _ _ => h, fun z => absurd rfl (z rfl)⟩⟩
theorem vat_upd {H : Hp} {p l : Addr} {n : Nat} {z : Str} {r : List V} {o : HO} (v : Vat H p n) (hl : H l = some (.lst (V.str z :: r))) (nlp : l ≠ p) : Vat (upd H l o) p n := by
  obtain ⟨c, ns, a, b, h1, h2, h⟩ := v
  have nc : c ≠ l := ne_of h2 hl (by cases ns with
    | nil => intro e; cases e
    | cons => intro e; cases e)
  exact ⟨c, ns, a, b, by rw [upd_ne nlp.symm]; exact h1, by rw [upd_ne nc]; exact h2, h⟩
theorem tabs_upd {T : List (Addr × Str)} {H : Hp} {l : Addr} {xs : List V} {o : HO} (t : LamX.Tabs T H) (hl : H l = some (.lst xs)) : LamX.Tabs T (upd H l o) := fun x hx => by
  obtain ⟨ps, h1, h2, h3⟩ := t x hx
  refine ⟨ps, by rw [upd_ne (ne_of h1 hl (by intro z; cases z))]; exact h1, h2, fun pos cv hc => ?_⟩
  obtain ⟨c, e1, e2⟩ := h3 pos cv hc
  exact ⟨c, e1, by rw [upd_ne (ne_of e2 hl codeO_no)]; exact e2⟩
theorem kp_upd {H H' : Hp} {p l : Addr} {o : HO} (k : Kp p H H') (l0 : ∀ b o, b ≠ p → (∀ ps, o ≠ .tbl ps) → H b = some o → b ≠ l) : Kp p H (upd H' l o) := fun b u h1 h2 h3 => by
  rw [upd_ne (l0 b u h1 h2 h3)]
  exact k b u h1 h2 h3
section
variable {P : Program} {w : World} {K : PySem.W.Frag} {mg : Str → Option Value} {base : Heap} {C CS fI : Addr}
theorem ok_ref {f c Pt g fPlus fMinus fTimes fOver fCmp : Addr} {fdH : FuncData} {oc kV doc pm ct : Value} {od an : Option Addr} {osl : Array (Option Value)}
    (lk : K.lookup f = some ⟨oc, od, .func (PySem.W.fnOf "_law_refused_right" "_law_refused_right" (defArgs sRef) (defBody sRef) (defScope sRef) .none kV doc pm an (.ref c) ct), osl⟩) (hcd : PySem.W.codeIn K (.ref c) "_law_refused_right" = true)
    (TB : LamX.TabB base mg c Pt) (B : Bn mg) (T : BrTxt K mg C fI) (S : SeTxt K mg CS C) (FH : Fun K "_law_heard" "_law_heard" sHeard g fdH) (mH : mg "_law_heard" = some (.ref g)) (C1 : Callee P w K mg base CX0 2 "_law_pick" ["_law_vat_here", "_law_some"] spPick)
    (mg1 : mg "plus" = some (.ref fPlus)) (mg2 : mg "minus" = some (.ref fMinus)) (mg3 : mg "times" = some (.ref fTimes)) (mg4 : mg "over" = some (.ref fOver)) (mg5 : mg "compared" = some (.ref fCmp))
    (A5 : ∀ f ∈ [fPlus, fMinus, fTimes, fOver, fCmp], ∃ fd, PySem.W.keepIn K (.ref f) = true ∧ Binds K fd ["one", "other"] [] ∧ FnOk P w K mg base (L2.CX P w) 5 f fd ["one", "other"] (spBad C))
    (C4 : Callee2 P w K mg base "over" (spOp C true rOver)) :
    FnOk P w K mg base CX0 8 f (PySem.W.fnOf "_law_refused_right" "_law_refused_right" (defArgs sRef) (defBody sRef) (defScope sRef) .none kV doc pm an (.ref c) ct) ["_law_vat_here", "_law_one"] (spRef Pt) := by
  obtain ⟨f1, fd1, m1, k1, b1, G1⟩ := C1
  obtain ⟨f4, fd4, m4, k4, b4, kb4, G4⟩ := C4
  obtain ⟨ocH, odH, kVH, docH, pmH, anH, cdvH, ctH, oslH, rfl, lkH, hcH⟩ := FH.ex
  have bH := FH.binds (ps := ["_law_ask"]) fun _ _ _ _ _ _ us hl => match us, hl with | [_], _ => rfl
  have nd := scRef.nd
  refine fn_of lk hcd scRef (fun vs H Q E h => ?_) fun A outer s H vs Q E hr h => ?_
  · obtain ⟨p, u, n, a, b, rfl, _⟩ := h
    rfl
  suffices hh : ∃ t, PSs (cxOf CX0 P w K mg base nRef "_law_refused_right" (defScope sRef) f (.ref c) A outer s H E).nox (defBody sRef) t ∧ t { nx := fun _ H' => Q .non H', rt := Q } (L2.start nRef vs) H from let ⟨t, h1, h2⟩ := hh; ⟨t, h1.nox, h2⟩
  obtain ⟨p, u, n, a, b, rfl, hv, hn, hu, ra, hT, q⟩ := h
  have hmT : (Pt, qL) ∈ [(Pt, qL)] := List.mem_singleton.mpr rfl
  have hU : ∀ x ∈ [(Pt, qL)], x.1 = Pt → x.2 = qL := fun x hx _ => by rw [List.mem_singleton.mp hx]
  refine ⟨_, (pss_cons ((ps_set (i := 2) nd rfl (Or.inl rfl) (pe_lst (pa_cons (pe_non) (pa_cons (pe_int) (pa_cons (pe_str) (pa_cons (pe_tup (pa_cons (pe_int) pa_nil)) (pa_cons (pe_tup (pa_cons (pe_int) (pa_cons (pe_int) (pa_cons (pe_int) pa_nil)))) (pa_cons (pe_tup (pa_cons (pe_int) (pa_cons (pe_int) pa_nil))) (pa_cons (pe_tup (pa_cons (pe_int) (pa_cons (pe_int) pa_nil))) (pa_cons (pe_tup (pa_cons (pe_int) (pa_cons (pe_int) pa_nil))) (pa_cons (pe_tup (pa_cons (pe_int) (pa_cons (pe_int) pa_nil))) (pa_cons (pe_tup (pa_cons (pe_int) (pa_cons (pe_un un_neg pe_int) pa_nil))) (pa_cons (pe_tup (pa_cons (pe_bl) (pa_cons (pe_int) pa_nil))) (pa_cons (pe_tup (pa_cons (pe_int) (pa_cons (pe_bl) pa_nil))) (pa_cons (pe_tup (pa_cons (pe_str) (pa_cons (pe_int) pa_nil))) (pa_cons (pe_lst (pa_cons (pe_lst (pa_cons (pe_int) pa_nil)) (pa_cons (pe_int) pa_nil))) (pa_cons (pe_dnewK) (pa_cons (pe_tup (pa_cons ((pe_ix ix_tup (pv 1) (pe_int) (fun _ _ => rfl))) (pa_cons (pe_un un_neg (pe_ix ix_tup (pv 1) (pe_int) (fun _ _ => rfl))) pa_nil))) pa_nil))))))))))))))))))) (pss_cons (ps_asg (pe_tup (pa_cons ((pe_call G1 (hr.mono (by decide)) rfl m1 k1 b1 .nil pass0 (pa_cons (pv 0) (pa_cons (pv 2) pa_nil)))) (pa_cons ((pe_call G1 (hr.mono (by decide)) rfl m1 k1 b1 .nil pass0 (pa_cons (pv 0) (pa_cons (pv 2) pa_nil)))) pa_nil))) (pg_tup rfl (pgs_cons (pg_name (i := 3) nd rfl (Or.inr rfl)) (pgs_cons (pg_name (i := 4) nd rfl (Or.inr rfl)) pgs_nil)))) (pss_cons (ps_for PassesOwn.never rfl (pi_tup (pe_tup (pa_cons (pe_glob (v := .ref fPlus) rfl mg1 rfl) (pa_cons (pe_glob (v := .ref fMinus) rfl mg2 rfl) (pa_cons (pe_glob (v := .ref fTimes) rfl mg3 rfl) (pa_cons (pe_glob (v := .ref fOver) rfl mg4 rfl) (pa_cons (pe_glob (v := .ref fCmp) rfl mg5 rfl) pa_nil))))))) (pg_name (i := 5) nd rfl (Or.inr rfl))
        (pss_cons ((ps_set (i := 6) nd rfl (Or.inl rfl) (pe_lst (pa_cons ((LamX.pe_lamcall (T := [(Pt, qL)]) (TT := THeard C) (Ng := nHeard) (a := "_law_ask") (k := 5) rfl mH FH.kp lkH hcH bH scHeard rfl (Or.inl rfl) (heard_gives B T S) TB rfl hmT hU hr (LamX.lamS_by (by show LamX.lamSB (defScope sRef) _ = true; decide +kernel)) rfl (fun _ _ _ _ _ => rfl) (fun A outer s H E f c hr => pe_callM (i := 5) (E := E) A5 hr rfl (Or.inr (Or.inr rfl)) lam_passes (pa_cons (pv 3) (pa_cons (pv 4) pa_nil))))) pa_nil)))) (pss_cons (ps_expr (pe_bm PySem.F.plainAttrs_list PySem.F.slot_list_append PySem.F.type_list_append mt_append (pv 6) (pa_cons ((LamX.pe_lamcall (T := [(Pt, qL)]) (TT := THeard C) (Ng := nHeard) (a := "_law_ask") (k := 5) rfl mH FH.kp lkH hcH bH scHeard rfl (Or.inl rfl) (heard_gives B T S) TB rfl hmT hU hr (LamX.lamS_by (by show LamX.lamSB (defScope sRef) _ = true; decide +kernel)) rfl (fun _ _ _ _ _ => rfl) (fun A outer s H E f c hr => pe_callM (i := 5) (E := E) A5 hr rfl (Or.inr (Or.inr rfl)) lam_passes (pa_cons (pv 1) (pa_cons (pv 4) pa_nil))))) pa_nil))) (pss_cons (ps_expr (pe_bm PySem.F.plainAttrs_list PySem.F.slot_list_append PySem.F.type_list_append mt_append (pv 6) (pa_cons ((LamX.pe_lamcall (T := [(Pt, qL)]) (TT := THeard C) (Ng := nHeard) (a := "_law_ask") (k := 5) rfl mH FH.kp lkH hcH bH scHeard rfl (Or.inl rfl) (heard_gives B T S) TB rfl hmT hU hr (LamX.lamS_by (by show LamX.lamSB (defScope sRef) _ = true; decide +kernel)) rfl (fun _ _ _ _ _ => rfl) (fun A outer s H E f c hr => pe_callM (i := 5) (E := E) A5 hr rfl (Or.inr (Or.inr rfl)) lam_passes (pa_cons (pv 3) (pa_cons (pv 1) pa_nil))))) pa_nil))) (pss_one (ps_if (pt_cmpR (op_neD hr.units) (pv 6) (pe_lst (pa_cons (pe_str) (pa_cons (pe_str) (pa_cons (pe_str) pa_nil)))) (nomark _)) (pss_one (ps_ret pe_bl)) pss_nil)))))) (pss_cons ((ps_set (i := 6) nd rfl (Or.inl rfl) (pe_lst (pa_cons ((LamX.pe_lamcall (T := [(Pt, qL)]) (TT := THeard C) (Ng := nHeard) (a := "_law_ask") (k := 5) rfl mH FH.kp lkH hcH bH scHeard rfl (Or.inl rfl) (heard_gives B T S) TB rfl hmT hU hr (LamX.lamS_by (by show LamX.lamSB (defScope sRef) _ = true; decide +kernel)) rfl (fun _ _ _ _ _ => rfl) (fun A outer s H E f c hr => pe_call (E := E) G4 hr rfl m4 k4 b4 .nil lam_passes (pa_cons (pv 1) (pa_cons (pe_tup (pa_cons (pe_int) (pa_cons (pe_int) pa_nil))) pa_nil))))) pa_nil)))) (pss_cons (ps_expr (pe_bm PySem.F.plainAttrs_list PySem.F.slot_list_append PySem.F.type_list_append mt_append (pv 6) (pa_cons ((LamX.pe_lamcall (T := [(Pt, qL)]) (TT := THeard C) (Ng := nHeard) (a := "_law_ask") (k := 5) rfl mH FH.kp lkH hcH bH scHeard rfl (Or.inl rfl) (heard_gives B T S) TB rfl hmT hU hr (LamX.lamS_by (by show LamX.lamSB (defScope sRef) _ = true; decide +kernel)) rfl (fun _ _ _ _ _ => rfl) (fun A outer s H E f c hr => pe_call (E := E) G4 hr rfl m4 k4 b4 .nil lam_passes (pa_cons (pv 3) (pa_cons (pe_tup (pa_cons (pe_int) (pa_cons (pe_int) pa_nil))) pa_nil))))) pa_nil))) (pss_one (ps_ret (pe_cmpR (op_eqD hr.units) (pv 6) (pe_lst (pa_cons (pe_str) (pa_cons (pe_str) pa_nil))) (nomark _))))))))), ?_⟩
  obtain ⟨vl, hp0⟩ := hv.at
  have gu0 : H u = some (.tup [V.int a, V.int b]) := hu
  have nup : u ≠ p := ne_of gu0 hp0 (by intro z; cases z)
  refine ⟨by show 1 ≤ sizeLine; decide, fun t1 n1 => ?_⟩
  have s1 := same_new (o := .tup [V.int 1]) n1
  have g1 : upd H t1 (.tup [V.int 1]) t1 = some (.tup [V.int 1]) := upd_same
  have np1 : t1 ≠ p := (ne_of_none hp0 n1).symm
  have hp1 := s1 _ _ hp0
  have gu1 := s1 _ _ gu0
  generalize upd H t1 (.tup [V.int 1]) = H1 at s1 g1 hp1 gu1 ⊢
  refine ⟨by show 3 ≤ sizeLine; decide, fun t2 n2 => ?_⟩
  have s2 := same_new (o := .tup [V.int 1, V.int 2, V.int 3]) n2
  have g2 : upd H1 t2 (.tup [V.int 1, V.int 2, V.int 3]) t2 = some (.tup [V.int 1, V.int 2, V.int 3]) := upd_same
  have np2 : t2 ≠ p := (ne_of_none hp1 n2).symm
  have hp2 := s2 _ _ hp1
  have gu2 := s2 _ _ gu1
  generalize upd H1 t2 (.tup [V.int 1, V.int 2, V.int 3]) = H2 at s2 g2 hp2 gu2 ⊢
  refine ⟨by show 2 ≤ sizeLine; decide, fun t3 n3 => ?_⟩
  have s3 := same_new (o := .tup [V.int 2, V.int 4]) n3
  have g3 : upd H2 t3 (.tup [V.int 2, V.int 4]) t3 = some (.tup [V.int 2, V.int 4]) := upd_same
  have np3 : t3 ≠ p := (ne_of_none hp2 n3).symm
  have hp3 := s3 _ _ hp2
  have gu3 := s3 _ _ gu2
  generalize upd H2 t3 (.tup [V.int 2, V.int 4]) = H3 at s3 g3 hp3 gu3 ⊢
  refine ⟨by show 2 ≤ sizeLine; decide, fun t4 n4 => ?_⟩
  have s4 := same_new (o := .tup [V.int 0, V.int 2]) n4
  have g4 : upd H3 t4 (.tup [V.int 0, V.int 2]) t4 = some (.tup [V.int 0, V.int 2]) := upd_same
  have np4 : t4 ≠ p := (ne_of_none hp3 n4).symm
  have hp4 := s4 _ _ hp3
  have gu4 := s4 _ _ gu3
  generalize upd H3 t4 (.tup [V.int 0, V.int 2]) = H4 at s4 g4 hp4 gu4 ⊢
  refine ⟨by show 2 ≤ sizeLine; decide, fun t5 n5 => ?_⟩
  have s5 := same_new (o := .tup [V.int 1, V.int 0]) n5
  have g5 : upd H4 t5 (.tup [V.int 1, V.int 0]) t5 = some (.tup [V.int 1, V.int 0]) := upd_same
  have np5 : t5 ≠ p := (ne_of_none hp4 n5).symm
  have hp5 := s5 _ _ hp4
  have gu5 := s5 _ _ gu4
  generalize upd H4 t5 (.tup [V.int 1, V.int 0]) = H5 at s5 g5 hp5 gu5 ⊢
  refine ⟨by show 2 ≤ sizeLine; decide, fun t6 n6 => ?_⟩
  have s6 := same_new (o := .tup [V.int 0, V.int 0]) n6
  have g6 : upd H5 t6 (.tup [V.int 0, V.int 0]) t6 = some (.tup [V.int 0, V.int 0]) := upd_same
  have np6 : t6 ≠ p := (ne_of_none hp5 n6).symm
  have hp6 := s6 _ _ hp5
  have gu6 := s6 _ _ gu5
  generalize upd H5 t6 (.tup [V.int 0, V.int 0]) = H6 at s6 g6 hp6 gu6 ⊢
  refine ⟨_, rfl, by show 2 ≤ sizeLine; decide, fun t7 n7 => ?_⟩
  have s7 := same_new (o := .tup [V.int 1, V.int (-2)]) n7
  have g7 : upd H6 t7 (.tup [V.int 1, V.int (-2)]) t7 = some (.tup [V.int 1, V.int (-2)]) := upd_same
  have np7 : t7 ≠ p := (ne_of_none hp6 n7).symm
  have hp7 := s7 _ _ hp6
  have gu7 := s7 _ _ gu6
  generalize upd H6 t7 (.tup [V.int 1, V.int (-2)]) = H7 at s7 g7 hp7 gu7 ⊢
  refine ⟨by show 2 ≤ sizeLine; decide, fun t8 n8 => ?_⟩
  have s8 := same_new (o := .tup [V.bl true, V.int 1]) n8
  have g8 : upd H7 t8 (.tup [V.bl true, V.int 1]) t8 = some (.tup [V.bl true, V.int 1]) := upd_same
  have np8 : t8 ≠ p := (ne_of_none hp7 n8).symm
  have hp8 := s8 _ _ hp7
  have gu8 := s8 _ _ gu7
  generalize upd H7 t8 (.tup [V.bl true, V.int 1]) = H8 at s8 g8 hp8 gu8 ⊢
  refine ⟨by show 2 ≤ sizeLine; decide, fun t9 n9 => ?_⟩
  have s9 := same_new (o := .tup [V.int 1, V.bl true]) n9
  have g9 : upd H8 t9 (.tup [V.int 1, V.bl true]) t9 = some (.tup [V.int 1, V.bl true]) := upd_same
  have np9 : t9 ≠ p := (ne_of_none hp8 n9).symm
  have hp9 := s9 _ _ hp8
  have gu9 := s9 _ _ gu8
  generalize upd H8 t9 (.tup [V.int 1, V.bl true]) = H9 at s9 g9 hp9 gu9 ⊢
  refine ⟨by show 2 ≤ sizeLine; decide, fun t10 n10 => ?_⟩
  have s10 := same_new (o := .tup [V.str "1", V.int 2]) n10
  have g10 : upd H9 t10 (.tup [V.str "1", V.int 2]) t10 = some (.tup [V.str "1", V.int 2]) := upd_same
  have np10 : t10 ≠ p := (ne_of_none hp9 n10).symm
  have hp10 := s10 _ _ hp9
  have gu10 := s10 _ _ gu9
  generalize upd H9 t10 (.tup [V.str "1", V.int 2]) = H10 at s10 g10 hp10 gu10 ⊢
  refine ⟨by show 1 ≤ sizeLine; decide, fun t11 n11 => ?_⟩
  have s11 := same_new (o := .lst [V.int 1]) n11
  have g11 : upd H10 t11 (.lst [V.int 1]) t11 = some (.lst [V.int 1]) := upd_same
  have np11 : t11 ≠ p := (ne_of_none hp10 n11).symm
  have hp11 := s11 _ _ hp10
  have gu11 := s11 _ _ gu10
  generalize upd H10 t11 (.lst [V.int 1]) = H11 at s11 g11 hp11 gu11 ⊢
  refine ⟨by show 2 ≤ sizeLine; decide, fun t12 n12 => ?_⟩
  have s12 := same_new (o := .lst [V.ref t11, V.int 2]) n12
  have g12 : upd H11 t12 (.lst [V.ref t11, V.int 2]) t12 = some (.lst [V.ref t11, V.int 2]) := upd_same
  have np12 : t12 ≠ p := (ne_of_none hp11 n12).symm
  have hp12 := s12 _ _ hp11
  have gu12 := s12 _ _ gu11
  generalize upd H11 t12 (.lst [V.ref t11, V.int 2]) = H12 at s12 g12 hp12 gu12 ⊢
  refine fun t13 n13 => ?_
  have s13 := same_new (o := .dK []) n13
  have g13 : upd H12 t13 (.dK []) t13 = some (.dK []) := upd_same
  have np13 : t13 ≠ p := (ne_of_none hp12 n13).symm
  have hp13 := s13 _ _ hp12
  have gu13 := s13 _ _ gu12
  generalize upd H12 t13 (.dK []) = H13 at s13 g13 hp13 gu13 ⊢
  refine ⟨_, rfl, u, _, 0, _, rfl, rfl, SqT.of gu13, rfl, _, rfl, u, _, 1, _, rfl, rfl, SqT.of gu13, rfl, _, rfl, by show 2 ≤ sizeLine; decide, fun t14 n14 => ?_⟩
  have s14 := same_new (o := .tup [V.int a, V.int (-b)]) n14
  have g14 : upd H13 t14 (.tup [V.int a, V.int (-b)]) t14 = some (.tup [V.int a, V.int (-b)]) := upd_same
  have np14 : t14 ≠ p := (ne_of_none hp13 n14).symm
  have hp14 := s14 _ _ hp13
  have gu14 := s14 _ _ gu13
  generalize upd H13 t14 (.tup [V.int a, V.int (-b)]) = H14 at s14 g14 hp14 gu14 ⊢
  have z1 := s14 _ _ (s13 _ _ (s12 _ _ (s11 _ _ (s10 _ _ (s9 _ _ (s8 _ _ (s7 _ _ (s6 _ _ (s5 _ _ (s4 _ _ (s3 _ _ (s2 _ _ (g1)))))))))))))
  have z2 := s14 _ _ (s13 _ _ (s12 _ _ (s11 _ _ (s10 _ _ (s9 _ _ (s8 _ _ (s7 _ _ (s6 _ _ (s5 _ _ (s4 _ _ (s3 _ _ (g2))))))))))))
  have z3 := s14 _ _ (s13 _ _ (s12 _ _ (s11 _ _ (s10 _ _ (s9 _ _ (s8 _ _ (s7 _ _ (s6 _ _ (s5 _ _ (s4 _ _ (g3)))))))))))
  have z4 := s14 _ _ (s13 _ _ (s12 _ _ (s11 _ _ (s10 _ _ (s9 _ _ (s8 _ _ (s7 _ _ (s6 _ _ (s5 _ _ (g4))))))))))
  have z5 := s14 _ _ (s13 _ _ (s12 _ _ (s11 _ _ (s10 _ _ (s9 _ _ (s8 _ _ (s7 _ _ (s6 _ _ (g5)))))))))
  have z6 := s14 _ _ (s13 _ _ (s12 _ _ (s11 _ _ (s10 _ _ (s9 _ _ (s8 _ _ (s7 _ _ (g6))))))))
  have z7 := s14 _ _ (s13 _ _ (s12 _ _ (s11 _ _ (s10 _ _ (s9 _ _ (s8 _ _ (g7)))))))
  have z8 := s14 _ _ (s13 _ _ (s12 _ _ (s11 _ _ (s10 _ _ (s9 _ _ (g8))))))
  have z9 := s14 _ _ (s13 _ _ (s12 _ _ (s11 _ _ (s10 _ _ (g9)))))
  have z10 := s14 _ _ (s13 _ _ (s12 _ _ (s11 _ _ (g10))))
  have z11 := s14 _ _ (s13 _ _ (s12 _ _ (g11)))
  have z12 := s14 _ _ (s13 _ _ (g12))
  have z13 := s14 _ _ (g13)
  have z14 := g14
  have s0 : Same H H14 := (((((((((((((s1).trans s2).trans s3).trans s4).trans s5).trans s6).trans s7).trans s8).trans s9).trans s10).trans s11).trans s12).trans s13).trans s14
  refine ⟨by show 16 ≤ sizeLine; decide, fun t15 n15 => ?_⟩
  have np15 : t15 ≠ p := (ne_of_none hp14 n15).symm
  have sL := same_new (o := .lst [V.non, V.int 5, V.str "1 2", V.ref t1, V.ref t2, V.ref t3, V.ref t4, V.ref t5, V.ref t6, V.ref t7, V.ref t8, V.ref t9, V.ref t10, V.ref t12, V.ref t13, V.ref t14]) n15
  have gL : upd H14 t15 (.lst [V.non, V.int 5, V.str "1 2", V.ref t1, V.ref t2, V.ref t3, V.ref t4, V.ref t5, V.ref t6, V.ref t7, V.ref t8, V.ref t9, V.ref t10, V.ref t12, V.ref t13, V.ref t14]) t15 = some (.lst [V.non, V.int 5, V.str "1 2", V.ref t1, V.ref t2, V.ref t3, V.ref t4, V.ref t5, V.ref t6, V.ref t7, V.ref t8, V.ref t9, V.ref t10, V.ref t12, V.ref t13, V.ref t14]) := upd_same
  have hbad : ∀ x ∈ [V.non, V.int 5, V.str "1 2", V.ref t1, V.ref t2, V.ref t3, V.ref t4, V.ref t5, V.ref t6, V.ref t7, V.ref t8, V.ref t9, V.ref t10, V.ref t12, V.ref t13, V.ref t14], Bad p H14 x := by
    have ii : ∀ (xs : List V), (∀ x ∈ xs, (∃ i, x = V.int i) ∨ (∃ b, x = V.bl b) ∨ ∃ z, x = V.str z) → ∀ H', AllKd H' xs := fun xs h H' x hx => by
      rcases h x hx with ⟨i, e⟩ | ⟨i, e⟩ | ⟨i, e⟩
      · exact ⟨_, by rw [e]; exact .int i⟩
      · exact ⟨_, by rw [e]; exact .bl i⟩
      · exact ⟨_, by rw [e]; exact .str i⟩
    have hb := ra.pos
    intro x hx
    simp only [List.mem_cons, List.not_mem_nil, or_false] at hx
    rcases hx with e | e | e | e | e | e | e | e | e | e | e | e | e | e | e | e <;> subst e
    · exact bad_scal (fun _ => .non) rfl
    · exact bad_scal (fun _ => .int 5) rfl
    · exact bad_scal (fun _ => .str _) rfl
    · exact bad_tup np1 z1 (ii _ (by simp)) (by decide) rfl
    · exact bad_tup np2 z2 (ii _ (by simp)) (by decide) rfl
    · exact bad_tup np3 z3 (ii _ (by simp)) (by decide) (by decide)
    · exact bad_tup np4 z4 (ii _ (by simp)) (by decide) (by decide)
    · exact bad_tup np5 z5 (ii _ (by simp)) (by decide) (by decide)
    · exact bad_tup np6 z6 (ii _ (by simp)) (by decide) (by decide)
    · exact bad_tup np7 z7 (ii _ (by simp)) (by decide) (by decide)
    · exact bad_tup np8 z8 (ii _ (by simp)) (by decide) rfl
    · exact bad_tup np9 z9 (ii _ (by simp)) (by decide) rfl
    · exact bad_tup np10 z10 (ii _ (by simp)) (by decide) rfl
    · refine ⟨some [V.ref t11, V.int 2], rfl, fun H' k => ⟨t12, rfl, .inl (k.lst np12 z12), fun x hx => ?_, (by show 2 ≤ 100; decide)⟩⟩
      simp only [List.mem_cons, List.not_mem_nil, or_false] at hx
      rcases hx with e | e <;> subst e
      · exact ⟨_, .lst (k.lst np11 z11)⟩
      · exact ⟨_, .int 2⟩
    · exact ⟨none, rfl, fun H' k => ⟨_, .dK (k.dK np13 z13), rfl⟩⟩
    · refine bad_tup np14 z14 (ii _ (by simp)) (by show 2 ≤ 100; decide) ?_
      show (decide (0 < -b) && _) = false
      rw [decide_eq_false (by omega)]
      rfl
  have hbad := fun x hx => (hbad x hx).kp (Kp.of (p := p) sL)
  have hvL := hv.same (s0.trans sL)
  have huL : Tup _ u (a, b) := sL _ _ gu14
  have hTL := hT.ext (s0.trans sL)
  have k0 : Kp p H _ := Kp.of (p := p) (s0.trans sL)
  generalize upd H14 t15 (.lst [V.non, V.int 5, V.str "1 2", V.ref t1, V.ref t2, V.ref t3, V.ref t4, V.ref t5, V.ref t6, V.ref t7, V.ref t8, V.ref t9, V.ref t10, V.ref t12, V.ref t13, V.ref t14]) = HL at gL hbad hvL huL hTL k0 ⊢
  clear z1 np1 z2 np2 z3 np3 z4 np4 z5 np5 z6 np6 z7 np7 z8 np8 z9 np9 z10 np10 z11 np11 z12 np12 z13 np13 z14 np14 sL s0
  clear s14 g14 hp14 gu14 n14 s13 g13 hp13 gu13 n13 s12 g12 hp12 gu12 n12 s11 g11 hp11 gu11 n11 s10 g10 hp10 gu10 n10 s9 g9 hp9 gu9 n9 s8 g8 hp8 gu8 n8 s7 g7 hp7 gu7 n7 s6 g6 hp6 gu6 n6 s5 g5 hp5 gu5 n5 s4 g4 hp4 gu4 n4 s3 g3 hp3 gu3 n3 s2 g2 hp2 gu2 n2 s1 g1 hp1 gu1 n1
  -- two picks
  refine ⟨_, rfl, _, rfl, p, t15, n, _, rfl, hvL, by omega, gL, np15, by show 0 < 16; decide, by show 16 ≤ 1000; decide, fun H16 x s16 v16 hx => ?_⟩
  refine ⟨_, rfl, _, rfl, p, t15, n + 1, _, rfl, v16, by omega, s16 _ _ np15 gL, np15, by show 0 < 16; decide, by show 16 ≤ 1000; decide, fun H17 y s17 v17 hy => ?_⟩
  have bx := ((hbad x hx).kp (Kp.ofS s16)).kp (Kp.ofS s17)
  have bY := ((hbad y hy).kp (Kp.ofS s16)).kp (Kp.ofS s17)
  have hu17 : Tup H17 u (a, b) := s17 _ _ nup (s16 _ _ nup huL)
  have T17 := tabs_sb (tabs_sb hTL hvL s16) v16 s17
  have k17 := (k0.trans (Kp.ofS s16)).trans (Kp.ofS s17)
  refine ⟨by show 2 ≤ sizeLine; decide, fun r hr' => ?_⟩
  have s18 := same_new (o := .tup [x, y]) hr'
  refine ⟨r, _, rfl, SqT.of upd_same, rfl, _, _, rfl, _, _, rfl, rfl, ?_⟩
  have v18 := v17.same s18
  have hu18 := hu17.same s18
  have T18 := T17.ext s18
  have bx := bx.kp (Kp.of s18)
  have bY := bY.kp (Kp.of s18)
  have k18 := k17.trans (Kp.of s18)
  generalize upd H17 r (.tup [x, y]) = H18 at v18 hu18 T18 bx bY k18 ⊢
  clear v16 v17 s16 s17 s18 hu17 T17 k17 hvL huL hTL gL hbad hr'
  -- the five
  refine ⟨by show 5 ≤ sizeLine; decide, fun w hw => ?_⟩
  have s19 := same_new (o := .tup [V.ref fPlus, V.ref fMinus, V.ref fTimes, V.ref fOver, V.ref fCmp]) hw
  have gw : upd H18 w (.tup [V.ref fPlus, V.ref fMinus, V.ref fTimes, V.ref fOver, V.ref fCmp]) w = some (.tup [V.ref fPlus, V.ref fMinus, V.ref fTimes, V.ref fOver, V.ref fCmp]) := upd_same
  have nwp : w ≠ p := by
    obtain ⟨_, e⟩ := v18.at
    exact (ne_of_none e hw).symm
  have v19 := v18.same s19
  have hu19 := hu18.same s19
  have T19 := T18.ext s19
  have bx := bx.kp (Kp.of s19)
  have bY := bY.kp (Kp.of s19)
  have k19 := k18.trans (Kp.of s19)
  generalize upd H18 w (.tup [V.ref fPlus, V.ref fMinus, V.ref fTimes, V.ref fOver, V.ref fCmp]) = H19 at gw v19 hu19 T19 bx bY k19 ⊢
  clear s19 hw v18 hu18 T18 k18
  obtain ⟨o1, eo1, jo1⟩ := bx
  obtain ⟨o2, eo2, jo2⟩ := bY
  refine ⟨w, rfl, ⟨_, SqT.of gw⟩, for_tup (K := K) (a := w) (xs := [V.ref fPlus, V.ref fMinus, V.ref fTimes, V.ref fOver, V.ref fCmp])
    (fun _ σ H' => ∃ v5 v6 : Option V, σ = [some (.ref p), some (.ref u), some (.ref t15), some x, some y, v5, v6] ∧ Kp p H19 H' ∧ Vat H' p (n + 2) ∧ LamX.Tabs [(Pt, qL)] H')
    ⟨none, none, rfl, Kp.refl _ _, v19, T19⟩ (fun i σ H' _ ⟨_, _, _, k, _⟩ => SqT.of (k.tup nwp gw)) ?_ ?_⟩
  · rintro i fv σ H' hi ⟨v5, v6, rfl, kk, vv, TT⟩
    obtain ⟨fa, hfa, rfl⟩ : ∃ fa, fa ∈ [fPlus, fMinus, fTimes, fOver, fCmp] ∧ fv = V.ref fa := by
      have := List.mem_of_getElem? hi
      simp only [List.mem_cons, List.not_mem_nil, or_false] at this ⊢
      rcases this with e | e | e | e | e
      · exact ⟨_, .inl rfl, e⟩
      · exact ⟨_, .inr (.inl rfl), e⟩
      · exact ⟨_, .inr (.inr (.inl rfl)), e⟩
      · exact ⟨_, .inr (.inr (.inr (.inl rfl))), e⟩
      · exact ⟨_, .inr (.inr (.inr (.inr rfl))), e⟩
    -- first
    refine ⟨TT, fun H1 x1 T1 => ⟨"one", fun N => ⟨fa, hfa, rfl, _, rfl, _, rfl, ?_⟩⟩⟩
    have kA := kk.trans (Kp.ofE x1)
    refine bad_one (Q := N) (jo1 _ kA) (jo2 _ kA) eo1 (fun d H2 s2 _ hd => ⟨rfl, d, rfl, hd, fun H3 s3 => ?_⟩)
    have kA := kA.trans (Kp.of (s2.trans s3))
    have vv := (vv.ext x1).same (s2.trans s3)
    have TT := T1.ext (s2.trans s3)
    clear x1 T1 s2 s3 hd
    refine ⟨by show 1 ≤ sizeLine; decide, fun l hl => ?_⟩
    have sl := same_new (o := .lst [V.str "one"]) hl
    have gl : upd H3 l (.lst [V.str "one"]) l = some (.lst [V.str "one"]) := upd_same
    have nlp : l ≠ p := by
      obtain ⟨_, e⟩ := vv.at
      exact (ne_of_none e hl).symm
    have l0 : ∀ b o, b ≠ p → (∀ ps, o ≠ .tbl ps) → H19 b = some o → b ≠ l := fun b o h1 h2 h3 => ne_of_none (kA b o h1 h2 h3) hl
    have kA := kA.trans (Kp.of sl)
    have vv := vv.same sl
    have TT := TT.ext sl
    generalize upd H3 l (.lst [V.str "one"]) = H4 at gl kA vv TT ⊢
    clear sl hl
    -- second
    refine ⟨_, rfl, .inl ⟨rfl, _, SqL.of gl⟩, TT, fun H1 x1 T1 => ⟨"other", fun N => ⟨fa, hfa, rfl, _, rfl, _, rfl, ?_⟩⟩⟩
    have gl1 := x1 _ _ gl (by intro ps z; cases z)
    have kB := kA.trans (Kp.ofE x1)
    refine bad_other (Q := N) (jg_t (kB.tup nup hu19)) (jo2 _ kB) (ratB_of ra) eo2 (fun d H2 s2 _ hd => ⟨rfl, d, rfl, hd, fun H5 s3 => ?_⟩)
    have gl2 := s3 _ _ (s2 _ _ gl1)
    have kB := kB.trans (Kp.of (s2.trans s3))
    have vv := (vv.ext x1).same (s2.trans s3)
    have TT := T1.ext (s2.trans s3)
    clear x1 T1 s2 s3 hd gl gl1
    refine ⟨l, _, _, rfl, rfl, gl2, small1000 (by show 1 ≤ 1000; decide), ?_⟩
    have gl3 : upd H5 l (.lst ([V.str "one"] ++ [V.str "other"])) l = some (.lst [V.str "one", V.str "other"]) := upd_same
    have kB := kp_upd (o := .lst ([V.str "one"] ++ [V.str "other"])) kB l0
    have vv := vat_upd (o := .lst ([V.str "one"] ++ [V.str "other"])) vv gl2 nlp
    have TT := tabs_upd (o := .lst ([V.str "one"] ++ [V.str "other"])) TT gl2
    generalize upd H5 l (.lst ([V.str "one"] ++ [V.str "other"])) = H6 at gl3 kB vv TT ⊢
    clear gl2
    -- third
    refine ⟨_, rfl, .inl ⟨rfl, _, SqL.of gl3⟩, TT, fun H1 x1 T1 => ⟨"one", fun N => ⟨fa, hfa, rfl, _, rfl, _, rfl, ?_⟩⟩⟩
    have gl4 := x1 _ _ gl3 (by intro ps z; cases z)
    have kC := kB.trans (Kp.ofE x1)
    refine bad_one (Q := N) (jo1 _ kC) (jg_t (kC.tup nup hu19)) eo1 (fun d H2 s2 _ hd => ⟨rfl, d, rfl, hd, fun H7 s3 => ?_⟩)
    have gl5 := s3 _ _ (s2 _ _ gl4)
    have kC := kC.trans (Kp.of (s2.trans s3))
    have vv := (vv.ext x1).same (s2.trans s3)
    have TT := T1.ext (s2.trans s3)
    clear x1 T1 s2 s3 hd gl3 gl4
    refine ⟨l, _, _, rfl, rfl, gl5, small1000 (by show 2 ≤ 1000; decide), ?_⟩
    have gl6 : upd H7 l (.lst ([V.str "one", V.str "other"] ++ [V.str "one"])) l = some (.lst [V.str "one", V.str "other", V.str "one"]) := upd_same
    have kC := kp_upd (o := .lst ([V.str "one", V.str "other"] ++ [V.str "one"])) kC l0
    have vv := vat_upd (o := .lst ([V.str "one", V.str "other"] ++ [V.str "one"])) vv gl5 nlp
    have TT := tabs_upd (o := .lst ([V.str "one", V.str "other"] ++ [V.str "one"])) TT gl5
    generalize upd H7 l (.lst ([V.str "one", V.str "other"] ++ [V.str "one"])) = H8 at gl6 kC vv TT ⊢
    clear gl5
    refine ⟨_, rfl, by show 3 ≤ sizeLine; decide, fun m hm => ?_⟩
    have sm := same_new (o := .lst [V.str "one", V.str "other", V.str "one"]) hm
    refine ⟨.list [.str "one", .str "other", .str "one"], .list [.str "one", .str "other", .str "one"], .lst (SqL.of (sm _ _ gl6)) (.cons (.str _) (.cons (.str _) (.cons (.str _) .nil))), .lst (SqL.of upd_same) (.cons (.str _) (.cons (.str _) (.cons (.str _) .nil))), by decide +kernel, by decide +kernel, _, rfl, ?_⟩
    rw [show PyData.eqv (.list [.str "one", .str "other", .str "one"]) (.list [.str "one", .str "other", .str "one"]) = true by decide +kernel]
    exact iteF ⟨_, _, rfl, kC.trans (Kp.of sm), vv.same sm, TT.ext sm⟩
  · rintro σ H' ⟨v5, v6, rfl, kk, vv, TT⟩
    -- over by 0
    refine ⟨TT, fun H1 x1 T1 => ⟨"other", fun N => ⟨_, rfl, by show 2 ≤ sizeLine; decide, fun z hz => ?_⟩⟩⟩
    have sz := same_new (o := .tup [V.int 0, V.int 1]) hz
    have kA := (kk.trans (Kp.ofE x1)).trans (Kp.of sz)
    refine over_zero (Q := N) (jg_t (kA.tup nup hu19)) (jg_t upd_same) ra (fun d H2 s2 _ hd => ⟨rfl, d, rfl, hd, fun H3 s3 => ?_⟩)
    have s4 := (sz.trans s2).trans s3
    have kA := (kk.trans (Kp.ofE x1)).trans (Kp.of s4)
    have vv := (vv.ext x1).same s4
    have TT := T1.ext s4
    clear x1 T1 s2 s3 s4 sz hd hz
    refine ⟨by show 1 ≤ sizeLine; decide, fun l hl => ?_⟩
    have sl := same_new (o := .lst [V.str "other"]) hl
    have gl : upd H3 l (.lst [V.str "other"]) l = some (.lst [V.str "other"]) := upd_same
    have nlp : l ≠ p := by
      obtain ⟨_, e⟩ := vv.at
      exact (ne_of_none e hl).symm
    have l0 : ∀ b o, b ≠ p → (∀ ps, o ≠ .tbl ps) → H19 b = some o → b ≠ l := fun b o h1 h2 h3 => ne_of_none (kA b o h1 h2 h3) hl
    have kA := kA.trans (Kp.of sl)
    have vv := vv.same sl
    have TT := TT.ext sl
    generalize upd H3 l (.lst [V.str "other"]) = H4 at gl kA vv TT ⊢
    clear sl hl
    refine ⟨_, rfl, .inl ⟨rfl, _, SqL.of gl⟩, TT, fun H1 x1 T1 => ⟨"one", fun N => ⟨_, rfl, by show 2 ≤ sizeLine; decide, fun z hz => ?_⟩⟩⟩
    have gl1 := x1 _ _ gl (by intro ps z; cases z)
    have sz := same_new (o := .tup [V.int 0, V.int 1]) hz
    have kB := (kA.trans (Kp.ofE x1)).trans (Kp.of sz)
    refine bad_op _ _ N _ (bad_one (Q := N) (jo1 _ kB) (jg_t upd_same) eo1 (fun d H2 s2 _ hd => ⟨rfl, d, rfl, hd, fun H5 s3 => ?_⟩))
    have s4 := (sz.trans s2).trans s3
    have gl2 := s4 _ _ gl1
    have kB := (kA.trans (Kp.ofE x1)).trans (Kp.of s4)
    have vv := (vv.ext x1).same s4
    have TT := T1.ext s4
    clear x1 T1 s2 s3 s4 sz hd hz gl gl1
    refine ⟨l, _, _, rfl, rfl, gl2, small1000 (by show 1 ≤ 1000; decide), ?_⟩
    have gl3 : upd H5 l (.lst ([V.str "other"] ++ [V.str "one"])) l = some (.lst [V.str "other", V.str "one"]) := upd_same
    have kB := kp_upd (o := .lst ([V.str "other"] ++ [V.str "one"])) kB l0
    have vv := vat_upd (o := .lst ([V.str "other"] ++ [V.str "one"])) vv gl2 nlp
    have TT := tabs_upd (o := .lst ([V.str "other"] ++ [V.str "one"])) TT gl2
    generalize upd H5 l (.lst ([V.str "other"] ++ [V.str "one"])) = H6 at gl3 kB vv TT ⊢
    clear gl2
    refine ⟨_, rfl, by show 2 ≤ sizeLine; decide, fun m hm => ?_⟩
    have sm := same_new (o := .lst [V.str "other", V.str "one"]) hm
    refine ⟨.list [.str "other", .str "one"], .list [.str "other", .str "one"], .lst (SqL.of (sm _ _ gl3)) (.cons (.str _) (.cons (.str _) .nil)), .lst (SqL.of upd_same) (.cons (.str _) (.cons (.str _) .nil)), by decide +kernel, by decide +kernel, ?_⟩
    rw [show PyData.eqv (.list [.str "other", .str "one"]) (.list [.str "other", .str "one"]) = true by decide +kernel]
    exact q _ ((k19.trans kB).trans (Kp.of sm)) (vv.same sm) (TT.ext sm)
end
end K4

namespace K4
open PySem PySem.Spec PyProof.Rows L2
theorem low_congr {n d n' d' : Int} (h : d ≠ 0) (h' : d' ≠ 0) (e : n * d' = n' * d) : low n d = low n' d' := by
  have c := low_cross (n := n') h'
  have g := low_gcd (n := n') h'
  have p := low_pos (n := n') h'
  generalize low n' d' = l at c g p
  obtain ⟨r, s⟩ := l
  have c : r * d' = n' * s := c
  refine low_is h p g ?_
  have z : n * s * d' = r * d * d' := by grind
  exact Int.eq_of_mul_eq_mul_right h' z
/-- sums in any order, by what each is equal to -/
theorem assoc_eq {a b c d e f x1 x2 y1 y2 : Int} (hb : b ≠ 0) (hd : d ≠ 0) (hf : f ≠ 0) (hx : x2 ≠ 0) (hy : y2 ≠ 0) (ex : x1 * (b * d) = (a * d + c * b) * x2) (ey : y1 * (d * f) = (c * f + e * d) * y2) :
    low (x1 * f + e * x2) (x2 * f) = low (a * y2 + y1 * b) (b * y2) := by
  have hD : b * d * f ≠ 0 := Int.mul_ne_zero (Int.mul_ne_zero hb hd) hf
  have h1 : low (x1 * f + e * x2) (x2 * f) = low (a * d * f + c * b * f + e * b * d) (b * d * f) := low_congr (Int.mul_ne_zero hx hf) hD (by grind)
  have h2 : low (a * y2 + y1 * b) (b * y2) = low (a * d * f + c * b * f + e * b * d) (b * d * f) := low_congr (Int.mul_ne_zero hb hy) hD (by grind)
  rw [h1, h2]
theorem distr_eq {a b c d e f x1 x2 u1 u2 w1 w2 : Int} (hb : b ≠ 0) (hd : d ≠ 0) (hf : f ≠ 0) (hx : x2 ≠ 0) (hu : u2 ≠ 0) (hw : w2 ≠ 0) (ex : x1 * (b * d) = (a * d + c * b) * x2) (eu : u1 * (b * f) = a * e * u2) (ew : w1 * (d * f) = c * e * w2) :
    low (x1 * e) (x2 * f) = low (u1 * w2 + w1 * u2) (u2 * w2) := by
  have hD : b * d * f ≠ 0 := Int.mul_ne_zero (Int.mul_ne_zero hb hd) hf
  have h1 : low (x1 * e) (x2 * f) = low ((a * d + c * b) * e) (b * d * f) := low_congr (Int.mul_ne_zero hx hf) hD (by grind)
  have h2 : low (u1 * w2 + w1 * u2) (u2 * w2) = low ((a * d + c * b) * e * f) (b * d * f * f) := low_congr (Int.mul_ne_zero hu hw) (Int.mul_ne_zero hD hf) (by grind)
  have h3 : low ((a * d + c * b) * e * f) (b * d * f * f) = low ((a * d + c * b) * e) (b * d * f) := low_congr (Int.mul_ne_zero hD hf) hD (by grind)
  rw [h1, h2, h3]
theorem jg_z {H : Hp} {t : Addr} {z : Int × Int} (h : Tup H t z) : Jg H (.ref t) (some [.int z.1, .int z.2]) := jg_t h
section
variable {P : Program} {w : World} {K : PySem.W.Frag} {mg : Str → Option Value} {base : Heap} {C : Addr}
def spLaw (K : PySem.W.Frag) (Pt : Addr) : Sp := fun vs H Q _ => ∃ (a : Addr) (ns : List Int), vs = [.ref a] ∧ SqL K H a (ns.map V.int) ∧ ns.length ≤ 63 ∧ LamX.Tabs [(Pt, qL)] H ∧ ∀ H', Q (.bl true) H'
abbrev sLaw : Stmt := top 30
abbrev nLaw : List Str := ["_law_script", "_law_vat_here", "_law_turn", "_law_one", "_law_other", "_law_third", "_law_each"]
theorem scLaw : FnScope nLaw ["_law_script"] (defScope sLaw) := ⟨rfl, rfl, rfl, by decide +kernel, rfl, by decide +kernel, by decide +kernel⟩
theorem ok_law {f Pt : Addr} {fd : FuncData} (F : Fun K "law" "law" sLaw f fd) (B : Bn mg) (C1 : Callee2 P w K mg base "plus" (spOp C false rPlus)) (C3 : Callee2 P w K mg base "times" (spOp C false rTimes)) (C4 : Callee2 P w K mg base "over" (spOp C true rOver))
    (C5 : Callee P w K mg base CX0 1 "_law_vat" ["_law_script"] (spVat K)) (C6 : Callee P w K mg base CX0 2 "_law_pick" ["_law_vat_here", "_law_some"] spPick) (C7 : Callee P w K mg base CX0 3 "_law_ratio" ["_law_vat_here", "_law_most"] spRatio)
    (C8 : Callee P w K mg base CX0 6 "_law_sums_right" ["_law_one", "_law_other"] spSums) (C9 : Callee P w K mg base CX0 6 "_law_order_right" ["_law_one", "_law_other"] spOrder) (C10 : Callee P w K mg base CX0 8 "_law_refused_right" ["_law_vat_here", "_law_one"] (spRef Pt))
    (C11 : Callee P w K mg base CX0 6 "_law_wide_right" ["_law_vat_here"] spWide) : FnOk P w K mg base CX0 9 f fd ["_law_script"] (spLaw K Pt) := by
  obtain ⟨f1, fd1, m1, k1, b1, kb1, G1⟩ := C1
  obtain ⟨f3, fd3, m3, k3, b3, kb3, G3⟩ := C3
  obtain ⟨f4, fd4, m4, k4, b4, kb4, G4⟩ := C4
  obtain ⟨f5, fd5, m5, k5, b5, G5⟩ := C5
  obtain ⟨f6, fd6, m6, k6, b6, G6⟩ := C6
  obtain ⟨f7, fd7, m7, k7, b7, G7⟩ := C7
  obtain ⟨f8, fd8, m8, k8, b8, G8⟩ := C8
  obtain ⟨f9, fd9, m9, k9, b9, G9⟩ := C9
  obtain ⟨f10, fd10, m10, k10, b10, G10⟩ := C10
  obtain ⟨f11, fd11, m11, k11, b11, G11⟩ := C11
  refine F.ok scLaw (fun vs H Q E h => ?_) (fun cdv A outer s H vs Q E hr h => ?_)
  · obtain ⟨a, ns, rfl, _⟩ := h
    rfl
  · obtain ⟨sa, ns, rfl, hS, hl, hT, q⟩ := h
    have nd := scLaw.nd
    refine ⟨_, (pss_cons (ps_set (i := 1) nd rfl (Or.inr rfl) (pe_call G5 (hr.mono (by decide)) rfl m5 k5 b5 .nil pass0 (pa_cons (pv 0) pa_nil))) (pss_cons (ps_for PassesOwn.never rfl (pi_range1 rfl B.range (pa_cons (pe_int) pa_nil)) (pg_name (i := 2) nd rfl (Or.inl rfl))
        (pss_cons (ps_asg (pe_lc (own := [("_law_each", 6)]) (g := gName 6) (tt := tYes) rfl nd (pi_range1 rfl B.range (pa_cons (pe_int) pa_nil)) (blkOk_by (N := nLaw) (sc := defScope sLaw) (by decide +kernel)) (fun _ _ _ _ _ => pg_name (i := 6) nd rfl (Or.inl rfl)) (fun _ _ _ _ _ => pts_nil)
            (fun _ _ _ _ _ => (pe_call G7 (hr.mono (by decide)) rfl m7 k7 b7 .nil pass0 (pa_cons (pv 1) (pa_cons ((pe_call G6 (hr.mono (by decide)) rfl m6 k6 b6 .nil pass0 (pa_cons (pv 1) (pa_cons (pe_lst (pa_cons (pe_int) (pa_cons (pe_int) (pa_cons (pe_int) (pa_cons (pe_int) (pa_cons (pe_int) pa_nil)))))) pa_nil)))) pa_nil))))) (pg_unl rfl (pgs_cons (pg_name (i := 3) nd rfl (Or.inl rfl)) (pgs_cons (pg_name (i := 4) nd rfl (Or.inl rfl)) pgs_nil)))) (pss_cons (ps_if (PW.pt (pw_or (pt_not (pt_val (pe_call G8 (hr.mono (by decide)) rfl m8 k8 b8 .nil pass0 (pa_cons (pv 3) (pa_cons (pv 4) pa_nil))))) (pw_or (pt_not (pt_val (pe_call G9 (hr.mono (by decide)) rfl m9 k9 b9 .nil pass0 (pa_cons (pv 3) (pa_cons (pv 4) pa_nil))))) (pw_or1 (pt_not (pt_val (pe_call G10 (hr.mono (by decide)) rfl m10 k10 b10 .nil pass0 (pa_cons (pv 1) (pa_cons (pv 3) pa_nil))))))))) (pss_one (ps_ret pe_bl)) pss_nil) (pss_cons ((ps_set (i := 5) nd rfl (Or.inl rfl) ((pe_call G7 (hr.mono (by decide)) rfl m7 k7 b7 .nil pass0 (pa_cons (pv 1) (pa_cons (pe_int) pa_nil)))))) (pss_cons (ps_if (PW.pt (pw_or ((pt_cmpR (op_neD hr.units) ((pe_call (E := E0) G1 (hr.mono (by decide)) rfl m1 k1 b1 .nil passL (pa_cons ((pe_call (E := E0) G1 (hr.mono (by decide)) rfl m1 k1 b1 .nil passL (pa_cons (pv 3) (pa_cons (pv 4) pa_nil)))) (pa_cons (pv 5) pa_nil)))) ((pe_call (E := E0) G1 (hr.mono (by decide)) rfl m1 k1 b1 .nil passL (pa_cons (pv 3) (pa_cons ((pe_call (E := E0) G1 (hr.mono (by decide)) rfl m1 k1 b1 .nil passL (pa_cons (pv 4) (pa_cons (pv 5) pa_nil)))) pa_nil)))) (nomark _))) (pw_or1 (pt_not (pt_val (pe_call G11 (hr.mono (by decide)) rfl m11 k11 b11 .nil pass0 (pa_cons (pv 1) pa_nil))))))) (pss_one (ps_ret pe_bl)) pss_nil) (pss_one (ps_if (pt_cmpR (op_neD hr.units) ((pe_call (E := E0) G3 (hr.mono (by decide)) rfl m3 k3 b3 .nil passL (pa_cons ((pe_call (E := E0) G1 (hr.mono (by decide)) rfl m1 k1 b1 .nil passL (pa_cons (pv 3) (pa_cons (pv 4) pa_nil)))) (pa_cons (pv 5) pa_nil)))) ((pe_call (E := E0) G1 (hr.mono (by decide)) rfl m1 k1 b1 .nil passL (pa_cons ((pe_call (E := E0) G3 (hr.mono (by decide)) rfl m3 k3 b3 .nil passL (pa_cons (pv 3) (pa_cons (pv 5) pa_nil)))) (pa_cons ((pe_call (E := E0) G3 (hr.mono (by decide)) rfl m3 k3 b3 .nil passL (pa_cons (pv 4) (pa_cons (pv 5) pa_nil)))) pa_nil)))) (nomark _)) (pss_one (ps_ret pe_bl)) pss_nil))))))) (pss_one (ps_ret (pe_cmpR (op_eqD hr.units) ((pe_call (E := E0) G4 (hr.mono (by decide)) rfl m4 k4 b4 .nil passL (pa_cons (pe_tup (pa_cons (pe_int) (pa_cons (pe_int) pa_nil))) (pa_cons (pe_tup (pa_cons (pe_un un_neg pe_int) (pa_cons (pe_int) pa_nil))) pa_nil)))) (pe_tup (pa_cons (pe_un un_neg pe_int) (pa_cons (pe_int) pa_nil))) (nomark _)))))), ?_⟩
    refine ⟨_, rfl, sa, ns, rfl, hS, hl, fun H1 p s1 _ v1 => ?_⟩
    have T1 := hT.ext s1
    refine ⟨6, rfl, by decide, by decide, ?_⟩
    refine for_range (n := 6) (fun i σ H' => (∃ v2 v3 v4 v5 v6 : Option V, σ = [some (.ref sa), some (.ref p), v2, v3, v4, v5, v6]) ∧ Vat H' p (19 * i) ∧ LamX.Tabs [(Pt, qL)] H') ⟨⟨none, none, none, none, none, rfl⟩, v1, T1⟩ ?_ ?_
    · rintro i σ H2 hi ⟨⟨v2, v3, v4, v5, v6, rfl⟩, vv, TT⟩
      refine ⟨2, rfl, by decide, by decide, fun D hD => ?_⟩
      have sD := same_new (o := .lst []) hD
      have nDp : D ≠ p := by
        obtain ⟨_, e⟩ := vv.at
        exact (ne_of_none e hD).symm
      refine lc_range (lo := 0) (n := 2) (fun j H' => Vat H' p (19 * i + 4 * j) ∧ LamX.Tabs [(Pt, qL)] H' ∧ (∃ (c : Addr) (r : List V), H' p = some (.lst (V.ref c :: r)) ∧ c ≠ D) ∧ ∃ ts : List Addr, ts.length = j ∧ H' D = some (.lst (ts.map V.ref)) ∧ ∀ t ∈ ts, ∃ a b, Tup H' t (a, b) ∧ Rat 40 a b)
        ⟨vv.same sD, TT.ext sD, (by
          obtain ⟨c, ms, e1, e2, h1, h2, _⟩ := vv
          exact ⟨c, _, sD _ _ h1, ne_of_none h2 hD⟩), [], rfl, upd_same, fun t ht => nomatch ht⟩ (fun j H3 hj pv => ?_) (fun H3 pv => ?_)
      · obtain ⟨v3, T3, ⟨c0, r0, hc0, ncD⟩, ts, hts, gD, hR⟩ := pv
        refine ⟨rfl, yes_of ?_⟩
        refine ⟨_, rfl, _, rfl, by show 5 ≤ sizeLine; decide, fun l hl => ?_⟩
        have sl := same_new (o := .lst [V.int 4, V.int 4, V.int 30, V.int 1000, V.int 20000]) hl
        have nlp : l ≠ p := by
          obtain ⟨_, e⟩ := v3.at
          exact (ne_of_none e hl).symm
        have v4 := v3.same sl
        have T4 := T3.ext sl
        have gD4 := sl _ _ gD
        have hc4 := sl _ _ hc0
        have hR4 : ∀ t ∈ ts, ∃ a b, Tup _ t (a, b) ∧ Rat 40 a b := fun t ht => let ⟨a, b, h1, h2⟩ := hR t ht; ⟨a, b, h1.same sl, h2⟩
        have gl : upd H3 l (.lst [V.int 4, V.int 4, V.int 30, V.int 1000, V.int 20000]) l = some (.lst [V.int 4, V.int 4, V.int 30, V.int 1000, V.int 20000]) := upd_same
        generalize upd H3 l (.lst [V.int 4, V.int 4, V.int 30, V.int 1000, V.int 20000]) = H4 at v4 T4 gD4 hR4 gl hc4 ⊢
        refine ⟨p, l, _, _, rfl, v4, by omega, gl, nlp, by show 0 < 5; decide, by show 5 ≤ 1000; decide, fun H5 x s5 v5 hx => ?_⟩
        obtain ⟨z, rfl, hz1, hz2⟩ : ∃ z : Int, x = .int z ∧ 2 ≤ z ∧ z ≤ 20000 := by
          simp only [List.mem_cons, List.not_mem_nil, or_false] at hx
          rcases hx with e | e | e | e | e
          · exact ⟨_, e, by omega, by omega⟩
          · exact ⟨_, e, by omega, by omega⟩
          · exact ⟨_, e, by omega, by omega⟩
          · exact ⟨_, e, by omega, by omega⟩
          · exact ⟨_, e, by omega, by omega⟩
        refine ⟨p, z, _, rfl, v5, by omega, hz1, (by show z ≤ 1099511627776; omega), fun H6 t a b s6 v6 ht ra => ?_⟩
        have s56 := s5.trans s6
        have gD6 := s56 _ _ nDp gD4
        refine ⟨_, gD6, small1000 (by rw [List.length_map]; omega), ?_⟩
        have ntD : t ≠ D := ne_of ht gD6 (by intro z; cases z)
        have old : ∀ t ∈ ts, ∃ a b, Tup H6 t (a, b) ∧ Rat 40 a b := fun t ht => by
          obtain ⟨a, b, h1, h2⟩ := hR4 t ht
          obtain ⟨_, e⟩ := v4.at
          exact ⟨a, b, s56 _ _ (ne_of h1 e (by intro z; cases z)) h1, h2⟩
        obtain ⟨c, ms, e1, e2, h1, h2, h3⟩ := v6
        have T6 := tabs_sb (tabs_sb T4 v4 s5) v5 s6
        obtain ⟨r6, hc6⟩ := s56.hd _ _ hc4
        refine ⟨?_, tabs_upd T6 gD6, ⟨c0, r6, by rw [upd_ne nDp.symm]; exact hc6, ncD⟩, ts ++ [t], by rw [List.length_append, hts]; rfl, ?_, fun t' ht' => ?_⟩
        · have ec : c = c0 := by
            rw [hc6] at h1
            cases h1
            rfl
          rw [ec] at h1 h2
          exact ⟨c0, ms, e1, e2, by rw [upd_ne nDp.symm]; exact h1, by rw [upd_ne ncD]; exact h2, h3.1, h3.2.1, by have := h3.2.2; omega⟩
        · rw [upd_same, List.map_append]
          rfl
        · rcases List.mem_append.mp ht' with z | z
          · obtain ⟨a, b, h1, h2⟩ := old t' z
            exact ⟨a, b, by unfold Tup; rw [upd_ne (ne_of h1 gD6 (by intro z; cases z))]; exact h1, h2⟩
          · rw [List.mem_singleton.mp z]
            exact ⟨a, b, by unfold Tup; rw [upd_ne ntD]; exact ht, ra⟩
      · obtain ⟨v3, T3, _, ts, hts, gD, hR⟩ := pv
        obtain ⟨t, u, rfl⟩ : ∃ t u, ts = [t, u] := by
          match ts, hts with
          | [t, u], _ => exact ⟨t, u, rfl⟩
        obtain ⟨a, b, ht, ra⟩ := hR t (by simp)
        obtain ⟨c, d, hu, rc⟩ := hR u (by simp)
        refine ⟨D, _, rfl, SqL.of gD, rfl, _, _, rfl, _, _, rfl, rfl, ?_⟩
        have ntp : t ≠ p := by
          obtain ⟨_, e⟩ := v3.at
          exact ne_of ht e (by intro z; cases z)
        have nup : u ≠ p := by
          obtain ⟨_, e⟩ := v3.at
          exact ne_of hu e (by intro z; cases z)
        clear gD hR sD
        -- the parts
        refine ⟨_, rfl, _, rfl, t, u, a, b, c, d, rfl, ht, hu, ra, rc, fun H4 s4 => ⟨_, rfl, iteF ?_⟩⟩
        refine ⟨_, rfl, _, rfl, t, u, a, b, c, d, rfl, ht.same s4, hu.same s4, ra, rc, fun H5 s5 => ⟨_, rfl, iteF ?_⟩⟩
        have s45 := s4.trans s5
        refine ⟨_, rfl, _, rfl, p, t, _, a, b, rfl, v3.same s45, by omega, ht.same s45, ra, T3.ext s45, fun H6 k6 v6 T6 => ⟨_, rfl, iteF ?_⟩⟩
        have ht6 : Tup H6 t (a, b) := k6.tup ntp (ht.same s45)
        have hu6 : Tup H6 u (c, d) := k6.tup nup (hu.same s45)
        refine ⟨_, rfl, p, 30, _, rfl, v6, by omega, by decide, by decide, fun H7 x e g s7 v7 hx re => ?_⟩
        have T7 := tabs_sb T6 v6 s7
        have ht7 : Tup H7 t (a, b) := s7 _ _ ntp ht6
        have hu7 : Tup H7 u (c, d) := s7 _ _ nup hu6
        have nxp : x ≠ p := by
          obtain ⟨_, e⟩ := v7.at
          exact ne_of hx e (by intro z; cases z)
        clear k6 s7 s45 s5 s4 ht hu ht6 hu6 v3 T3 v6 T6
        -- sums of three
        have hb := ra.pos
        have hd := rc.pos
        have hg := re.pos
        have hbd : b * d ≠ 0 := Int.mul_ne_zero (by omega) (by omega)
        have hdg : d * g ≠ 0 := Int.mul_ne_zero (by omega) (by omega)
        have hbg : b * g ≠ 0 := Int.mul_ne_zero (by omega) (by omega)
        have up : ∀ {x : Int} {i j : Nat}, x.natAbs < 2 ^ i → i ≤ j → x.natAbs < 2 ^ j := fun h e => Nat.lt_of_lt_of_le h (Nat.pow_le_pow_right (by decide) e)
        have sums : ∀ {k : Nat} {x y z w : Int}, Rat k x y → Rat k z w → Rat (2 * k + 1) (low (x * w + z * y) (y * w)).1 (low (x * w + z * y) (y * w)).2 := fun r1 r2 =>
          rat_low (Int.mul_ne_zero (by have := r1.pos; omega) (by have := r2.pos; omega)) (ad (ml r1.ha r2.hb _ (Nat.le_refl _)) (ml r2.ha r1.hb _ (Nat.le_refl _)) _ (by omega) (by omega)) (ml r1.hb r2.hb _ (by omega))
        have prods : ∀ {k : Nat} {x y z w : Int}, Rat k x y → Rat k z w → Rat (2 * k + 1) (low (x * z) (y * w)).1 (low (x * z) (y * w)).2 := fun r1 r2 =>
          rat_low (Int.mul_ne_zero (by have := r1.pos; omega) (by have := r2.pos; omega)) (ml r1.ha r2.ha _ (by omega)) (ml r1.hb r2.hb _ (by omega))
        have rX := sums ra rc
        have eX := low_cross (n := a * d + c * b) hbd
        have rY := sums rc re
        have eY := low_cross (n := c * g + e * d) hdg
        have rU := prods ra re
        have eU := low_cross (n := a * e) hbg
        have rW := prods rc re
        have eW := low_cross (n := c * e) hdg
        refine ⟨_, rfl, _, rfl, op_use (jg_t ht7) (jg_t hu7) ra rc (by decide) (fun z => nomatch z) (fun H8 X s8 _ hX => ?_)⟩
        refine ⟨_, rfl, op_use (jg_z hX) (jg_t (hx.same s8)) rX (re.mono (by decide)) (by decide) (fun z => nomatch z) (fun H9 L s9 _ hL => ?_)⟩
        have sA := s8.trans s9
        refine ⟨_, rfl, _, rfl, _, rfl, op_use (jg_t (hu7.same sA)) (jg_t (hx.same sA)) rc re (by decide) (fun z => nomatch z) (fun H10 Y s10 _ hY => ?_)⟩
        have sA := sA.trans s10
        refine op_use (jg_t (ht7.same sA)) (jg_z hY) (ra.mono (by decide)) rY (by decide) (fun z => nomatch z) (fun H11 R s11 _ hR => ?_)
        have sA := sA.trans s11
        have as := assoc_eq (a := a) (b := b) (c := c) (d := d) (e := e) (f := g) (by omega) (by omega) (by omega) (by have := rX.pos; omega) (by have := rY.pos; omega) eX eY
        rw [← as] at hR
        refine ne_use (hL.same (s10.trans s11)) hR ⟨_, rfl, iteF ?_⟩
        refine ⟨_, rfl, p, _, rfl, v7.same sA, by omega, fun H12 s12 v12 => ⟨_, rfl, iteF ?_⟩⟩
        have T12 := tabs_sb (T7.ext sA) (v7.same sA) s12
        have ht12 : Tup H12 t (a, b) := s12 _ _ ntp (ht7.same sA)
        have hu12 : Tup H12 u (c, d) := s12 _ _ nup (hu7.same sA)
        have hx12 : Tup H12 x (e, g) := s12 _ _ nxp (hx.same sA)
        clear sA s8 s9 s10 s11 hL hR hX hY as
        -- products of sums
        refine ⟨_, rfl, _, rfl, op_use (jg_t ht12) (jg_t hu12) ra rc (by decide) (fun z => nomatch z) (fun H13 X s13 _ hX => ?_)⟩
        refine ⟨_, rfl, op_use (jg_z hX) (jg_t (hx12.same s13)) rX (re.mono (by decide)) (by decide) (fun z => nomatch z) (fun H14 L s14 _ hL => ?_)⟩
        have sA := s13.trans s14
        refine ⟨_, rfl, _, rfl, op_use (jg_t (ht12.same sA)) (jg_t (hx12.same sA)) ra re (by decide) (fun z => nomatch z) (fun H15 U s15 _ hU => ?_)⟩
        have sB := sA.trans s15
        refine ⟨_, rfl, _, rfl, op_use (jg_t (hu12.same sB)) (jg_t (hx12.same sB)) rc re (by decide) (fun z => nomatch z) (fun H16 W s16 _ hW => ?_)⟩
        have sC := sB.trans s16
        refine op_use (jg_z (hU.same s16)) (jg_z hW) rU rW (by decide) (fun z => nomatch z) (fun H17 R s17 _ hR => ?_)
        have sD := sC.trans s17
        have ds := distr_eq (a := a) (b := b) (c := c) (d := d) (e := e) (f := g) (by omega) (by omega) (by omega) (by have := rX.pos; omega) (by have := rU.pos; omega) (by have := rW.pos; omega) eX eU eW
        rw [← ds] at hR
        refine ne_use (hL.same ((s15.trans s16).trans s17)) hR ⟨_, rfl, iteF ?_⟩
        exact ⟨⟨_, _, _, _, _, rfl⟩, (v12.same sD).le (by omega), T12.ext sD⟩
    · rintro σ H2 ⟨⟨v2, v3, v4, v5, v6, rfl⟩, vv, TT⟩
      refine ⟨by show 2 ≤ sizeLine; decide, fun x hx => ?_⟩
      have gx : Tup (upd H2 x (.tup [V.int 1, V.int 2])) x (1, 2) := upd_same
      generalize upd H2 x (.tup [V.int 1, V.int 2]) = H3 at gx ⊢
      refine ⟨_, rfl, by show 2 ≤ sizeLine; decide, fun y hy => ?_⟩
      have s4 := same_new (o := .tup [V.int (-3), V.int 4]) hy
      have r1 : Rat 10 1 2 := ⟨by decide, by decide, by decide, by decide⟩
      have r2 : Rat 10 (-3) 4 := ⟨by decide, by decide, by decide, by decide⟩
      refine op_use (a := 1) (b := 2) (c := -3) (d := 4) (jg_t (gx.same s4)) (jg_t upd_same) r1 r2 (by decide) (fun _ => by decide) (fun H5 z s5 _ hz => ?_)
      refine ⟨_, rfl, by show 2 ≤ sizeLine; decide, fun w hw => ?_⟩
      have s6 := same_new (o := .tup [V.int (-2), V.int 3]) hw
      rw [show low (1 * 4) (2 * -3) = (-2, 3) by decide] at hz
      exact eq_use (z := (-2, 3)) (hz.same s6) upd_same (q _)
end
end K4

namespace K4
open PySem PySem.Spec PyProof.Rows L2
theorem all_mk {l : PySem.W.OpenLaw} {w : World} {K : PySem.W.Frag} {h : Heap} {mg : Str → Option Value} {fa : Addr} {f6 f7 f8 f9 f10 f12 f13 f14 f15 f16 f17 f19 f20 f21 f22 f23 f24 f25 f26 f27 f28 f29 f30 C CS fI c29 Pt : Addr} {od6 an6 od7 an7 od8 an8 od9 an9 od10 an10 od12 an12 od13 an13 od14 an14 od15 an15 od16 an16 od17 an17 od19 an19 od20 an20 od21 an21 od22 an22 od23 an23 od24 an24 od25 an25 od26 an26 od27 an27 od28 an28 od29 an29 od30 an30 odI anI : Option Addr} {sl6 sl7 sl8 sl9 sl10 sl12 sl13 sl14 sl15 sl16 sl17 sl19 sl20 sl21 sl22 sl23 sl24 sl25 sl26 sl27 sl28 sl29 sl30 slI : Array (Option Value)} {oc6 kV6 dc6 pm6 cv6 ct6 oc7 kV7 dc7 pm7 cv7 ct7 oc8 kV8 dc8 pm8 cv8 ct8 oc9 kV9 dc9 pm9 cv9 ct9 oc10 kV10 dc10 pm10 cv10 ct10 oc12 kV12 dc12 pm12 cv12 ct12 oc13 kV13 dc13 pm13 cv13 ct13 oc14 kV14 dc14 pm14 cv14 ct14 oc15 kV15 dc15 pm15 cv15 ct15 oc16 kV16 dc16 pm16 cv16 ct16 oc17 kV17 dc17 pm17 cv17 ct17 oc19 kV19 dc19 pm19 cv19 ct19 oc20 kV20 dc20 pm20 cv20 ct20 oc21 kV21 dc21 pm21 cv21 ct21 oc22 kV22 dc22 pm22 cv22 ct22 oc23 kV23 dc23 pm23 cv23 ct23 oc24 kV24 dc24 pm24 cv24 ct24 oc25 kV25 dc25 pm25 cv25 ct25 oc26 kV26 dc26 pm26 cv26 ct26 oc27 kV27 dc27 pm27 cv27 ct27 oc28 kV28 dc28 pm28 cv28 ct28 oc29 kV29 dc29 pm29 ct29 oc30 kV30 dc30 pm30 cv30 ct30 ocI kVI dcI pmI cvI ctI : Value} {nm qn : Str} {N : Addr} {bs : List Value} {sn : List Str} {sub : List Value} {ab : Bool} {col : Option Bool} {dd : Option Addr} {m0 m1 m2 m3 m5 : Option Value}
    (X : K.In h) (G : h.Ns mainGlobals mg) (hfa : mg "law" = some (.ref fa)) (tab : h.get? Pt = some { cls := .none, data := .fields #[] })
    (a6 : PySem.W.nsIn K mainGlobals "is_integer" = some (some (.ref f6)))
    (l6 : K.lookup f6 = some ⟨oc6, od6, .func (PySem.W.fnOf "is_integer" "is_integer" (defArgs sInt) (defBody sInt) (defScope sInt) .none kV6 dc6 pm6 an6 cv6 ct6), sl6⟩)
    (c6 : PySem.W.codeIn K cv6 "is_integer" = true)
    (k6 : PySem.W.keepIn K (.ref f6) = true)
    (a7 : PySem.W.nsIn K mainGlobals "is_list" = some (some (.ref f7)))
    (l7 : K.lookup f7 = some ⟨oc7, od7, .func (PySem.W.fnOf "is_list" "is_list" (defArgs sIsList) (defBody sIsList) (defScope sIsList) .none kV7 dc7 pm7 an7 cv7 ct7), sl7⟩)
    (c7 : PySem.W.codeIn K cv7 "is_list" = true)
    (k7 : PySem.W.keepIn K (.ref f7) = true)
    (a8 : PySem.W.nsIn K mainGlobals "are_integers" = some (some (.ref f8)))
    (l8 : K.lookup f8 = some ⟨oc8, od8, .func (PySem.W.fnOf "are_integers" "are_integers" (defArgs sInts) (defBody sInts) (defScope sInts) .none kV8 dc8 pm8 an8 cv8 ct8), sl8⟩)
    (c8 : PySem.W.codeIn K cv8 "are_integers" = true)
    (k8 : PySem.W.keepIn K (.ref f8) = true)
    (a9 : PySem.W.nsIn K mainGlobals "is_ratio" = some (some (.ref f9)))
    (l9 : K.lookup f9 = some ⟨oc9, od9, .func (PySem.W.fnOf "is_ratio" "is_ratio" (defArgs sRat) (defBody sRat) (defScope sRat) .none kV9 dc9 pm9 an9 cv9 ct9), sl9⟩)
    (c9 : PySem.W.codeIn K cv9 "is_ratio" = true)
    (k9 : PySem.W.keepIn K (.ref f9) = true)
    (a10 : PySem.W.nsIn K mainGlobals "lowest" = some (some (.ref f10)))
    (l10 : K.lookup f10 = some ⟨oc10, od10, .func (PySem.W.fnOf "lowest" "lowest" (defArgs sLow) (defBody sLow) (defScope sLow) .none kV10 dc10 pm10 an10 cv10 ct10), sl10⟩)
    (c10 : PySem.W.codeIn K cv10 "lowest" = true)
    (k10 : PySem.W.keepIn K (.ref f10) = true)
    (a12 : PySem.W.nsIn K mainGlobals "_check_both" = some (some (.ref f12)))
    (l12 : K.lookup f12 = some ⟨oc12, od12, .func (PySem.W.fnOf "_check_both" "_check_both" (defArgs sChk) (defBody sChk) (defScope sChk) .none kV12 dc12 pm12 an12 cv12 ct12), sl12⟩)
    (c12 : PySem.W.codeIn K cv12 "_check_both" = true)
    (k12 : PySem.W.keepIn K (.ref f12) = true)
    (a13 : PySem.W.nsIn K mainGlobals "plus" = some (some (.ref f13)))
    (l13 : K.lookup f13 = some ⟨oc13, od13, .func (PySem.W.fnOf "plus" "plus" (defArgs sPlus) (defBody sPlus) (defScope sPlus) .none kV13 dc13 pm13 an13 cv13 ct13), sl13⟩)
    (c13 : PySem.W.codeIn K cv13 "plus" = true)
    (k13 : PySem.W.keepIn K (.ref f13) = true)
    (a14 : PySem.W.nsIn K mainGlobals "minus" = some (some (.ref f14)))
    (l14 : K.lookup f14 = some ⟨oc14, od14, .func (PySem.W.fnOf "minus" "minus" (defArgs sMinus) (defBody sMinus) (defScope sMinus) .none kV14 dc14 pm14 an14 cv14 ct14), sl14⟩)
    (c14 : PySem.W.codeIn K cv14 "minus" = true)
    (k14 : PySem.W.keepIn K (.ref f14) = true)
    (a15 : PySem.W.nsIn K mainGlobals "times" = some (some (.ref f15)))
    (l15 : K.lookup f15 = some ⟨oc15, od15, .func (PySem.W.fnOf "times" "times" (defArgs sTimes) (defBody sTimes) (defScope sTimes) .none kV15 dc15 pm15 an15 cv15 ct15), sl15⟩)
    (c15 : PySem.W.codeIn K cv15 "times" = true)
    (k15 : PySem.W.keepIn K (.ref f15) = true)
    (a16 : PySem.W.nsIn K mainGlobals "over" = some (some (.ref f16)))
    (l16 : K.lookup f16 = some ⟨oc16, od16, .func (PySem.W.fnOf "over" "over" (defArgs sOver) (defBody sOver) (defScope sOver) .none kV16 dc16 pm16 an16 cv16 ct16), sl16⟩)
    (c16 : PySem.W.codeIn K cv16 "over" = true)
    (k16 : PySem.W.keepIn K (.ref f16) = true)
    (a17 : PySem.W.nsIn K mainGlobals "compared" = some (some (.ref f17)))
    (l17 : K.lookup f17 = some ⟨oc17, od17, .func (PySem.W.fnOf "compared" "compared" (defArgs sCmp) (defBody sCmp) (defScope sCmp) .none kV17 dc17 pm17 an17 cv17 ct17), sl17⟩)
    (c17 : PySem.W.codeIn K cv17 "compared" = true)
    (k17 : PySem.W.keepIn K (.ref f17) = true)
    (a19 : PySem.W.nsIn K mainGlobals "_law_vat" = some (some (.ref f19)))
    (l19 : K.lookup f19 = some ⟨oc19, od19, .func (PySem.W.fnOf "_law_vat" "_law_vat" (defArgs sVat) (defBody sVat) (defScope sVat) .none kV19 dc19 pm19 an19 cv19 ct19), sl19⟩)
    (c19 : PySem.W.codeIn K cv19 "_law_vat" = true)
    (k19 : PySem.W.keepIn K (.ref f19) = true)
    (a20 : PySem.W.nsIn K mainGlobals "_law_dip" = some (some (.ref f20)))
    (l20 : K.lookup f20 = some ⟨oc20, od20, .func (PySem.W.fnOf "_law_dip" "_law_dip" (defArgs sDip) (defBody sDip) (defScope sDip) .none kV20 dc20 pm20 an20 cv20 ct20), sl20⟩)
    (c20 : PySem.W.codeIn K cv20 "_law_dip" = true)
    (k20 : PySem.W.keepIn K (.ref f20) = true)
    (a21 : PySem.W.nsIn K mainGlobals "_law_pick" = some (some (.ref f21)))
    (l21 : K.lookup f21 = some ⟨oc21, od21, .func (PySem.W.fnOf "_law_pick" "_law_pick" (defArgs sPick) (defBody sPick) (defScope sPick) .none kV21 dc21 pm21 an21 cv21 ct21), sl21⟩)
    (c21 : PySem.W.codeIn K cv21 "_law_pick" = true)
    (k21 : PySem.W.keepIn K (.ref f21) = true)
    (a22 : PySem.W.nsIn K mainGlobals "_law_shared" = some (some (.ref f22)))
    (l22 : K.lookup f22 = some ⟨oc22, od22, .func (PySem.W.fnOf "_law_shared" "_law_shared" (defArgs sShared) (defBody sShared) (defScope sShared) .none kV22 dc22 pm22 an22 cv22 ct22), sl22⟩)
    (c22 : PySem.W.codeIn K cv22 "_law_shared" = true)
    (k22 : PySem.W.keepIn K (.ref f22) = true)
    (a23 : PySem.W.nsIn K mainGlobals "_law_ratio" = some (some (.ref f23)))
    (l23 : K.lookup f23 = some ⟨oc23, od23, .func (PySem.W.fnOf "_law_ratio" "_law_ratio" (defArgs sRatio) (defBody sRatio) (defScope sRatio) .none kV23 dc23 pm23 an23 cv23 ct23), sl23⟩)
    (c23 : PySem.W.codeIn K cv23 "_law_ratio" = true)
    (k23 : PySem.W.keepIn K (.ref f23) = true)
    (a24 : PySem.W.nsIn K mainGlobals "_law_is" = some (some (.ref f24)))
    (l24 : K.lookup f24 = some ⟨oc24, od24, .func (PySem.W.fnOf "_law_is" "_law_is" (defArgs sIs) (defBody sIs) (defScope sIs) .none kV24 dc24 pm24 an24 cv24 ct24), sl24⟩)
    (c24 : PySem.W.codeIn K cv24 "_law_is" = true)
    (k24 : PySem.W.keepIn K (.ref f24) = true)
    (a25 : PySem.W.nsIn K mainGlobals "_law_sums_right" = some (some (.ref f25)))
    (l25 : K.lookup f25 = some ⟨oc25, od25, .func (PySem.W.fnOf "_law_sums_right" "_law_sums_right" (defArgs sSums) (defBody sSums) (defScope sSums) .none kV25 dc25 pm25 an25 cv25 ct25), sl25⟩)
    (c25 : PySem.W.codeIn K cv25 "_law_sums_right" = true)
    (k25 : PySem.W.keepIn K (.ref f25) = true)
    (a26 : PySem.W.nsIn K mainGlobals "_law_wide_right" = some (some (.ref f26)))
    (l26 : K.lookup f26 = some ⟨oc26, od26, .func (PySem.W.fnOf "_law_wide_right" "_law_wide_right" (defArgs sWide) (defBody sWide) (defScope sWide) .none kV26 dc26 pm26 an26 cv26 ct26), sl26⟩)
    (c26 : PySem.W.codeIn K cv26 "_law_wide_right" = true)
    (k26 : PySem.W.keepIn K (.ref f26) = true)
    (a27 : PySem.W.nsIn K mainGlobals "_law_order_right" = some (some (.ref f27)))
    (l27 : K.lookup f27 = some ⟨oc27, od27, .func (PySem.W.fnOf "_law_order_right" "_law_order_right" (defArgs sOrder) (defBody sOrder) (defScope sOrder) .none kV27 dc27 pm27 an27 cv27 ct27), sl27⟩)
    (c27 : PySem.W.codeIn K cv27 "_law_order_right" = true)
    (k27 : PySem.W.keepIn K (.ref f27) = true)
    (a28 : PySem.W.nsIn K mainGlobals "_law_heard" = some (some (.ref f28)))
    (l28 : K.lookup f28 = some ⟨oc28, od28, .func (PySem.W.fnOf "_law_heard" "_law_heard" (defArgs sHeard) (defBody sHeard) (defScope sHeard) .none kV28 dc28 pm28 an28 cv28 ct28), sl28⟩)
    (c28 : PySem.W.codeIn K cv28 "_law_heard" = true)
    (k28 : PySem.W.keepIn K (.ref f28) = true)
    (a29 : PySem.W.nsIn K mainGlobals "_law_refused_right" = some (some (.ref f29)))
    (l29 : K.lookup f29 = some ⟨oc29, od29, .func (PySem.W.fnOf "_law_refused_right" "_law_refused_right" (defArgs sRef) (defBody sRef) (defScope sRef) .none kV29 dc29 pm29 an29 (.ref c29) ct29), sl29⟩)
    (c129 : PySem.W.codeIn K (.ref c29) "_law_refused_right" = true)
    (k29 : PySem.W.keepIn K (.ref f29) = true)
    (a30 : PySem.W.nsIn K mainGlobals "law" = some (some (.ref f30)))
    (l30 : K.lookup f30 = some ⟨oc30, od30, .func (PySem.W.fnOf "law" "law" (defArgs sLaw) (defBody sLaw) (defScope sLaw) .none kV30 dc30 pm30 an30 cv30 ct30), sl30⟩)
    (c30 : PySem.W.codeIn K cv30 "law" = true)
    (k30 : PySem.W.keepIn K (.ref f30) = true)
    (aC : PySem.W.nsIn K mainGlobals "BadRatio" = some (some (.ref C)))
    (aS : PySem.W.nsIn K mainGlobals "SeenError" = some (some (.ref CS)))
    (xC : K.lookup C = some (excClassObj nm qn C N bs [.ref CS, .type "ValueError", .type "Exception", .type "BaseException", .type "object"] true sn sub ab col dd m0 m1 m2 m3 m5 "ValueError.__new__"))
    (sa : PySem.W.findIn K (.ref C) "__setattr__" = some (some (.builtin "object.__setattr__")))
    (ga : PySem.W.findIn K (.ref C) "__getattribute__" = some (some (.builtin "BaseException.__getattribute__")))
    (gg : PySem.W.findIn K (.ref C) "__getattr__" = some none)
    (gc : PySem.W.findIn K (.ref C) "__class__" = some (some (.builtin "object.__class__")))
    (gs : PySem.W.specialIn K (.builtin "object.__class__") "__get__" = some (some (.builtin "getset_descriptor.__get__")))
    (gt : PySem.W.takesIn K (.builtin "object.__class__") = some true)
    (gm : PySem.W.mroIn K C (.type "object") = some true)
    (np : PySem.W.findIn K (.ref C) "part" = some none)
    (iC : PySem.W.findIn K (.ref C) "__init__" = some (some (.ref fI)))
    (tI : PySem.W.typeIn K (.ref fI) = some (.type "function"))
    (lI : K.lookup fI = some ⟨ocI, odI, .func (PySem.W.fnOf "__init__" "BadRatio.__init__" (defArgs sInit) (defBody sInit) (defScope sInit) .none kVI dcI pmI anI cvI ctI), slI⟩)
    (cI : PySem.W.codeIn K cvI "BadRatio.__init__" = true)
    (kI : PySem.W.keepIn K (.ref fI) = true)
    (kC : PySem.W.keepIn K (.ref C) = true)
    (eC : PySem.W.subIn K (.ref C) (.type "BaseException") = some true)
    (tC : PySem.W.typeIn K (.ref C) = some (.type "type"))
    (hC : PySem.W.hasDictIn K C = true)
    (eS : PySem.W.subIn K (.ref CS) (.type "BaseException") = some true)
    (tS : PySem.W.typeIn K (.ref CS) = some (.type "type"))
    (hS : PySem.W.hasDictIn K CS = true)
    (sS : PySem.W.subIn K (.ref C) (.ref CS) = some true)
    (gG : PySem.W.nsIn K mainGlobals "gcd" = some (some (.builtin "math.gcd")))
    (hd : PySem.W.codeHdIn K c29 Pt = true)
    (nT : K.lookup Pt = none)
    (z_isinstance : PySem.W.nsIn K mainGlobals "isinstance" = some none)
    (z_int : PySem.W.nsIn K mainGlobals "int" = some none)
    (z_bool : PySem.W.nsIn K mainGlobals "bool" = some none)
    (z_list : PySem.W.nsIn K mainGlobals "list" = some none)
    (z_tuple : PySem.W.nsIn K mainGlobals "tuple" = some none)
    (z_all : PySem.W.nsIn K mainGlobals "all" = some none)
    (z_len : PySem.W.nsIn K mainGlobals "len" = some none)
    (z_range : PySem.W.nsIn K mainGlobals "range" = some none)
    (z_abs : PySem.W.nsIn K mainGlobals "abs" = some none) :
    LamX.LawAtS l w K CX0 9 63 "_law_script" mg fa h := by
  have e := hfa.symm.trans (PySem.W.mg_of X G a30)
  cases e
  have F6 := fun_mk (st := sInt) l6 c6 k6
  have F7 := fun_mk (st := sIsList) l7 c7 k7
  have F8 := fun_mk (st := sInts) l8 c8 k8
  have F9 := fun_mk (st := sRat) l9 c9 k9
  have F10 := fun_mk (st := sLow) l10 c10 k10
  have F12 := fun_mk (st := sChk) l12 c12 k12
  have F13 := fun_mk (st := sPlus) l13 c13 k13
  have F14 := fun_mk (st := sMinus) l14 c14 k14
  have F15 := fun_mk (st := sTimes) l15 c15 k15
  have F16 := fun_mk (st := sOver) l16 c16 k16
  have F17 := fun_mk (st := sCmp) l17 c17 k17
  have F19 := fun_mk (st := sVat) l19 c19 k19
  have F20 := fun_mk (st := sDip) l20 c20 k20
  have F21 := fun_mk (st := sPick) l21 c21 k21
  have F22 := fun_mk (st := sShared) l22 c22 k22
  have F23 := fun_mk (st := sRatio) l23 c23 k23
  have F24 := fun_mk (st := sIs) l24 c24 k24
  have F25 := fun_mk (st := sSums) l25 c25 k25
  have F26 := fun_mk (st := sWide) l26 c26 k26
  have F27 := fun_mk (st := sOrder) l27 c27 k27
  have F28 := fun_mk (st := sHeard) l28 c28 k28
  have F29 := fun_mk (st := sRef) l29 c129 k29
  have F30 := fun_mk (st := sLaw) l30 c30 k30
  have FI := fun_mk (st := sInit) lI cI kI
  have B : Bn mg := ⟨PySem.W.mg_none_of X G z_isinstance, PySem.W.mg_none_of X G z_int, PySem.W.mg_none_of X G z_bool, PySem.W.mg_none_of X G z_list, PySem.W.mg_none_of X G z_tuple, PySem.W.mg_none_of X G z_all, PySem.W.mg_none_of X G z_len, PySem.W.mg_none_of X G z_range, PySem.W.mg_none_of X G z_abs⟩
  have T : BrTxt K mg C fI := ⟨⟨⟨nm, qn, N, bs, _, sn, sub, ab, col, dd, m0, m1, m2, m3, m5, xC, rfl⟩, sa, eC, tC, kC⟩, PySem.W.mg_of X G aC, np, iC, tI⟩
  have S : SeTxt K mg CS C := ⟨PySem.W.mg_of X G aS, PySem.W.exm_ref eS hS tS sS, ⟨ga, gg, eC, hC, gc, gs, gt, gm⟩, ⟨ga, gg, eC, hC⟩⟩
  have hg := PySem.W.mg_of X G gG
  refine ⟨PySem.W.fnOf "law" "law" (defArgs sLaw) (defBody sLaw) (defScope sLaw) .none kV30 dc30 pm30 an30 cv30 ct30, [(c29, Pt)], spLaw K Pt, fun p hp => ?_, fun p hp => ?_, fun p hp => ?_, fun s u => .of_eq rfl, fun H a ns hl _ hT hS => ?_, fun base _ _ TB => ?_⟩
  · rw [List.mem_singleton.mp hp]
    exact tab
  · rw [List.mem_singleton.mp hp]
    exact nT
  · rw [List.mem_singleton.mp hp]
    exact PySem.W.codeHd_of_K X hd
  · refine ⟨a, ns, rfl, hS, hl, fun x hx => ?_, fun _ => rfl⟩
    rw [List.mem_singleton.mp hx]
    exact LamX.TabS.nil (hT (c29, Pt) (List.mem_singleton.mpr rfl))
  · have C6 : Callee l.prog w K mg base CX0 1 "is_integer" ["value"] spInt := ⟨f6, _, PySem.W.mg_of X G a6, F6.kp, F6.binds (ps := ["value"]) fun _ _ _ _ _ _ us hl => match us, hl with | [_], _ => rfl, ok_int F6 B⟩
    have C7 : Callee l.prog w K mg base CX0 1 "is_list" ["value"] spIsList := ⟨f7, _, PySem.W.mg_of X G a7, F7.kp, F7.binds (ps := ["value"]) fun _ _ _ _ _ _ us hl => match us, hl with | [_], _ => rfl, ok_isList F7 B⟩
    have C8 : Callee l.prog w K mg base CX0 2 "are_integers" ["value"] spInts := ⟨f8, _, PySem.W.mg_of X G a8, F8.kp, F8.binds (ps := ["value"]) fun _ _ _ _ _ _ us hl => match us, hl with | [_], _ => rfl, ok_ints F8 B C6 C7⟩
    have C9 : Callee l.prog w K mg base CX0 3 "is_ratio" ["value"] spRat := ⟨f9, _, PySem.W.mg_of X G a9, F9.kp, F9.binds (ps := ["value"]) fun _ _ _ _ _ _ us hl => match us, hl with | [_], _ => rfl, ok_rat (fg := f9) F9 B hg C8⟩
    have C10 : Callee l.prog w K mg base CX0 2 "lowest" ["number", "by"] spLow := ⟨f10, _, PySem.W.mg_of X G a10, F10.kp, F10.binds (ps := ["number", "by"]) fun _ _ _ _ _ _ us hl => match us, hl with | [_, _], _ => rfl, ok_low F10 hg C6⟩
    have C12 : Callee l.prog w K mg base (L2.CX l.prog w) 4 "_check_both" ["one", "other"] (spChk C) := ⟨f12, _, PySem.W.mg_of X G a12, F12.kp, F12.binds (ps := ["one", "other"]) fun _ _ _ _ _ _ us hl => match us, hl with | [_, _], _ => rfl, ok_chk F12 T FI C9⟩
    have C13 : Callee2 l.prog w K mg base "plus" (spOp C false rPlus) := ⟨f13, _, PySem.W.mg_of X G a13, F13.kp, F13.binds (ps := ["one", "other"]) fun _ _ _ _ _ _ us hl => match us, hl with | [_, _], _ => rfl, kb_sw F13 (fun _ _ _ _ _ _ _ _ => rfl), ok_plus F13 C12 C10⟩
    have C14 : Callee2 l.prog w K mg base "minus" (spOp C false rMinus) := ⟨f14, _, PySem.W.mg_of X G a14, F14.kp, F14.binds (ps := ["one", "other"]) fun _ _ _ _ _ _ us hl => match us, hl with | [_, _], _ => rfl, kb_sw F14 (fun _ _ _ _ _ _ _ _ => rfl), ok_minus F14 C12 C10⟩
    have C15 : Callee2 l.prog w K mg base "times" (spOp C false rTimes) := ⟨f15, _, PySem.W.mg_of X G a15, F15.kp, F15.binds (ps := ["one", "other"]) fun _ _ _ _ _ _ us hl => match us, hl with | [_, _], _ => rfl, kb_sw F15 (fun _ _ _ _ _ _ _ _ => rfl), ok_times F15 C12 C10⟩
    have C16 : Callee2 l.prog w K mg base "over" (spOp C true rOver) := ⟨f16, _, PySem.W.mg_of X G a16, F16.kp, F16.binds (ps := ["one", "other"]) fun _ _ _ _ _ _ us hl => match us, hl with | [_, _], _ => rfl, kb_sw F16 (fun _ _ _ _ _ _ _ _ => rfl), ok_over F16 T FI C12 C10⟩
    have C17 : Callee2 l.prog w K mg base "compared" (spOp C false rCmp) := ⟨f17, _, PySem.W.mg_of X G a17, F17.kp, F17.binds (ps := ["one", "other"]) fun _ _ _ _ _ _ us hl => match us, hl with | [_, _], _ => rfl, kb_sw F17 (fun _ _ _ _ _ _ _ _ => rfl), ok_cmp F17 C12⟩
    have BB13 := F13.binds (ps := ["one", "other"]) fun _ _ _ _ _ _ us hl => match us, hl with | [_, _], _ => rfl
    have BB14 := F14.binds (ps := ["one", "other"]) fun _ _ _ _ _ _ us hl => match us, hl with | [_, _], _ => rfl
    have BB15 := F15.binds (ps := ["one", "other"]) fun _ _ _ _ _ _ us hl => match us, hl with | [_, _], _ => rfl
    have BB16 := F16.binds (ps := ["one", "other"]) fun _ _ _ _ _ _ us hl => match us, hl with | [_, _], _ => rfl
    have BB17 := F17.binds (ps := ["one", "other"]) fun _ _ _ _ _ _ us hl => match us, hl with | [_, _], _ => rfl
    have C19 : Callee l.prog w K mg base CX0 1 "_law_vat" ["_law_script"] (spVat K) := ⟨f19, _, PySem.W.mg_of X G a19, F19.kp, F19.binds (ps := ["_law_script"]) fun _ _ _ _ _ _ us hl => match us, hl with | [_], _ => rfl, ok_vat F19 B⟩
    have C20 : Callee l.prog w K mg base CX0 1 "_law_dip" ["_law_vat_here", "_law_many"] spDip := ⟨f20, _, PySem.W.mg_of X G a20, F20.kp, F20.binds (ps := ["_law_vat_here", "_law_many"]) fun _ _ _ _ _ _ us hl => match us, hl with | [_, _], _ => rfl, ok_dip F20 B⟩
    have C21 : Callee l.prog w K mg base CX0 2 "_law_pick" ["_law_vat_here", "_law_some"] spPick := ⟨f21, _, PySem.W.mg_of X G a21, F21.kp, F21.binds (ps := ["_law_vat_here", "_law_some"]) fun _ _ _ _ _ _ us hl => match us, hl with | [_, _], _ => rfl, ok_pick F21 B C20⟩
    have C22 : Callee l.prog w K mg base CX0 1 "_law_shared" ["_law_one", "_law_other"] spShared := ⟨f22, _, PySem.W.mg_of X G a22, F22.kp, F22.binds (ps := ["_law_one", "_law_other"]) fun _ _ _ _ _ _ us hl => match us, hl with | [_, _], _ => rfl, ok_shared F22 B⟩
    have C23 : Callee l.prog w K mg base CX0 3 "_law_ratio" ["_law_vat_here", "_law_most"] spRatio := ⟨f23, _, PySem.W.mg_of X G a23, F23.kp, F23.binds (ps := ["_law_vat_here", "_law_most"]) fun _ _ _ _ _ _ us hl => match us, hl with | [_, _], _ => rfl, ok_ratio F23 B C20 C21 C22⟩
    have C24 : Callee l.prog w K mg base CX0 2 "_law_is" ["_law_told", "_law_number", "_law_by"] spIs := ⟨f24, _, PySem.W.mg_of X G a24, F24.kp, F24.binds (ps := ["_law_told", "_law_number", "_law_by"]) fun _ _ _ _ _ _ us hl => match us, hl with | [_, _, _], _ => rfl, ok_is F24 B C22⟩
    have C25 : Callee l.prog w K mg base CX0 6 "_law_sums_right" ["_law_one", "_law_other"] spSums := ⟨f25, _, PySem.W.mg_of X G a25, F25.kp, F25.binds (ps := ["_law_one", "_law_other"]) fun _ _ _ _ _ _ us hl => match us, hl with | [_, _], _ => rfl, ok_sums F25 B C13 C14 C15 C16 C24⟩
    have C26 : Callee l.prog w K mg base CX0 6 "_law_wide_right" ["_law_vat_here"] spWide := ⟨f26, _, PySem.W.mg_of X G a26, F26.kp, F26.binds (ps := ["_law_vat_here"]) fun _ _ _ _ _ _ us hl => match us, hl with | [_], _ => rfl, ok_wide F26 B C13 C14 C15 C16 C24 C17 C23⟩
    have C27 : Callee l.prog w K mg base CX0 6 "_law_order_right" ["_law_one", "_law_other"] spOrder := ⟨f27, _, PySem.W.mg_of X G a27, F27.kp, F27.binds (ps := ["_law_one", "_law_other"]) fun _ _ _ _ _ _ us hl => match us, hl with | [_, _], _ => rfl, ok_order F27 B C17⟩
    have A5 : ∀ f ∈ [f13, f14, f15, f16, f17], ∃ fd, PySem.W.keepIn K (.ref f) = true ∧ Binds K fd ["one", "other"] [] ∧ FnOk l.prog w K mg base (L2.CX l.prog w) 5 f fd ["one", "other"] (spBad C) := fun f hf => by
      simp only [List.mem_cons, List.not_mem_nil, or_false] at hf
      rcases hf with rfl | rfl | rfl | rfl | rfl
      · exact ⟨_, F13.kp, BB13, (ok_plus F13 C12 C10).imp bad_op⟩
      · exact ⟨_, F14.kp, BB14, (ok_minus F14 C12 C10).imp bad_op⟩
      · exact ⟨_, F15.kp, BB15, (ok_times F15 C12 C10).imp bad_op⟩
      · exact ⟨_, F16.kp, BB16, (ok_over F16 T FI C12 C10).imp bad_op⟩
      · exact ⟨_, F17.kp, BB17, (ok_cmp F17 C12).imp bad_op⟩
    have C29 : Callee l.prog w K mg base CX0 8 "_law_refused_right" ["_law_vat_here", "_law_one"] (spRef Pt) := ⟨f29, _, PySem.W.mg_of X G a29, F29.kp, F29.binds (ps := ["_law_vat_here", "_law_one"]) fun _ _ _ _ _ _ us hl => match us, hl with | [_, _], _ => rfl, ok_ref l29 c129 (TB (c29, Pt) (List.mem_singleton.mpr rfl)) B T S F28 (PySem.W.mg_of X G a28) C21 (PySem.W.mg_of X G a13) (PySem.W.mg_of X G a14) (PySem.W.mg_of X G a15) (PySem.W.mg_of X G a16) (PySem.W.mg_of X G a17) A5 C16⟩
    exact ok_law F30 B C13 C15 C16 C19 C21 C23 C25 C27 C29 C26
end K4

open PySem PySem.W PyProof.Rows in
set_option maxRecDepth 100000 in
set_option maxHeartbeats 0 in
theorem PySem.Challenge.cw_farseen_k04_ratios_in_lowest_terms_holds : PySem.Challenge.rw_farseen_k04_ratios_in_lowest_terms.Holds := by
  w_on; o_law; k_head; (case hw => w_witness2)
  k_fill
  refine LamX.walk_ofTs (l := PySem.Challenge.rw_farseen_k04_ratios_in_lowest_terms) (n := 63) (k := 9) (x := "_law_script") (CX := fun _ => L2.CX0) rfl (by decide) rfl ⟨rfl, by decide, by decide⟩ (fun w h Y => PySem.W.km_in_of Y) ?F (fun _ _ _ _ _ z => z)
  case F =>
    intro w mg fa h Y KX G hmg
    refine' K4.all_mk (Pt := 236) KX G hmg (PySem.W.km_tabs_of Y 236 (List.mem_singleton.mpr rfl)) ?a6 ?l6 ?c6 ?k6 ?a7 ?l7 ?c7 ?k7 ?a8 ?l8 ?c8 ?k8 ?a9 ?l9 ?c9 ?k9 ?a10 ?l10 ?c10 ?k10 ?a12 ?l12 ?c12 ?k12 ?a13 ?l13 ?c13 ?k13 ?a14 ?l14 ?c14 ?k14 ?a15 ?l15 ?c15 ?k15 ?a16 ?l16 ?c16 ?k16 ?a17 ?l17 ?c17 ?k17 ?a19 ?l19 ?c19 ?k19 ?a20 ?l20 ?c20 ?k20 ?a21 ?l21 ?c21 ?k21 ?a22 ?l22 ?c22 ?k22 ?a23 ?l23 ?c23 ?k23 ?a24 ?l24 ?c24 ?k24 ?a25 ?l25 ?c25 ?k25 ?a26 ?l26 ?c26 ?k26 ?a27 ?l27 ?c27 ?k27 ?a28 ?l28 ?c28 ?k28 ?a29 ?l29 ?c129 ?k29 ?a30 ?l30 ?c30 ?k30 ?aC ?aS ?xC ?sa ?ga ?gg ?gc ?gs ?gt ?gm ?np ?iC ?tI ?lI ?cI ?kI ?kC ?eC ?tC ?hC ?eS ?tS ?hS ?sS ?gG ?hd ?nT ?z_isinstance ?z_int ?z_bool ?z_list ?z_tuple ?z_all ?z_len ?z_range ?z_abs
    (case a6 => k_is)
    (case l6 => k_is)
    (case c6 => k_is)
    (case k6 => k_is)
    (case a7 => k_is)
    (case l7 => k_is)
    (case c7 => k_is)
    (case k7 => k_is)
    (case a8 => k_is)
    (case l8 => k_is)
    (case c8 => k_is)
    (case k8 => k_is)
    (case a9 => k_is)
    (case l9 => k_is)
    (case c9 => k_is)
    (case k9 => k_is)
    (case a10 => k_is)
    (case l10 => k_is)
    (case c10 => k_is)
    (case k10 => k_is)
    (case a12 => k_is)
    (case l12 => k_is)
    (case c12 => k_is)
    (case k12 => k_is)
    (case a13 => k_is)
    (case l13 => k_is)
    (case c13 => k_is)
    (case k13 => k_is)
    (case a14 => k_is)
    (case l14 => k_is)
    (case c14 => k_is)
    (case k14 => k_is)
    (case a15 => k_is)
    (case l15 => k_is)
    (case c15 => k_is)
    (case k15 => k_is)
    (case a16 => k_is)
    (case l16 => k_is)
    (case c16 => k_is)
    (case k16 => k_is)
    (case a17 => k_is)
    (case l17 => k_is)
    (case c17 => k_is)
    (case k17 => k_is)
    (case a19 => k_is)
    (case l19 => k_is)
    (case c19 => k_is)
    (case k19 => k_is)
    (case a20 => k_is)
    (case l20 => k_is)
    (case c20 => k_is)
    (case k20 => k_is)
    (case a21 => k_is)
    (case l21 => k_is)
    (case c21 => k_is)
    (case k21 => k_is)
    (case a22 => k_is)
    (case l22 => k_is)
    (case c22 => k_is)
    (case k22 => k_is)
    (case a23 => k_is)
    (case l23 => k_is)
    (case c23 => k_is)
    (case k23 => k_is)
    (case a24 => k_is)
    (case l24 => k_is)
    (case c24 => k_is)
    (case k24 => k_is)
    (case a25 => k_is)
    (case l25 => k_is)
    (case c25 => k_is)
    (case k25 => k_is)
    (case a26 => k_is)
    (case l26 => k_is)
    (case c26 => k_is)
    (case k26 => k_is)
    (case a27 => k_is)
    (case l27 => k_is)
    (case c27 => k_is)
    (case k27 => k_is)
    (case a28 => k_is)
    (case l28 => k_is)
    (case c28 => k_is)
    (case k28 => k_is)
    (case a29 => k_is)
    (case l29 => k_is)
    (case c129 => k_is)
    (case k29 => k_is)
    (case a30 => k_is)
    (case l30 => k_is)
    (case c30 => k_is)
    (case k30 => k_is)
    (case aC => k_is)
    (case aS => k_is)
    (case xC => k_is)
    (case sa => k_is)
    (case ga => k_is)
    (case gg => k_is)
    (case gc => k_is)
    (case gs => k_is)
    (case gt => k_is)
    (case gm => k_is)
    (case np => k_is)
    (case iC => k_is)
    (case tI => k_is)
    (case lI => k_is)
    (case cI => k_is)
    (case kI => k_is)
    (case kC => k_is)
    (case eC => k_is)
    (case tC => k_is)
    (case hC => k_is)
    (case eS => k_is)
    (case tS => k_is)
    (case hS => k_is)
    (case sS => k_is)
    (case gG => k_is)
    (case hd => first | kernel_rfl | rfl)
    (case nT => first | kernel_rfl | rfl)
    (case z_isinstance => k_is)
    (case z_int => k_is)
    (case z_bool => k_is)
    (case z_list => k_is)
    (case z_tuple => k_is)
    (case z_all => k_is)
    (case z_len => k_is)
    (case z_range => k_is)
    (case z_abs => k_is)
