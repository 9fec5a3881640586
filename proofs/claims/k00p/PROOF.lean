import PyProof.Rows.All
import Wide.All
import OpenK.AllK
import Wide.FinOn
import HandS.ForMost
import HandS.IsInst
import HandS.Exc
import HandS.ExcInit
import HandS.ExcValue
import HandS.Defaults
import KE.KExcIs
import HandS.ExcIs
import HandS.ExcField
import HandS.DictComp
import PyProof.InstEq
import PyProof.NeKinds
import HandS.More
import HandS.Wide
import HandS.Style
import HandS.Conv
import HandS.Text
import HandS.WordsExc
import KE.KNestM
import HandS.HeadWalk
import PySem.Challenge.RW_farseen_k00_errors_keep_their_fields
set_option Elab.async false
set_option linter.all false
set_option maxRecDepth 100000
set_option maxHeartbeats 8000000
namespace K0
open PySem PySem.Spec PySem.HandSPX
section
open Sem (wp)
variable {M : Model} {A : Around} {E : Value → Shared → Prop} {h : Heap} {g : Array GenState} {d : Drawn} {t : Nat} {os : OsState}
variable {nm q : Str} {C N : Addr} {bs bm mB : List Value} {hd : Bool} {sn : List Str} {sub : List Value} {ab : Bool} {col : Option Bool} {dd : Option Addr} {k0 k1 k2 k3 k5 : Option Value} {B nid iid : String}
theorem newChk (F : ExcBaseFacts B nid iid mB) (same : ∀ Y : String, bm.contains (.type Y) = mB.contains (.type Y)) {xs : List Value} {kw : List (Str × Value)} {Q : Unit → Shared → Prop}
    (cl : h.get? C = some (excClassObj nm q C N bs bm hd sn sub ab col dd k0 k1 k2 k3 k5 nid)) (fin : Q () ⟨h, g, d, t, os⟩) : wpAny M A (checkBuiltinCall nid ⟨.ref C :: xs, kw⟩) Q E ⟨h, g, d, t, os⟩ := by
  have up : (Value.ref C :: bm).contains (.type B) = true := by rw [List.contains_cons, same, F.hasB, Bool.or_true]
  have st := F.noStar
  simp only [checkBuiltinCall, F.newKind, F.newSplit, F.newRow]
  repeat (first | refine wpAny_loadPart_at cl ?_ | (refine wpAny_isSubtype_exc cl ?_; rw [up]) | refine wpAny_staticBase_exc cl ?_ | refine wpAny_madeBy_exc cl ?_ | simp only [bne_self_eq_false, Bool.false_eq_true, if_false] | wp_step)
  exact fin
end
section
variable {prog : Program} {w : World} {A : Around} {E : Value → Shared → Prop} {R : Result → Shared → Prop} {h : Heap} {g : Array GenState} {d : Drawn} {t : Nat} {os : OsState}
variable {nm q : Str} {C N : Addr} {bs bm mB : List Value} {hd : Bool} {sn : List Str} {sub : List Value} {ab : Bool} {col : Option Bool} {dd : Option Addr} {k0 k1 k2 k3 k5 : Option Value} {B nid iid : String}
theorem newDo (F : ExcBaseFacts B nid iid mB) (same : ∀ Y : String, bm.contains (.type Y) = mB.contains (.type Y)) {xs : List Value} {kw : List (Str × Value)}
    (cl : h.get? C = some (excClassObj nm q C N bs bm hd sn sub ab col dd k0 k1 k2 k3 k5 nid))
    (fin : R (.ok (.ret (.ref (h.objs.size + 1)))) ⟨(h.push (W.kdv_tup xs)).push (excO C h.objs.size), g, d, t, os⟩) (few : xs.length ≤ sizeLine) :
    codeAny (model prog w) A (.builtin nid ⟨.ref C :: xs, kw⟩) R ⟨h, g, d, t, os⟩ := by
  have he := F.ends
  have u1 : (Value.ref C :: bm).contains (.type B) = true := by rw [List.contains_cons, same, F.hasB, Bool.or_true]
  have u2 : (Value.ref C :: bm).contains (.type "AttributeError") = false := by rw [List.contains_cons, same, F.noAttr]; rfl
  have u3 : (Value.ref C :: bm).contains (.type "NameError") = false := by rw [List.contains_cons, same, F.noName]; rfl
  refine codeAny_builtinAt F.entry ?_
  unfold Builtin.«BaseException.__new__»
  refine wpAt_bind ?_
  show wpAt _ _ _ (stack >>= _) _ _ _
  refine wpAt_bind (wpAt_stack fun p below => wpAt_of_wpAny ?_)
  wp_walk
  refine wpAt_of_wpAny ?_
  rw [F.owner]
  repeat (first | with_reducible refine wpAny_madeHere_exc F.canon cl ?_ | with_reducible refine wpAny_loadPart_at cl ?_ | (with_reducible refine wpAny_isSubtype_exc cl ?_; first | rw [u1] | rw [u2] | rw [u3]) | wp_step)
  show R _ _
  rw [Heap.size_push]
  exact fin
theorem typeCall (F : ExcBaseFacts B nid iid mB) (same : ∀ Y : String, bm.contains (.type Y) = mB.contains (.type Y)) {xs : List Value} {kw : List (Str × Value)} {fI : Addr} {Q : Fin → Shared → Prop}
    (cl : h.get? C = some (excClassObj nm q C N bs bm hd sn sub ab col dd k0 k1 k2 k3 k5 nid))
    (ini : W.Looks (model prog w) h (typeLookup (.ref C) "__init__") (some (.ref fI))) (bnd : ∀ self, W.Looks (model prog w) h (bindSpecial (.ref fI) self) (.ref fI, [self])) (few : xs.length ≤ sizeLine)
    (go : codeAny (model prog w) A (.call (.ref fI) ⟨.ref (h.objs.size + 1) :: xs, kw⟩)
      (fun r z => match r with | .ok (.ret v) => v = .none ∧ Q (.done (.ret (.ref (h.objs.size + 1)))) z | .ok _ => False | .error e => E e z)
      ⟨(h.push (W.kdv_tup xs)).push (excO C h.objs.size), g, d, t, os⟩) :
    wpAny (model prog w) A (Builtin.«type.__call__» ⟨.ref C :: xs, kw⟩) Q E ⟨h, g, d, t, os⟩ := by
  repeat (first | with_reducible refine wpAny_loadPart_at cl ?_ | with_reducible refine wpAny_madeBy_exc cl ?_ | wp_step)
  refine codeAny_call_builtin_code (Code.quiet_builtin _ F.quiet) (newChk F same cl ?_)
  refine newDo F same cl ?_ few
  show wpAny _ _ _ _ _ _
  have k : ∀ b o, h.get? b = some o → ((h.push (W.kdv_tup xs)).push (excO C h.objs.size)).get? b = some o := fun b o e => Heap.get?_push_of_some _ (Heap.get?_push_of_some _ e)
  have cl2 := k _ _ cl
  have made : ((h.push (W.kdv_tup xs)).push (excO C h.objs.size)).get? (h.objs.size + 1) = some (excO C h.objs.size) := by heap_get
  have own : (Value.ref C :: bm).contains (.ref C) = true := by simp
  have i1 := ini.keeps k
  have b1 := (bnd (.ref (h.objs.size + 1))).keeps k
  unfold isInstance
  repeat (first | with_reducible refine wpAny_loadPart_at made ?_ | (with_reducible refine wpAny_isSubtype_exc cl2 ?_; rw [own]) | wp_step)
  show wpAny _ _ (typeLookup (.ref C) _) _ _ _
  refine i1.at ?_
  refine wpAny_holding (wpAny_bind (b1.at ?_))
  refine wpAny_bind (wpAny_call (codeAny_mono go fun r z hz => ?_))
  rcases r with e | (v | _ | _ | _) <;> first | exact hz | exact hz.elim | skip
  obtain ⟨rfl, hz⟩ := hz
  first
    | exact wpAny_pure (wpAny_pure hz)
    | (wp_walk; exact hz)
end
end K0

namespace K0
open PySem PySem.Spec PyProof.Rows L2
/-! ### a class that is called, with keywords or without -/
section
variable {prog : Program} {w : World} {A : Around} {R : Result → Shared → Prop} {h : Heap} {g : Array GenState} {d : Drawn} {t : Nat} {os : OsState}
variable {nm q : Str} {C N : Addr} {bs bm mB : List Value} {hd : Bool} {sn : List Str} {sub : List Value} {ab : Bool} {col : Option Bool} {dd : Option Addr} {k0 k1 k2 k3 k5 : Option Value} {B nid iid : String}
theorem callOwn (F : ExcBaseFacts B nid iid mB) (same : ∀ Y : String, bm.contains (.type Y) = mB.contains (.type Y)) {xs : List Value} {kw : List (Str × Value)} {fI : Addr}
    (cl : h.get? C = some (excClassObj nm q C N bs bm hd sn sub ab col dd k0 k1 k2 k3 k5 nid))
    (ini : W.Looks (model prog w) h (typeLookup (.ref C) "__init__") (some (.ref fI))) (bnd : ∀ self, W.Looks (model prog w) h (bindSpecial (.ref fI) self) (.ref fI, [self])) (few : xs.length ≤ sizeLine)
    (go : codeAny (model prog w) (A.under (.builtin "type.__call__" ⟨.ref C :: xs, kw⟩)) (.call (.ref fI) ⟨.ref (h.objs.size + 1) :: xs, kw⟩) (W.InitBack (h.objs.size + 1) R)
      ⟨(h.push (W.kdv_tup xs)).push (PySem.HandSPX.excO C h.objs.size), g, d, t, os⟩) :
    codeAny (model prog w) A (.call (.ref C) ⟨xs, kw⟩) R ⟨h, g, d, t, os⟩ := by
  have l1 := tc_lookup
  have l2 := tc_bind (.ref C)
  have isT : (⟨h, g, d, t, os⟩ : Shared).TypeIs (.ref C) "type" := ⟨_, cl, rfl⟩
  refine codeAny_of_tree ?_
  show wpAny _ _ (callAny (.ref C) _) _ _ _
  repeat (any_goals (first | assumption | with_reducible refine wpAny_loadPart_at cl ?_ | wp_step))
  refine ⟨rfl, ?_⟩
  refine codeAny_call_builtin_at (Code.quiet_builtin _ (by decide +kernel)) entry_typeCall (wpAny_check_type_call_sub cl (typeCall F same cl ini bnd few ?_))
  refine codeAny_mono go fun r z hz => ?_
  rcases r with e | (v | _ | _ | _) <;> exact hz
end
/-! ### exception objects as values -/
/-- what the written part says of such a class -/
structure Ec (K : PySem.W.Frag) (C : Addr) : Prop where
  ox : OexC K C
  ex : ExcC K C
  xf : XfC K C
  eq : PySem.W.findIn K (.ref C) "__eq__" = some (some (.builtin "object.__eq__"))
  ne : PySem.W.findIn K (.ref C) "__ne__" = some (some (.builtin "object.__ne__"))
/-- at a: an exception of the class at C with these fields -/
def Er (H : Hp) (C : Addr) (fs : List (Str × V)) (a : Addr) : Prop :=
  (fs = [] ∧ H a = some (ExO (.ref C) a)) ∨ ∃ d, H a = some (exo a C (some d)) ∧ H d = some (exd d fs)
theorem Er.same {H H' : Hp} {C a : Addr} {fs : List (Str × V)} (e : Er H C fs a) (s : Same H H') : Er H' C fs a := by
  rcases e with ⟨e, h⟩ | ⟨d, h1, h2⟩
  · exact .inl ⟨e, s _ _ h⟩
  · exact .inr ⟨d, s _ _ h1, s _ _ h2⟩
theorem any_of {K : PySem.W.Frag} {C : Addr} (h : PySem.W.hasDictIn K C = true) : (PySem.W.clsIn K C).isSome = true := by
  unfold PySem.W.hasDictIn at h
  cases e : PySem.W.clsIn K C with
  | some c => rfl
  | none =>
    rw [e] at h
    cases h
section
variable {X : Cx} {pins : List (Addr × Obj)} {σ : L2.St} {H : Hp} {s : Shared} {a C : Addr} {fs : List (Str × V)}
theorem er_inst (I : Inv X pins σ H s) (k : Er H C fs a) :
    ∃ (ob : Obj) (od : Option Obj), PySem.W.InstAt s.heap a ob C od ∧ (∀ f v, fs.lookup f = some v → ∃ o u, od = some o ∧ PySem.W.lookIn f o = some (some u) ∧ RelV v u) := by
  rcases k with ⟨rfl, h⟩ | ⟨d, h1, h2⟩
  · have z : ObjOk X.prog X.w H s.heap a (.ext fun h => ∃ (oe : Obj) (vs : Array Value), h.get? a = some oe ∧ Zc (.ref C) none oe ∧ oe.data = .fields vs ∧ vs[1]? = some .none ∧ vs[2]? = some .none ∧ 4 < vs.size) := I.hok a _ h
    obtain ⟨⟨oe, vs, g, zc, dt, _⟩, _⟩ := z
    exact ⟨oe, none, ⟨g, zc.1, by unfold PySem.W.notCls; rw [dt] <;> rfl, by rw [zc.2]; trivial⟩, fun f v l => by cases l⟩
  · obtain ⟨t1, ho⟩ := exo_at I.hok h1
    obtain ⟨mA, ns, rel⟩ := exd_at I.hok h2
    obtain ⟨od, go, lo⟩ := lookIn_ns ns
    refine ⟨_, some od, ⟨ho, rfl, rfl, go⟩, fun f v l => ?_⟩
    obtain ⟨u, hu, ru⟩ := RelO.some_of (v := v) (o := mA f) (by rw [← l]; exact rel f)
    exact ⟨od, u, rfl, by rw [lo, hu], ru⟩
end
/-! ### isinstance -/
def rIsX (K : PySem.W.Frag) : List V → Hp → VK → Prop := fun xs H Q => ∃ (a C : Addr) (fs : List (Str × V)) (c : V) (u : Value) (b : Bool), xs = [.ref a, c] ∧ Er H C fs a ∧ Ec K C ∧ ClsV c u ∧ PySem.W.kitOne K (.ref C) u = some b ∧ Q (.bl b) H
def rIsXT (K : PySem.W.Frag) : List V → Hp → VK → Prop := fun xs H Q => ∃ (a C tp : Addr) (fs : List (Str × V)) (cs : List V) (us : List Value) (b : Bool), xs = [.ref a, .ref tp] ∧ Er H C fs a ∧ Ec K C ∧ H tp = some (.tup cs) ∧ Paired ClsV cs us ∧ PySem.W.kitAny K (.ref C) us = some b ∧ Q (.bl b) H
section
variable {X : Cx}
theorem call_isX : CallR X (.builtin "isinstance") (rIsX X.K) := by
  intro pins s σ H xs us Q I r h
  obtain ⟨a, C, fs, c, u, b, rfl, k, E, kc, e, q⟩ := h
  obtain ⟨u1, u2, rfl, r1, r2⟩ := vals2 r
  obtain rfl : u1 = Value.ref a := r1
  obtain rfl := kc.eq r2
  obtain ⟨ob, od, J, _⟩ := er_inst I k
  exact PySem.W.kia_one (PySem.W.kitx_exc (any_of E.ex.hd) E.ex.hg E.ex.hk E.ex.hs E.ex.ha E.ex.hn E.ex.ht E.ex.hm) I.kIn J e (fun z => nomatch z) fun tk => ⟨.bl b, H, I.tok tk, rfl, q⟩
theorem call_isXT : CallR X (.builtin "isinstance") (rIsXT X.K) := by
  intro pins s σ H xs us Q I r h
  obtain ⟨a, C, tp, fs, cs, ws, b, rfl, k, E, hT, kc, e, q⟩ := h
  obtain ⟨u1, u2, rfl, r1, r2⟩ := vals2 r
  obtain rfl : u1 = Value.ref a := r1
  cases (show u2 = Value.ref tp from r2)
  obtain ⟨ob, od, J, _⟩ := er_inst I k
  obtain ⟨_, its, rv, o, h1, h2, n, h3⟩ := (show ObjOk X.prog X.w H s.heap tp (.tup cs) from I.hok tp _ hT)
  have e3 := ClsV.all kc rv
  subst e3
  obtain ⟨oc, od', dt, sl⟩ := o
  simp only at h2 h3
  subst h2 h3
  exact PySem.W.kia_tup (PySem.W.kitx_exc (any_of E.ex.hd) E.ex.hg E.ex.hk E.ex.hs E.ex.ha E.ex.hn E.ex.ht E.ex.hm) I.kIn J h1 e (fun z => nomatch z) fun tk => ⟨.bl b, H, I.tok tk, rfl, q⟩
/-! ### e.f -/
def tEf (K : PySem.W.Frag) (f : Str) (te : TE) : TE := fun σ H Q => te σ H fun x H1 => ∃ (a C : Addr) (fs : List (Str × V)) (v : V), x = .ref a ∧ Er H1 C fs a ∧ Ec K C ∧ PySem.W.findIn K (.ref C) f = some none ∧ fs.lookup f = some v ∧ Q v H1
theorem pe_ef {e : Expr} {te : TE} {pos : Pos} {n : Str} (he : PE X e te) (hb : attributeBase e n X.env (eval e X.env) = eval e X.env := by rfl) : PE X (.Attribute e n pos) (tEf X.K n te) := by
  refine ⟨fun pins s σ H Q I h => attr_of hb (thn (he.run pins s σ H _ I h) fun u s1 hh => ?_)⟩
  obtain ⟨x, H1, I1, rx, a, C, fs, v, rfl, k, E, no, l, q⟩ := hh
  obtain rfl : u = Value.ref a := rx
  obtain ⟨ob, od, J, lo⟩ := er_inst I1 k
  obtain ⟨o, w, rfl, hw, rw'⟩ := lo _ _ l
  exact HandSPX.exc_get I1.kIn J E.xf.ga E.xf.gg E.xf.exC (PySem.W.findObj_own E.xf.hdC no rfl hw) (handed_of rw') ⟨v, H1, I1.tok _, rw', q⟩
end
/-! ### C(e, ..), C(k = e): a new exception object -/
def tMkE (C : Addr) (n m : Nat) (sp : Sp) (gV : List V → List V → List V) (t tk : TA) : TE := fun σ H Q => t σ H fun vs H1 => tk σ H1 fun zs H2 => vs.length = n ∧ zs.length = m ∧ n ≤ 100 ∧
  ∀ a, H2 a = none → sp (gV (.ref a :: vs) zs) (upd H2 a (exo a C none)) (fun v H3 => v = .non ∧ Q (.ref a) H3) (fun _ _ _ => False)
section
variable {X : Cx} {CX : CXT} {k n : Nat} {fI C : Addr} {fd : FuncData} {ps ks : List Str} {sp : Sp} {x : Str} {p pos : Pos} {e : Expr} {es : List Expr} {kws : List Keyword} {t tk : TA} {g : List Value → List Value → List Value} {gV : List V → List V → List V}
theorem run_mkE {pins : List (Addr × Obj)} {σ : L2.St} {H : Hp} {s : Shared} {Q : VK} {us ws : List Value} {vs zs : List V} (T : OexC X.K C) (iC : PySem.W.findIn X.K (.ref C) "__init__" = some (some (.ref fI))) (tI : PySem.W.typeIn X.K (.ref fI) = some (.type "function"))
    (F1 : FnOk X.prog X.w X.K X.mg X.base CX k fI fd ps sp) (hr : Room (k + 1) X.A) (hb : KBn X.K fd ps (n + 1) ks g gV) (hx : Passes CX X (fun _ _ _ => False)) (I : Inv X pins σ H s) (r : Vals vs us) (rz : Vals zs ws) (l1 : vs.length = n) (l2 : zs.length = ks.length) (few : n ≤ 100)
    (h : ∀ a, H a = none → sp (gV (.ref a :: vs) zs) (upd H a (exo a C none)) (fun v H3 => v = .non ∧ Q (.ref a) H3) (fun _ _ _ => False)) :
    wpAny (model X.prog X.w) X.A (call (.ref C) us (ks.zip ws)) (EP X pins σ Q) X.xe s := by
  obtain ⟨nm, q, N, bs, bm, sn, sub, ab, col, dd, k0, k1, k2, k3, k5, hC, hbm⟩ := T.cls
  obtain ⟨hp, gs, dr, tk0, os⟩ := s
  have hsz : hp.objs.size ≤ hp.objs.size + 1 := Nat.le_succ _
  have hq := h (hp.objs.size + 1) (I.hok.fresh hsz)
  have kk : ∀ b o, hp.get? b = some o → ((hp.push (PySem.W.kdv_tup us)).push (PySem.HandSPX.excO C hp.objs.size)).get? b = some o := fun b o e => Heap.get?_push_of_some _ (Heap.get?_push_of_some _ e)
  have hget : ((hp.push (PySem.W.kdv_tup us)).push (PySem.HandSPX.excO C hp.objs.size)).get? (hp.objs.size + 1) = some (PySem.HandSPX.excO C hp.objs.size) := by heap_get
  have I2 : Inv X pins σ (upd H (hp.objs.size + 1) (exo (hp.objs.size + 1) C none)) ⟨(hp.push (PySem.W.kdv_tup us)).push (PySem.HandSPX.excO C hp.objs.size), gs, dr, tk0, os⟩ :=
    I.laid (t' := tk0) (a := hp.objs.size + 1) (o := exo (hp.objs.size + 1) C none) (h' := (hp.push (PySem.W.kdv_tup us)).push (PySem.HandSPX.excO C hp.objs.size)) kk hsz (exo_ok hget)
  have r1 : Vals (V.ref (hp.objs.size + 1) :: vs) (Value.ref (hp.objs.size + 1) :: us) := .cons rfl r
  have r2 := hb.rel r1 rz
  have e1 : (Value.ref (hp.objs.size + 1) :: us).length = n + 1 := r1.length.symm.trans (congrArg Nat.succ l1)
  have e2 : ws.length = ks.length := rz.length.symm.trans l2
  have hus : us.length ≤ sizeLine := by
    rw [← Paired.length r, sizeLine_eq]
    omega
  refine wpAny_call (callOwn F.excBase_ValueError (fun Y => PySem.HandSPX.refsVE_contains Y bm hbm) (I.kIn _ _ hC) (PySem.W.looks_findIn I.kIn iC) (fun self => PySem.W.bind_fn I.kIn self tI) hus
    (codeAny_mono (F1.run _ X.stack _ _ ⟨Value.ref (hp.objs.size + 1) :: us, ks.zip ws⟩ (g (Value.ref (hp.objs.size + 1) :: us) ws) _ _ (fun _ _ _ => False) (hr.make C us (ks.zip ws)) (I2.env0.make C us (ks.zip ws)) (hb.to _ (Value.ref (hp.objs.size + 1) :: us) ws I2.kIn e1 e2) r2 hq) fun r s' hq' => ?_))
  cases r with
  | error er => exact hx pins σ _ _ er s' I2 hq'
  | ok fl =>
    cases fl with
    | ret u =>
      obtain ⟨v, H', I3, rv, ev, q3⟩ := I2.after hq'
      subst ev
      exact ⟨rv, ⟨V.ref (hp.objs.size + 1), H', I3, rfl, q3⟩⟩
    | next => exact False.elim hq'
    | brk => exact False.elim hq'
    | cont => exact False.elim hq'
theorem pe_mkE (T : OexC X.K C) (iC : PySem.W.findIn X.K (.ref C) "__init__" = some (some (.ref fI))) (tI : PySem.W.typeIn X.K (.ref fI) = some (.type "function"))
    (F1 : FnOk X.prog X.w X.K X.mg X.base CX k fI fd ps sp) (hr : Room (k + 1) X.A) (hb : KBn X.K fd ps (n + 1) [] g gV) (hx : Passes CX X (fun _ _ _ => False)) (hg : Gl X x) (hm : X.mg x = some (.ref C)) (ha : PA X (e :: es) t)
    (hdb : (x == ("__debug__" : Str)) = false := by decide) (he : starEach (e :: es) X.env = (false, eval e X.env) :: starEach es X.env := by rfl) (hpl : (backTo pos (starEach es X.env)).any (·.1) = false := by rfl) :
    PE X (.Call (.Name x p) (e :: es) [] pos) (tMkE C n 0 sp gV t tNil) := by
  refine ⟨fun pins s σ H Q I h => ?_⟩
  refine wpAny_Call_Name_kw (ld_glob I hg hm ?_ hdb)
  refine PySem.W.callWith_K (h₀ := X.base) I.ok.mod.kin T.kC (thn (ha.run pos pins s σ H _ I h) fun us s1 ⟨vs, H1, I1, r1, l1, l2, few, q1⟩ => ⟨I1.kIn, ?_⟩) he hpl
  exact run_mkE (ks := []) (ws := []) (zs := []) T iC tI F1 hr hb hx I1 r1 .nil l1 rfl few q1
theorem pe_mkK (T : OexC X.K C) (iC : PySem.W.findIn X.K (.ref C) "__init__" = some (some (.ref fI))) (tI : PySem.W.typeIn X.K (.ref fI) = some (.type "function"))
    (F1 : FnOk X.prog X.w X.K X.mg X.base CX k fI fd ps sp) (hr : Room (k + 1) X.A) (hb : KBn X.K fd ps (0 + 1) ks g gV) (hx : Passes CX X (fun _ _ _ => False)) (hg : Gl X x) (hm : X.mg x = some (.ref C)) (hkw : PK X kws tk)
    (hall : (backToKw pos (keywordEach kws X.env)).all (·.1.isSome) = true := by rfl) (hks : (backToKw pos (keywordEach kws X.env)).filterMap (·.1) = ks := by rfl)
    (hdb : (x == ("__debug__" : Str)) = false := by decide)
    (hpl : ((backTo pos (starEach [] X.env)).any (·.1) || (backToKw pos (keywordEach kws X.env)).any (·.1.isNone)) = false := by rfl) :
    PE X (.Call (.Name x p) [] kws pos) (tMkE C 0 ks.length sp gV tNil tk) := by
  refine ⟨fun pins s σ H Q I h => ?_⟩
  refine wpAny_Call_Name_kw (ld_glob I hg hm ?_ hdb)
  refine PySem.W.callWith_KW0 (h₀ := X.base) I.ok.mod.kin T.kC hall ?_ hpl
  refine thn (hkw.run pos pins s σ H _ I h) fun ws s2 ⟨zs, H2, I2, rz, l1, l2, few, q2⟩ => ⟨I2.kIn, ?_⟩
  rw [hks]
  exact run_mkE (us := []) (vs := []) T iC tI F1 hr hb hx I2 .nil rz rfl l2 few q2
end
end K0

namespace K0
open PySem PySem.Spec PyProof.Rows L2
/-! ### an exception object is not unlike itself -/
section
variable {prog : Program} {w : World} {A : Around} {E : Value → Shared → Prop} {h : Heap} {g : Array GenState} {d : Drawn} {t : Nat} {os : OsState} {K : PySem.W.Frag} {x C : Addr} {ob : Obj} {od : Option Obj}
theorem special_in {name : Str} {id : String} {args : List Value} {Q : Option Value → Shared → Prop} (Y : K.In h) (J : PySem.W.InstAt h x ob C od) (ha : PySem.W.findIn K (.ref C) name = some (some (.builtin id))) (S : Slot "object" name id)
    (go : wpAny (model prog w) A (call (.builtin id) (.ref x :: args)) (fun v => Q (some v)) E ⟨h, g, d, t, os⟩) : wpAny (model prog w) A (callSpecialIfBound? (.ref x) name args) Q E ⟨h, g, d, t, os⟩ := by
  simp only [callSpecialIfBound?, bindSpecialIfBound?]
  refine wpAny_holding (wpAny_bind (wpAny_bind ?_))
  unfold specialOf
  refine wpAny_bind (J.type.at ((PySem.W.looks_findIn Y ha).at ?_))
  simp only [S.bind]
  refine wpAny_bind (wpAny_askSetting (wpAny_ite ?_))
  have fin : wpAny (model prog w) A (call (.builtin id) ([.ref x] ++ args) >>= fun v => pure (some v)) Q E ⟨h, g, d, t, os⟩ :=
    wpAny_bind (wpAny_mono go (fun v z hz => wpAny_pure hz) fun _ _ hz => hz)
  split
  · exact wpAny_bind (wpAny_pure (wpAny_pure fin))
  · exact wpAny_tryCatch (wpAny_bind (wpAny_pure (wpAny_pure fin)))
theorem ne_self (Y : K.In h) (J : PySem.W.InstAt h x ob C od) (T : Ec K C) (hu : A.units + 1 < cLine) {Q : Value → Shared → Prop} (fin : Q (.bool false) ⟨h, g, d, t, os⟩) :
    wpAny (model prog w) A (richCompare .NotEq (.ref x) (.ref x)) Q E ⟨h, g, d, t, os⟩ := by
  have hu0 : A.units < cLine := Nat.lt_of_succ_lt hu
  have isO : PySem.W.Looks (model prog w) h (isInstance (.ref x) (.type "object")) true := J.type.andThen (PySem.W.looks_mroIn Y T.ex.hm)
  have eqDone : ∀ {A : Around} {Q : Option Value → Shared → Prop}, Q (some (.bool true)) ⟨h, g, d, t, os⟩ → wpAny (model prog w) A (callSpecialIfBound? (.ref x) "__eq__" [.ref x]) Q E ⟨h, g, d, t, os⟩ := fun {A Q} q =>
    special_in Y J T.eq F.cmp_object.eq (wpAny_call (codeAny_call_builtin F.cmp_object.eq.plain F.cmpEntry_eq (PySem.W.check_slot F.cmpKind_eq F.cmpSplit_eq isO (F.cmpArgs_eq _ _) (objEq_entry_same q))))
  have neDone : ∀ {A : Around} {Q : Fin → Shared → Prop}, A.units < cLine → Q (.done (.ret (.bool false))) ⟨h, g, d, t, os⟩ → wpAny (model prog w) A (Builtin.«object.__ne__» ⟨[.ref x, .ref x], []⟩) Q E ⟨h, g, d, t, os⟩ := fun {A Q} hv q => by
    unfold Builtin.«object.__ne__»
    repeat (first | with_reducible refine wpAny_cRoomFor hv ?_ | with_reducible refine eqDone ?_ | wp_step)
    exact q
  have tryDone : ∀ {Q : Option Value → Shared → Prop}, Q (some (.bool false)) ⟨h, g, d, t, os⟩ → wpAny (model prog w) A (tryCompare (.ref x) "__ne__" (.ref x)) Q E ⟨h, g, d, t, os⟩ := fun {Q} q => by
    simp only [tryCompare]
    refine wpAny_bind (special_in Y J T.ne F.cmp_object.ne (wpAny_call (codeAny_call_builtin F.cmp_object.ne.plain F.cmpEntry_ne (PySem.W.check_slot F.cmpKind_ne F.cmpSplit_ne isO (F.cmpArgs_ne _ _) (neDone (A := A.in1) hu ?_)))))
    exact wpAny_pure q
  simp only [richCompare, cmpInfo_NotEq, oneThing_ref]
  refine wpAny_holding (wpAny_bind (wpAny_cRoomFor hu0 ?_))
  refine wpAny_bind (J.type.at (wpAny_bind (J.type.at ?_)))
  rw [show (Value.ref C != Value.ref C) = false from by simp]
  simp only [Bool.false_eq_true, if_false]
  refine wpAny_bind (wpAny_pure ?_)
  simp only [Bool.false_eq_true, if_false]
  refine wpAny_bind (tryDone ?_)
  first | exact wpAny_pure fin | exact wpAny_pure (wpAny_pure fin)
end
end K0

namespace K0
open PySem PySem.Spec PyProof.Rows L2
/-! ### values that are not unlike themselves -/
inductive Sv (K : PySem.W.Frag) (H : Hp) : V → Prop
  | non : Sv K H .non
  | bl (b : Bool) : Sv K H (.bl b)
  | int (i : Int) : Sv K H (.int i)
  | str (z : Str) : Sv K H (.str z)
  | lst {a : Addr} {xs : List V} (e : H a = some (.lst xs)) : Sv K H (.ref a)
  | tup {a : Addr} {xs : List V} (e : H a = some (.tup xs)) : Sv K H (.ref a)
  | dK {a : Addr} {k : Key} {v : V} (e : H a = some (.dK [(k, v)])) : Sv K H (.ref a)
  | er {a C : Addr} {fs : List (Str × V)} (e : Er H C fs a) (T : Ec K C) : Sv K H (.ref a)
theorem Sv.same {K : PySem.W.Frag} {H H' : Hp} {v : V} (k : Sv K H v) (s : Same H H') : Sv K H' v := by
  cases k with
  | non => exact .non
  | bl b => exact .bl b
  | int i => exact .int i
  | str z => exact .str z
  | lst e => exact .lst (s _ _ e)
  | tup e => exact .tup (s _ _ e)
  | dK e => exact .dK (s _ _ e)
  | er e T => exact .er (e.same s) T
theorem Sv.flat {K : PySem.W.Frag} {H : Hp} {v : V} (k : Sv K H v) : flatB v = true ∨ ∃ a, v = .ref a := by
  cases k with
  | non => exact .inl rfl
  | bl b => exact .inl rfl
  | int i => exact .inl rfl
  | str z => exact .inl rfl
  | lst e => exact .inr ⟨_, rfl⟩
  | tup e => exact .inr ⟨_, rfl⟩
  | dK e => exact .inr ⟨_, rfl⟩
  | er e T => exact .inr ⟨_, rfl⟩
theorem all_true (n : Nat) : ((List.range n).all fun _ => true) = true := List.all_eq_true.mpr fun _ _ => rfl
def rNeS (K : PySem.W.Frag) : R2 := fun x y H Q => x = y ∧ Sv K H x ∧ Q (.bl false) H
/-- two lists of as many tuples, the same things in them -/
def rNeT (K : PySem.W.Frag) : R2 := fun x y H Q => ∃ (a b : Addr) (xs ys : List V), x = .ref a ∧ y = .ref b ∧ SqL K H a xs ∧ SqL K H b ys ∧ xs.length = ys.length ∧
  (∀ (i : Nat) (x y : V), xs[i]? = some x → ys[i]? = some y → ∃ (p q : Addr) (zs : List V), x = .ref p ∧ y = .ref q ∧ SqT K H p zs ∧ SqT K H q zs ∧ ∀ z ∈ zs, Sv K H z) ∧ Q (.bl false) H
section
variable {X : Cx}
theorem op_neS (hu : X.A.units + 64 < cLine) : OpR X (compareOp .NotEq) (rNeS X.K) := by
  intro pins s σ H x y v u Q I rx ry h
  obtain ⟨rfl, k, q⟩ := h
  cases k with
  | non => exact op_ne pins s σ H _ _ v u Q I rx ry ⟨rfl, q⟩
  | bl b => exact op_ne pins s σ H _ _ v u Q I rx ry ⟨rfl, by rw [decide_eq_true rfl]; exact q⟩
  | int i => exact op_ne pins s σ H _ _ v u Q I rx ry ⟨rfl, by rw [decide_eq_true rfl]; exact q⟩
  | str z => exact op_ne pins s σ H _ _ v u Q I rx ry ⟨rfl, by rw [decide_eq_true rfl]; exact q⟩
  | @lst a xs e =>
    obtain rfl : v = Value.ref a := rx
    obtain rfl : u = Value.ref a := ry
    obtain ⟨its, r, p, _⟩ := I.list (SqL.of e)
    refine SeqAt.RcNeAt.lists (e := fun _ => true) p.isList p.isList rfl (by omega) (fun j h1 h2 => SeqAt.EqAt.same _) X.prog X.w _ _ ?_
    rw [all_true]
    exact ⟨.bl false, H, I, rfl, q⟩
  | @tup a xs e =>
    obtain rfl : v = Value.ref a := rx
    obtain rfl : u = Value.ref a := ry
    obtain ⟨its, r, p, _⟩ := I.tuple (SqT.of e)
    refine SeqAt.RcNeAt.tuples (e := fun _ => true) p p (by omega) (fun j h1 h2 => SeqAt.EqAt.same _) X.prog X.w _ _ ?_
    rw [all_true, Bool.true_and, beq_self_eq_true]
    exact ⟨.bl false, H, I, rfl, q⟩
  | @dK a key val e =>
    obtain rfl : v = Value.ref a := rx
    obtain rfl : u = Value.ref a := ry
    obtain ⟨_, ya, va, ra, da⟩ := (show ObjOk X.prog X.w H s.heap a (.dK [(key, val)]) from I.hok a _ e)
    obtain ⟨k2, u2, rfl⟩ : ∃ k2 u2, va = [(k2, u2)] := by
      match va, ra with
      | [(k2, u2)], _ => exact ⟨k2, u2, rfl⟩
      | [], ra => cases ra
      | _ :: _ :: _, ra =>
        cases ra with
        | cons _ z => cases z
    refine PySem.W.keq_ne (knd := mixKind X.prog X.w) (r := true && true) ya ya da da (by omega) (fun _ => .hit (y := u2) ?_ (SeqAt.EqAt.same _) .nil) (fin_bl I q (by rfl))
    have rr : RelO (some val) (valueAt [(k2, u2)] key) := by
      have z := ra.val key
      have e2 : valV [(key, val)] key = some val := by simp [valV]
      rw [e2] at z
      exact z
    cases ra with
    | cons z _ =>
      have z1 : key = k2 := z.1
      rw [← z1]
      simp [valueAt]
  | @er a C fs e T =>
    obtain rfl : v = Value.ref a := rx
    obtain rfl : u = Value.ref a := ry
    obtain ⟨ob, od, J, _⟩ := er_inst I e
    obtain ⟨hp, g, d, t, os⟩ := s
    exact ne_self I.kIn J T (by omega) ⟨.bl false, H, I, rfl, q⟩
theorem op_neT (hu : X.A.units + 64 < cLine) : OpR X (compareOp .NotEq) (rNeT X.K) := by
  intro pins s σ H x y v u Q I rx ry h
  obtain ⟨a, b, xs, ys, rfl, rfl, ha, hb, hl, hi, q⟩ := h
  obtain rfl : v = Value.ref a := rx
  obtain rfl : u = Value.ref b := ry
  obtain ⟨us, r1, p1, _⟩ := I.list ha
  obtain ⟨ws, r2, p2, _⟩ := I.list hb
  have hsz : us.toArray.size = ws.toArray.size := by
    rw [List.size_toArray, List.size_toArray, ← r1.length, ← r2.length]
    exact hl
  refine SeqAt.RcNeAt.lists (e := fun _ => true) p1.isList p2.isList hsz (by omega) (fun j h1 h2 => ?_) X.prog X.w _ _ ?_
  · have j1 : j < xs.length := by rw [r1.length]; simpa using h1
    have j2 : j < ys.length := by rw [← hl]; exact j1
    have j3 : j < us.length := by simpa using h1
    have j4 : j < ws.length := by simpa using h2
    obtain ⟨p, t, zs, e1, e2, t1, t2, kz⟩ := hi j _ _ (List.getElem?_eq_getElem j1) (List.getElem?_eq_getElem j2)
    have g1 := r1.get (i := j) (x := xs[j]) (List.getElem?_eq_getElem j1)
    have g2 := r2.get (i := j) (x := ys[j]) (List.getElem?_eq_getElem j2)
    obtain ⟨u1, hu1, ru1⟩ := g1
    obtain ⟨u2, hu2, ru2⟩ := g2
    rw [List.getElem?_eq_getElem j3] at hu1
    rw [List.getElem?_eq_getElem j4] at hu2
    rw [e1] at ru1
    rw [e2] at ru2
    obtain rfl : u1 = Value.ref p := ru1
    obtain rfl : u2 = Value.ref t := ru2
    have d1 : us.toArray[j] = Value.ref p := by simpa using Option.some.inj hu1
    have d2 : ws.toArray[j] = Value.ref t := by simpa using Option.some.inj hu2
    rw [d1, d2]
    by_cases ept : p = t
    · subst ept
      exact SeqAt.EqAt.same _
    · obtain ⟨is, q1, s1, _⟩ := I.tuple t1
      obtain ⟨js, q2, s2, _⟩ := I.tuple t2
      have k := SeqAt.RcAt.tuples (A := X.A.in1) (e := fun _ => true) s1 s2 (by show X.A.units + 1 < cLine; omega) (fun i h1 h2 => ?_)
      · have el : is.toArray.size = js.toArray.size := by
          rw [List.size_toArray, List.size_toArray, ← q1.length, ← q2.length]
        rw [all_true, el, beq_self_eq_true, Bool.and_self] at k
        exact SeqAt.EqAt.of_refs ept k
      · have i1 : i < zs.length := by rw [q1.length]; simpa using h1
        have i3 : i < is.length := by simpa using h1
        have i4 : i < js.length := by simpa using h2
        obtain ⟨v1, hv1, rv1⟩ := q1.get (i := i) (x := zs[i]) (List.getElem?_eq_getElem i1)
        obtain ⟨v2, hv2, rv2⟩ := q2.get (i := i) (x := zs[i]) (List.getElem?_eq_getElem i1)
        rw [List.getElem?_eq_getElem i3] at hv1
        rw [List.getElem?_eq_getElem i4] at hv2
        have d3 : is.toArray[i] = v1 := by simpa using Option.some.inj hv1
        have d4 : js.toArray[i] = v2 := by simpa using Option.some.inj hv2
        rw [d3, d4]
        rcases (kz _ (List.getElem_mem i1)).flat with f | ⟨a', f⟩
        · exact eqAt_same rv1 rv2 f
        · rw [f] at rv1 rv2
          obtain rfl : v1 = Value.ref a' := rv1
          obtain rfl : v2 = Value.ref a' := rv2
          exact SeqAt.EqAt.same _
  · rw [all_true]
    exact ⟨.bl false, H, I, rfl, q⟩
end
end K0

namespace K0
open PySem PySem.Spec PyProof.Rows L2
def top (i : Nat) : Stmt := PySem.Challenge.pw_farseen_k00_errors_keep_their_fields.main.body.getD i (.Pass ⟨0, 0, 0, 0⟩)
def inClass (s : Stmt) (i : Nat) : Stmt := match s with
  | .ClassDef _ _ _ b _ _ _ _ _ _ _ => b.getD i (.Pass ⟨0, 0, 0, 0⟩)
  | _ => .Pass ⟨0, 0, 0, 0⟩
theorem same_new {H : Hp} {p : Addr} {o : HO} (h : H p = none) : Same H (upd H p o) := fun b u e => by
  rw [upd_ne (ne_of_none e h)]
  exact e
/-! ### what __init__ does -/
/-- the exception at a has these fields, its own dict is new -/
def ErN (H H' : Hp) (C : Addr) (fs : List (Str × V)) (a : Addr) : Prop := ∃ d, H d = none ∧ d ≠ a ∧ H' a = some (exo a C (some d)) ∧ H' d = some (exd d fs)
theorem ErN.er {H H' : Hp} {C a : Addr} {fs : List (Str × V)} (e : ErN H H' C fs a) : Er H' C fs a := let ⟨d, _, _, h1, h2⟩ := e; .inr ⟨d, h1, h2⟩
def spIn1 (K : PySem.W.Frag) (f : Str) : Sp := fun vs H Q _ => ∃ (a C : Addr) (v : V), vs = [.ref a, v] ∧ OexC K C ∧ PySem.W.findIn K (.ref C) f = some none ∧ H a = some (exo a C none) ∧
  ∀ H', (∀ b o, b ≠ a → H b = some o → H' b = some o) → ErN H H' C [(f, v)] a → Q .non H'
def spIn2 (K : PySem.W.Frag) (f g : Str) : Sp := fun vs H Q _ => ∃ (a C : Addr) (v u : V), vs = [.ref a, v, u] ∧ OexC K C ∧ PySem.W.findIn K (.ref C) f = some none ∧ PySem.W.findIn K (.ref C) g = some none ∧ H a = some (exo a C none) ∧
  ∀ H', (∀ b o, b ≠ a → H b = some o → H' b = some o) → ErN H H' C [(g, u), (f, v)] a → Q .non H'
section
variable {P : Program} {w : World} {K : PySem.W.Frag} {mg : Str → Option Value} {base : Heap}
theorem one_field {H : Hp} {a C : Addr} {f : Str} {v : V} {Q : VK} (q : ∀ H', (∀ b o, b ≠ a → H b = some o → H' b = some o) → ErN H H' C [(f, v)] a → Q .non H') :
    ∀ dx, H dx = none → dx ≠ a → Q .non (upd (upd H dx (exd dx [(f, v)])) a (exo a C (some dx))) := fun dx n ne => by
  refine q _ (fun b o nb e => ?_) ⟨dx, n, ne, upd_same, ?_⟩
  · rw [upd_ne nb, upd_ne (ne_of_none e n)]
    exact e
  · rw [upd_ne ne]
    exact upd_same
theorem two_fields {H : Hp} {a C : Addr} {f g : Str} {v u : V} {Q : VK} (q : ∀ H', (∀ b o, b ≠ a → H b = some o → H' b = some o) → ErN H H' C [(g, u), (f, v)] a → Q .non H') :
    ∀ dx, H dx = none → dx ≠ a → Q .non (upd (upd (upd H dx (exd dx [(f, v)])) a (exo a C (some dx))) dx (exd dx [(g, u), (f, v)])) := fun dx n ne => by
  refine q _ (fun b o nb e => ?_) ⟨dx, n, ne, ?_, upd_same⟩
  · rw [upd_ne (ne_of_none e n), upd_ne nb, upd_ne (ne_of_none e n)]
    exact e
  · rw [upd_ne ne.symm]
    exact upd_same
abbrev sI2 : Stmt := inClass (top 2) 0
theorem scI2 : FnScope ["self", "part"] ["self", "part"] (defScope sI2) := ⟨rfl, rfl, rfl, by decide +kernel, rfl, by decide +kernel, by decide +kernel⟩
theorem ok_I2 {f : Addr} {fd : FuncData} (F : Fun K "__init__" "BadNumber.__init__" sI2 f fd) : FnOk P w K mg base CX0 1 f fd ["self", "part"] (spIn1 K "part") := by
  refine F.ok scI2 (fun vs H Q E h => ?_) (fun cdv A outer s H vs Q E hr h => ?_)
  · obtain ⟨a, C, v, rfl, _⟩ := h
    rfl
  · obtain ⟨a, C, v, rfl, T, no, ha, q⟩ := h
    exact ⟨_, pss_one (ps_ost (pv 0) (pv 1)), _, rfl, _, rfl, a, C, rfl, T, no, .inl ⟨ha, one_field q⟩⟩
abbrev sI3 : Stmt := inClass (top 3) 0
theorem scI3 : FnScope ["self", "part"] ["self", "part"] (defScope sI3) := ⟨rfl, rfl, rfl, by decide +kernel, rfl, by decide +kernel, by decide +kernel⟩
theorem ok_I3 {f : Addr} {fd : FuncData} (F : Fun K "__init__" "BadRatio.__init__" sI3 f fd) : FnOk P w K mg base CX0 1 f fd ["self", "part"] (spIn1 K "part") := by
  refine F.ok scI3 (fun vs H Q E h => ?_) (fun cdv A outer s H vs Q E hr h => ?_)
  · obtain ⟨a, C, v, rfl, _⟩ := h
    rfl
  · obtain ⟨a, C, v, rfl, T, no, ha, q⟩ := h
    exact ⟨_, pss_one (ps_ost (pv 0) (pv 1)), _, rfl, _, rfl, a, C, rfl, T, no, .inl ⟨ha, one_field q⟩⟩
abbrev sI4 : Stmt := inClass (top 4) 0
theorem scI4 : FnScope ["self", "part"] ["self", "part"] (defScope sI4) := ⟨rfl, rfl, rfl, by decide +kernel, rfl, by decide +kernel, by decide +kernel⟩
theorem ok_I4 {f : Addr} {fd : FuncData} (F : Fun K "__init__" "BadTable.__init__" sI4 f fd) : FnOk P w K mg base CX0 1 f fd ["self", "part"] (spIn1 K "part") := by
  refine F.ok scI4 (fun vs H Q E h => ?_) (fun cdv A outer s H vs Q E hr h => ?_)
  · obtain ⟨a, C, v, rfl, _⟩ := h
    rfl
  · obtain ⟨a, C, v, rfl, T, no, ha, q⟩ := h
    exact ⟨_, pss_one (ps_ost (pv 0) (pv 1)), _, rfl, _, rfl, a, C, rfl, T, no, .inl ⟨ha, one_field q⟩⟩
abbrev sI5 : Stmt := inClass (top 5) 0
theorem scI5 : FnScope ["self", "part"] ["self", "part"] (defScope sI5) := ⟨rfl, rfl, rfl, by decide +kernel, rfl, by decide +kernel, by decide +kernel⟩
theorem ok_I5 {f : Addr} {fd : FuncData} (F : Fun K "__init__" "BadChart.__init__" sI5 f fd) : FnOk P w K mg base CX0 1 f fd ["self", "part"] (spIn1 K "part") := by
  refine F.ok scI5 (fun vs H Q E h => ?_) (fun cdv A outer s H vs Q E hr h => ?_)
  · obtain ⟨a, C, v, rfl, _⟩ := h
    rfl
  · obtain ⟨a, C, v, rfl, T, no, ha, q⟩ := h
    exact ⟨_, pss_one (ps_ost (pv 0) (pv 1)), _, rfl, _, rfl, a, C, rfl, T, no, .inl ⟨ha, one_field q⟩⟩
abbrev sI6 : Stmt := inClass (top 6) 0
theorem scI6 : FnScope ["self", "part"] ["self", "part"] (defScope sI6) := ⟨rfl, rfl, rfl, by decide +kernel, rfl, by decide +kernel, by decide +kernel⟩
theorem ok_I6 {f : Addr} {fd : FuncData} (F : Fun K "__init__" "BadBody.__init__" sI6 f fd) : FnOk P w K mg base CX0 1 f fd ["self", "part"] (spIn1 K "part") := by
  refine F.ok scI6 (fun vs H Q E h => ?_) (fun cdv A outer s H vs Q E hr h => ?_)
  · obtain ⟨a, C, v, rfl, _⟩ := h
    rfl
  · obtain ⟨a, C, v, rfl, T, no, ha, q⟩ := h
    exact ⟨_, pss_one (ps_ost (pv 0) (pv 1)), _, rfl, _, rfl, a, C, rfl, T, no, .inl ⟨ha, one_field q⟩⟩
abbrev sI7 : Stmt := inClass (top 7) 0
theorem scI7 : FnScope ["self", "part"] ["self", "part"] (defScope sI7) := ⟨rfl, rfl, rfl, by decide +kernel, rfl, by decide +kernel, by decide +kernel⟩
theorem ok_I7 {f : Addr} {fd : FuncData} (F : Fun K "__init__" "BadPicture.__init__" sI7 f fd) : FnOk P w K mg base CX0 1 f fd ["self", "part"] (spIn1 K "part") := by
  refine F.ok scI7 (fun vs H Q E h => ?_) (fun cdv A outer s H vs Q E hr h => ?_)
  · obtain ⟨a, C, v, rfl, _⟩ := h
    rfl
  · obtain ⟨a, C, v, rfl, T, no, ha, q⟩ := h
    exact ⟨_, pss_one (ps_ost (pv 0) (pv 1)), _, rfl, _, rfl, a, C, rfl, T, no, .inl ⟨ha, one_field q⟩⟩
abbrev sI8 : Stmt := inClass (top 8) 0
theorem scI8 : FnScope ["self", "part"] ["self", "part"] (defScope sI8) := ⟨rfl, rfl, rfl, by decide +kernel, rfl, by decide +kernel, by decide +kernel⟩
theorem ok_I8 {f : Addr} {fd : FuncData} (F : Fun K "__init__" "BadAlbum.__init__" sI8 f fd) : FnOk P w K mg base CX0 1 f fd ["self", "part"] (spIn1 K "part") := by
  refine F.ok scI8 (fun vs H Q E h => ?_) (fun cdv A outer s H vs Q E hr h => ?_)
  · obtain ⟨a, C, v, rfl, _⟩ := h
    rfl
  · obtain ⟨a, C, v, rfl, T, no, ha, q⟩ := h
    exact ⟨_, pss_one (ps_ost (pv 0) (pv 1)), _, rfl, _, rfl, a, C, rfl, T, no, .inl ⟨ha, one_field q⟩⟩
abbrev sI9 : Stmt := inClass (top 9) 0
theorem scI9 : FnScope ["self", "part"] ["self", "part"] (defScope sI9) := ⟨rfl, rfl, rfl, by decide +kernel, rfl, by decide +kernel, by decide +kernel⟩
theorem ok_I9 {f : Addr} {fd : FuncData} (F : Fun K "__init__" "BadTray.__init__" sI9 f fd) : FnOk P w K mg base CX0 1 f fd ["self", "part"] (spIn1 K "part") := by
  refine F.ok scI9 (fun vs H Q E h => ?_) (fun cdv A outer s H vs Q E hr h => ?_)
  · obtain ⟨a, C, v, rfl, _⟩ := h
    rfl
  · obtain ⟨a, C, v, rfl, T, no, ha, q⟩ := h
    exact ⟨_, pss_one (ps_ost (pv 0) (pv 1)), _, rfl, _, rfl, a, C, rfl, T, no, .inl ⟨ha, one_field q⟩⟩
abbrev sI10 : Stmt := inClass (top 10) 0
theorem scI10 : FnScope ["self", "part"] ["self", "part"] (defScope sI10) := ⟨rfl, rfl, rfl, by decide +kernel, rfl, by decide +kernel, by decide +kernel⟩
theorem ok_I10 {f : Addr} {fd : FuncData} (F : Fun K "__init__" "BadSaying.__init__" sI10 f fd) : FnOk P w K mg base CX0 1 f fd ["self", "part"] (spIn1 K "part") := by
  refine F.ok scI10 (fun vs H Q E h => ?_) (fun cdv A outer s H vs Q E hr h => ?_)
  · obtain ⟨a, C, v, rfl, _⟩ := h
    rfl
  · obtain ⟨a, C, v, rfl, T, no, ha, q⟩ := h
    exact ⟨_, pss_one (ps_ost (pv 0) (pv 1)), _, rfl, _, rfl, a, C, rfl, T, no, .inl ⟨ha, one_field q⟩⟩
abbrev sI11 : Stmt := inClass (top 11) 0
theorem scI11 : FnScope ["self", "part"] ["self", "part"] (defScope sI11) := ⟨rfl, rfl, rfl, by decide +kernel, rfl, by decide +kernel, by decide +kernel⟩
theorem ok_I11 {f : Addr} {fd : FuncData} (F : Fun K "__init__" "BadFact.__init__" sI11 f fd) : FnOk P w K mg base CX0 1 f fd ["self", "part"] (spIn1 K "part") := by
  refine F.ok scI11 (fun vs H Q E h => ?_) (fun cdv A outer s H vs Q E hr h => ?_)
  · obtain ⟨a, C, v, rfl, _⟩ := h
    rfl
  · obtain ⟨a, C, v, rfl, T, no, ha, q⟩ := h
    exact ⟨_, pss_one (ps_ost (pv 0) (pv 1)), _, rfl, _, rfl, a, C, rfl, T, no, .inl ⟨ha, one_field q⟩⟩
abbrev sI12 : Stmt := inClass (top 12) 0
theorem scI12 : FnScope ["self", "part"] ["self", "part"] (defScope sI12) := ⟨rfl, rfl, rfl, by decide +kernel, rfl, by decide +kernel, by decide +kernel⟩
theorem ok_I12 {f : Addr} {fd : FuncData} (F : Fun K "__init__" "BadPaper.__init__" sI12 f fd) : FnOk P w K mg base CX0 1 f fd ["self", "part"] (spIn1 K "part") := by
  refine F.ok scI12 (fun vs H Q E h => ?_) (fun cdv A outer s H vs Q E hr h => ?_)
  · obtain ⟨a, C, v, rfl, _⟩ := h
    rfl
  · obtain ⟨a, C, v, rfl, T, no, ha, q⟩ := h
    exact ⟨_, pss_one (ps_ost (pv 0) (pv 1)), _, rfl, _, rfl, a, C, rfl, T, no, .inl ⟨ha, one_field q⟩⟩
abbrev sI13 : Stmt := inClass (top 13) 0
theorem scI13 : FnScope ["self", "part"] ["self", "part"] (defScope sI13) := ⟨rfl, rfl, rfl, by decide +kernel, rfl, by decide +kernel, by decide +kernel⟩
theorem ok_I13 {f : Addr} {fd : FuncData} (F : Fun K "__init__" "BadDesk.__init__" sI13 f fd) : FnOk P w K mg base CX0 1 f fd ["self", "part"] (spIn1 K "part") := by
  refine F.ok scI13 (fun vs H Q E h => ?_) (fun cdv A outer s H vs Q E hr h => ?_)
  · obtain ⟨a, C, v, rfl, _⟩ := h
    rfl
  · obtain ⟨a, C, v, rfl, T, no, ha, q⟩ := h
    exact ⟨_, pss_one (ps_ost (pv 0) (pv 1)), _, rfl, _, rfl, a, C, rfl, T, no, .inl ⟨ha, one_field q⟩⟩
abbrev sI14 : Stmt := inClass (top 14) 0
theorem scI14 : FnScope ["self", "part"] ["self", "part"] (defScope sI14) := ⟨rfl, rfl, rfl, by decide +kernel, rfl, by decide +kernel, by decide +kernel⟩
theorem ok_I14 {f : Addr} {fd : FuncData} (F : Fun K "__init__" "Misfit.__init__" sI14 f fd) : FnOk P w K mg base CX0 1 f fd ["self", "part"] (spIn1 K "part") := by
  refine F.ok scI14 (fun vs H Q E h => ?_) (fun cdv A outer s H vs Q E hr h => ?_)
  · obtain ⟨a, C, v, rfl, _⟩ := h
    rfl
  · obtain ⟨a, C, v, rfl, T, no, ha, q⟩ := h
    exact ⟨_, pss_one (ps_ost (pv 0) (pv 1)), _, rfl, _, rfl, a, C, rfl, T, no, .inl ⟨ha, one_field q⟩⟩
abbrev sI15 : Stmt := inClass (top 15) 0
theorem scI15 : FnScope ["self", "value"] ["self", "value"] (defScope sI15) := ⟨rfl, rfl, rfl, by decide +kernel, rfl, by decide +kernel, by decide +kernel⟩
theorem ok_I15 {f : Addr} {fd : FuncData} (F : Fun K "__init__" "Missing.__init__" sI15 f fd) : FnOk P w K mg base CX0 1 f fd ["self", "value"] (spIn1 K "value") := by
  refine F.ok scI15 (fun vs H Q E h => ?_) (fun cdv A outer s H vs Q E hr h => ?_)
  · obtain ⟨a, C, v, rfl, _⟩ := h
    rfl
  · obtain ⟨a, C, v, rfl, T, no, ha, q⟩ := h
    exact ⟨_, pss_one (ps_ost (pv 0) (pv 1)), _, rfl, _, rfl, a, C, rfl, T, no, .inl ⟨ha, one_field q⟩⟩
abbrev sI20 : Stmt := inClass (top 20) 0
theorem scI20 : FnScope ["self", "value"] ["self", "value"] (defScope sI20) := ⟨rfl, rfl, rfl, by decide +kernel, rfl, by decide +kernel, by decide +kernel⟩
theorem ok_I20 {f : Addr} {fd : FuncData} (F : Fun K "__init__" "Twice.__init__" sI20 f fd) : FnOk P w K mg base CX0 1 f fd ["self", "value"] (spIn1 K "value") := by
  refine F.ok scI20 (fun vs H Q E h => ?_) (fun cdv A outer s H vs Q E hr h => ?_)
  · obtain ⟨a, C, v, rfl, _⟩ := h
    rfl
  · obtain ⟨a, C, v, rfl, T, no, ha, q⟩ := h
    exact ⟨_, pss_one (ps_ost (pv 0) (pv 1)), _, rfl, _, rfl, a, C, rfl, T, no, .inl ⟨ha, one_field q⟩⟩
abbrev sI21 : Stmt := inClass (top 21) 0
theorem scI21 : FnScope ["self", "paper"] ["self", "paper"] (defScope sI21) := ⟨rfl, rfl, rfl, by decide +kernel, rfl, by decide +kernel, by decide +kernel⟩
theorem ok_I21 {f : Addr} {fd : FuncData} (F : Fun K "__init__" "Impossible.__init__" sI21 f fd) : FnOk P w K mg base CX0 1 f fd ["self", "paper"] (spIn1 K "paper") := by
  refine F.ok scI21 (fun vs H Q E h => ?_) (fun cdv A outer s H vs Q E hr h => ?_)
  · obtain ⟨a, C, v, rfl, _⟩ := h
    rfl
  · obtain ⟨a, C, v, rfl, T, no, ha, q⟩ := h
    exact ⟨_, pss_one (ps_ost (pv 0) (pv 1)), _, rfl, _, rfl, a, C, rfl, T, no, .inl ⟨ha, one_field q⟩⟩
abbrev sI22 : Stmt := inClass (top 22) 0
theorem scI22 : FnScope ["self", "what", "most"] ["self", "what", "most"] (defScope sI22) := ⟨rfl, rfl, rfl, by decide +kernel, rfl, by decide +kernel, by decide +kernel⟩
theorem ok_I22 {f : Addr} {fd : FuncData} (F : Fun K "__init__" "TooMany.__init__" sI22 f fd) : FnOk P w K mg base CX0 1 f fd ["self", "what", "most"] (spIn2 K "what" "most") := by
  refine F.ok scI22 (fun vs H Q E h => ?_) (fun cdv A outer s H vs Q E hr h => ?_)
  · obtain ⟨a, C, v, u, rfl, _⟩ := h
    rfl
  · obtain ⟨a, C, v, u, rfl, T, no1, no2, ha, q⟩ := h
    refine ⟨_, pss_cons (ps_ost (pv 0) (pv 1)) (pss_one (ps_ost (pv 0) (pv 2))), _, rfl, _, rfl, a, C, rfl, T, no1, .inl ⟨ha, fun dx n ne => ?_⟩⟩
    exact ⟨_, rfl, _, rfl, a, C, rfl, T, no2, .inr ⟨dx, _, upd_same, by rw [upd_ne ne]; exact upd_same, (by show 1 ≤ 900; decide), two_fields q dx n ne⟩⟩
abbrev sI24 : Stmt := inClass (top 24) 0
theorem scI24 : FnScope ["self", "line", "item"] ["self", "line", "item"] (defScope sI24) := ⟨rfl, rfl, rfl, by decide +kernel, rfl, by decide +kernel, by decide +kernel⟩
theorem ok_I24 {f : Addr} {fd : FuncData} (F : Fun K "__init__" "BadText.__init__" sI24 f fd) : FnOk P w K mg base CX0 1 f fd ["self", "line", "item"] (spIn2 K "line" "item") := by
  refine F.ok scI24 (fun vs H Q E h => ?_) (fun cdv A outer s H vs Q E hr h => ?_)
  · obtain ⟨a, C, v, u, rfl, _⟩ := h
    rfl
  · obtain ⟨a, C, v, u, rfl, T, no1, no2, ha, q⟩ := h
    refine ⟨_, pss_cons (ps_ost (pv 0) (pv 1)) (pss_one (ps_ost (pv 0) (pv 2))), _, rfl, _, rfl, a, C, rfl, T, no1, .inl ⟨ha, fun dx n ne => ?_⟩⟩
    exact ⟨_, rfl, _, rfl, a, C, rfl, T, no2, .inr ⟨dx, _, upd_same, by rw [upd_ne ne]; exact upd_same, (by show 1 ≤ 900; decide), two_fields q dx n ne⟩⟩
abbrev sI25 : Stmt := inClass (top 25) 0
theorem scI25 : FnScope ["self", "line", "error"] ["self", "line", "error"] (defScope sI25) := ⟨rfl, rfl, rfl, by decide +kernel, rfl, by decide +kernel, by decide +kernel⟩
theorem ok_I25 {f : Addr} {fd : FuncData} (F : Fun K "__init__" "BadLine.__init__" sI25 f fd) : FnOk P w K mg base CX0 1 f fd ["self", "line", "error"] (spIn2 K "line" "error") := by
  refine F.ok scI25 (fun vs H Q E h => ?_) (fun cdv A outer s H vs Q E hr h => ?_)
  · obtain ⟨a, C, v, u, rfl, _⟩ := h
    rfl
  · obtain ⟨a, C, v, u, rfl, T, no1, no2, ha, q⟩ := h
    refine ⟨_, pss_cons (ps_ost (pv 0) (pv 1)) (pss_one (ps_ost (pv 0) (pv 2))), _, rfl, _, rfl, a, C, rfl, T, no1, .inl ⟨ha, fun dx n ne => ?_⟩⟩
    exact ⟨_, rfl, _, rfl, a, C, rfl, T, no2, .inr ⟨dx, _, upd_same, by rw [upd_ne ne]; exact upd_same, (by show 1 ≤ 900; decide), two_fields q dx n ne⟩⟩

/-! ### a class, as its callers see it -/
def gA {α : Type} (us ws : List α) : List α := us ++ ws
def gB {α : Type} (us ws : List α) : List α := us ++ ws.reverse
theorem kbn {fd : FuncData} {ps ks : List Str} {n : Nat} (h : ∀ us ws : List Value, us.length = n → ws.length = ks.length → bindArgs fd ⟨us, ks.zip ws⟩ = pure (ps.zip (us ++ ws))) : KBn K fd ps n ks gA gA where
  to := fun s us ws _ l1 l2 => .of_eq (h us ws l1 l2)
  rel := fun r z => r.append z
theorem kbr {fd : FuncData} {ps ks : List Str} {n : Nat} (h : ∀ us ws : List Value, us.length = n → ws.length = ks.length → bindArgs fd ⟨us, ks.zip ws⟩ = pure (ps.zip (us ++ ws.reverse))) : KBn K fd ps n ks gB gB where
  to := fun s us ws _ l1 l2 => .of_eq (h us ws l1 l2)
  rel := fun r z => r.append z.reverse
/-- a class whose errors have one field, f -/
structure Cl1 (P : Program) (w : World) (K : PySem.W.Frag) (mg : Str → Option Value) (base : Heap) (x f : Str) (C : Addr) : Prop where
  mgC : mg x = some (.ref C)
  ec : Ec K C
  no : PySem.W.findIn K (.ref C) f = some none
  ini : ∃ (fI : Addr) (fd : FuncData), PySem.W.findIn K (.ref C) "__init__" = some (some (.ref fI)) ∧ PySem.W.typeIn K (.ref fI) = some (.type "function") ∧ FnOk P w K mg base CX0 1 fI fd ["self", f] (spIn1 K f) ∧
    KBn K fd ["self", f] 2 [] gA gA ∧ KBn K fd ["self", f] 1 [f] gA gA
/-- a class whose errors have two fields, f and g -/
structure Cl2 (P : Program) (w : World) (K : PySem.W.Frag) (mg : Str → Option Value) (base : Heap) (x f g : Str) (C : Addr) : Prop where
  mgC : mg x = some (.ref C)
  ec : Ec K C
  no1 : PySem.W.findIn K (.ref C) f = some none
  no2 : PySem.W.findIn K (.ref C) g = some none
  ini : ∃ (fI : Addr) (fd : FuncData), PySem.W.findIn K (.ref C) "__init__" = some (some (.ref fI)) ∧ PySem.W.typeIn K (.ref fI) = some (.type "function") ∧ FnOk P w K mg base CX0 1 fI fd ["self", f, g] (spIn2 K f g) ∧
    KBn K fd ["self", f, g] 3 [] gA gA ∧ KBn K fd ["self", f, g] 1 [g, f] gB gB
/-- a new error with these fields -/
def NewE (C : Addr) (fs : List (Str × V)) (H : Hp) (Q : VK) : Prop := ∀ a H', H a = none → Same H H' → Er H' C fs a → Q (.ref a) H'
def tN1 (C : Addr) (f : Str) (t : TA) : TE := fun σ H Q => t σ H fun vs H1 => ∃ v, vs = [v] ∧ NewE C [(f, v)] H1 Q
def tN2 (C : Addr) (f g : Str) (t : TA) : TE := fun σ H Q => t σ H fun vs H1 => ∃ v u, vs = [v, u] ∧ NewE C [(g, u), (f, v)] H1 Q
end
theorem PE.weak {X : Cx} {e : Expr} {t t' : TE} (h : PE X e t) (i : ∀ σ H Q, t' σ H Q → t σ H Q) : PE X e t' := ⟨fun pins s σ H Q I k => h.run pins s σ H Q I (i _ _ _ k)⟩
theorem new_same {H H' : Hp} {a : Addr} {o : HO} (n : H a = none) (k : ∀ b u, b ≠ a → upd H a o b = some u → H' b = some u) : Same H H' := fun b u e => k b u (ne_of_none e n) (by rw [upd_ne (ne_of_none e n)]; exact e)
end K0

namespace K0
open PySem PySem.Spec PyProof.Rows L2
theorem newE_1 {K : PySem.W.Frag} {C : Addr} {f : Str} {v : V} {H : Hp} {Q : VK} {E : XK} (T : OexC K C) (no : PySem.W.findIn K (.ref C) f = some none) (h : NewE C [(f, v)] H Q) :
    ∀ a, H a = none → spIn1 K f [.ref a, v] (upd H a (exo a C none)) (fun r H3 => r = .non ∧ Q (.ref a) H3) E := fun a n =>
  ⟨a, C, v, rfl, T, no, upd_same, fun H' k e => ⟨rfl, h a H' n (new_same n k) e.er⟩⟩
theorem newE_2 {K : PySem.W.Frag} {C : Addr} {f g : Str} {v u : V} {H : Hp} {Q : VK} {E : XK} (T : OexC K C) (no1 : PySem.W.findIn K (.ref C) f = some none) (no2 : PySem.W.findIn K (.ref C) g = some none) (h : NewE C [(g, u), (f, v)] H Q) :
    ∀ a, H a = none → spIn2 K f g [.ref a, v, u] (upd H a (exo a C none)) (fun r H3 => r = .non ∧ Q (.ref a) H3) E := fun a n =>
  ⟨a, C, v, u, rfl, T, no1, no2, upd_same, fun H' k e => ⟨rfl, h a H' n (new_same n k) e.er⟩⟩
section
variable {X : Cx} {C : Addr} {x f g : Str} {p pos : Pos} {e e' : Expr} {es : List Expr} {kws : List Keyword} {t tk : TA}
/-- x(e) -/
theorem pe_n1 (T : Cl1 X.prog X.w X.K X.mg X.base x f C) (hr : Room 2 X.A) (hg : Gl X x) (ha : PA X (e :: es) t)
    (hdb : (x == ("__debug__" : Str)) = false := by decide) (he : starEach (e :: es) X.env = (false, eval e X.env) :: starEach es X.env := by rfl) (hpl : (backTo pos (starEach es X.env)).any (·.1) = false := by rfl) :
    PE X (.Call (.Name x p) (e :: es) [] pos) (tN1 C f t) := by
  obtain ⟨fI, fd, iC, tI, F1, kb, _⟩ := T.ini
  refine ⟨fun pins s σ H Q I h => ?_⟩
  refine wpAny_Call_Name_kw (ld_glob I hg T.mgC ?_ hdb)
  refine PySem.W.callWith_K (h₀ := X.base) I.ok.mod.kin T.ec.ox.kC (thn (ha.run pos pins s σ H _ I h) fun us s1 ⟨vs, H1, I1, r1, v, ev, q1⟩ => ⟨I1.kIn, ?_⟩) he hpl
  subst ev
  exact run_mkE (n := 1) (ks := []) (ws := []) (zs := []) T.ec.ox iC tI F1 hr kb pass0 I1 r1 .nil rfl rfl (by decide) (newE_1 T.ec.ox T.no q1)
/-- x(f=e) -/
theorem pe_n1K (T : Cl1 X.prog X.w X.K X.mg X.base x f C) (hr : Room 2 X.A) (hg : Gl X x) (hkw : PK X kws tk)
    (hall : (backToKw pos (keywordEach kws X.env)).all (·.1.isSome) = true := by rfl) (hks : (backToKw pos (keywordEach kws X.env)).filterMap (·.1) = [f] := by rfl)
    (hdb : (x == ("__debug__" : Str)) = false := by decide)
    (hpl : ((backTo pos (starEach [] X.env)).any (·.1) || (backToKw pos (keywordEach kws X.env)).any (·.1.isNone)) = false := by rfl) :
    PE X (.Call (.Name x p) [] kws pos) (tN1 C f tk) := by
  obtain ⟨fI, fd, iC, tI, F1, _, kb⟩ := T.ini
  refine ⟨fun pins s σ H Q I h => ?_⟩
  refine wpAny_Call_Name_kw (ld_glob I hg T.mgC ?_ hdb)
  refine PySem.W.callWith_KW0 (h₀ := X.base) I.ok.mod.kin T.ec.ox.kC hall ?_ hpl
  refine thn (hkw.run pos pins s σ H _ I h) fun ws s2 ⟨zs, H2, I2, rz, v, ev, q2⟩ => ⟨I2.kIn, ?_⟩
  subst ev
  rw [hks]
  exact run_mkE (n := 0) (us := []) (vs := []) T.ec.ox iC tI F1 hr kb pass0 I2 .nil rz rfl rfl (by decide) (newE_1 T.ec.ox T.no q2)
/-- x(e, e') -/
theorem pe_n2 (T : Cl2 X.prog X.w X.K X.mg X.base x f g C) (hr : Room 2 X.A) (hg : Gl X x) (ha : PA X (e :: es) t)
    (hdb : (x == ("__debug__" : Str)) = false := by decide) (he : starEach (e :: es) X.env = (false, eval e X.env) :: starEach es X.env := by rfl) (hpl : (backTo pos (starEach es X.env)).any (·.1) = false := by rfl) :
    PE X (.Call (.Name x p) (e :: es) [] pos) (tN2 C f g t) := by
  obtain ⟨fI, fd, iC, tI, F1, kb, _⟩ := T.ini
  refine ⟨fun pins s σ H Q I h => ?_⟩
  refine wpAny_Call_Name_kw (ld_glob I hg T.mgC ?_ hdb)
  refine PySem.W.callWith_K (h₀ := X.base) I.ok.mod.kin T.ec.ox.kC (thn (ha.run pos pins s σ H _ I h) fun us s1 ⟨vs, H1, I1, r1, v, u, ev, q1⟩ => ⟨I1.kIn, ?_⟩) he hpl
  subst ev
  exact run_mkE (n := 2) (ks := []) (ws := []) (zs := []) T.ec.ox iC tI F1 hr kb pass0 I1 r1 .nil rfl rfl (by decide) (newE_2 T.ec.ox T.no1 T.no2 q1)
def tN2R (C : Addr) (f g : Str) (t : TA) : TE := fun σ H Q => t σ H fun vs H1 => ∃ v u, vs = [u, v] ∧ NewE C [(g, u), (f, v)] H1 Q
/-- x(g=e, f=e') -/
theorem pe_n2K (T : Cl2 X.prog X.w X.K X.mg X.base x f g C) (hr : Room 2 X.A) (hg : Gl X x) (hkw : PK X kws tk)
    (hall : (backToKw pos (keywordEach kws X.env)).all (·.1.isSome) = true := by rfl) (hks : (backToKw pos (keywordEach kws X.env)).filterMap (·.1) = [g, f] := by rfl)
    (hdb : (x == ("__debug__" : Str)) = false := by decide)
    (hpl : ((backTo pos (starEach [] X.env)).any (·.1) || (backToKw pos (keywordEach kws X.env)).any (·.1.isNone)) = false := by rfl) :
    PE X (.Call (.Name x p) [] kws pos) (tN2R C f g tk) := by
  obtain ⟨fI, fd, iC, tI, F1, _, kb⟩ := T.ini
  refine ⟨fun pins s σ H Q I h => ?_⟩
  refine wpAny_Call_Name_kw (ld_glob I hg T.mgC ?_ hdb)
  refine PySem.W.callWith_KW0 (h₀ := X.base) I.ok.mod.kin T.ec.ox.kC hall ?_ hpl
  refine thn (hkw.run pos pins s σ H _ I h) fun ws s2 ⟨zs, H2, I2, rz, v, u, ev, q2⟩ => ⟨I2.kIn, ?_⟩
  subst ev
  rw [hks]
  exact run_mkE (n := 0) (us := []) (vs := []) T.ec.ox iC tI F1 hr kb pass0 I2 .nil rz rfl rfl (by decide) (newE_2 T.ec.ox T.no1 T.no2 q2)
end
end K0

namespace K0
open PySem PySem.Spec PyProof.Rows L2
/-! ### the built-in names -/
structure Bn (mg : Str → Option Value) : Prop where
  isinstance : mg "isinstance" = none
  int : mg "int" = none
  abs : mg "abs" = none
  range : mg "range" = none
  str : mg "str" = none
  ValueError : mg "ValueError" = none
  LookupError : mg "LookupError" = none
  TypeError : mg "TypeError" = none
  ArithmeticError : mg "ArithmeticError" = none
  AttributeError : mg "AttributeError" = none
  RuntimeError : mg "RuntimeError" = none
theorem get_ints {ns : List Int} {i : Nat} {x : V} (h : (ns.map V.int)[i]? = some x) : ∃ z, ns[i]? = some z ∧ x = .int z := by
  rw [List.getElem?_map] at h
  cases e : ns[i]? with
  | none =>
    rw [e] at h
    cases h
  | some z =>
    rw [e] at h
    exact ⟨z, rfl, (Option.some.inj h).symm⟩
/-! ### floor division by any divisor but 0 -/
def CDivWN (_ j : Int) : Prop := j ≠ 0 ∧ j.natAbs.log2 < 9000
theorem op_fdivWN {X : Cx} : OpR X (binaryOp .FloorDiv) (rI CDivWN fun i j => .int (i.fdiv j)) := opI fun _ _ _ _ _ _ _ hc q => floordiv_int hc.1 q (.inl (PyProof.noPylong_of_log2 hc.2))
theorem cdiv_of {i j : Int} {b : Nat} (h : j ≠ 0) (hb : j.natAbs < 2 ^ b) (h0 : 0 < b) (h9 : b ≤ 9000) : CDivWN i j := ⟨h, Nat.lt_of_lt_of_le (PySem.Flt.log2_lt_of h0 hb) h9⟩
/-! ### powers of wide numbers; texts taken so many times; the signs of a text -/
def CPowW (i j : Int) : Prop := 0 ≤ j ∧ (Builtin.Int.intBits i : Int) * j ≤ 2 ^ 27
theorem op_powW {X : Cx} : OpR X (binaryOp .Pow) (rI CPowW fun i j => .int (i ^ j.toNat)) := opI fun _ _ _ _ _ _ _ hc q => pow_int hc.1 hc.2 q
/-! ### what stands while the cup turns and lambdas are made -/
/-- but at p all stands as it stood -/
def SB (p : Addr) (H H' : Hp) : Prop := ∀ b o, b ≠ p → H b = some o → H' b = some o
theorem SB.refl (p : Addr) (H : Hp) : SB p H H := fun _ _ _ h => h
theorem SB.trans {p : Addr} {H H1 H2 : Hp} (a : SB p H H1) (b : SB p H1 H2) : SB p H H2 := fun c o n h => b c o n (a c o n h)
theorem SB.of {p : Addr} {H H' : Hp} (s : Same H H') : SB p H H' := fun b o _ h => s b o h
theorem SB.set {p : Addr} {H : Hp} {o : HO} : SB p H (upd H p o) := fun b o n h => by
  rw [upd_ne n]
  exact h
/-- the cup at p: it ran out n times at most -/
def Cup (H : Hp) (p : Addr) (n : Nat) : Prop := ∃ a r c : Int, H p = some (.lst [.int a, .int r, .int c]) ∧ 0 ≤ r ∧ r ≤ n ∧ 0 ≤ c ∧ c < 998244353
theorem Cup.same {H H' : Hp} {p : Addr} {n : Nat} (v : Cup H p n) (s : Same H H') : Cup H' p n := let ⟨a, r, c, h, k⟩ := v; ⟨a, r, c, s _ _ h, k⟩
theorem Cup.le {H : Hp} {p : Addr} {n m : Nat} (v : Cup H p n) (h : n ≤ m) : Cup H p m := let ⟨a, r, c, e, h1, h2, k⟩ := v; ⟨a, r, c, e, h1, by omega, k⟩
theorem Cup.at {H : Hp} {p : Addr} {n : Nat} (v : Cup H p n) : ∃ a r c : Int, H p = some (.lst [.int a, .int r, .int c]) := let ⟨a, r, c, h, _⟩ := v; ⟨a, r, c, h⟩
theorem cut_ints (ns : List Int) (lo hi : Option Int) : ∃ ms : List Int, cutV (ns.map V.int) lo hi = ms.map V.int ∧ ms.length ≤ (match hi with | none => ns.length | some h => h.toNat + (match lo with | none => 0 | some _ => ns.length)) + ns.length := by
  refine ⟨(ns.drop (HT.sIx (ns.map V.int).length 0 lo)).take (HT.sIx (ns.map V.int).length (ns.map V.int).length hi - HT.sIx (ns.map V.int).length 0 lo), ?_, ?_⟩
  · unfold cutV
    rw [List.map_take, List.map_drop]
  · rw [List.length_take, List.length_drop]
    omega
theorem cup_step {a r : Int} {i : Nat} (h0 : 0 ≤ a) (h : a < 2 ^ (1000 + 21 * i)) (r0 : 0 ≤ r) (hr : r < 2 ^ 997) : 0 ≤ a * 1000403 + r ∧ a * 1000403 + r < 2 ^ (1000 + 21 * (i + 1)) := by
  refine ⟨by omega, ?_⟩
  have e : (2 : Int) ^ (1000 + 21 * (i + 1)) = 2 ^ (1000 + 21 * i) * 2097152 := by
    rw [show 1000 + 21 * (i + 1) = (1000 + 21 * i) + 21 by omega, Int.pow_add]
    rfl
  have e2 : (2 : Int) ^ 997 ≤ 2 ^ (1000 + 21 * i) := by
    have : (2 : Nat) ^ 997 ≤ 2 ^ (1000 + 21 * i) := Nat.pow_le_pow_right (by decide) (by omega)
    exact_mod_cast this
  rw [e]
  omega
section
variable {P : Program} {w : World} {K : PySem.W.Frag} {mg : Str → Option Value} {base : Heap}
/-! ### _law_cup -/
def spCup (K : PySem.W.Frag) : Sp := fun vs H Q _ => ∃ (a : Addr) (ns : List Int), vs = [.ref a] ∧ SqL K H a (ns.map V.int) ∧ ns.length ≤ 63 ∧ ∀ H' p, Same H H' → H p = none → Cup H' p 0 → Q (.ref p) H'
abbrev sCup : Stmt := top 27
abbrev nCup : List Str := ["_law_script", "_law_number", "_law_cell"]
theorem scCup : FnScope nCup ["_law_script"] (defScope sCup) := ⟨rfl, rfl, rfl, by decide +kernel, rfl, by decide +kernel, by decide +kernel⟩
theorem ok_cup {f : Addr} {fd : FuncData} (F : Fun K "_law_cup" "_law_cup" sCup f fd) (B : Bn mg) : FnOk P w K mg base CX0 1 f fd ["_law_script"] (spCup K) := by
  have nd := scCup.nd
  refine F.ok scCup (fun vs H Q E h => ?_) (fun cdv A outer s H vs Q E hr h => ?_)
  · obtain ⟨a, ns, rfl, _⟩ := h
    rfl
  · obtain ⟨a, ns, rfl, hS, hl, q⟩ := h
    refine ⟨_, (pss_cons ((ps_set (i := 1) nd rfl (Or.inl rfl) (pe_int))) (pss_cons (ps_for PassesOwn.never rfl (pi_list (pe_slice sl_list (pv 0) po_none (po_some pe_int))) (pg_name (i := 2) nd rfl (Or.inl rfl))
        (pss_one ((ps_set (i := 1) nd rfl (Or.inl rfl) (pe_op op_add (pe_op op_mulW (pv 1) pe_int) (pe_op op_mod (pe_op op_add (pe_op op_mul pe_int (pe_callB call_abs (by rfl) B.abs (by decide +kernel) (pa_cons ((pe_callTy call_int1 (by rfl) B.int boot_int (pa_cons (pv 2) pa_nil))) pa_nil))) (pe_callTy call_int1 (by rfl) B.int boot_int (pa_cons (pe_cmpR op_lt (pv 2) pe_int (nomark _)) pa_nil))) (pe_op op_powW (pe_op op_pow pe_int pe_int) pe_int))))))) (pss_one (ps_ret (pe_lst (pa_cons (pv 1) (pa_cons (pe_int) (pa_cons (pe_op op_mod (pe_callTy call_int1 (by rfl) B.int boot_int (pa_cons (pv 1) pa_nil)) pe_int) pa_nil)))))))), ?_⟩
    obtain ⟨ms, em, hm⟩ := cut_ints ns none (some 40)
    have hm : ms.length ≤ 103 := by
      have : ms.length ≤ (40 + 0) + ns.length := hm
      omega
    refine ⟨_, rfl, 40, rfl, a, _, rfl, hS, fun p hp => ?_⟩
    rw [em]
    have s0 := same_new (o := .lst (ms.map V.int)) hp
    refine ⟨p, rfl, ⟨_, SqL.of upd_same⟩, ?_⟩
    refine for_list (xs := ms.map V.int) (fun i σ H' => H' = upd H p (.lst (ms.map V.int)) ∧ ∃ (n : Int) (v : Option V), σ = [some (.ref a), some (.int n), v] ∧ 0 ≤ n ∧ n < 2 ^ (1000 + 21 * i))
      ⟨rfl, 113, none, rfl, by decide, by decide⟩ (fun i σ H' _ p' => by rw [p'.1]; exact SqL.of upd_same) ?_ ?_
    · rintro i x σ H' hx ⟨rfl, n, v, rfl, h0, h1⟩
      obtain ⟨z, hz, rfl⟩ := get_ints hx
      have hi : i < ms.length := by
        rcases Nat.lt_or_ge i ms.length with y | y
        · exact y
        · rw [List.getElem?_eq_none y] at hz
          cases hz
      have hb : n.natAbs < 2 ^ (1000 + 21 * i) := by
        have : ((n.natAbs : Nat) : Int) = n := Int.natAbs_of_nonneg h0
        have h1 : ((n.natAbs : Nat) : Int) < ((2 ^ (1000 + 21 * i) : Nat) : Int) := by
          rw [this]
          exact_mod_cast h1
        exact_mod_cast h1
      have hb : n.natAbs < 2 ^ 4000 := Nat.lt_of_lt_of_le hb (Nat.pow_le_pow_right (by decide) (by omega))
      have big : (10 ^ (Int.toNat 60)) ^ (Int.toNat 5) = (10 : Int) ^ 300 := by decide +kernel
      refine ⟨_, rfl, _, _, rfl, rfl, wide_mul hb (show (1000403 : Int).natAbs < 2 ^ 20 by decide) (by decide) (by decide) (by decide), ?_⟩
      refine ⟨_, rfl, .inl ⟨z, rfl, _, rfl, _, _, rfl, rfl, .inl ⟨by decide, by decide⟩, _, rfl, _, _, rfl, rfl, .inr ⟨_, rfl, _, _, rfl, rfl, ?_⟩⟩⟩
      refine ⟨_, _, rfl, rfl, ⟨by decide, by decide, by decide⟩, _, _, rfl, rfl, ⟨by decide, by decide +kernel⟩, _, _, rfl, rfl, (by decide +kernel : (0 : Int) < (10 ^ (Int.toNat 60)) ^ (Int.toNat 5)), _, _, rfl, rfl, ?_⟩
      have up : ((10 : Int) ^ (Int.toNat 60)) ^ (Int.toNat 5) < 2 ^ 997 := by decide +kernel
      have pos : (0 : Int) < ((10 : Int) ^ (Int.toNat 60)) ^ (Int.toNat 5) := by decide +kernel
      have st := cup_step (r := (2 * (if z < 0 then -z else z) + if decide (z < 0) = true then 1 else 0) % (10 ^ (Int.toNat 60)) ^ (Int.toNat 5)) h0 h1 (Int.emod_nonneg _ (by omega)) (Int.lt_trans (Int.emod_lt_of_pos _ pos) up)
      exact ⟨rfl, _, some (.int z), rfl, st⟩
    · rintro σ H' ⟨rfl, n, v, rfl, h0, h1⟩
      refine ⟨_, rfl, _, rfl, .inl ⟨_, rfl, _, _, rfl, rfl, (by show (0 : Int) < 998244353; decide), by show 3 ≤ sizeLine; decide, fun t ht => ?_⟩⟩
      refine q _ t (s0.trans (same_new ht)) (s0.free ht) ⟨n, 0, n % 998244353, upd_same, by decide, by decide, Int.emod_nonneg _ (by decide), Int.emod_lt_of_pos _ (by decide)⟩
/-! ### _law_dip -/
def spDip : Sp := fun vs H Q _ => ∃ (p : Addr) (m : Int) (n : Nat), vs = [.ref p, .int m] ∧ Cup H p n ∧ n < 60000 ∧ 0 < m ∧ m.natAbs < 2 ^ 100 ∧ ∀ H' d, SB p H H' → Cup H' p (n + 1) → 0 ≤ d → d < m → Q (.int d) H'
abbrev sDip : Stmt := top 28
abbrev nDip : List Str := ["_law_cup_here", "_law_many", "_law_digit"]
theorem scDip : FnScope nDip ["_law_cup_here", "_law_many"] (defScope sDip) := ⟨rfl, rfl, rfl, by decide +kernel, rfl, by decide +kernel, by decide +kernel⟩
theorem pw3 (c r : Int) (a : 0 ≤ c) (b : c < 998244353) (h0 : 0 ≤ r) (h1 : r < 60000) : CPow (c * (2 * (r + 1) + 1) + 90397 * (r + 1) + 53) 3 := by
  have c1 : c * (2 * (r + 1) + 1) ≤ 998244353 * 120003 := Int.mul_le_mul (by omega) (by omega) (by omega) (by omega)
  have c0 : 0 ≤ c * (2 * (r + 1) + 1) := Int.mul_nonneg a (by omega)
  exact ⟨by decide, by decide, by omega⟩
theorem ok_dip {f : Addr} {fd : FuncData} (F : Fun K "_law_dip" "_law_dip" sDip f fd) (B : Bn mg) : FnOk P w K mg base CX0 1 f fd ["_law_cup_here", "_law_many"] spDip := by
  have nd := scDip.nd
  refine F.ok scDip (fun vs H Q E h => ?_) (fun cdv A outer s H vs Q E hr h => ?_)
  · obtain ⟨p, m, n, rfl, _⟩ := h
    rfl
  · obtain ⟨p, m, n, rfl, ⟨a, r, c, hp, h0, h1, h2, h3⟩, hn, hm0, hm, q⟩ := h
    refine ⟨_, (pss_cons (ps_if (pt_cmpR op_eq ((pe_ix ix_list (pv 0) (pe_int) (fun _ _ => rfl))) (pe_int) (nomark _))
        (pss_cons (ps_asg (pe_op op_add (pe_ix ix_list (pv 0) (pe_int) (fun _ _ => rfl)) pe_int) (pg_sub (pv 0) pe_int set_list)) (pss_one (ps_asg (pe_op op_pow (pe_op op_add (pe_op op_add (pe_op op_mul (pe_ix ix_list (pv 0) (pe_int) (fun _ _ => rfl)) (pe_op op_add (pe_op op_mul pe_int (pe_ix ix_list (pv 0) (pe_int) (fun _ _ => rfl))) pe_int)) (pe_op op_mul pe_int (pe_ix ix_list (pv 0) (pe_int) (fun _ _ => rfl)))) pe_int) pe_int) (pg_sub (pv 0) pe_int set_list)))) pss_nil) (pss_cons ((ps_set (i := 2) nd rfl (Or.inl rfl) (pe_op op_mod (pe_callTy call_int1 (by rfl) B.int boot_int (pa_cons ((pe_ix ix_list (pv 0) (pe_int) (fun _ _ => rfl))) pa_nil)) (pv 1)))) (pss_cons (ps_asg (pe_op op_fdivWN (pe_callTy call_int1 (by rfl) B.int boot_int (pa_cons ((pe_ix ix_list (pv 0) (pe_int) (fun _ _ => rfl))) pa_nil)) (pv 1)) (pg_sub (pv 0) pe_int set_list)) (pss_one (ps_ret (pv 2)))))), ?_⟩
    have hdm : ∀ x : Int, CDivWN x m := fun x => cdiv_of (by omega) hm (by decide) (by decide)
    refine ⟨_, rfl, p, _, 0, _, rfl, rfl, SqL.of hp, rfl, rfl, _, rfl, ?_⟩
    by_cases hz : a = 0
    · rw [decide_eq_true (show V.int a = V.int 0 by rw [hz])]
      refine iteT ⟨_, rfl, p, _, 1, _, rfl, rfl, SqL.of hp, rfl, _, _, rfl, rfl, _, rfl, p, _, 1, 1, rfl, rfl, hp, rfl, ?_⟩
      have hp1 : (upd H p (.lst [.int a, .int (r + 1), .int c])) p = some (.lst [.int a, .int (r + 1), .int c]) := upd_same
      have s1 : SB p H (upd H p (.lst [.int a, .int (r + 1), .int c])) := SB.set
      have e1 : upd H p (.lst (List.set [V.int a, V.int r, V.int c] 1 (V.int (r + 1)))) = upd H p (.lst [.int a, .int (r + 1), .int c]) := rfl
      rw [e1]
      generalize upd H p (.lst [.int a, .int (r + 1), .int c]) = H1 at hp1 s1
      refine ⟨_, rfl, p, _, 2, _, rfl, rfl, SqL.of hp1, rfl, _, rfl, p, _, 1, _, rfl, rfl, SqL.of hp1, rfl, _, _, rfl, rfl, .inl ⟨by decide, by decide⟩, _, _, rfl, rfl, _, _, rfl, rfl, .inl ⟨by omega, by omega⟩, _, rfl, p, _, 1, _, rfl, rfl, SqL.of hp1, rfl, _, _, rfl, rfl, .inl ⟨by decide, by decide⟩, _, _, rfl, rfl, _, _, rfl, rfl, _, _, rfl, rfl, pw3 c r h2 h3 h0 (by omega), _, rfl, p, _, 0, 0, rfl, rfl, hp1, rfl, ?_⟩
      obtain ⟨N, hN⟩ : ∃ N : Int, N = (c * (2 * (r + 1) + 1) + 90397 * (r + 1) + 53) ^ (3 : Int).toNat := ⟨_, rfl⟩
      have hp2 : (upd H1 p (.lst [.int N, .int (r + 1), .int c])) p = some (.lst [.int N, .int (r + 1), .int c]) := upd_same
      have s2 : SB p H (upd H1 p (.lst [.int N, .int (r + 1), .int c])) := s1.trans SB.set
      have e2 : upd H1 p (.lst (List.set [V.int a, V.int (r + 1), V.int c] 0 ((fun i j : Int => V.int (i ^ j.toNat)) (c * (2 * (r + 1) + 1) + 90397 * (r + 1) + 53) 3))) = upd H1 p (.lst [.int N, .int (r + 1), .int c]) := by rw [hN]; rfl
      rw [e2]
      generalize upd H1 p (.lst [.int N, .int (r + 1), .int c]) = H2 at hp2 s2
      refine ⟨_, rfl, p, _, 0, _, rfl, rfl, SqL.of hp2, rfl, .inl ⟨_, rfl, _, rfl, _, _, rfl, rfl, hm0, ?_⟩⟩
      refine ⟨_, rfl, p, _, 0, _, rfl, rfl, SqL.of hp2, rfl, .inl ⟨_, rfl, _, rfl, _, _, rfl, rfl, hdm _, _, rfl, p, _, 0, 0, rfl, rfl, hp2, rfl, ?_⟩⟩
      exact ⟨_, rfl, q _ _ (s2.trans SB.set) ⟨_, _, _, upd_same, by omega, by omega, h2, h3⟩ (Int.emod_nonneg _ (by omega)) (Int.emod_lt_of_pos _ hm0)⟩
    · rw [decide_eq_false (fun z => hz (V.int.inj z))]
      refine iteF ?_
      refine ⟨_, rfl, p, _, 0, _, rfl, rfl, SqL.of hp, rfl, .inl ⟨_, rfl, _, rfl, _, _, rfl, rfl, hm0, ?_⟩⟩
      refine ⟨_, rfl, p, _, 0, _, rfl, rfl, SqL.of hp, rfl, .inl ⟨_, rfl, _, rfl, _, _, rfl, rfl, hdm _, _, rfl, p, _, 0, 0, rfl, rfl, hp, rfl, ?_⟩⟩
      exact ⟨_, rfl, q _ _ ((SB.refl p H).trans SB.set) ⟨_, _, _, upd_same, h0, by omega, h2, h3⟩ (Int.emod_nonneg _ (by omega)) (Int.emod_lt_of_pos _ hm0)⟩
end
end K0

namespace K0
open PySem PySem.Spec PyProof.Rows L2
/-- a def that may be called by its name -/
def Callee (P : Program) (w : World) (K : PySem.W.Frag) (mg : Str → Option Value) (base : Heap) (CX : CXT) (k : Nat) (x : Str) (ps : List Str) (sp : Sp) : Prop :=
  ∃ (f : Addr) (fd : FuncData), mg x = some (.ref f) ∧ PySem.W.keepIn K (.ref f) = true ∧ Binds K fd ps [] ∧ FnOk P w K mg base CX k f fd ps sp
theorem Er.sb {H H' : Hp} {C a p : Addr} {fs : List (Str × V)} {xs : List V} (e : Er H C fs a) (hp : H p = some (.lst xs)) (na : a ≠ p) (s : SB p H H') : Er H' C fs a := by
  rcases e with ⟨e, h⟩ | ⟨d, h1, h2⟩
  · exact .inl ⟨e, s _ _ na h⟩
  · refine .inr ⟨d, s _ _ na h1, s _ _ (fun z => ?_) h2⟩
    rw [z, hp] at h2
    have z2 : HO.lst xs = HO.ext _ := Option.some.inj h2
    cases z2
theorem Sv.sb {K : PySem.W.Frag} {H H' : Hp} {p : Addr} {v : V} {xs : List V} (k : Sv K H v) (hp : H p = some (.lst xs)) (nv : v ≠ .ref p) (s : SB p H H') : Sv K H' v := by
  cases k with
  | non => exact .non
  | bl b => exact .bl b
  | int i => exact .int i
  | str z => exact .str z
  | lst e => exact .lst (s _ _ (fun z => nv (by rw [z])) e)
  | tup e => exact .tup (s _ _ (fun z => nv (by rw [z])) e)
  | dK e => exact .dK (s _ _ (fun z => nv (by rw [z])) e)
  | er e T => exact .er (e.sb hp (fun z => nv (by rw [z])) s) T
section
variable {P : Program} {w : World} {K : PySem.W.Frag} {mg : Str → Option Value} {base : Heap} {C : Addr}
/-! ### _law_field -/
def spF (K : PySem.W.Frag) : Sp := fun vs H Q _ => ∃ (p : Addr) (n : Nat), vs = [.ref p] ∧ Cup H p n ∧ n + 3 < 60000 ∧ ∀ H' v, SB p H H' → Cup H' p (n + 3) → Sv K H' v → v ≠ .ref p → Q v H'
abbrev sF : Stmt := top 29
abbrev nF : List Str := ["_law_cup_here", "_law_way", "_law_great", "_law_small"]
theorem scF : FnScope nF ["_law_cup_here"] (defScope sF) := ⟨rfl, rfl, rfl, by decide +kernel, rfl, by decide +kernel, by decide +kernel⟩
theorem ok_field {f : Addr} {fd : FuncData} (F : Fun K "_law_field" "_law_field" sF f fd) (B : Bn mg) (C1 : Callee P w K mg base CX0 1 "_law_dip" ["_law_cup_here", "_law_many"] spDip) (TN : Cl1 P w K mg base "NoPin" "value" C) : FnOk P w K mg base CX0 3 f fd ["_law_cup_here"] (spF K) := by
  obtain ⟨f1, fd1, m1, k1, b1, G1⟩ := C1
  have nd := scF.nd
  refine F.ok scF (fun vs H Q E h => ?_) (fun cdv A outer s H vs Q E hr h => ?_)
  · obtain ⟨p, n, rfl, _⟩ := h
    rfl
  · obtain ⟨p, n, rfl, hv, hn, q⟩ := h
    refine ⟨_, (pss_cons (ps_par3 (i := 1) (j := 2) (l := 3) rfl nd rfl rfl rfl (by decide) (by decide) (by decide) rfl rfl rfl (pa_cons ((pe_call G1 (hr.mono (by decide)) rfl m1 k1 b1 .nil pass0 (pa_cons (pv 0) (pa_cons (pe_int) pa_nil)))) (pa_cons (pe_op op_sub (pe_call G1 (hr.mono (by decide)) rfl m1 k1 b1 .nil pass0 (pa_cons (pv 0) (pa_cons (pe_op op_pow pe_int pe_int) pa_nil))) (pe_op op_pow pe_int pe_int)) (pa_cons ((pe_call G1 (hr.mono (by decide)) rfl m1 k1 b1 .nil pass0 (pa_cons (pv 0) (pa_cons (pe_int) pa_nil)))) pa_nil))) (by rfl)) (pss_cons (ps_if (pt_cmpR op_lt (pv 1) pe_int (nomark _)) (pss_one (ps_ret (pe_ix ix_list (pe_lst (pa_cons (pv 2) (pa_cons (pv 3) (pa_cons (pe_un un_neg (pv 3)) pa_nil)))) (pv 1) (fun _ _ => rfl)))) pss_nil) (pss_cons (ps_if (pt_cmpR op_lt (pv 1) pe_int (nomark _)) (pss_one (ps_ret (pe_ix ix_list (pe_lst (pa_cons (pe_op op_add_str pe_str (pe_callTy call_str_int (by rfl) B.str (by decide +kernel) (pa_cons (pv 3) pa_nil))) (pa_cons (pe_str) (pa_cons (pe_non) pa_nil)))) (pe_op op_sub (pv 1) pe_int) (fun _ _ => rfl)))) pss_nil) (pss_cons (ps_if (pt_cmpR op_eq (pv 1) (pe_int) (nomark _)) (pss_one (ps_ret (pe_cmpR op_lt (pv 3) pe_int (nomark _)))) pss_nil) (pss_cons (ps_if (pt_cmpR op_eq (pv 1) (pe_int) (nomark _)) (pss_one (ps_ret (pe_lst (pa_cons (pv 3) (pa_cons (pe_lst (pa_cons (pv 2) (pa_cons (pe_non) pa_nil))) (pa_cons (pe_str) pa_nil)))))) pss_nil) (pss_cons (ps_if (pt_cmpR op_eq (pv 1) (pe_int) (nomark _)) (pss_one (ps_ret (pe_tup (pa_cons (pv 2) (pa_cons (pe_tup (pa_cons (pv 3) (pa_cons (pe_lst pa_nil) pa_nil))) pa_nil))))) pss_nil) (pss_one (ps_ret (pe_ifExp (pt_cmpR op_eq (pv 1) (pe_int) (nomark _)) (pe_disp (pps_cons pe_str (pe_lst (pa_cons (pv 3) pa_nil)) pps_nil) (by rfl) (by rfl) (fun z => by cases z) (by decide)) (pe_n1 TN (hr.mono (by decide)) rfl (pa_cons (pv 3) pa_nil))))))))))), ?_⟩
    refine ⟨_, rfl, p, 11, n, rfl, hv, by omega, by decide, by decide, fun H1 d1 s1 v1 d10 d11 => ?_⟩
    refine ⟨_, rfl, _, _, rfl, rfl, ⟨by decide, by decide, by decide⟩, p, _, n + 1, rfl, v1, by omega, by decide, by decide, fun H2 d2 s2 v2 d20 d21 => ?_⟩
    refine ⟨_, _, rfl, rfl, ⟨by decide, by decide, by decide⟩, _, _, rfl, rfl, _, rfl, p, 50, n + 2, rfl, v2, by omega, by decide, by decide, fun H3 d3 s3 v3 d30 d31 => ?_⟩
    refine ⟨_, _, _, rfl, ?_⟩
    obtain ⟨c1, c2, c3, hp3⟩ := v3.at
    have sb : SB p H H3 := (s1.trans s2).trans s3
    have fin : ∀ H' v, Same H3 H' → Sv K H' v → v ≠ .ref p → Q v H' := fun H' v sm k nv => q H' v (sb.trans (SB.of sm)) (v3.same sm) k nv
    obtain ⟨g, hg⟩ : ∃ g : Int, g = d2 - 10 ^ (Int.toNat 21) := ⟨_, rfl⟩
    clear q hv v1 v2 s1 s2 s3
    have ten : ∀ x, d1 = x → x = 0 ∨ x = 1 ∨ x = 2 ∨ x = 3 ∨ x = 4 ∨ x = 5 ∨ x = 6 ∨ x = 7 ∨ x = 8 ∨ x = 9 ∨ x = 10 := by omega
    have fresh : ∀ {H' : Hp} {a : Addr}, Same H3 H' → H' a = none → V.ref a ≠ V.ref p := fun {H' a} sm n z => by
      have e := sm _ _ hp3
      rw [← V.ref.inj z, n] at e
      cases e
    rcases ten d1 rfl with rfl | rfl | rfl | rfl | rfl | rfl | rfl | rfl | rfl | rfl | rfl
    · refine ⟨_, rfl, _, _, rfl, rfl, _, rfl, iteT ?_⟩
      refine ⟨_, rfl, _, rfl, _, rfl, _, rfl, by show 3 ≤ sizeLine; decide, fun l hl => ?_⟩
      exact ⟨_, rfl, l, _, _, _, rfl, rfl, SqL.of upd_same, rfl, fin _ _ (same_new hl) (.int _) (fun z => nomatch z)⟩
    · refine ⟨_, rfl, _, _, rfl, rfl, _, rfl, iteT ?_⟩
      refine ⟨_, rfl, _, rfl, _, rfl, _, rfl, by show 3 ≤ sizeLine; decide, fun l hl => ?_⟩
      exact ⟨_, rfl, l, _, _, _, rfl, rfl, SqL.of upd_same, rfl, fin _ _ (same_new hl) (.int _) (fun z => nomatch z)⟩
    · refine ⟨_, rfl, _, _, rfl, rfl, _, rfl, iteT ?_⟩
      refine ⟨_, rfl, _, rfl, _, rfl, _, rfl, by show 3 ≤ sizeLine; decide, fun l hl => ?_⟩
      exact ⟨_, rfl, l, _, _, _, rfl, rfl, SqL.of upd_same, rfl, fin _ _ (same_new hl) (.int _) (fun z => nomatch z)⟩
    · refine ⟨_, rfl, _, _, rfl, rfl, _, rfl, iteF ⟨_, rfl, _, _, rfl, rfl, _, rfl, iteT ?_⟩⟩
      refine ⟨_, rfl, d3, rfl, Nat.lt_trans (PySem.Flt.log2_lt_of (k := 10) (by decide) (by omega)) (by decide), _, _, rfl, rfl, ?_, by show 3 ≤ sizeLine; decide, fun l hl => ?_⟩
      · have hlog : d3.natAbs.log2 < 1920 := Nat.lt_trans (PySem.Flt.log2_lt_of (k := 10) (by decide) (by omega)) (by decide)
        have := int_text_len_1921 hlog
        show (Str.ofString "pin").length + (Str.ofString (toString d3)).length ≤ sizeLine
        have e3 : (Str.ofString "pin").length = 3 := by decide +kernel
        rw [e3, sizeLine_eq]
        omega
      exact ⟨_, rfl, _, _, rfl, rfl, l, _, _, _, rfl, rfl, SqL.of upd_same, rfl, fin _ _ (same_new hl) (.str _) (fun z => nomatch z)⟩
    · refine ⟨_, rfl, _, _, rfl, rfl, _, rfl, iteF ⟨_, rfl, _, _, rfl, rfl, _, rfl, iteT ?_⟩⟩
      refine ⟨_, rfl, d3, rfl, Nat.lt_trans (PySem.Flt.log2_lt_of (k := 10) (by decide) (by omega)) (by decide), _, _, rfl, rfl, ?_, by show 3 ≤ sizeLine; decide, fun l hl => ?_⟩
      · have hlog : d3.natAbs.log2 < 1920 := Nat.lt_trans (PySem.Flt.log2_lt_of (k := 10) (by decide) (by omega)) (by decide)
        have := int_text_len_1921 hlog
        show (Str.ofString "pin").length + (Str.ofString (toString d3)).length ≤ sizeLine
        have e3 : (Str.ofString "pin").length = 3 := by decide +kernel
        rw [e3, sizeLine_eq]
        omega
      exact ⟨_, rfl, _, _, rfl, rfl, l, _, _, _, rfl, rfl, SqL.of upd_same, rfl, fin _ _ (same_new hl) (.str _) (fun z => nomatch z)⟩
    · refine ⟨_, rfl, _, _, rfl, rfl, _, rfl, iteF ⟨_, rfl, _, _, rfl, rfl, _, rfl, iteT ?_⟩⟩
      refine ⟨_, rfl, d3, rfl, Nat.lt_trans (PySem.Flt.log2_lt_of (k := 10) (by decide) (by omega)) (by decide), _, _, rfl, rfl, ?_, by show 3 ≤ sizeLine; decide, fun l hl => ?_⟩
      · have hlog : d3.natAbs.log2 < 1920 := Nat.lt_trans (PySem.Flt.log2_lt_of (k := 10) (by decide) (by omega)) (by decide)
        have := int_text_len_1921 hlog
        show (Str.ofString "pin").length + (Str.ofString (toString d3)).length ≤ sizeLine
        have e3 : (Str.ofString "pin").length = 3 := by decide +kernel
        rw [e3, sizeLine_eq]
        omega
      exact ⟨_, rfl, _, _, rfl, rfl, l, _, _, _, rfl, rfl, SqL.of upd_same, rfl, fin _ _ (same_new hl) .non (fun z => nomatch z)⟩
    · refine ⟨_, rfl, _, _, rfl, rfl, _, rfl, iteF ⟨_, rfl, _, _, rfl, rfl, _, rfl, iteF ⟨_, rfl, rfl, _, rfl, iteT ?_⟩⟩⟩
      exact ⟨_, rfl, _, _, rfl, rfl, fin _ _ (fun _ _ e => e) (.bl _) (fun z => nomatch z)⟩
    · refine ⟨_, rfl, _, _, rfl, rfl, _, rfl, iteF ⟨_, rfl, _, _, rfl, rfl, _, rfl, iteF ⟨_, rfl, rfl, _, rfl, iteF ⟨_, rfl, rfl, _, rfl, iteT ?_⟩⟩⟩⟩
      refine ⟨_, rfl, _, rfl, by show 2 ≤ sizeLine; decide, fun l hl => ⟨by show 3 ≤ sizeLine; decide, fun m hm => ?_⟩⟩
      have sm := same_new (o := .lst [V.int g, .non]) hl
      rw [hg] at sm
      exact fin _ _ (sm.trans (same_new hm)) (.lst upd_same) (fresh sm hm)
    · refine ⟨_, rfl, _, _, rfl, rfl, _, rfl, iteF ⟨_, rfl, _, _, rfl, rfl, _, rfl, iteF ⟨_, rfl, rfl, _, rfl, iteF ⟨_, rfl, rfl, _, rfl, iteF ⟨_, rfl, rfl, _, rfl, iteT ?_⟩⟩⟩⟩⟩
      refine ⟨_, rfl, _, rfl, Nat.zero_le _, fun l hl => ⟨by show 2 ≤ sizeLine; decide, fun m hm => ⟨by show 2 ≤ sizeLine; decide, fun t ht => ?_⟩⟩⟩
      have sm := (same_new (o := .lst []) hl).trans (same_new (o := .tup [V.int d3, V.ref l]) hm)
      exact fin _ _ (sm.trans (same_new ht)) (.tup upd_same) (fresh sm ht)
    · refine ⟨_, rfl, _, _, rfl, rfl, _, rfl, iteF ⟨_, rfl, _, _, rfl, rfl, _, rfl, iteF ⟨_, rfl, rfl, _, rfl, iteF ⟨_, rfl, rfl, _, rfl, iteF ⟨_, rfl, rfl, _, rfl, iteF ⟨_, rfl, rfl, _, rfl, iteT ?_⟩⟩⟩⟩⟩⟩
      refine fun t ht => ⟨_, rfl, by show 1 ≤ sizeLine; decide, fun l hl => ⟨?_, [(Sum.inr "a", V.ref l)], rfl, by show 1 ≤ 15; decide, ?_⟩⟩
      · rw [upd_ne (ne_of_none upd_same hl)]
        exact upd_same
      · have s0 := same_new (o := .dK []) ht
        have s1 := s0.trans (same_new (o := .lst [V.int d3]) hl)
        refine fin _ _ (fun b o e => ?_) (.dK (k := Sum.inr "a") (v := .ref l) upd_same) (fresh (fun _ _ e => e) ht)
        rw [upd_ne (ne_of_none e ht)]
        exact s1 b o e
    · refine ⟨_, rfl, _, _, rfl, rfl, _, rfl, iteF ⟨_, rfl, _, _, rfl, rfl, _, rfl, iteF ⟨_, rfl, rfl, _, rfl, iteF ⟨_, rfl, rfl, _, rfl, iteF ⟨_, rfl, rfl, _, rfl, iteF ⟨_, rfl, rfl, _, rfl, iteF ?_⟩⟩⟩⟩⟩⟩
      exact ⟨_, rfl, _, rfl, fun a H' na sm ea => fin _ _ sm (.er ea TN.ec) (fresh (fun _ _ e => e) na)⟩
end
end K0

namespace K0
open PySem PySem.Spec PyProof.Rows L2
/-! ### two lists of the same things -/
def rNeL (K : PySem.W.Frag) : R2 := fun x y H Q => ∃ (a b : Addr) (xs : List V), x = .ref a ∧ y = .ref b ∧ SqL K H a xs ∧ SqL K H b xs ∧ (∀ z ∈ xs, flatB z = true) ∧ Q (.bl false) H
theorem op_neL {X : Cx} (hu : X.A.units + 64 < cLine) : OpR X (compareOp .NotEq) (rNeL X.K) := by
  intro pins s σ H x y v u Q I rx ry h
  obtain ⟨a, b, xs, rfl, rfl, ha, hb, hi, q⟩ := h
  obtain rfl : v = Value.ref a := rx
  obtain rfl : u = Value.ref b := ry
  obtain ⟨us, r1, p1, _⟩ := I.list ha
  obtain ⟨ws, r2, p2, _⟩ := I.list hb
  have hsz : us.toArray.size = ws.toArray.size := by
    rw [List.size_toArray, List.size_toArray, ← r1.length, ← r2.length]
  refine SeqAt.RcNeAt.lists (e := fun _ => true) p1.isList p2.isList hsz (by omega) (fun j h1 h2 => ?_) X.prog X.w _ _ ?_
  · have j1 : j < xs.length := by rw [r1.length]; simpa using h1
    have j3 : j < us.length := by simpa using h1
    have j4 : j < ws.length := by simpa using h2
    obtain ⟨u1, hu1, ru1⟩ := r1.get (i := j) (x := xs[j]) (List.getElem?_eq_getElem j1)
    obtain ⟨u2, hu2, ru2⟩ := r2.get (i := j) (x := xs[j]) (List.getElem?_eq_getElem j1)
    rw [List.getElem?_eq_getElem j3] at hu1
    rw [List.getElem?_eq_getElem j4] at hu2
    have d1 : us.toArray[j] = u1 := by simpa using Option.some.inj hu1
    have d2 : ws.toArray[j] = u2 := by simpa using Option.some.inj hu2
    rw [d1, d2]
    exact eqAt_same ru1 ru2 (hi _ (List.getElem_mem j1))
  · rw [all_true]
    exact ⟨.bl false, H, I, rfl, q⟩
/-- what the top calls the classes -/
structure Nm (mg : Str → Option Value) (c : Nat → Addr) (cM cS : Addr) : Prop where
  n0 : mg "BadNumber" = some (.ref (c 0))
  n1 : mg "BadRatio" = some (.ref (c 1))
  n2 : mg "BadTable" = some (.ref (c 2))
  n3 : mg "BadChart" = some (.ref (c 3))
  n4 : mg "BadBody" = some (.ref (c 4))
  n5 : mg "BadPicture" = some (.ref (c 5))
  n6 : mg "BadAlbum" = some (.ref (c 6))
  n7 : mg "BadTray" = some (.ref (c 7))
  n8 : mg "BadSaying" = some (.ref (c 8))
  n9 : mg "BadFact" = some (.ref (c 9))
  n10 : mg "BadPaper" = some (.ref (c 10))
  n11 : mg "BadDesk" = some (.ref (c 11))
  n12 : mg "Misfit" = some (.ref (c 12))
  n13 : mg "NoPin" = some (.ref (c 13))
  n14 : mg "NoPicture" = some (.ref (c 14))
  n15 : mg "NoFact" = some (.ref (c 15))
  n16 : mg "NoName" = some (.ref (c 16))
  n17 : mg "Twice" = some (.ref (c 17))
  n18 : mg "Impossible" = some (.ref (c 18))
  n19 : mg "TooMany" = some (.ref (c 19))
  n20 : mg "Nothing" = some (.ref (c 20))
  n21 : mg "BadText" = some (.ref (c 21))
  n22 : mg "BadLine" = some (.ref (c 22))
  m : mg "Missing" = some (.ref cM)
  s : mg "SeenError" = some (.ref cS)
/-- the class at C is the n-th -/
structure One (K : PySem.W.Frag) (c : Nat → Addr) (cM cS : Addr) (C : Addr) (n : Nat) : Prop where
  is : ∀ i, i < 23 → PySem.W.kitOne K (.ref C) (.ref (c i)) = some (decide (i = n))
  m : PySem.W.kitOne K (.ref C) (.ref cM) = some (decide (13 ≤ n) && decide (n < 17))
  s : PySem.W.kitOne K (.ref C) (.ref cS) = some true
  v : PySem.W.kitOne K (.ref C) (.type "ValueError") = some true
  o : PySem.W.kitAny K (.ref C) [.type "LookupError", .type "TypeError", .type "ArithmeticError", .type "AttributeError", .type "RuntimeError"] = some false
section
variable {P : Program} {w : World} {K : PySem.W.Frag} {mg : Str → Option Value} {base : Heap} {c : Nat → Addr} {cM cS : Addr}
/-! ### _law_is_one -/
def spOne (K : PySem.W.Frag) (c : Nat → Addr) (cM cS : Addr) : Sp := fun vs H Q _ => ∃ (a C : Addr) (fs : List (Str × V)) (n : Nat), vs = [.ref a, .int n] ∧ Er H C fs a ∧ Ec K C ∧ One K c cM cS C n ∧ ∀ H', Same H H' → Q (.bl true) H'
abbrev sOne : Stmt := top 30
abbrev nOne : List Str := ["_law_error", "_law_number", "_law_told", "_law_spot"]
theorem scOne : FnScope nOne ["_law_error", "_law_number"] (defScope sOne) := ⟨rfl, rfl, rfl, by decide +kernel, rfl, by decide +kernel, by decide +kernel⟩
/-- told for those below i -/
def tl (n i : Nat) : List V := (List.range i).map fun j => V.bl (decide (j = n))
theorem tl_more (n i : Nat) : tl n (i + 1) = tl n i ++ [V.bl (decide (i = n))] := by
  unfold tl
  rw [List.range_succ, List.map_append]
  rfl
theorem tl_len (n i : Nat) : (tl n i).length = i := by
  unfold tl
  rw [List.length_map, List.length_range]
theorem tl_flat (n i : Nat) : ∀ z ∈ tl n i, flatB z = true := fun z hz => by
  obtain ⟨j, _, rfl⟩ := List.mem_map.mp hz
  rfl
theorem dec_spot (i n : Nat) : decide (V.int (0 + (i : Int)) = V.int (n : Int)) = decide (i = n) := by
  rw [Bool.eq_iff_iff, decide_eq_true_iff, decide_eq_true_iff]
  constructor
  · intro z
    have := V.int.inj z
    omega
  · rintro rfl
    exact congrArg V.int (by omega)
theorem ok_one {f : Addr} {fd : FuncData} (F : Fun K "_law_is_one" "_law_is_one" sOne f fd) (B : Bn mg) (N : Nm mg c cM cS) : FnOk P w K mg base CX0 2 f fd ["_law_error", "_law_number"] (spOne K c cM cS) := by
  have nd := scOne.nd
  refine F.ok scOne (fun vs H Q E h => ?_) (fun cdv A outer s H vs Q E hr h => ?_)
  · obtain ⟨a, C, fs, n, rfl, _⟩ := h
    rfl
  · obtain ⟨a, C, fs, n, rfl, er, ec, O, q⟩ := h
    refine ⟨_, (pss_cons ((ps_set (i := 2) nd rfl (Or.inl rfl) ((pe_lst (pa_cons ((pe_callB (r := rIsX K) call_isX (by rfl) B.isinstance boot_isinstance (pa_cons (pv 0) (pa_cons (pe_glob (v := .ref (c 0)) rfl N.n0 rfl) pa_nil)))) (pa_cons ((pe_callB (r := rIsX K) call_isX (by rfl) B.isinstance boot_isinstance (pa_cons (pv 0) (pa_cons (pe_glob (v := .ref (c 1)) rfl N.n1 rfl) pa_nil)))) (pa_cons ((pe_callB (r := rIsX K) call_isX (by rfl) B.isinstance boot_isinstance (pa_cons (pv 0) (pa_cons (pe_glob (v := .ref (c 2)) rfl N.n2 rfl) pa_nil)))) (pa_cons ((pe_callB (r := rIsX K) call_isX (by rfl) B.isinstance boot_isinstance (pa_cons (pv 0) (pa_cons (pe_glob (v := .ref (c 3)) rfl N.n3 rfl) pa_nil)))) pa_nil)))))))) (pss_cons ((ps_set (i := 2) nd rfl (Or.inl rfl) ((pe_op op_cat (pv 2) (pe_lst (pa_cons ((pe_callB (r := rIsX K) call_isX (by rfl) B.isinstance boot_isinstance (pa_cons (pv 0) (pa_cons (pe_glob (v := .ref (c 4)) rfl N.n4 rfl) pa_nil)))) (pa_cons ((pe_callB (r := rIsX K) call_isX (by rfl) B.isinstance boot_isinstance (pa_cons (pv 0) (pa_cons (pe_glob (v := .ref (c 5)) rfl N.n5 rfl) pa_nil)))) (pa_cons ((pe_callB (r := rIsX K) call_isX (by rfl) B.isinstance boot_isinstance (pa_cons (pv 0) (pa_cons (pe_glob (v := .ref (c 6)) rfl N.n6 rfl) pa_nil)))) (pa_cons ((pe_callB (r := rIsX K) call_isX (by rfl) B.isinstance boot_isinstance (pa_cons (pv 0) (pa_cons (pe_glob (v := .ref (c 7)) rfl N.n7 rfl) pa_nil)))) pa_nil))))))))) (pss_cons ((ps_set (i := 2) nd rfl (Or.inl rfl) ((pe_op op_cat (pv 2) (pe_lst (pa_cons ((pe_callB (r := rIsX K) call_isX (by rfl) B.isinstance boot_isinstance (pa_cons (pv 0) (pa_cons (pe_glob (v := .ref (c 8)) rfl N.n8 rfl) pa_nil)))) (pa_cons ((pe_callB (r := rIsX K) call_isX (by rfl) B.isinstance boot_isinstance (pa_cons (pv 0) (pa_cons (pe_glob (v := .ref (c 9)) rfl N.n9 rfl) pa_nil)))) (pa_cons ((pe_callB (r := rIsX K) call_isX (by rfl) B.isinstance boot_isinstance (pa_cons (pv 0) (pa_cons (pe_glob (v := .ref (c 10)) rfl N.n10 rfl) pa_nil)))) (pa_cons ((pe_callB (r := rIsX K) call_isX (by rfl) B.isinstance boot_isinstance (pa_cons (pv 0) (pa_cons (pe_glob (v := .ref (c 11)) rfl N.n11 rfl) pa_nil)))) pa_nil))))))))) (pss_cons ((ps_set (i := 2) nd rfl (Or.inl rfl) ((pe_op op_cat (pv 2) (pe_lst (pa_cons ((pe_callB (r := rIsX K) call_isX (by rfl) B.isinstance boot_isinstance (pa_cons (pv 0) (pa_cons (pe_glob (v := .ref (c 12)) rfl N.n12 rfl) pa_nil)))) (pa_cons ((pe_callB (r := rIsX K) call_isX (by rfl) B.isinstance boot_isinstance (pa_cons (pv 0) (pa_cons (pe_glob (v := .ref (c 13)) rfl N.n13 rfl) pa_nil)))) (pa_cons ((pe_callB (r := rIsX K) call_isX (by rfl) B.isinstance boot_isinstance (pa_cons (pv 0) (pa_cons (pe_glob (v := .ref (c 14)) rfl N.n14 rfl) pa_nil)))) (pa_cons ((pe_callB (r := rIsX K) call_isX (by rfl) B.isinstance boot_isinstance (pa_cons (pv 0) (pa_cons (pe_glob (v := .ref (c 15)) rfl N.n15 rfl) pa_nil)))) pa_nil))))))))) (pss_cons ((ps_set (i := 2) nd rfl (Or.inl rfl) ((pe_op op_cat (pv 2) (pe_lst (pa_cons ((pe_callB (r := rIsX K) call_isX (by rfl) B.isinstance boot_isinstance (pa_cons (pv 0) (pa_cons (pe_glob (v := .ref (c 16)) rfl N.n16 rfl) pa_nil)))) (pa_cons ((pe_callB (r := rIsX K) call_isX (by rfl) B.isinstance boot_isinstance (pa_cons (pv 0) (pa_cons (pe_glob (v := .ref (c 17)) rfl N.n17 rfl) pa_nil)))) (pa_cons ((pe_callB (r := rIsX K) call_isX (by rfl) B.isinstance boot_isinstance (pa_cons (pv 0) (pa_cons (pe_glob (v := .ref (c 18)) rfl N.n18 rfl) pa_nil)))) (pa_cons ((pe_callB (r := rIsX K) call_isX (by rfl) B.isinstance boot_isinstance (pa_cons (pv 0) (pa_cons (pe_glob (v := .ref (c 19)) rfl N.n19 rfl) pa_nil)))) pa_nil))))))))) (pss_cons ((ps_set (i := 2) nd rfl (Or.inl rfl) ((pe_op op_cat (pv 2) (pe_lst (pa_cons ((pe_callB (r := rIsX K) call_isX (by rfl) B.isinstance boot_isinstance (pa_cons (pv 0) (pa_cons (pe_glob (v := .ref (c 20)) rfl N.n20 rfl) pa_nil)))) (pa_cons ((pe_callB (r := rIsX K) call_isX (by rfl) B.isinstance boot_isinstance (pa_cons (pv 0) (pa_cons (pe_glob (v := .ref (c 21)) rfl N.n21 rfl) pa_nil)))) (pa_cons ((pe_callB (r := rIsX K) call_isX (by rfl) B.isinstance boot_isinstance (pa_cons (pv 0) (pa_cons (pe_glob (v := .ref (c 22)) rfl N.n22 rfl) pa_nil)))) pa_nil)))))))) (pss_cons (ps_if (PW.pt (pw_or (pt_cmpR (op_neL hr.units) (pv 2) (pe_lc (own := [("_law_spot", 3)]) (g := gName 3) (tt := tYes) rfl nd (pi_range1 rfl B.range (pa_cons (pe_int) pa_nil)) (blkOk_by (N := nOne) (sc := defScope sOne) (by decide +kernel)) (fun _ _ _ _ _ => pg_name (i := 3) nd rfl (Or.inl rfl)) (fun _ _ _ _ _ => pts_nil) (fun _ _ _ _ _ => pe_cmpR op_eq (pv 3) (pv 1) (nomark _))) (nomark _)) (pw_or1 (pt_cmpR op_ne (pe_callB (r := rIsX K) call_isX (by rfl) B.isinstance boot_isinstance (pa_cons (pv 0) (pa_cons (pe_glob (v := .ref cM) rfl N.m rfl) pa_nil))) (pe_chain op_le op_lt pe_int (pv 1) pe_int) (nomark _))))) (pss_one (ps_ret pe_bl)) pss_nil) (pss_cons (ps_if (PW.pt (pw_or (pt_not (pt_val (pe_callB (r := rIsX K) call_isX (by rfl) B.isinstance boot_isinstance (pa_cons (pv 0) (pa_cons (pe_glob (v := .ref cS) rfl N.s rfl) pa_nil))))) (pw_or1 (pt_not (pt_val (pe_callB (r := rIsX K) call_isX (by rfl) B.isinstance boot_isinstance (pa_cons (pv 0) (pa_cons (pe_bltn (v := .ty "ValueError") (by rfl) B.ValueError (by decide +kernel) rfl) pa_nil)))))))) (pss_one (ps_ret pe_bl)) pss_nil) (pss_one (ps_ret (pe_not (pe_callB (r := rIsXT K) call_isXT (by rfl) B.isinstance boot_isinstance (pa_cons (pv 0) (pa_cons (pe_tup (pa_cons (pe_bltn (v := .ty "LookupError") (by rfl) B.LookupError (by decide +kernel) rfl) (pa_cons (pe_bltn (v := .ty "TypeError") (by rfl) B.TypeError (by decide +kernel) rfl) (pa_cons (pe_bltn (v := .ty "ArithmeticError") (by rfl) B.ArithmeticError (by decide +kernel) rfl) (pa_cons (pe_bltn (v := .ty "AttributeError") (by rfl) B.AttributeError (by decide +kernel) rfl) (pa_cons (pe_bltn (v := .ty "RuntimeError") (by rfl) B.RuntimeError (by decide +kernel) rfl) pa_nil)))))) pa_nil)))))))))))))), ?_⟩
    refine ⟨_, rfl, a, C, fs, _, _, _, rfl, er, ec, .own _, O.is 0 (by decide), _, rfl, a, C, fs, _, _, _, rfl, er, ec, .own _, O.is 1 (by decide), _, rfl, a, C, fs, _, _, _, rfl, er, ec, .own _, O.is 2 (by decide), _, rfl, a, C, fs, _, _, _, rfl, er, ec, .own _, O.is 3 (by decide), by show 4 ≤ sizeLine; decide, fun l0 g0 => ?_⟩
    have s0 := same_new (o := .lst (tl n 4)) g0
    have e0 : upd H l0 (.lst [V.bl (decide (0 = n)), V.bl (decide (1 = n)), V.bl (decide (2 = n)), V.bl (decide (3 = n))]) = upd H l0 (.lst (tl n 4)) := rfl
    rw [e0]
    have t0 : upd H l0 (.lst (tl n 4)) l0 = some (.lst (tl n 4)) := upd_same
    generalize upd H l0 (.lst (tl n 4)) = H0 at s0 t0 ⊢
    have er := er.same s0
    refine ⟨_, rfl, ?_⟩
    refine ⟨_, rfl, a, C, fs, _, _, _, rfl, er, ec, .own _, O.is 4 (by decide), _, rfl, a, C, fs, _, _, _, rfl, er, ec, .own _, O.is 5 (by decide), _, rfl, a, C, fs, _, _, _, rfl, er, ec, .own _, O.is 6 (by decide), _, rfl, a, C, fs, _, _, _, rfl, er, ec, .own _, O.is 7 (by decide), by show 4 ≤ sizeLine; decide, fun l1 g1 => ?_⟩
    have x1 := same_new (o := .lst [V.bl (decide (4 = n)), V.bl (decide (5 = n)), V.bl (decide (6 = n)), V.bl (decide (7 = n))]) g1
    have y1 : upd H0 l1 (.lst [V.bl (decide (4 = n)), V.bl (decide (5 = n)), V.bl (decide (6 = n)), V.bl (decide (7 = n))]) l1 = some (.lst [V.bl (decide (4 = n)), V.bl (decide (5 = n)), V.bl (decide (6 = n)), V.bl (decide (7 = n))]) := upd_same
    have t0' := x1 _ _ t0
    generalize upd H0 l1 (.lst [V.bl (decide (4 = n)), V.bl (decide (5 = n)), V.bl (decide (6 = n)), V.bl (decide (7 = n))]) = G1 at x1 y1 t0' ⊢
    refine ⟨_, _, _, _, rfl, rfl, t0', y1, by rw [tl_len]; show 8 ≤ sizeLine; decide, fun m1 k1 => ?_⟩
    have e1 : upd G1 m1 (.lst (tl n 4 ++ [V.bl (decide (4 = n)), V.bl (decide (5 = n)), V.bl (decide (6 = n)), V.bl (decide (7 = n))])) = upd G1 m1 (.lst (tl n 8)) := rfl
    rw [e1]
    have z1 := x1.trans (same_new (o := .lst (tl n 8)) k1)
    have t1 : upd G1 m1 (.lst (tl n 8)) m1 = some (.lst (tl n 8)) := upd_same
    generalize upd G1 m1 (.lst (tl n 8)) = H1 at z1 t1 ⊢
    have er := er.same z1
    have s1 := s0.trans z1
    refine ⟨_, rfl, ?_⟩
    refine ⟨_, rfl, a, C, fs, _, _, _, rfl, er, ec, .own _, O.is 8 (by decide), _, rfl, a, C, fs, _, _, _, rfl, er, ec, .own _, O.is 9 (by decide), _, rfl, a, C, fs, _, _, _, rfl, er, ec, .own _, O.is 10 (by decide), _, rfl, a, C, fs, _, _, _, rfl, er, ec, .own _, O.is 11 (by decide), by show 4 ≤ sizeLine; decide, fun l2 g2 => ?_⟩
    have x2 := same_new (o := .lst [V.bl (decide (8 = n)), V.bl (decide (9 = n)), V.bl (decide (10 = n)), V.bl (decide (11 = n))]) g2
    have y2 : upd H1 l2 (.lst [V.bl (decide (8 = n)), V.bl (decide (9 = n)), V.bl (decide (10 = n)), V.bl (decide (11 = n))]) l2 = some (.lst [V.bl (decide (8 = n)), V.bl (decide (9 = n)), V.bl (decide (10 = n)), V.bl (decide (11 = n))]) := upd_same
    have t1' := x2 _ _ t1
    generalize upd H1 l2 (.lst [V.bl (decide (8 = n)), V.bl (decide (9 = n)), V.bl (decide (10 = n)), V.bl (decide (11 = n))]) = G2 at x2 y2 t1' ⊢
    refine ⟨_, _, _, _, rfl, rfl, t1', y2, by rw [tl_len]; show 12 ≤ sizeLine; decide, fun m2 k2 => ?_⟩
    have e2 : upd G2 m2 (.lst (tl n 8 ++ [V.bl (decide (8 = n)), V.bl (decide (9 = n)), V.bl (decide (10 = n)), V.bl (decide (11 = n))])) = upd G2 m2 (.lst (tl n 12)) := rfl
    rw [e2]
    have z2 := x2.trans (same_new (o := .lst (tl n 12)) k2)
    have t2 : upd G2 m2 (.lst (tl n 12)) m2 = some (.lst (tl n 12)) := upd_same
    generalize upd G2 m2 (.lst (tl n 12)) = H2 at z2 t2 ⊢
    have er := er.same z2
    have s2 := s1.trans z2
    refine ⟨_, rfl, ?_⟩
    refine ⟨_, rfl, a, C, fs, _, _, _, rfl, er, ec, .own _, O.is 12 (by decide), _, rfl, a, C, fs, _, _, _, rfl, er, ec, .own _, O.is 13 (by decide), _, rfl, a, C, fs, _, _, _, rfl, er, ec, .own _, O.is 14 (by decide), _, rfl, a, C, fs, _, _, _, rfl, er, ec, .own _, O.is 15 (by decide), by show 4 ≤ sizeLine; decide, fun l3 g3 => ?_⟩
    have x3 := same_new (o := .lst [V.bl (decide (12 = n)), V.bl (decide (13 = n)), V.bl (decide (14 = n)), V.bl (decide (15 = n))]) g3
    have y3 : upd H2 l3 (.lst [V.bl (decide (12 = n)), V.bl (decide (13 = n)), V.bl (decide (14 = n)), V.bl (decide (15 = n))]) l3 = some (.lst [V.bl (decide (12 = n)), V.bl (decide (13 = n)), V.bl (decide (14 = n)), V.bl (decide (15 = n))]) := upd_same
    have t2' := x3 _ _ t2
    generalize upd H2 l3 (.lst [V.bl (decide (12 = n)), V.bl (decide (13 = n)), V.bl (decide (14 = n)), V.bl (decide (15 = n))]) = G3 at x3 y3 t2' ⊢
    refine ⟨_, _, _, _, rfl, rfl, t2', y3, by rw [tl_len]; show 16 ≤ sizeLine; decide, fun m3 k3 => ?_⟩
    have e3 : upd G3 m3 (.lst (tl n 12 ++ [V.bl (decide (12 = n)), V.bl (decide (13 = n)), V.bl (decide (14 = n)), V.bl (decide (15 = n))])) = upd G3 m3 (.lst (tl n 16)) := rfl
    rw [e3]
    have z3 := x3.trans (same_new (o := .lst (tl n 16)) k3)
    have t3 : upd G3 m3 (.lst (tl n 16)) m3 = some (.lst (tl n 16)) := upd_same
    generalize upd G3 m3 (.lst (tl n 16)) = H3 at z3 t3 ⊢
    have er := er.same z3
    have s3 := s2.trans z3
    refine ⟨_, rfl, ?_⟩
    refine ⟨_, rfl, a, C, fs, _, _, _, rfl, er, ec, .own _, O.is 16 (by decide), _, rfl, a, C, fs, _, _, _, rfl, er, ec, .own _, O.is 17 (by decide), _, rfl, a, C, fs, _, _, _, rfl, er, ec, .own _, O.is 18 (by decide), _, rfl, a, C, fs, _, _, _, rfl, er, ec, .own _, O.is 19 (by decide), by show 4 ≤ sizeLine; decide, fun l4 g4 => ?_⟩
    have x4 := same_new (o := .lst [V.bl (decide (16 = n)), V.bl (decide (17 = n)), V.bl (decide (18 = n)), V.bl (decide (19 = n))]) g4
    have y4 : upd H3 l4 (.lst [V.bl (decide (16 = n)), V.bl (decide (17 = n)), V.bl (decide (18 = n)), V.bl (decide (19 = n))]) l4 = some (.lst [V.bl (decide (16 = n)), V.bl (decide (17 = n)), V.bl (decide (18 = n)), V.bl (decide (19 = n))]) := upd_same
    have t3' := x4 _ _ t3
    generalize upd H3 l4 (.lst [V.bl (decide (16 = n)), V.bl (decide (17 = n)), V.bl (decide (18 = n)), V.bl (decide (19 = n))]) = G4 at x4 y4 t3' ⊢
    refine ⟨_, _, _, _, rfl, rfl, t3', y4, by rw [tl_len]; show 20 ≤ sizeLine; decide, fun m4 k4 => ?_⟩
    have e4 : upd G4 m4 (.lst (tl n 16 ++ [V.bl (decide (16 = n)), V.bl (decide (17 = n)), V.bl (decide (18 = n)), V.bl (decide (19 = n))])) = upd G4 m4 (.lst (tl n 20)) := rfl
    rw [e4]
    have z4 := x4.trans (same_new (o := .lst (tl n 20)) k4)
    have t4 : upd G4 m4 (.lst (tl n 20)) m4 = some (.lst (tl n 20)) := upd_same
    generalize upd G4 m4 (.lst (tl n 20)) = H4 at z4 t4 ⊢
    have er := er.same z4
    have s4 := s3.trans z4
    refine ⟨_, rfl, ?_⟩
    refine ⟨_, rfl, a, C, fs, _, _, _, rfl, er, ec, .own _, O.is 20 (by decide), _, rfl, a, C, fs, _, _, _, rfl, er, ec, .own _, O.is 21 (by decide), _, rfl, a, C, fs, _, _, _, rfl, er, ec, .own _, O.is 22 (by decide), by show 3 ≤ sizeLine; decide, fun l5 g5 => ?_⟩
    have x5 := same_new (o := .lst [V.bl (decide (20 = n)), V.bl (decide (21 = n)), V.bl (decide (22 = n))]) g5
    have y5 : upd H4 l5 (.lst [V.bl (decide (20 = n)), V.bl (decide (21 = n)), V.bl (decide (22 = n))]) l5 = some (.lst [V.bl (decide (20 = n)), V.bl (decide (21 = n)), V.bl (decide (22 = n))]) := upd_same
    have t4' := x5 _ _ t4
    generalize upd H4 l5 (.lst [V.bl (decide (20 = n)), V.bl (decide (21 = n)), V.bl (decide (22 = n))]) = G5 at x5 y5 t4' ⊢
    refine ⟨_, _, _, _, rfl, rfl, t4', y5, by rw [tl_len]; show 23 ≤ sizeLine; decide, fun m5 k5 => ?_⟩
    have e5 : upd G5 m5 (.lst (tl n 20 ++ [V.bl (decide (20 = n)), V.bl (decide (21 = n)), V.bl (decide (22 = n))])) = upd G5 m5 (.lst (tl n 23)) := rfl
    rw [e5]
    have z5 := x5.trans (same_new (o := .lst (tl n 23)) k5)
    have t5 : upd G5 m5 (.lst (tl n 23)) m5 = some (.lst (tl n 23)) := upd_same
    generalize upd G5 m5 (.lst (tl n 23)) = H5 at z5 t5 ⊢
    have er := er.same z5
    have s5 := s4.trans z5
    refine ⟨_, rfl, 23, rfl, by decide, by decide, fun D hD => ?_⟩
    refine lc_range (lo := 0) (n := 23) (fun i H' => Same H5 H' ∧ H' D = some (.lst (tl n i))) ⟨same_new hD, upd_same⟩ (fun i H' hi p => ?_) (fun H6 p6 => ?_)
    · refine ⟨rfl, ?_⟩
      show (fun σ H R => _) _ _ _
      refine ⟨_, rfl, _, rfl, rfl, _, p.2, by rw [tl_len]; exact small1000 (by omega), fun b o e => ?_, ?_⟩
      · rw [upd_ne (ne_of_none e hD)]
        exact p.1 b o e
      · rw [upd_same, tl_more, dec_spot]
    · obtain ⟨s6, hD6⟩ := p6
      have er := er.same s6
      refine ⟨_, _, _, rfl, rfl, SqL.of (s6 _ _ t5), SqL.of hD6, tl_flat n 23, _, rfl, iteF ?_⟩
      refine ⟨_, rfl, a, C, fs, _, _, _, rfl, er, ec, .own _, O.m, _, rfl, _, _, rfl, rfl, _, rfl, ?_⟩
      by_cases h13 : 13 ≤ n
      · rw [decide_eq_true (show (13 : Int) ≤ (n : Int) by omega)]
        refine iteT ⟨_, _, rfl, rfl, rfl, _, rfl, ?_⟩
        have e1 : (decide (13 ≤ n) && decide (n < 17)) = decide ((n : Int) < 17) := by
          rw [decide_eq_true h13, Bool.true_and, Bool.eq_iff_iff, decide_eq_true_iff, decide_eq_true_iff]
          omega
        rw [e1, decide_eq_true rfl]
        refine iteF ?_
        refine ⟨_, rfl, a, C, fs, _, _, _, rfl, er, ec, .own _, O.s, _, rfl, iteF ⟨_, rfl, a, C, fs, _, _, _, rfl, er, ec, .ty _, O.v, _, rfl, iteF ?_⟩⟩
        refine ⟨_, rfl, by show 5 ≤ sizeLine; decide, fun T hT => ?_⟩
        exact ⟨a, C, T, fs, _, _, _, rfl, er.same (same_new hT), ec, upd_same, .cons (.ty _) (.cons (.ty _) (.cons (.ty _) (.cons (.ty _) (.cons (.ty _) .nil)))), O.o, _, rfl, q _ ((s5.trans s6).trans (same_new hT))⟩
      · rw [decide_eq_false (show ¬ (13 : Int) ≤ (n : Int) by omega)]
        refine iteF ⟨rfl, _, rfl, ?_⟩
        have e1 : (decide (13 ≤ n) && decide (n < 17)) = false := by
          rw [decide_eq_false h13]
          rfl
        rw [e1, decide_eq_true rfl]
        refine iteF ?_
        refine ⟨_, rfl, a, C, fs, _, _, _, rfl, er, ec, .own _, O.s, _, rfl, iteF ⟨_, rfl, a, C, fs, _, _, _, rfl, er, ec, .ty _, O.v, _, rfl, iteF ?_⟩⟩
        refine ⟨_, rfl, by show 5 ≤ sizeLine; decide, fun T hT => ?_⟩
        exact ⟨a, C, T, fs, _, _, _, rfl, er.same (same_new hT), ec, upd_same, .cons (.ty _) (.cons (.ty _) (.cons (.ty _) (.cons (.ty _) (.cons (.ty _) .nil)))), O.o, _, rfl, q _ ((s5.trans s6).trans (same_new hT))⟩
end
end K0

namespace K0
open PySem PySem.Spec PyProof.Rows L2
def fl (i : Nat) : Str := if i < 13 then "part" else if i < 18 then "value" else "paper"
/-- the classes of one field -/
structure Tx (P : Program) (w : World) (K : PySem.W.Frag) (mg : Str → Option Value) (base : Heap) (c : Nat → Addr) : Prop where
  t0 : Cl1 P w K mg base "BadNumber" "part" (c 0)
  t1 : Cl1 P w K mg base "BadRatio" "part" (c 1)
  t2 : Cl1 P w K mg base "BadTable" "part" (c 2)
  t3 : Cl1 P w K mg base "BadChart" "part" (c 3)
  t4 : Cl1 P w K mg base "BadBody" "part" (c 4)
  t5 : Cl1 P w K mg base "BadPicture" "part" (c 5)
  t6 : Cl1 P w K mg base "BadAlbum" "part" (c 6)
  t7 : Cl1 P w K mg base "BadTray" "part" (c 7)
  t8 : Cl1 P w K mg base "BadSaying" "part" (c 8)
  t9 : Cl1 P w K mg base "BadFact" "part" (c 9)
  t10 : Cl1 P w K mg base "BadPaper" "part" (c 10)
  t11 : Cl1 P w K mg base "BadDesk" "part" (c 11)
  t12 : Cl1 P w K mg base "Misfit" "part" (c 12)
  t13 : Cl1 P w K mg base "NoPin" "value" (c 13)
  t14 : Cl1 P w K mg base "NoPicture" "value" (c 14)
  t15 : Cl1 P w K mg base "NoFact" "value" (c 15)
  t16 : Cl1 P w K mg base "NoName" "value" (c 16)
  t17 : Cl1 P w K mg base "Twice" "value" (c 17)
  t18 : Cl1 P w K mg base "Impossible" "paper" (c 18)
/-- at these addresses: an error of each class from the i-th on -/
def Ers (c : Nat → Addr) (v : V) (H : Hp) : Nat → List Addr → Prop
  | _, [] => True
  | i, a :: as => Er H (c i) [(fl i, v)] a ∧ Ers c v H (i + 1) as
theorem Ers.same {c : Nat → Addr} {v : V} {H H' : Hp} (s : Same H H') : ∀ {i : Nat} {as : List Addr}, Ers c v H i as → Ers c v H' i as
  | _, [], _ => trivial
  | _, _ :: _, h => ⟨h.1.same s, Ers.same s h.2⟩
theorem Ers.app {c : Nat → Addr} {v : V} {H : Hp} : ∀ {i : Nat} {as bs : List Addr}, Ers c v H i as → Ers c v H (i + as.length) bs → Ers c v H i (as ++ bs)
  | _, [], _, _, h => h
  | i, a :: as, bs, h, k => ⟨h.1, Ers.app h.2 (by rw [show i + 1 + as.length = i + (a :: as).length by rw [List.length_cons]; omega]; exact k)⟩
theorem Ers.get {c : Nat → Addr} {v : V} {H : Hp} : ∀ {i j : Nat} {as : List Addr} {a : Addr}, Ers c v H i as → as[j]? = some a → Er H (c (i + j)) [(fl (i + j), v)] a
  | _, _, [], _, _, e => by simp at e
  | i, 0, b :: as, a, h, e => by
    have z : b = a := Option.some.inj e
    rw [← z]
    exact h.1
  | i, j + 1, b :: as, a, h, e => by
    have z := Ers.get (i := i + 1) (j := j) h.2 (by simpa using e)
    rw [show i + 1 + j = i + (j + 1) by omega] at z
    exact z
/-- a list of nineteen errors, one of each class -/
def MadeL (c : Nat → Addr) (v : V) (H : Hp) (l : Addr) : Prop := ∃ as : List Addr, as.length = 19 ∧ H l = some (.lst (as.map V.ref)) ∧ Ers c v H 0 as
theorem MadeL.same {c : Nat → Addr} {v : V} {H H' : Hp} {l : Addr} (h : MadeL c v H l) (s : Same H H') : MadeL c v H' l := let ⟨as, e, h1, h2⟩ := h; ⟨as, e, s _ _ h1, h2.same s⟩
section
variable {P : Program} {w : World} {K : PySem.W.Frag} {mg : Str → Option Value} {base : Heap} {c : Nat → Addr} {cM cS : Addr}
def spMade (c : Nat → Addr) : Sp := fun vs H Q _ => ∃ v : V, vs = [v] ∧ ∀ H' l, Same H H' → MadeL c v H' l → Q (.ref l) H'
abbrev nMade : List Str := ["_law_field_here", "_law_made"]
/-! ### _law_by_place -/
abbrev sBp : Stmt := top 31
theorem scbp : FnScope nMade ["_law_field_here"] (defScope sBp) := ⟨rfl, rfl, rfl, by decide +kernel, rfl, by decide +kernel, by decide +kernel⟩
theorem ok_bp {f : Addr} {fd : FuncData} (F : Fun K "_law_by_place" "_law_by_place" sBp f fd) (T : Tx P w K mg base c) : FnOk P w K mg base CX0 3 f fd ["_law_field_here"] (spMade c) := by
  have nd := scbp.nd
  refine F.ok scbp (fun vs H Q E h => ?_) (fun cdv A outer s H vs Q E hr h => ?_)
  · obtain ⟨v, rfl, _⟩ := h
    rfl
  · obtain ⟨v, rfl, q⟩ := h
    refine ⟨_, (pss_cons ((ps_set (i := 1) nd rfl (Or.inl rfl) ((pe_lst (pa_cons ((pe_n1 T.t0 (hr.mono (by decide)) rfl (pa_cons (pv 0) pa_nil))) (pa_cons ((pe_n1 T.t1 (hr.mono (by decide)) rfl (pa_cons (pv 0) pa_nil))) (pa_cons ((pe_n1 T.t2 (hr.mono (by decide)) rfl (pa_cons (pv 0) pa_nil))) (pa_cons ((pe_n1 T.t3 (hr.mono (by decide)) rfl (pa_cons (pv 0) pa_nil))) (pa_cons ((pe_n1 T.t4 (hr.mono (by decide)) rfl (pa_cons (pv 0) pa_nil))) (pa_cons ((pe_n1 T.t5 (hr.mono (by decide)) rfl (pa_cons (pv 0) pa_nil))) pa_nil)))))))))) (pss_cons ((ps_set (i := 1) nd rfl (Or.inl rfl) ((pe_op op_cat (pv 1) (pe_lst (pa_cons ((pe_n1 T.t6 (hr.mono (by decide)) rfl (pa_cons (pv 0) pa_nil))) (pa_cons ((pe_n1 T.t7 (hr.mono (by decide)) rfl (pa_cons (pv 0) pa_nil))) (pa_cons ((pe_n1 T.t8 (hr.mono (by decide)) rfl (pa_cons (pv 0) pa_nil))) (pa_cons ((pe_n1 T.t9 (hr.mono (by decide)) rfl (pa_cons (pv 0) pa_nil))) (pa_cons ((pe_n1 T.t10 (hr.mono (by decide)) rfl (pa_cons (pv 0) pa_nil))) (pa_cons ((pe_n1 T.t11 (hr.mono (by decide)) rfl (pa_cons (pv 0) pa_nil))) pa_nil))))))))))) (pss_cons ((ps_set (i := 1) nd rfl (Or.inl rfl) ((pe_op op_cat (pv 1) (pe_lst (pa_cons ((pe_n1 T.t12 (hr.mono (by decide)) rfl (pa_cons (pv 0) pa_nil))) (pa_cons ((pe_n1 T.t13 (hr.mono (by decide)) rfl (pa_cons (pv 0) pa_nil))) (pa_cons ((pe_n1 T.t14 (hr.mono (by decide)) rfl (pa_cons (pv 0) pa_nil))) (pa_cons ((pe_n1 T.t15 (hr.mono (by decide)) rfl (pa_cons (pv 0) pa_nil))) (pa_cons ((pe_n1 T.t16 (hr.mono (by decide)) rfl (pa_cons (pv 0) pa_nil))) (pa_cons ((pe_n1 T.t17 (hr.mono (by decide)) rfl (pa_cons (pv 0) pa_nil))) pa_nil))))))))))) (pss_cons ((ps_set (i := 1) nd rfl (Or.inl rfl) ((pe_op op_cat (pv 1) (pe_lst (pa_cons ((pe_n1 T.t18 (hr.mono (by decide)) rfl (pa_cons (pv 0) pa_nil))) pa_nil)))))) (pss_one (ps_ret (pv 1))))))), ?_⟩
    refine ⟨_, rfl, _, rfl, fun a0 H0 n0 s0 e0 => ?_⟩
    refine ⟨_, rfl, _, rfl, fun a1 H1 n1 s1 e1 => ?_⟩
    refine ⟨_, rfl, _, rfl, fun a2 H2 n2 s2 e2 => ?_⟩
    refine ⟨_, rfl, _, rfl, fun a3 H3 n3 s3 e3 => ?_⟩
    refine ⟨_, rfl, _, rfl, fun a4 H4 n4 s4 e4 => ?_⟩
    refine ⟨_, rfl, _, rfl, fun a5 H5 n5 s5 e5 => ?_⟩
    refine ⟨by show 6 ≤ sizeLine; decide, fun l0 g0 => ?_⟩
    have E0 : Ers c v H5 0 [a0, a1, a2, a3, a4, a5] := ⟨e0.same ((((s1.trans s2).trans s3).trans s4).trans s5), ⟨e1.same (((s2.trans s3).trans s4).trans s5), ⟨e2.same ((s3.trans s4).trans s5), ⟨e3.same (s4.trans s5), ⟨e4.same s5, ⟨e5, trivial⟩⟩⟩⟩⟩⟩
    have S0 : Same H H5 := (((((s0.trans s1).trans s2).trans s3).trans s4).trans s5)
    have X0 := same_new (o := .lst ([a0, a1, a2, a3, a4, a5].map V.ref)) g0
    have Y0 : upd H5 l0 (.lst ([a0, a1, a2, a3, a4, a5].map V.ref)) l0 = some (.lst ([a0, a1, a2, a3, a4, a5].map V.ref)) := upd_same
    have D0 : upd H5 l0 (.lst [V.ref a0, V.ref a1, V.ref a2, V.ref a3, V.ref a4, V.ref a5]) = upd H5 l0 (.lst ([a0, a1, a2, a3, a4, a5].map V.ref)) := rfl
    rw [D0]
    generalize upd H5 l0 (.lst ([a0, a1, a2, a3, a4, a5].map V.ref)) = G0 at X0 Y0 ⊢
    have E0 := E0.same X0
    have S0 := S0.trans X0
    have TT := E0
    have TS := S0
    have TY := Y0
    refine ⟨_, rfl, ?_⟩
    refine ⟨_, rfl, _, rfl, fun a6 H6 n6 s6 e6 => ?_⟩
    refine ⟨_, rfl, _, rfl, fun a7 H7 n7 s7 e7 => ?_⟩
    refine ⟨_, rfl, _, rfl, fun a8 H8 n8 s8 e8 => ?_⟩
    refine ⟨_, rfl, _, rfl, fun a9 H9 n9 s9 e9 => ?_⟩
    refine ⟨_, rfl, _, rfl, fun a10 H10 n10 s10 e10 => ?_⟩
    refine ⟨_, rfl, _, rfl, fun a11 H11 n11 s11 e11 => ?_⟩
    refine ⟨by show 6 ≤ sizeLine; decide, fun l1 g1 => ?_⟩
    have E1 : Ers c v H11 6 [a6, a7, a8, a9, a10, a11] := ⟨e6.same ((((s7.trans s8).trans s9).trans s10).trans s11), ⟨e7.same (((s8.trans s9).trans s10).trans s11), ⟨e8.same ((s9.trans s10).trans s11), ⟨e9.same (s10.trans s11), ⟨e10.same s11, ⟨e11, trivial⟩⟩⟩⟩⟩⟩
    have S1 : Same G0 H11 := (((((s6.trans s7).trans s8).trans s9).trans s10).trans s11)
    have X1 := same_new (o := .lst ([a6, a7, a8, a9, a10, a11].map V.ref)) g1
    have Y1 : upd H11 l1 (.lst ([a6, a7, a8, a9, a10, a11].map V.ref)) l1 = some (.lst ([a6, a7, a8, a9, a10, a11].map V.ref)) := upd_same
    have D1 : upd H11 l1 (.lst [V.ref a6, V.ref a7, V.ref a8, V.ref a9, V.ref a10, V.ref a11]) = upd H11 l1 (.lst ([a6, a7, a8, a9, a10, a11].map V.ref)) := rfl
    rw [D1]
    generalize upd H11 l1 (.lst ([a6, a7, a8, a9, a10, a11].map V.ref)) = G1 at X1 Y1 ⊢
    have E1 := E1.same X1
    have S1 := S1.trans X1
    have TT := (TT.same S1).app E1
    have TY := S1 _ _ TY
    have TS := TS.trans S1
    refine ⟨_, _, _, _, rfl, rfl, TY, Y1, by show 12 ≤ sizeLine; decide, fun m1 k1 => ?_⟩
    have C1 : upd G1 m1 (.lst ([a0, a1, a2, a3, a4, a5].map V.ref ++ [a6, a7, a8, a9, a10, a11].map V.ref)) = upd G1 m1 (.lst (([a0, a1, a2, a3, a4, a5] ++ [a6, a7, a8, a9, a10, a11]).map V.ref)) := rfl
    rw [C1]
    have X1 := same_new (o := .lst (([a0, a1, a2, a3, a4, a5] ++ [a6, a7, a8, a9, a10, a11]).map V.ref)) k1
    have TY : upd G1 m1 (.lst (([a0, a1, a2, a3, a4, a5] ++ [a6, a7, a8, a9, a10, a11]).map V.ref)) m1 = some (.lst (([a0, a1, a2, a3, a4, a5] ++ [a6, a7, a8, a9, a10, a11]).map V.ref)) := upd_same
    generalize upd G1 m1 (.lst (([a0, a1, a2, a3, a4, a5] ++ [a6, a7, a8, a9, a10, a11]).map V.ref)) = K1 at X1 TY ⊢
    have TT := TT.same X1
    have TS := TS.trans X1
    refine ⟨_, rfl, ?_⟩
    refine ⟨_, rfl, _, rfl, fun a12 H12 n12 s12 e12 => ?_⟩
    refine ⟨_, rfl, _, rfl, fun a13 H13 n13 s13 e13 => ?_⟩
    refine ⟨_, rfl, _, rfl, fun a14 H14 n14 s14 e14 => ?_⟩
    refine ⟨_, rfl, _, rfl, fun a15 H15 n15 s15 e15 => ?_⟩
    refine ⟨_, rfl, _, rfl, fun a16 H16 n16 s16 e16 => ?_⟩
    refine ⟨_, rfl, _, rfl, fun a17 H17 n17 s17 e17 => ?_⟩
    refine ⟨by show 6 ≤ sizeLine; decide, fun l2 g2 => ?_⟩
    have E2 : Ers c v H17 12 [a12, a13, a14, a15, a16, a17] := ⟨e12.same ((((s13.trans s14).trans s15).trans s16).trans s17), ⟨e13.same (((s14.trans s15).trans s16).trans s17), ⟨e14.same ((s15.trans s16).trans s17), ⟨e15.same (s16.trans s17), ⟨e16.same s17, ⟨e17, trivial⟩⟩⟩⟩⟩⟩
    have S2 : Same K1 H17 := (((((s12.trans s13).trans s14).trans s15).trans s16).trans s17)
    have X2 := same_new (o := .lst ([a12, a13, a14, a15, a16, a17].map V.ref)) g2
    have Y2 : upd H17 l2 (.lst ([a12, a13, a14, a15, a16, a17].map V.ref)) l2 = some (.lst ([a12, a13, a14, a15, a16, a17].map V.ref)) := upd_same
    have D2 : upd H17 l2 (.lst [V.ref a12, V.ref a13, V.ref a14, V.ref a15, V.ref a16, V.ref a17]) = upd H17 l2 (.lst ([a12, a13, a14, a15, a16, a17].map V.ref)) := rfl
    rw [D2]
    generalize upd H17 l2 (.lst ([a12, a13, a14, a15, a16, a17].map V.ref)) = G2 at X2 Y2 ⊢
    have E2 := E2.same X2
    have S2 := S2.trans X2
    have TT := (TT.same S2).app E2
    have TY := S2 _ _ TY
    have TS := TS.trans S2
    refine ⟨_, _, _, _, rfl, rfl, TY, Y2, by show 18 ≤ sizeLine; decide, fun m2 k2 => ?_⟩
    have C2 : upd G2 m2 (.lst (([a0, a1, a2, a3, a4, a5] ++ [a6, a7, a8, a9, a10, a11]).map V.ref ++ [a12, a13, a14, a15, a16, a17].map V.ref)) = upd G2 m2 (.lst ((([a0, a1, a2, a3, a4, a5] ++ [a6, a7, a8, a9, a10, a11]) ++ [a12, a13, a14, a15, a16, a17]).map V.ref)) := rfl
    rw [C2]
    have X2 := same_new (o := .lst ((([a0, a1, a2, a3, a4, a5] ++ [a6, a7, a8, a9, a10, a11]) ++ [a12, a13, a14, a15, a16, a17]).map V.ref)) k2
    have TY : upd G2 m2 (.lst ((([a0, a1, a2, a3, a4, a5] ++ [a6, a7, a8, a9, a10, a11]) ++ [a12, a13, a14, a15, a16, a17]).map V.ref)) m2 = some (.lst ((([a0, a1, a2, a3, a4, a5] ++ [a6, a7, a8, a9, a10, a11]) ++ [a12, a13, a14, a15, a16, a17]).map V.ref)) := upd_same
    generalize upd G2 m2 (.lst ((([a0, a1, a2, a3, a4, a5] ++ [a6, a7, a8, a9, a10, a11]) ++ [a12, a13, a14, a15, a16, a17]).map V.ref)) = K2 at X2 TY ⊢
    have TT := TT.same X2
    have TS := TS.trans X2
    refine ⟨_, rfl, ?_⟩
    refine ⟨_, rfl, _, rfl, fun a18 H18 n18 s18 e18 => ?_⟩
    refine ⟨by show 1 ≤ sizeLine; decide, fun l3 g3 => ?_⟩
    have E3 : Ers c v H18 18 [a18] := ⟨e18, trivial⟩
    have S3 : Same K2 H18 := s18
    have X3 := same_new (o := .lst ([a18].map V.ref)) g3
    have Y3 : upd H18 l3 (.lst ([a18].map V.ref)) l3 = some (.lst ([a18].map V.ref)) := upd_same
    have D3 : upd H18 l3 (.lst [V.ref a18]) = upd H18 l3 (.lst ([a18].map V.ref)) := rfl
    rw [D3]
    generalize upd H18 l3 (.lst ([a18].map V.ref)) = G3 at X3 Y3 ⊢
    have E3 := E3.same X3
    have S3 := S3.trans X3
    have TT := (TT.same S3).app E3
    have TY := S3 _ _ TY
    have TS := TS.trans S3
    refine ⟨_, _, _, _, rfl, rfl, TY, Y3, by show 19 ≤ sizeLine; decide, fun m3 k3 => ?_⟩
    have C3 : upd G3 m3 (.lst ((([a0, a1, a2, a3, a4, a5] ++ [a6, a7, a8, a9, a10, a11]) ++ [a12, a13, a14, a15, a16, a17]).map V.ref ++ [a18].map V.ref)) = upd G3 m3 (.lst (((([a0, a1, a2, a3, a4, a5] ++ [a6, a7, a8, a9, a10, a11]) ++ [a12, a13, a14, a15, a16, a17]) ++ [a18]).map V.ref)) := rfl
    rw [C3]
    have X3 := same_new (o := .lst (((([a0, a1, a2, a3, a4, a5] ++ [a6, a7, a8, a9, a10, a11]) ++ [a12, a13, a14, a15, a16, a17]) ++ [a18]).map V.ref)) k3
    have TY : upd G3 m3 (.lst (((([a0, a1, a2, a3, a4, a5] ++ [a6, a7, a8, a9, a10, a11]) ++ [a12, a13, a14, a15, a16, a17]) ++ [a18]).map V.ref)) m3 = some (.lst (((([a0, a1, a2, a3, a4, a5] ++ [a6, a7, a8, a9, a10, a11]) ++ [a12, a13, a14, a15, a16, a17]) ++ [a18]).map V.ref)) := upd_same
    generalize upd G3 m3 (.lst (((([a0, a1, a2, a3, a4, a5] ++ [a6, a7, a8, a9, a10, a11]) ++ [a12, a13, a14, a15, a16, a17]) ++ [a18]).map V.ref)) = K3 at X3 TY ⊢
    have TT := TT.same X3
    have TS := TS.trans X3
    exact ⟨_, rfl, q _ _ TS ⟨_, rfl, TY, TT⟩⟩
/-! ### _law_by_name -/
abbrev sBn : Stmt := top 32
theorem scbn : FnScope nMade ["_law_field_here"] (defScope sBn) := ⟨rfl, rfl, rfl, by decide +kernel, rfl, by decide +kernel, by decide +kernel⟩
theorem ok_bn {f : Addr} {fd : FuncData} (F : Fun K "_law_by_name" "_law_by_name" sBn f fd) (T : Tx P w K mg base c) : FnOk P w K mg base CX0 3 f fd ["_law_field_here"] (spMade c) := by
  have nd := scbn.nd
  refine F.ok scbn (fun vs H Q E h => ?_) (fun cdv A outer s H vs Q E hr h => ?_)
  · obtain ⟨v, rfl, _⟩ := h
    rfl
  · obtain ⟨v, rfl, q⟩ := h
    refine ⟨_, (pss_cons ((ps_set (i := 1) nd rfl (Or.inl rfl) ((pe_lst (pa_cons ((pe_n1K T.t0 (hr.mono (by decide)) rfl (pk_cons (pv 0) pk_nil))) (pa_cons ((pe_n1K T.t1 (hr.mono (by decide)) rfl (pk_cons (pv 0) pk_nil))) (pa_cons ((pe_n1K T.t2 (hr.mono (by decide)) rfl (pk_cons (pv 0) pk_nil))) (pa_cons ((pe_n1K T.t3 (hr.mono (by decide)) rfl (pk_cons (pv 0) pk_nil))) pa_nil)))))))) (pss_cons ((ps_set (i := 1) nd rfl (Or.inl rfl) ((pe_op op_cat (pv 1) (pe_lst (pa_cons ((pe_n1K T.t4 (hr.mono (by decide)) rfl (pk_cons (pv 0) pk_nil))) (pa_cons ((pe_n1K T.t5 (hr.mono (by decide)) rfl (pk_cons (pv 0) pk_nil))) (pa_cons ((pe_n1K T.t6 (hr.mono (by decide)) rfl (pk_cons (pv 0) pk_nil))) (pa_cons ((pe_n1K T.t7 (hr.mono (by decide)) rfl (pk_cons (pv 0) pk_nil))) pa_nil))))))))) (pss_cons ((ps_set (i := 1) nd rfl (Or.inl rfl) ((pe_op op_cat (pv 1) (pe_lst (pa_cons ((pe_n1K T.t8 (hr.mono (by decide)) rfl (pk_cons (pv 0) pk_nil))) (pa_cons ((pe_n1K T.t9 (hr.mono (by decide)) rfl (pk_cons (pv 0) pk_nil))) (pa_cons ((pe_n1K T.t10 (hr.mono (by decide)) rfl (pk_cons (pv 0) pk_nil))) (pa_cons ((pe_n1K T.t11 (hr.mono (by decide)) rfl (pk_cons (pv 0) pk_nil))) pa_nil))))))))) (pss_cons ((ps_set (i := 1) nd rfl (Or.inl rfl) ((pe_op op_cat (pv 1) (pe_lst (pa_cons ((pe_n1K T.t12 (hr.mono (by decide)) rfl (pk_cons (pv 0) pk_nil))) (pa_cons ((pe_n1K T.t13 (hr.mono (by decide)) rfl (pk_cons (pv 0) pk_nil))) (pa_cons ((pe_n1K T.t14 (hr.mono (by decide)) rfl (pk_cons (pv 0) pk_nil))) (pa_cons ((pe_n1K T.t15 (hr.mono (by decide)) rfl (pk_cons (pv 0) pk_nil))) pa_nil))))))))) (pss_cons ((ps_set (i := 1) nd rfl (Or.inl rfl) ((pe_op op_cat (pv 1) (pe_lst (pa_cons ((pe_n1K T.t16 (hr.mono (by decide)) rfl (pk_cons (pv 0) pk_nil))) (pa_cons ((pe_n1K T.t17 (hr.mono (by decide)) rfl (pk_cons (pv 0) pk_nil))) (pa_cons ((pe_n1K T.t18 (hr.mono (by decide)) rfl (pk_cons (pv 0) pk_nil))) pa_nil)))))))) (pss_one (ps_ret (pv 1)))))))), ?_⟩
    refine ⟨_, rfl, _, rfl, fun a0 H0 n0 s0 e0 => ?_⟩
    refine ⟨_, rfl, _, rfl, fun a1 H1 n1 s1 e1 => ?_⟩
    refine ⟨_, rfl, _, rfl, fun a2 H2 n2 s2 e2 => ?_⟩
    refine ⟨_, rfl, _, rfl, fun a3 H3 n3 s3 e3 => ?_⟩
    refine ⟨by show 4 ≤ sizeLine; decide, fun l0 g0 => ?_⟩
    have E0 : Ers c v H3 0 [a0, a1, a2, a3] := ⟨e0.same ((s1.trans s2).trans s3), ⟨e1.same (s2.trans s3), ⟨e2.same s3, ⟨e3, trivial⟩⟩⟩⟩
    have S0 : Same H H3 := (((s0.trans s1).trans s2).trans s3)
    have X0 := same_new (o := .lst ([a0, a1, a2, a3].map V.ref)) g0
    have Y0 : upd H3 l0 (.lst ([a0, a1, a2, a3].map V.ref)) l0 = some (.lst ([a0, a1, a2, a3].map V.ref)) := upd_same
    have D0 : upd H3 l0 (.lst [V.ref a0, V.ref a1, V.ref a2, V.ref a3]) = upd H3 l0 (.lst ([a0, a1, a2, a3].map V.ref)) := rfl
    rw [D0]
    generalize upd H3 l0 (.lst ([a0, a1, a2, a3].map V.ref)) = G0 at X0 Y0 ⊢
    have E0 := E0.same X0
    have S0 := S0.trans X0
    have TT := E0
    have TS := S0
    have TY := Y0
    refine ⟨_, rfl, ?_⟩
    refine ⟨_, rfl, _, rfl, fun a4 H4 n4 s4 e4 => ?_⟩
    refine ⟨_, rfl, _, rfl, fun a5 H5 n5 s5 e5 => ?_⟩
    refine ⟨_, rfl, _, rfl, fun a6 H6 n6 s6 e6 => ?_⟩
    refine ⟨_, rfl, _, rfl, fun a7 H7 n7 s7 e7 => ?_⟩
    refine ⟨by show 4 ≤ sizeLine; decide, fun l1 g1 => ?_⟩
    have E1 : Ers c v H7 4 [a4, a5, a6, a7] := ⟨e4.same ((s5.trans s6).trans s7), ⟨e5.same (s6.trans s7), ⟨e6.same s7, ⟨e7, trivial⟩⟩⟩⟩
    have S1 : Same G0 H7 := (((s4.trans s5).trans s6).trans s7)
    have X1 := same_new (o := .lst ([a4, a5, a6, a7].map V.ref)) g1
    have Y1 : upd H7 l1 (.lst ([a4, a5, a6, a7].map V.ref)) l1 = some (.lst ([a4, a5, a6, a7].map V.ref)) := upd_same
    have D1 : upd H7 l1 (.lst [V.ref a4, V.ref a5, V.ref a6, V.ref a7]) = upd H7 l1 (.lst ([a4, a5, a6, a7].map V.ref)) := rfl
    rw [D1]
    generalize upd H7 l1 (.lst ([a4, a5, a6, a7].map V.ref)) = G1 at X1 Y1 ⊢
    have E1 := E1.same X1
    have S1 := S1.trans X1
    have TT := (TT.same S1).app E1
    have TY := S1 _ _ TY
    have TS := TS.trans S1
    refine ⟨_, _, _, _, rfl, rfl, TY, Y1, by show 8 ≤ sizeLine; decide, fun m1 k1 => ?_⟩
    have C1 : upd G1 m1 (.lst ([a0, a1, a2, a3].map V.ref ++ [a4, a5, a6, a7].map V.ref)) = upd G1 m1 (.lst (([a0, a1, a2, a3] ++ [a4, a5, a6, a7]).map V.ref)) := rfl
    rw [C1]
    have X1 := same_new (o := .lst (([a0, a1, a2, a3] ++ [a4, a5, a6, a7]).map V.ref)) k1
    have TY : upd G1 m1 (.lst (([a0, a1, a2, a3] ++ [a4, a5, a6, a7]).map V.ref)) m1 = some (.lst (([a0, a1, a2, a3] ++ [a4, a5, a6, a7]).map V.ref)) := upd_same
    generalize upd G1 m1 (.lst (([a0, a1, a2, a3] ++ [a4, a5, a6, a7]).map V.ref)) = K1 at X1 TY ⊢
    have TT := TT.same X1
    have TS := TS.trans X1
    refine ⟨_, rfl, ?_⟩
    refine ⟨_, rfl, _, rfl, fun a8 H8 n8 s8 e8 => ?_⟩
    refine ⟨_, rfl, _, rfl, fun a9 H9 n9 s9 e9 => ?_⟩
    refine ⟨_, rfl, _, rfl, fun a10 H10 n10 s10 e10 => ?_⟩
    refine ⟨_, rfl, _, rfl, fun a11 H11 n11 s11 e11 => ?_⟩
    refine ⟨by show 4 ≤ sizeLine; decide, fun l2 g2 => ?_⟩
    have E2 : Ers c v H11 8 [a8, a9, a10, a11] := ⟨e8.same ((s9.trans s10).trans s11), ⟨e9.same (s10.trans s11), ⟨e10.same s11, ⟨e11, trivial⟩⟩⟩⟩
    have S2 : Same K1 H11 := (((s8.trans s9).trans s10).trans s11)
    have X2 := same_new (o := .lst ([a8, a9, a10, a11].map V.ref)) g2
    have Y2 : upd H11 l2 (.lst ([a8, a9, a10, a11].map V.ref)) l2 = some (.lst ([a8, a9, a10, a11].map V.ref)) := upd_same
    have D2 : upd H11 l2 (.lst [V.ref a8, V.ref a9, V.ref a10, V.ref a11]) = upd H11 l2 (.lst ([a8, a9, a10, a11].map V.ref)) := rfl
    rw [D2]
    generalize upd H11 l2 (.lst ([a8, a9, a10, a11].map V.ref)) = G2 at X2 Y2 ⊢
    have E2 := E2.same X2
    have S2 := S2.trans X2
    have TT := (TT.same S2).app E2
    have TY := S2 _ _ TY
    have TS := TS.trans S2
    refine ⟨_, _, _, _, rfl, rfl, TY, Y2, by show 12 ≤ sizeLine; decide, fun m2 k2 => ?_⟩
    have C2 : upd G2 m2 (.lst (([a0, a1, a2, a3] ++ [a4, a5, a6, a7]).map V.ref ++ [a8, a9, a10, a11].map V.ref)) = upd G2 m2 (.lst ((([a0, a1, a2, a3] ++ [a4, a5, a6, a7]) ++ [a8, a9, a10, a11]).map V.ref)) := rfl
    rw [C2]
    have X2 := same_new (o := .lst ((([a0, a1, a2, a3] ++ [a4, a5, a6, a7]) ++ [a8, a9, a10, a11]).map V.ref)) k2
    have TY : upd G2 m2 (.lst ((([a0, a1, a2, a3] ++ [a4, a5, a6, a7]) ++ [a8, a9, a10, a11]).map V.ref)) m2 = some (.lst ((([a0, a1, a2, a3] ++ [a4, a5, a6, a7]) ++ [a8, a9, a10, a11]).map V.ref)) := upd_same
    generalize upd G2 m2 (.lst ((([a0, a1, a2, a3] ++ [a4, a5, a6, a7]) ++ [a8, a9, a10, a11]).map V.ref)) = K2 at X2 TY ⊢
    have TT := TT.same X2
    have TS := TS.trans X2
    refine ⟨_, rfl, ?_⟩
    refine ⟨_, rfl, _, rfl, fun a12 H12 n12 s12 e12 => ?_⟩
    refine ⟨_, rfl, _, rfl, fun a13 H13 n13 s13 e13 => ?_⟩
    refine ⟨_, rfl, _, rfl, fun a14 H14 n14 s14 e14 => ?_⟩
    refine ⟨_, rfl, _, rfl, fun a15 H15 n15 s15 e15 => ?_⟩
    refine ⟨by show 4 ≤ sizeLine; decide, fun l3 g3 => ?_⟩
    have E3 : Ers c v H15 12 [a12, a13, a14, a15] := ⟨e12.same ((s13.trans s14).trans s15), ⟨e13.same (s14.trans s15), ⟨e14.same s15, ⟨e15, trivial⟩⟩⟩⟩
    have S3 : Same K2 H15 := (((s12.trans s13).trans s14).trans s15)
    have X3 := same_new (o := .lst ([a12, a13, a14, a15].map V.ref)) g3
    have Y3 : upd H15 l3 (.lst ([a12, a13, a14, a15].map V.ref)) l3 = some (.lst ([a12, a13, a14, a15].map V.ref)) := upd_same
    have D3 : upd H15 l3 (.lst [V.ref a12, V.ref a13, V.ref a14, V.ref a15]) = upd H15 l3 (.lst ([a12, a13, a14, a15].map V.ref)) := rfl
    rw [D3]
    generalize upd H15 l3 (.lst ([a12, a13, a14, a15].map V.ref)) = G3 at X3 Y3 ⊢
    have E3 := E3.same X3
    have S3 := S3.trans X3
    have TT := (TT.same S3).app E3
    have TY := S3 _ _ TY
    have TS := TS.trans S3
    refine ⟨_, _, _, _, rfl, rfl, TY, Y3, by show 16 ≤ sizeLine; decide, fun m3 k3 => ?_⟩
    have C3 : upd G3 m3 (.lst ((([a0, a1, a2, a3] ++ [a4, a5, a6, a7]) ++ [a8, a9, a10, a11]).map V.ref ++ [a12, a13, a14, a15].map V.ref)) = upd G3 m3 (.lst (((([a0, a1, a2, a3] ++ [a4, a5, a6, a7]) ++ [a8, a9, a10, a11]) ++ [a12, a13, a14, a15]).map V.ref)) := rfl
    rw [C3]
    have X3 := same_new (o := .lst (((([a0, a1, a2, a3] ++ [a4, a5, a6, a7]) ++ [a8, a9, a10, a11]) ++ [a12, a13, a14, a15]).map V.ref)) k3
    have TY : upd G3 m3 (.lst (((([a0, a1, a2, a3] ++ [a4, a5, a6, a7]) ++ [a8, a9, a10, a11]) ++ [a12, a13, a14, a15]).map V.ref)) m3 = some (.lst (((([a0, a1, a2, a3] ++ [a4, a5, a6, a7]) ++ [a8, a9, a10, a11]) ++ [a12, a13, a14, a15]).map V.ref)) := upd_same
    generalize upd G3 m3 (.lst (((([a0, a1, a2, a3] ++ [a4, a5, a6, a7]) ++ [a8, a9, a10, a11]) ++ [a12, a13, a14, a15]).map V.ref)) = K3 at X3 TY ⊢
    have TT := TT.same X3
    have TS := TS.trans X3
    refine ⟨_, rfl, ?_⟩
    refine ⟨_, rfl, _, rfl, fun a16 H16 n16 s16 e16 => ?_⟩
    refine ⟨_, rfl, _, rfl, fun a17 H17 n17 s17 e17 => ?_⟩
    refine ⟨_, rfl, _, rfl, fun a18 H18 n18 s18 e18 => ?_⟩
    refine ⟨by show 3 ≤ sizeLine; decide, fun l4 g4 => ?_⟩
    have E4 : Ers c v H18 16 [a16, a17, a18] := ⟨e16.same (s17.trans s18), ⟨e17.same s18, ⟨e18, trivial⟩⟩⟩
    have S4 : Same K3 H18 := ((s16.trans s17).trans s18)
    have X4 := same_new (o := .lst ([a16, a17, a18].map V.ref)) g4
    have Y4 : upd H18 l4 (.lst ([a16, a17, a18].map V.ref)) l4 = some (.lst ([a16, a17, a18].map V.ref)) := upd_same
    have D4 : upd H18 l4 (.lst [V.ref a16, V.ref a17, V.ref a18]) = upd H18 l4 (.lst ([a16, a17, a18].map V.ref)) := rfl
    rw [D4]
    generalize upd H18 l4 (.lst ([a16, a17, a18].map V.ref)) = G4 at X4 Y4 ⊢
    have E4 := E4.same X4
    have S4 := S4.trans X4
    have TT := (TT.same S4).app E4
    have TY := S4 _ _ TY
    have TS := TS.trans S4
    refine ⟨_, _, _, _, rfl, rfl, TY, Y4, by show 19 ≤ sizeLine; decide, fun m4 k4 => ?_⟩
    have C4 : upd G4 m4 (.lst (((([a0, a1, a2, a3] ++ [a4, a5, a6, a7]) ++ [a8, a9, a10, a11]) ++ [a12, a13, a14, a15]).map V.ref ++ [a16, a17, a18].map V.ref)) = upd G4 m4 (.lst ((((([a0, a1, a2, a3] ++ [a4, a5, a6, a7]) ++ [a8, a9, a10, a11]) ++ [a12, a13, a14, a15]) ++ [a16, a17, a18]).map V.ref)) := rfl
    rw [C4]
    have X4 := same_new (o := .lst ((((([a0, a1, a2, a3] ++ [a4, a5, a6, a7]) ++ [a8, a9, a10, a11]) ++ [a12, a13, a14, a15]) ++ [a16, a17, a18]).map V.ref)) k4
    have TY : upd G4 m4 (.lst ((((([a0, a1, a2, a3] ++ [a4, a5, a6, a7]) ++ [a8, a9, a10, a11]) ++ [a12, a13, a14, a15]) ++ [a16, a17, a18]).map V.ref)) m4 = some (.lst ((((([a0, a1, a2, a3] ++ [a4, a5, a6, a7]) ++ [a8, a9, a10, a11]) ++ [a12, a13, a14, a15]) ++ [a16, a17, a18]).map V.ref)) := upd_same
    generalize upd G4 m4 (.lst ((((([a0, a1, a2, a3] ++ [a4, a5, a6, a7]) ++ [a8, a9, a10, a11]) ++ [a12, a13, a14, a15]) ++ [a16, a17, a18]).map V.ref)) = K4 at X4 TY ⊢
    have TT := TT.same X4
    have TS := TS.trans X4
    exact ⟨_, rfl, q _ _ TS ⟨_, rfl, TY, TT⟩⟩
/-! ### _law_kept -/
def spKept (K : PySem.W.Frag) : Sp := fun vs H Q _ => ∃ (a C : Addr) (v : V) (n : Nat), vs = [.ref a, .int n] ∧ Er H C [(fl n, v)] a ∧ Ec K C ∧ PySem.W.findIn K (.ref C) (fl n) = some none ∧ n < 19 ∧ Q v H
abbrev sKept : Stmt := top 33
theorem scKept : FnScope ["_law_error", "_law_number"] ["_law_error", "_law_number"] (defScope sKept) := ⟨rfl, rfl, rfl, by decide +kernel, rfl, by decide +kernel, by decide +kernel⟩
theorem look_one {f : Str} {v : V} : [(f, v)].lookup f = some v := by simp [List.lookup]
theorem ok_kept {f : Addr} {fd : FuncData} (F : Fun K "_law_kept" "_law_kept" sKept f fd) : FnOk P w K mg base CX0 1 f fd ["_law_error", "_law_number"] (spKept K) := by
  refine F.ok scKept (fun vs H Q E h => ?_) (fun cdv A outer s H vs Q E hr h => ?_)
  · obtain ⟨a, C, v, n, rfl, _⟩ := h
    rfl
  · obtain ⟨a, C, v, n, rfl, er, ec, no, hn, q⟩ := h
    refine ⟨_, (pss_cons (ps_if (pt_cmpR op_lt (pv 1) pe_int (nomark _)) (pss_one (ps_ret (pe_ef (pv 0)))) pss_nil) (pss_one (ps_ret (pe_ifExp (pt_cmpR op_lt (pv 1) pe_int (nomark _)) (pe_ef (pv 0)) (pe_ef (pv 0)))))), ?_⟩
    refine ⟨_, rfl, _, _, rfl, rfl, _, rfl, ?_⟩
    by_cases h1 : n < 13
    · have e : fl n = "part" := if_pos h1
      rw [decide_eq_true (show (n : Int) < 13 by omega)]
      rw [e] at er no
      exact iteT ⟨_, rfl, a, C, _, v, rfl, er, ec, no, look_one, q⟩
    · rw [decide_eq_false (show ¬ (n : Int) < 13 by omega)]
      refine iteF ⟨_, rfl, _, _, rfl, rfl, _, rfl, ?_⟩
      by_cases h2 : n < 18
      · have e : fl n = "value" := (if_neg h1).trans (if_pos h2)
        rw [decide_eq_true (show (n : Int) < 18 by omega)]
        rw [e] at er no
        exact iteT ⟨_, rfl, a, C, _, v, rfl, er, ec, no, look_one, q⟩
      · have e : fl n = "paper" := (if_neg h1).trans (if_neg h2)
        rw [decide_eq_false (show ¬ (n : Int) < 18 by omega)]
        rw [e] at er no
        exact iteF ⟨_, rfl, a, C, _, v, rfl, er, ec, no, look_one, q⟩
end
end K0

namespace K0
open PySem PySem.Spec PyProof.Rows L2
/-! ### what equals itself -/
section
variable {prog : Program} {w : World} {A : Around} {E : Value → Shared → Prop} {h : Heap} {g : Array GenState} {d : Drawn} {t : Nat} {os : OsState} {K : PySem.W.Frag} {x C : Addr} {ob : Obj} {od : Option Obj}
theorem eq_self (Y : K.In h) (J : PySem.W.InstAt h x ob C od) (T : Ec K C) (hu : A.units < cLine) {Q : Value → Shared → Prop} (fin : Q (.bool true) ⟨h, g, d, t, os⟩) :
    wpAny (model prog w) A (richCompare .Eq (.ref x) (.ref x)) Q E ⟨h, g, d, t, os⟩ := by
  have isO : PySem.W.Looks (model prog w) h (isInstance (.ref x) (.type "object")) true := J.type.andThen (PySem.W.looks_mroIn Y T.ex.hm)
  have tryDone : ∀ {Q : Option Value → Shared → Prop}, Q (some (.bool true)) ⟨h, g, d, t, os⟩ → wpAny (model prog w) A (tryCompare (.ref x) "__eq__" (.ref x)) Q E ⟨h, g, d, t, os⟩ := fun {Q} q => by
    simp only [tryCompare]
    refine wpAny_bind (special_in Y J T.eq F.cmp_object.eq (wpAny_call (codeAny_call_builtin F.cmp_object.eq.plain F.cmpEntry_eq (PySem.W.check_slot F.cmpKind_eq F.cmpSplit_eq isO (F.cmpArgs_eq _ _) (objEq_entry_same ?_)))))
    exact wpAny_pure q
  simp only [richCompare, cmpInfo_Eq, oneThing_ref]
  refine wpAny_holding (wpAny_bind (wpAny_cRoomFor hu ?_))
  refine wpAny_bind (J.type.at (wpAny_bind (J.type.at ?_)))
  rw [show (Value.ref C != Value.ref C) = false from by simp]
  simp only [Bool.false_eq_true, if_false]
  refine wpAny_bind (wpAny_pure ?_)
  simp only [Bool.false_eq_true, if_false]
  refine wpAny_bind (tryDone ?_)
  first | exact wpAny_pure fin | exact wpAny_pure (wpAny_pure fin)
end
def rEqS (K : PySem.W.Frag) : R2 := fun x y H Q => x = y ∧ Sv K H x ∧ Q (.bl true) H
section
variable {X : Cx}
theorem op_eqS (hu : X.A.units + 64 < cLine) : OpR X (compareOp .Eq) (rEqS X.K) := by
  intro pins s σ H x y v u Q I rx ry h
  obtain ⟨rfl, k, q⟩ := h
  cases k with
  | non => exact op_eq pins s σ H _ _ v u Q I rx ry ⟨rfl, q⟩
  | bl b => exact op_eq pins s σ H _ _ v u Q I rx ry ⟨rfl, by rw [decide_eq_true rfl]; exact q⟩
  | int i => exact op_eq pins s σ H _ _ v u Q I rx ry ⟨rfl, by rw [decide_eq_true rfl]; exact q⟩
  | str z => exact op_eq pins s σ H _ _ v u Q I rx ry ⟨rfl, by rw [decide_eq_true rfl]; exact q⟩
  | @lst a xs e =>
    obtain rfl : v = Value.ref a := rx
    obtain rfl : u = Value.ref a := ry
    obtain ⟨its, r, p, _⟩ := I.list (SqL.of e)
    refine SeqAt.RcAt.lists (e := fun _ => true) p.isList p.isList rfl (by omega) (fun j h1 h2 => SeqAt.EqAt.same _) X.prog X.w _ _ ?_
    rw [all_true]
    exact ⟨.bl true, H, I, rfl, q⟩
  | @tup a xs e =>
    obtain rfl : v = Value.ref a := rx
    obtain rfl : u = Value.ref a := ry
    obtain ⟨its, r, p, _⟩ := I.tuple (SqT.of e)
    refine SeqAt.RcAt.tuples (e := fun _ => true) p p (by omega) (fun j h1 h2 => SeqAt.EqAt.same _) X.prog X.w _ _ ?_
    rw [all_true, Bool.true_and, beq_self_eq_true]
    exact ⟨.bl true, H, I, rfl, q⟩
  | @dK a key val e =>
    obtain rfl : v = Value.ref a := rx
    obtain rfl : u = Value.ref a := ry
    obtain ⟨_, ya, va, ra, da⟩ := (show ObjOk X.prog X.w H s.heap a (.dK [(key, val)]) from I.hok a _ e)
    obtain ⟨k2, u2, rfl⟩ : ∃ k2 u2, va = [(k2, u2)] := by
      match va, ra with
      | [(k2, u2)], _ => exact ⟨k2, u2, rfl⟩
      | [], ra => cases ra
      | _ :: _ :: _, ra =>
        cases ra with
        | cons _ z => cases z
    refine PySem.W.keq_eq (knd := mixKind X.prog X.w) (r := true && true) ya ya da da (by omega) (fun _ => .hit (y := u2) ?_ (SeqAt.EqAt.same _) .nil) (fin_bl I q (by rfl))
    cases ra with
    | cons z _ => simp [valueAt]
  | @er a C fs e T =>
    obtain rfl : v = Value.ref a := rx
    obtain rfl : u = Value.ref a := ry
    obtain ⟨ob, od, J, _⟩ := er_inst I e
    obtain ⟨hp, g, d, t, os⟩ := s
    exact eq_self I.kIn J T (by omega) ⟨.bl true, H, I, rfl, q⟩
/-! ### x(), a class without an __init__ of its own -/
def tN0 (C : Addr) : TE := fun _ H Q => NewE C [] H Q
theorem pe_n0 {bmB : List Value} {B nid iid : String} {x : Str} {C : Addr} {p pos : Pos} (F : ExcBaseFacts B nid iid bmB) (xi : PySem.W.excIn X.K C bmB nid = true) (gC : X.mg x = some (.ref C)) (kC : PySem.W.keepIn X.K (.ref C) = true) (hg : Gl X x)
    (hdb : (x == ("__debug__" : Str)) = false := by decide) : PE X (.Call (.Name x p) [] [] pos) (tN0 C) := by
  refine ⟨fun pins s σ H Q I h => ?_⟩
  refine wpAny_Call_Name_kw (ld_glob I hg gC ?_ hdb)
  refine PySem.W.callWith_K0 I.kIn kC ?_
  obtain ⟨bm, N, nm, qn, bs, hdct, sn, sub, ab, col, dd, k0, k1, k2, k3, k5, mN, hC, hN, hni, T⟩ := exc_obj I.kIn xi
  refine wpAny_call_exc_subT F T hC hN hni (fun h' a hm => ?_) (by show 0 ≤ sizeLine; exact Nat.zero_le _)
  have hn : H a = none := I.hok.gone hm.new
  obtain ⟨t, ht, _, _⟩ := hm.there
  exact ⟨.ref a, upd H a (ExO (.ref C) a), I.laidN hm.keeps hm.new hn (exO_ok ht ⟨rfl, rfl⟩ rfl rfl rfl (show 4 < 6 by decide)), rfl, h a _ hn (same_new hn) (.inl ⟨rfl, upd_same⟩)⟩
end
/-! ### try with several clauses, each with the same name -/
def wAses (K : PySem.W.Frag) (i : Nat) (D : Ends) : List (Value × (Addr → Value → Option Addr → TS)) → WX
  | [] => fun _ _ _ _ => False
  | (c, ts) :: r => fun cls d σ H => ∃ b, PySem.W.exmOne K cls c = some b ∧ (b = true → ∀ a, H a = none → ts a cls d { nx := fun σ' H' => D.nx (σ'.set i none) H', rt := D.rt, bk := fun σ' H' => D.bk (σ'.set i none) H', ct := fun σ' H' => D.ct (σ'.set i none) H' } (σ.set i (some (.ref a))) H) ∧
      (b = false → wAses K i D r cls d σ H)
inductive HdsAs (X : Cx) (n : Str) : List ExceptHandler → List (Value × (Addr → Value → Option Addr → TS)) → Prop
  | nil : HdsAs X n [] []
  | cons {x : Str} {c : Value} {ts : Addr → Value → Option Addr → TS} {b₀ : Stmt} {suite : List Stmt} {np ep : Pos} {hds : List ExceptHandler} {l : List (Value × (Addr → Value → Option Addr → TS))} (nm : Names X x c)
      (su : ∀ (a : Addr) (oe : Obj) (cls : Value) (d : Option Addr) (pn : List (Addr × Obj)), Zc cls d oe → (∃ vs, oe.data = .fields vs) → PSs (X.suite a ((a, oe) :: pn)) (b₀ :: suite) (ts a cls d)) (r : HdsAs X n hds l) :
      HdsAs X n (.ExceptHandler (some (.Name x np)) (some n) (b₀ :: suite) ep :: hds) ((c, ts) :: l)
section
variable {X : Cx} {n : Str} {i : Nat} {body : List Stmt} {h₀ : ExceptHandler} {hds : List ExceptHandler} {l : List (Value × (Addr → Value → Option Addr → TS))} {pos : Pos} {tb : WX → TS}
theorem ps_try_ases (stk : X.stack = X.env :: X.outer) (fra : X.env.frame = some X.env.locals) (nod : X.N.Nodup) (atI : X.N[i]? = some n) (kn : X.env.kindOf n = some .local)
    (hb : ∀ (W : WX) (pn : List (Addr × Obj)) (xe : Value → Shared → Prop), Takes (X.tr pn xe) W → PassesOwn (model X.prog X.w) X.A X.env xe → PSs (X.tr pn xe) body (tb W))
    (hh : HdsAs X n (h₀ :: hds) l) : PS X (.Try body (h₀ :: hds) [] [] pos) (fun D σ H => tb (wAses X.K i D l) D σ H) := by
  refine ⟨fun pins s σ H D I wish => ?_⟩
  have good := I.ok
  have lone : Loc X.env.scope n := .inl kn
  have frames : X.A.frames = some (X.env :: X.outer) := by rw [good.frames, stk]
  refine wpAny_Try_except (wpAny_mono ((hb (wAses X.K i D l) (X.pn ++ pins) (fun e z => wpAny (model X.prog X.w) X.A (noteFrame e X.env) (fun _ z2 => wpAny (model X.prog X.w) X.A (setFlight e none)
      (fun _ z3 => wpAny (model X.prog X.w) X.A (handleBy e X.env (h₀ :: hds)) (SP X pins D) X.xe z3) X.xe z2) X.xe z) (fun u sT air => ?_) PassesOwn.looking).run [] s σ H D (I.toTry _) wish) (fun fl sE hE => ?_) (fun _ _ z => z))
  · obtain ⟨a, B, sG, pG, σG, HG, cls, d, rfl, JG, ground, slots, sky, free, hos, bare, w⟩ := air
    have J : Inv X pins σG HG sG := JG.ofTry good
    have sky : Sky B (X.env :: X.outer) a (Zc cls d) X.env.locals sT.heap := by rw [← stk]; exact sky
    show wpAny (model X.prog X.w) X.A (noteFrame (.ref a) X.env) _ _ _
    refine Sky.land Zc.steady frames fra sky fun hA flA upA => ?_
    have JA : Inv X pins σG HG { sT with heap := hA } := J.landed ground flA.1 (slots.trans upA) hos bare
    obtain ⟨oA, vA, gA, zA, dA⟩ := flA.there
    have away : a ∉ frs (X.env :: X.outer) := fun hm => by
      obtain ⟨_, oz, ez, nf⟩ := flA.2.2.1.mem hm
      rw [gA] at ez
      cases ez
      exact nf _ dA
    have noL : a ≠ X.env.locals := fun z => away (List.mem_filterMap.mpr ⟨X.env, List.mem_cons_self, by rw [fra, z]⟩)
    have noF : a ∉ X.fs := fun hm => by
      obtain ⟨e, he, q⟩ := List.mem_filterMap.mp hm
      exact away (List.mem_filterMap.mpr ⟨e, List.mem_cons_of_mem _ he, q⟩)
    have SA := JA.suite gA dA free noL noF
    have look : PySem.W.Looks (model X.prog X.w) hA (typeOf (.ref a)) cls := fun _ _ _ _ k q => wpAny_typeOf_ref (k _ _ gA) (by rw [zA.1]; exact q)
    have go : ∀ {hs' : List ExceptHandler} {l' : List (Value × (Addr → Value → Option Addr → TS))}, HdsAs X n hs' l' → wAses X.K i D l' cls d σG HG →
        wpAny (model X.prog X.w) X.A (handleBy (.ref a) X.env hs') (SP X pins D) X.xe { sT with heap := hA } := by
      intro hs' l' hk
      induction hk with
      | nil => exact fun w => False.elim w
      | @cons x c ts b₀ suite np ep hs2 l2 nm su r ih =>
        rintro ⟨b, ans, yes, no⟩
        refine wpAny_handleBy_cons (codeAny_handlers_test ?_) (by intro q; cases q)
        have answer := PySem.W.exm_one (M := model X.prog X.w) JA.kIn look ans
        have named : ∀ {Q E : Value → Shared → Prop}, Q c { sT with heap := hA } → wpAny (model X.prog X.w) (X.A.mark (some (.ref a))) (eval (.Name x np) X.env) Q E { sT with heap := hA } := fun {Q E} q => by
          obtain ⟨g1, g2, g3 | ⟨g3, g4, g5⟩⟩ := nm
          · exact ld_glob (X := X.suite a ((a, oA) :: (X.pn ++ pins))) SA g1 g3 q g2
          · exact ld_blt (X := X.suite a ((a, oA) :: (X.pn ++ pins))) SA g1 g3 g4 q g5 g2
        refine named (answer.here ?_)
        cases b with
        | true =>
          refine codeAny_handlers_suite_as (HandSPX.lands_againZ flA fun hB flB upB => ?_)
          have JB : Inv X pins σG HG { sT with heap := hB } := J.landed ground flB.1 ((slots.trans upA).trans upB) hos bare
          obtain ⟨oB, vB, gB, zB, dB⟩ := flB.there
          have SB := JB.suite gB dB free noL noF
          refine store_ok (X := X.suite a ((a, oB) :: (X.pn ++ pins))) (v := .ref a) SB nod atI lone rfl (fun s5 S5 => ?_) (.inr kn)
          refine wpAny_mono ((su a oB cls d (X.pn ++ pins) zB ⟨_, dB⟩).run [] s5 _ HG _ S5 (yes rfl a free)) (fun f s6 hsp => ?_) (fun _ _ z => False.elim z)
          have tail : ∀ {σ6 : L2.St} {H6 : Hp} {Q : Shared → Prop}, Inv (X.suite a ((a, oB) :: (X.pn ++ pins))) [] σ6 H6 s6 → (∀ s7, Inv X pins (σ6.set i none) H6 s7 → Q s7) →
              wpAny (model X.prog X.w) X.A (do bindName X.env n .none; unbindBehindTheSuite X.env n ep) (fun _ s7 => Q s7) X.xe s6 := fun {σ6 H6 Q} S6 hq => gone_ok (S6.unsuite good) nod atI kn hq
          cases f with
          | next =>
            obtain ⟨σ6, H6, S6, q6⟩ := hsp
            exact tail S6 fun s7 J7 => ⟨_, _, J7, q6⟩
          | brk =>
            obtain ⟨σ6, H6, S6, q6⟩ := hsp
            exact tail S6 fun s7 J7 => ⟨_, _, J7, q6⟩
          | cont =>
            obtain ⟨σ6, H6, S6, q6⟩ := hsp
            exact tail S6 fun s7 J7 => ⟨_, _, J7, q6⟩
          | ret u =>
            obtain ⟨v6, σ6, H6, S6, r6, q6⟩ := hsp
            exact tail S6 fun s7 J7 => ⟨_, _, _, J7, r6, q6⟩
        | false =>
          show wpAny _ X.A (handleBy (.ref a) X.env hs2) _ _ _
          exact ih (no rfl)
    exact go hh w
  · cases fl with
    | next =>
      obtain ⟨σ', H', J', q⟩ := hE
      exact wpAny_execs_nil ⟨σ', H', J'.ofTry good, q⟩
    | brk =>
      obtain ⟨σ', H', J', q⟩ := hE
      exact ⟨σ', H', J'.ofTry good, q⟩
    | cont =>
      obtain ⟨σ', H', J', q⟩ := hE
      exact ⟨σ', H', J'.ofTry good, q⟩
    | ret u =>
      obtain ⟨v, σ', H', J', r, q⟩ := hE
      exact ⟨v, σ', H', J'.ofTry good, r, q⟩
end
end K0

namespace K0
open PySem PySem.Spec PyProof.Rows L2
/-- all that the law's defs take from the top -/
structure Av (P : Program) (w : World) (K : PySem.W.Frag) (mg : Str → Option Value) (base : Heap) (c : Nat → Addr) (cM cS : Addr) : Prop where
  tx : Tx P w K mg base c
  nm : Nm mg c cM cS
  one : ∀ n, n < 23 → One K c cM cS (c n) n
  ec : ∀ n, n < 23 → Ec K (c n)
  no : ∀ n, n < 19 → PySem.W.findIn K (.ref (c n)) (fl n) = some none
  mi : Cl1 P w K mg base "Missing" "value" cM
  mS : PySem.W.kitOne K (.ref cM) (.ref cS) = some true
  mN : PySem.W.kitAny K (.ref cM) [.ref (c 13), .ref (c 14), .ref (c 15), .ref (c 16), .ref (c 17)] = some false
  tm : Cl2 P w K mg base "TooMany" "what" "most" (c 19)
  bt : Cl2 P w K mg base "BadText" "line" "item" (c 21)
  bl : Cl2 P w K mg base "BadLine" "line" "error" (c 22)
  nt : PySem.W.excIn K (c 20) [.type "ValueError", .type "Exception", .type "BaseException", .type "object"] "ValueError.__new__" = true
section
variable {P : Program} {w : World} {K : PySem.W.Frag} {mg : Str → Option Value} {base : Heap} {c : Nat → Addr} {cM cS : Addr}
/-- two fields are right -/
def spTwo (K : PySem.W.Frag) : Sp := fun vs H Q _ => ∃ x y : V, vs = [x, y] ∧ Sv K H x ∧ Sv K H y ∧ ∀ H', Same H H' → Q (.bl true) H'
/-! ### _law_single_right -/
abbrev sSg : Stmt := top 34
abbrev nSg : List Str := ["_law_one", "_law_other", "_law_first", "_law_second", "_law_number", "_law_base"]
theorem scSg : FnScope nSg ["_law_one", "_law_other"] (defScope sSg) := ⟨rfl, rfl, rfl, by decide +kernel, rfl, by decide +kernel, by decide +kernel⟩
theorem MadeL.item {v : V} {H : Hp} {l : Addr} {as : List Addr} {i : Nat} (hl : as.length = 19) (hi : i < 19) (h : Ers c v H 0 as) : ∃ a, as[i]? = some a ∧ (as.map V.ref)[i]? = some (.ref a) ∧ Er H (c i) [(fl i, v)] a := by
  have e : as[i]? = some as[i] := List.getElem?_eq_getElem (by omega)
  refine ⟨as[i], e, by rw [List.getElem?_map, e]; rfl, ?_⟩
  have z := h.get e
  rw [Nat.zero_add] at z
  exact z
theorem ok_single {f : Addr} {fd : FuncData} (F : Fun K "_law_single_right" "_law_single_right" sSg f fd) (B : Bn mg) (T : Av P w K mg base c cM cS) (C1 : Callee P w K mg base CX0 3 "_law_by_place" ["_law_field_here"] (spMade c)) (C2 : Callee P w K mg base CX0 3 "_law_by_name" ["_law_field_here"] (spMade c))
    (C3 : Callee P w K mg base CX0 2 "_law_is_one" ["_law_error", "_law_number"] (spOne K c cM cS)) (C4 : Callee P w K mg base CX0 1 "_law_kept" ["_law_error", "_law_number"] (spKept K)) : FnOk P w K mg base CX0 4 f fd ["_law_one", "_law_other"] (spTwo K) := by
  obtain ⟨f1, fd1, m1, k1, b1, G1⟩ := C1
  obtain ⟨f2, fd2, m2, k2, b2, G2⟩ := C2
  obtain ⟨f3, fd3, m3, k3, b3, G3⟩ := C3
  obtain ⟨f4, fd4, m4, k4, b4, G4⟩ := C4
  have nd := scSg.nd
  refine F.ok scSg (fun vs H Q E h => ?_) (fun cdv A outer s H vs Q E hr h => ?_)
  · obtain ⟨x, y, rfl, _⟩ := h
    rfl
  · obtain ⟨x, y, rfl, hx, hy, q⟩ := h
    refine ⟨_, (pss_cons (ps_par (i := 2) (j := 3) rfl nd rfl rfl (by decide) rfl rfl (pa_cons ((pe_call G1 (hr.mono (by decide)) rfl m1 k1 b1 .nil pass0 (pa_cons (pv 0) pa_nil))) (pa_cons ((pe_call G2 (hr.mono (by decide)) rfl m2 k2 b2 .nil pass0 (pa_cons (pv 1) pa_nil))) pa_nil)) (by rfl)) (pss_cons (ps_for PassesOwn.never rfl (pi_range1 rfl B.range (pa_cons (pe_int) pa_nil)) (pg_name (i := 4) nd rfl (Or.inl rfl)) (pss_cons (ps_if (PW.pt (pw_or (pt_not (pt_val (pe_call G3 (hr.mono (by decide)) rfl m3 k3 b3 .nil pass0 (pa_cons ((pe_ix ix_list (pv 2) (pv 4) (fun _ _ => rfl))) (pa_cons (pv 4) pa_nil))))) (pw_or1 (pt_not (pt_val (pe_call G3 (hr.mono (by decide)) rfl m3 k3 b3 .nil pass0 (pa_cons ((pe_ix ix_list (pv 3) (pv 4) (fun _ _ => rfl))) (pa_cons (pv 4) pa_nil)))))))) (pss_one (ps_ret pe_bl)) pss_nil) (pss_one (ps_if (PW.pt (pw_or (pt_cmpR (op_neS hr.units) (pe_call G4 (hr.mono (by decide)) rfl m4 k4 b4 .nil pass0 (pa_cons ((pe_ix ix_list (pv 2) (pv 4) (fun _ _ => rfl))) (pa_cons (pv 4) pa_nil))) (pv 0) (nomark _)) (pw_or1 (pt_cmpR (op_neS hr.units) (pe_call G4 (hr.mono (by decide)) rfl m4 k4 b4 .nil pass0 (pa_cons ((pe_ix ix_list (pv 3) (pv 4) (fun _ _ => rfl))) (pa_cons (pv 4) pa_nil))) (pv 1) (nomark _))))) (pss_one (ps_ret pe_bl)) pss_nil)))) (pss_cons ((ps_set (i := 5) nd rfl (Or.inl rfl) (pe_n1K T.mi (hr.mono (by decide)) rfl (pk_cons (pv 0) pk_nil)))) (pss_cons (ps_if (PW.pt (pw_or (pt_cmpR (op_neS hr.units) (pe_ef (pv 5)) (pv 0) (nomark _)) (pw_or (pt_not (pt_val (pe_callB (r := rIsX K) call_isX (by rfl) B.isinstance boot_isinstance (pa_cons (pv 5) (pa_cons (pe_glob (v := .ref cS) rfl T.nm.s rfl) pa_nil))))) (pw_or1 (pt_val (pe_callB (r := rIsXT K) call_isXT (by rfl) B.isinstance boot_isinstance (pa_cons (pv 5) (pa_cons (pe_tup (pa_cons (pe_glob (v := .ref (c 13)) rfl T.nm.n13 rfl) (pa_cons (pe_glob (v := .ref (c 14)) rfl T.nm.n14 rfl) (pa_cons (pe_glob (v := .ref (c 15)) rfl T.nm.n15 rfl) (pa_cons (pe_glob (v := .ref (c 16)) rfl T.nm.n16 rfl) (pa_cons (pe_glob (v := .ref (c 17)) rfl T.nm.n17 rfl) pa_nil)))))) pa_nil))))))))
        (pss_one (ps_ret pe_bl)) pss_nil) (pss_one (ps_ret (pe_and (pe_cmpR (op_eqS hr.units) (pe_ef (pe_n1 T.mi (hr.mono (by decide)) rfl (pa_cons (pv 1) pa_nil))) (pv 1) (nomark _)) (pe_one ((pe_call G3 (hr.mono (by decide)) rfl m3 k3 b3 .nil pass0 (pa_cons (pe_n0 PySem.F.excBase_ValueError T.nt T.nm.n20 (T.ec 20 (by decide)).ox.kC rfl) (pa_cons (pe_int) pa_nil)))))))))))), ?_⟩
    refine ⟨_, rfl, x, rfl, fun H1 l1 s1 d1 => ?_⟩
    refine ⟨_, rfl, y, rfl, fun H2 l2 s2 d2 => ?_⟩
    have d1 := d1.same s2
    have s := s1.trans s2
    refine ⟨_, _, rfl, 19, rfl, by decide, by decide, ?_⟩
    obtain ⟨as, la, ha, ea⟩ := d1
    obtain ⟨bs, lb, hb, eb⟩ := d2
    refine for_range (lo := 0) (n := 19) (fun i σ H' => Same H2 H' ∧ ∃ v u, σ = [some x, some y, some (.ref l1), some (.ref l2), v, u]) ⟨fun _ _ e => e, _, _, rfl⟩ (fun i σ H3 hi p => ?_) (fun σ H3 p => ?_)
    · obtain ⟨s3, v, u, rfl⟩ := p
      obtain ⟨a, ia, ja, Ea⟩ := MadeL.item (l := l1) la hi ea
      obtain ⟨b, ib, jb, Eb⟩ := MadeL.item (l := l2) lb hi eb
      have z : (0 : Int) + (i : Int) = (i : Int) := by omega
      rw [z]
      refine ⟨_, rfl, _, rfl, l1, _, _, _, rfl, rfl, SqL.of (s3 _ _ ha), atI_nat ja, _, rfl, a, c i, _, i, rfl, Ea.same s3, T.ec i (by omega), T.one i (by omega), fun H4 s4 => ⟨_, rfl, iteF ?_⟩⟩
      have s4 := s3.trans s4
      refine ⟨_, rfl, _, rfl, l2, _, _, _, rfl, rfl, SqL.of (s4 _ _ hb), atI_nat jb, _, rfl, b, c i, _, i, rfl, Eb.same s4, T.ec i (by omega), T.one i (by omega), fun H5 s5 => ⟨_, rfl, iteF ?_⟩⟩
      have s5 := s4.trans s5
      refine ⟨_, rfl, _, rfl, l1, _, _, _, rfl, rfl, SqL.of (s5 _ _ ha), atI_nat ja, _, rfl, a, c i, x, i, rfl, Ea.same s5, T.ec i (by omega), T.no i hi, hi, _, rfl, rfl, hx.same (s.trans s5), _, rfl, iteF ?_⟩
      refine ⟨_, rfl, _, rfl, l2, _, _, _, rfl, rfl, SqL.of (s5 _ _ hb), atI_nat jb, _, rfl, b, c i, y, i, rfl, Eb.same s5, T.ec i (by omega), T.no i hi, hi, _, rfl, rfl, hy.same (s.trans s5), _, rfl, iteF ?_⟩
      exact ⟨s5, _, _, rfl⟩
    · obtain ⟨s3, v, u, rfl⟩ := p
      have s3 := s.trans s3
      refine ⟨_, rfl, x, rfl, fun e H4 ne s4 Ee => ?_⟩
      have s4 := s3.trans s4
      refine ⟨_, rfl, e, cM, _, x, rfl, Ee, T.mi.ec, T.mi.no, look_one, _, rfl, rfl, hx.same s4, _, rfl, iteF ?_⟩
      refine ⟨_, rfl, e, cM, _, _, _, _, rfl, Ee, T.mi.ec, .own _, T.mS, _, rfl, iteF ?_⟩
      refine ⟨_, rfl, by show 5 ≤ sizeLine; decide, fun t ht => ?_⟩
      have s5 := s4.trans (same_new (o := .tup [V.ref (c 13), V.ref (c 14), V.ref (c 15), V.ref (c 16), V.ref (c 17)]) ht)
      have Ee := Ee.same (same_new (o := .tup [V.ref (c 13), V.ref (c 14), V.ref (c 15), V.ref (c 16), V.ref (c 17)]) ht)
      have ht2 : (upd H4 t (.tup [V.ref (c 13), V.ref (c 14), V.ref (c 15), V.ref (c 16), V.ref (c 17)])) t = some (.tup [V.ref (c 13), V.ref (c 14), V.ref (c 15), V.ref (c 16), V.ref (c 17)]) := upd_same
      generalize upd H4 t (.tup [V.ref (c 13), V.ref (c 14), V.ref (c 15), V.ref (c 16), V.ref (c 17)]) = H5 at s5 Ee ht2 ⊢
      refine ⟨e, cM, t, _, _, _, _, rfl, Ee, T.mi.ec, ht2, .cons (.own _) (.cons (.own _) (.cons (.own _) (.cons (.own _) (.cons (.own _) .nil)))), T.mN, _, rfl, iteF ?_⟩
      refine ⟨_, rfl, y, rfl, fun g H6 ng s6 Eg => ?_⟩
      have s6 := s5.trans s6
      refine ⟨g, cM, _, y, rfl, Eg, T.mi.ec, T.mi.no, look_one, _, rfl, rfl, hy.same s6, _, rfl, iteT ?_⟩
      refine fun k H7 nk s7 Ek => ?_
      exact ⟨k, c 20, [], 20, rfl, Ek, T.ec 20 (by decide), T.one 20 (by decide), fun H8 s8 => q _ ((s6.trans s7).trans s8)⟩
end
end K0

namespace K0
open PySem PySem.Spec PyProof.Rows L2
section
variable {P : Program} {w : World} {K : PySem.W.Frag} {mg : Str → Option Value} {base : Heap} {c : Nat → Addr} {cM cS : Addr}
/-! ### _law_double_right -/
abbrev sDb : Stmt := top 35
abbrev nDb : List Str := ["_law_one", "_law_other", "_law_error"]
theorem scDb : FnScope nDb ["_law_one", "_law_other"] (defScope sDb) := ⟨rfl, rfl, rfl, by decide +kernel, rfl, by decide +kernel, by decide +kernel⟩
theorem two_get {a b : Addr} {i : Nat} {z : V} (h : [V.ref a, V.ref b][i]? = some z) : z = .ref a ∨ z = .ref b := by
  match i, h with
  | 0, h => exact .inl (Option.some.inj h).symm
  | 1, h => exact .inr (Option.some.inj h).symm
theorem ok_double {f : Addr} {fd : FuncData} (F : Fun K "_law_double_right" "_law_double_right" sDb f fd) (T : Av P w K mg base c cM cS)
    (C3 : Callee P w K mg base CX0 2 "_law_is_one" ["_law_error", "_law_number"] (spOne K c cM cS)) : FnOk P w K mg base CX0 3 f fd ["_law_one", "_law_other"] (spTwo K) := by
  obtain ⟨f3, fd3, m3, k3, b3, G3⟩ := C3
  have nd := scDb.nd
  refine F.ok scDb (fun vs H Q E h => ?_) (fun cdv A outer s H vs Q E hr h => ?_)
  · obtain ⟨x, y, rfl, _⟩ := h
    rfl
  · obtain ⟨x, y, rfl, hx, hy, q⟩ := h
    refine ⟨_, (pss_cons (ps_for PassesOwn.never rfl (pi_tup (pe_tup (pa_cons (pe_n2 T.tm (hr.mono (by decide)) rfl (pa_cons (pv 0) (pa_cons (pv 1) pa_nil))) (pa_cons (pe_n2K T.tm (hr.mono (by decide)) rfl (pk_cons (pv 1) (pk_cons (pv 0) pk_nil))) pa_nil)))) (pg_name (i := 2) nd rfl (Or.inl rfl)) (pss_one (ps_if (PW.pt (pw_or (pt_not (pt_val (pe_call G3 (hr.mono (by decide)) rfl m3 k3 b3 .nil pass0 (pa_cons (pv 2) (pa_cons (pe_int) pa_nil))))) (pw_or (pt_cmpR (op_neS hr.units) (pe_ef (pv 2)) (pv 0) (nomark _)) (pw_or1 (pt_cmpR (op_neS hr.units) (pe_ef (pv 2)) (pv 1) (nomark _)))))) (pss_one (ps_ret pe_bl)) pss_nil))) (pss_cons (ps_for PassesOwn.never rfl (pi_tup (pe_tup (pa_cons (pe_n2 T.bt (hr.mono (by decide)) rfl (pa_cons (pv 0) (pa_cons (pv 1) pa_nil))) (pa_cons (pe_n2K T.bt (hr.mono (by decide)) rfl (pk_cons (pv 1) (pk_cons (pv 0) pk_nil))) pa_nil)))) (pg_name (i := 2) nd rfl (Or.inl rfl)) (pss_one (ps_if (PW.pt (pw_or (pt_not (pt_val (pe_call G3 (hr.mono (by decide)) rfl m3 k3 b3 .nil pass0 (pa_cons (pv 2) (pa_cons (pe_int) pa_nil))))) (pw_or (pt_cmpR (op_neS hr.units) (pe_ef (pv 2)) (pv 0) (nomark _)) (pw_or1 (pt_cmpR (op_neS hr.units) (pe_ef (pv 2)) (pv 1) (nomark _)))))) (pss_one (ps_ret pe_bl)) pss_nil))) (pss_cons (ps_for PassesOwn.never rfl (pi_tup (pe_tup (pa_cons (pe_n2 T.bl (hr.mono (by decide)) rfl (pa_cons (pv 0) (pa_cons (pv 1) pa_nil))) (pa_cons (pe_n2K T.bl (hr.mono (by decide)) rfl (pk_cons (pv 1) (pk_cons (pv 0) pk_nil))) pa_nil)))) (pg_name (i := 2) nd rfl (Or.inl rfl)) (pss_one (ps_if (PW.pt (pw_or (pt_not (pt_val (pe_call G3 (hr.mono (by decide)) rfl m3 k3 b3 .nil pass0 (pa_cons (pv 2) (pa_cons (pe_int) pa_nil))))) (pw_or (pt_cmpR (op_neS hr.units) (pe_ef (pv 2)) (pv 0) (nomark _)) (pw_or1 (pt_cmpR (op_neS hr.units) (pe_ef (pv 2)) (pv 1) (nomark _)))))) (pss_one (ps_ret pe_bl)) pss_nil))) (pss_one (ps_ret pe_bl))))), ?_⟩
    refine ⟨_, rfl, _, rfl, _, _, rfl, fun a0 A0 na0 sa0 ea0 => ?_⟩
    refine ⟨_, rfl, _, rfl, _, _, rfl, fun b0 B0 nb0 sb0 eb0 => ?_⟩
    have ea0 := ea0.same sb0
    refine ⟨by show 2 ≤ sizeLine; decide, fun t0 ht0 => ⟨t0, rfl, ⟨_, SqT.of upd_same⟩, ?_⟩⟩
    have n0 := same_new (o := .tup [V.ref a0, V.ref b0]) ht0
    have N0 := (sa0.trans sb0).trans n0
    have ut0 : (upd B0 t0 (.tup [V.ref a0, V.ref b0])) t0 = some (.tup [V.ref a0, V.ref b0]) := upd_same
    have ea0 := ea0.same n0
    have eb0 := eb0.same n0
    generalize upd B0 t0 (.tup [V.ref a0, V.ref b0]) = H0 at N0 ut0 ea0 eb0 n0 ⊢
    refine for_tup (K := K) (a := t0) (xs := [.ref a0, .ref b0]) (fun i σ H' => Same H0 H' ∧ ∃ v, σ = [some x, some y, v]) ⟨fun _ _ e => e, _, rfl⟩ (fun i σ H' _ p => SqT.of (p.1 _ _ ut0)) (fun i z σ H' hz p => ?_) (fun σ H' p => ?_)
    · obtain ⟨s', v, rfl⟩ := p
      obtain ⟨e, ez, Ee⟩ : ∃ e, z = V.ref e ∧ Er H0 (c 19) [("most", y), ("what", x)] e := by
        rcases two_get hz with ez | ez
        · exact ⟨a0, ez, ea0⟩
        · exact ⟨b0, ez, eb0⟩
      · subst ez
        refine ⟨_, rfl, e, c 19, _, 19, rfl, Ee.same s', T.ec 19 (by decide), T.one 19 (by decide), fun H4 s4 => ⟨_, rfl, iteF ?_⟩⟩
        have s4 := s'.trans s4
        refine ⟨_, rfl, e, c 19, _, x, rfl, Ee.same s4, T.ec 19 (by decide), T.tm.no1, rfl, _, rfl, rfl, hx.same (N0.trans s4), _, rfl, iteF ?_⟩
        refine ⟨_, rfl, e, c 19, _, y, rfl, Ee.same s4, T.ec 19 (by decide), T.tm.no2, rfl, _, rfl, rfl, hy.same (N0.trans s4), _, rfl, iteF ?_⟩
        exact ⟨s4, _, rfl⟩
    obtain ⟨r0, v0, rfl⟩ := p
    have S0 := N0.trans r0
    clear ut0 ea0 eb0
    refine ⟨_, rfl, _, rfl, _, _, rfl, fun a1 A1 na1 sa1 ea1 => ?_⟩
    refine ⟨_, rfl, _, rfl, _, _, rfl, fun b1 B1 nb1 sb1 eb1 => ?_⟩
    have ea1 := ea1.same sb1
    refine ⟨by show 2 ≤ sizeLine; decide, fun t1 ht1 => ⟨t1, rfl, ⟨_, SqT.of upd_same⟩, ?_⟩⟩
    have n1 := same_new (o := .tup [V.ref a1, V.ref b1]) ht1
    have N1 := ((S0.trans sa1).trans sb1).trans n1
    have ut1 : (upd B1 t1 (.tup [V.ref a1, V.ref b1])) t1 = some (.tup [V.ref a1, V.ref b1]) := upd_same
    have ea1 := ea1.same n1
    have eb1 := eb1.same n1
    generalize upd B1 t1 (.tup [V.ref a1, V.ref b1]) = H1 at N1 ut1 ea1 eb1 n1 ⊢
    refine for_tup (K := K) (a := t1) (xs := [.ref a1, .ref b1]) (fun i σ H' => Same H1 H' ∧ ∃ v, σ = [some x, some y, v]) ⟨fun _ _ e => e, _, rfl⟩ (fun i σ H' _ p => SqT.of (p.1 _ _ ut1)) (fun i z σ H' hz p => ?_) (fun σ H' p => ?_)
    · obtain ⟨s', v, rfl⟩ := p
      obtain ⟨e, ez, Ee⟩ : ∃ e, z = V.ref e ∧ Er H1 (c 21) [("item", y), ("line", x)] e := by
        rcases two_get hz with ez | ez
        · exact ⟨a1, ez, ea1⟩
        · exact ⟨b1, ez, eb1⟩
      · subst ez
        refine ⟨_, rfl, e, c 21, _, 21, rfl, Ee.same s', T.ec 21 (by decide), T.one 21 (by decide), fun H4 s4 => ⟨_, rfl, iteF ?_⟩⟩
        have s4 := s'.trans s4
        refine ⟨_, rfl, e, c 21, _, x, rfl, Ee.same s4, T.ec 21 (by decide), T.bt.no1, rfl, _, rfl, rfl, hx.same (N1.trans s4), _, rfl, iteF ?_⟩
        refine ⟨_, rfl, e, c 21, _, y, rfl, Ee.same s4, T.ec 21 (by decide), T.bt.no2, rfl, _, rfl, rfl, hy.same (N1.trans s4), _, rfl, iteF ?_⟩
        exact ⟨s4, _, rfl⟩
    obtain ⟨r1, v1, rfl⟩ := p
    have S1 := N1.trans r1
    clear ut1 ea1 eb1
    refine ⟨_, rfl, _, rfl, _, _, rfl, fun a2 A2 na2 sa2 ea2 => ?_⟩
    refine ⟨_, rfl, _, rfl, _, _, rfl, fun b2 B2 nb2 sb2 eb2 => ?_⟩
    have ea2 := ea2.same sb2
    refine ⟨by show 2 ≤ sizeLine; decide, fun t2 ht2 => ⟨t2, rfl, ⟨_, SqT.of upd_same⟩, ?_⟩⟩
    have n2 := same_new (o := .tup [V.ref a2, V.ref b2]) ht2
    have N2 := ((S1.trans sa2).trans sb2).trans n2
    have ut2 : (upd B2 t2 (.tup [V.ref a2, V.ref b2])) t2 = some (.tup [V.ref a2, V.ref b2]) := upd_same
    have ea2 := ea2.same n2
    have eb2 := eb2.same n2
    generalize upd B2 t2 (.tup [V.ref a2, V.ref b2]) = H2 at N2 ut2 ea2 eb2 n2 ⊢
    refine for_tup (K := K) (a := t2) (xs := [.ref a2, .ref b2]) (fun i σ H' => Same H2 H' ∧ ∃ v, σ = [some x, some y, v]) ⟨fun _ _ e => e, _, rfl⟩ (fun i σ H' _ p => SqT.of (p.1 _ _ ut2)) (fun i z σ H' hz p => ?_) (fun σ H' p => ?_)
    · obtain ⟨s', v, rfl⟩ := p
      obtain ⟨e, ez, Ee⟩ : ∃ e, z = V.ref e ∧ Er H2 (c 22) [("error", y), ("line", x)] e := by
        rcases two_get hz with ez | ez
        · exact ⟨a2, ez, ea2⟩
        · exact ⟨b2, ez, eb2⟩
      · subst ez
        refine ⟨_, rfl, e, c 22, _, 22, rfl, Ee.same s', T.ec 22 (by decide), T.one 22 (by decide), fun H4 s4 => ⟨_, rfl, iteF ?_⟩⟩
        have s4 := s'.trans s4
        refine ⟨_, rfl, e, c 22, _, x, rfl, Ee.same s4, T.ec 22 (by decide), T.bl.no1, rfl, _, rfl, rfl, hx.same (N2.trans s4), _, rfl, iteF ?_⟩
        refine ⟨_, rfl, e, c 22, _, y, rfl, Ee.same s4, T.ec 22 (by decide), T.bl.no2, rfl, _, rfl, rfl, hy.same (N2.trans s4), _, rfl, iteF ?_⟩
        exact ⟨s4, _, rfl⟩
    obtain ⟨r2, v2, rfl⟩ := p
    have S2 := N2.trans r2
    clear ut2 ea2 eb2
    exact q _ S2
end
end K0

namespace K0
open PySem PySem.Spec PyProof.Rows L2
/-- what is raised with a number -/
def rzC (c : Nat → Addr) (n : Nat) : Addr := if n = 0 then c 14 else if n = 1 then c 17 else c 19
def rzF (n : Nat) (v : V) : List (Str × V) := if n = 0 then [("value", v)] else if n = 1 then [("value", v)] else [("most", .int 5), ("what", v)]
/-- an error of the class at C with these fields is raised -/
def Rz (C : Addr) (fs : List (Str × V)) (H : Hp) (E : XK) : Prop := ∀ d H', Same H H' → H' d = some (.xd fs) → E (.ref C) (some d) H'
theorem rz_of {C a d : Addr} {fs : List (Str × V)} {H H2 : Hp} {E : XK} (r : Rz C fs H E) (na : H a = none) (k : ∀ b o, b ≠ a → upd H a (exo a C none) b = some o → H2 b = some o) (nd : upd H a (exo a C none) d = none) (ne : d ≠ a) :
    E (.ref C) (some d) (upd (L2.del H2 a) d (.xd fs)) := by
  have hd : H d = none := by
    rw [upd_ne ne] at nd
    exact nd
  refine r d _ (fun b o e => ?_) upd_same
  have b1 : b ≠ d := ne_of_none e hd
  have b2 : b ≠ a := ne_of_none e na
  rw [upd_ne b1, del_ne b2]
  exact k b o b2 (by rw [upd_ne b2]; exact e)
theorem bi_of {K : PySem.W.Frag} {fd : FuncData} {ps : List Str} {n : Nat} (h : KBn K fd ps n [] gA gA) (hn : ps.length = n) : Binds K fd ps [] := fun s us X hl => by
  have l : us.length = n := by
    rw [List.append_nil] at hl
    exact hl.trans hn
  exact h.to s us [] X l rfl
section
variable {P : Program} {w : World} {K : PySem.W.Frag} {mg : Str → Option Value} {base : Heap} {c : Nat → Addr} {cM cS : Addr}
/-! ### _law_raised -/
def spRaised (c : Nat → Addr) : Sp := fun vs H _ E => ∃ (n : Nat) (v : V), vs = [.int n, v] ∧ n < 3 ∧ Rz (rzC c n) (rzF n v) H E
abbrev sRd : Stmt := top 36
theorem scRd : FnScope ["_law_number", "_law_field_here"] ["_law_number", "_law_field_here"] (defScope sRd) := ⟨rfl, rfl, rfl, by decide +kernel, rfl, by decide +kernel, by decide +kernel⟩
theorem ok_raised {f : Addr} {fd : FuncData} (F : Fun K "_law_raised" "_law_raised" sRd f fd) (T : Av P w K mg base c cM cS) : FnOk P w K mg base (L2.CX P w) 4 f fd ["_law_number", "_law_field_here"] (spRaised c) := by
  obtain ⟨g1, d1, i1, t1, F1, b1, _⟩ := T.tx.t14.ini
  obtain ⟨g2, d2, i2, t2, F2, b2, _⟩ := T.tx.t17.ini
  obtain ⟨g3, d3, i3, t3, F3, b3, _⟩ := T.tm.ini
  have E1 := T.tx.t14
  have E2 := T.tx.t17
  have E3 := T.tm
  refine F.okX scRd (fun vs H Q E h => ?_) (fun cdv A outer s H vs Q E hr h => ?_)
  · obtain ⟨n, v, rfl, _⟩ := h
    rfl
  · obtain ⟨n, v, rfl, hn, r⟩ := h
    refine ⟨_, (pss_cons (ps_if (pt_cmpR op_eq (pv 0) (pe_int) (nomark _)) (pss_one (ps_raise rfl (takes_of rfl rfl rfl rfl) (pmk_oex E1.ec.ox i1 t1 F1 (hr.mono (by decide)) (bi_of b1 rfl) .nil pass0 rfl E1.mgC (pa_cons (pv 1) pa_nil)))) pss_nil) (pss_cons (ps_if (pt_cmpR op_eq (pv 0) (pe_int) (nomark _)) (pss_one (ps_raise rfl (takes_of rfl rfl rfl rfl) (pmk_oex E2.ec.ox i2 t2 F2 (hr.mono (by decide)) (bi_of b2 rfl) .nil pass0 rfl E2.mgC (pa_cons (pv 1) pa_nil)))) pss_nil) (pss_one (ps_raise rfl (takes_of rfl rfl rfl rfl) (pmk_oex E3.ec.ox i3 t3 F3 (hr.mono (by decide)) (bi_of b3 rfl) .nil pass0 rfl E3.mgC (pa_cons (pv 1) (pa_cons (pe_int) pa_nil))))))), ?_⟩
    refine ⟨_, rfl, rfl, _, rfl, ?_⟩
    have cs : n = 0 ∨ n = 1 ∨ n = 2 := by omega
    rcases cs with rfl | rfl | rfl
    · refine iteT ⟨_, rfl, by show 1 ≤ 1000; decide, fun a na => ?_⟩
      refine ⟨a, c 14, v, rfl, E1.ec.ox, E1.no, upd_same, fun H' k ⟨d, nd, ne, h1, h2⟩ => ⟨rfl, d, _, h1, h2, ?_, rz_of r na k nd ne⟩⟩
      rw [upd_ne ne] at nd
      exact nd
    · refine iteF ⟨_, rfl, rfl, _, rfl, iteT ⟨_, rfl, by show 1 ≤ 1000; decide, fun a na => ?_⟩⟩
      refine ⟨a, c 17, v, rfl, E2.ec.ox, E2.no, upd_same, fun H' k ⟨d, nd, ne, h1, h2⟩ => ⟨rfl, d, _, h1, h2, ?_, rz_of r na k nd ne⟩⟩
      rw [upd_ne ne] at nd
      exact nd
    · refine iteF ⟨_, rfl, rfl, _, rfl, iteF ⟨_, rfl, by show 2 ≤ 1000; decide, fun a na => ?_⟩⟩
      refine ⟨a, c 19, v, _, rfl, E3.ec.ox, E3.no1, E3.no2, upd_same, fun H' k ⟨d, nd, ne, h1, h2⟩ => ⟨rfl, d, _, h1, h2, ?_, rz_of r na k nd ne⟩⟩
      rw [upd_ne ne] at nd
      exact nd
/-! ### _law_caught -/
def wd (n : Nat) : Str := if n = 0 then "missing" else if n = 1 then "twice" else "seen"
structure Ex (K : PySem.W.Frag) (c : Nat → Addr) (cM cS : Addr) : Prop where
  a : PySem.W.exmOne K (.ref (c 14)) (.ref cM) = some true
  b : PySem.W.exmOne K (.ref (c 17)) (.ref cM) = some false
  d : PySem.W.exmOne K (.ref (c 17)) (.ref (c 17)) = some true
  e : PySem.W.exmOne K (.ref (c 19)) (.ref cM) = some false
  f : PySem.W.exmOne K (.ref (c 19)) (.ref (c 17)) = some false
  g : PySem.W.exmOne K (.ref (c 19)) (.ref cS) = some true
def spCaught : Sp := fun vs H Q _ => ∃ (n : Nat) (v : V), vs = [.int n, v] ∧ n < 3 ∧ ∀ H' t, Same H H' → H' t = some (.tup [.str (wd n), v]) → Q (.ref t) H'
abbrev sCt : Stmt := top 37
abbrev nCt : List Str := ["_law_number", "_law_field_here", "caught"]
theorem scCt : FnScope nCt ["_law_number", "_law_field_here"] (defScope sCt) := ⟨rfl, rfl, rfl, by decide +kernel, rfl, by decide +kernel, by decide +kernel⟩
theorem ok_caught {f : Addr} {fd : FuncData} (F : Fun K "_law_caught" "_law_caught" sCt f fd) (T : Av P w K mg base c cM cS) (X : Ex K c cM cS) (C1 : Callee P w K mg base (L2.CX P w) 4 "_law_raised" ["_law_number", "_law_field_here"] (spRaised c)) : FnOk P w K mg base CX0 5 f fd ["_law_number", "_law_field_here"] spCaught := by
  obtain ⟨f1, fd1, m1, k1, b1, G1⟩ := C1
  have nd := scCt.nd
  refine F.ok scCt (fun vs H Q E h => ?_) (fun cdv A outer s H vs Q E hr h => ?_)
  · obtain ⟨n, v, rfl, _⟩ := h
    rfl
  · obtain ⟨n, v, rfl, hn, q⟩ := h
    refine ⟨_, (pss_cons (ps_try_ases (i := 2) rfl rfl nd rfl rfl (fun W pn xe tk _ => pss_one (ps_expr (pe_callS G1 (hr.mono (by decide)) rfl m1 k1 b1 (fun σ => passAt tk σ) (pa_cons (pv 0) (pa_cons (pv 1) pa_nil)))))
        (.cons (c := .ref cM) ⟨rfl, by decide, .inl T.mi.mgC⟩ (fun a oe cls d pn hz hf => pss_one (ps_ret (pe_tup (pa_cons (pe_str) (pa_cons (pe_xf (C := c 14) T.tx.t14.ec.xf T.tx.t14.no hz hf (pv 2)) pa_nil)))))
        (.cons (c := .ref (c 17)) ⟨rfl, by decide, .inl T.tx.t17.mgC⟩ (fun a oe cls d pn hz hf => pss_one (ps_ret (pe_tup (pa_cons (pe_str) (pa_cons (pe_xf (C := c 17) T.tx.t17.ec.xf T.tx.t17.no hz hf (pv 2)) pa_nil)))))
        (.cons (c := .ref cS) ⟨rfl, by decide, .inl T.nm.s⟩ (fun a oe cls d pn hz hf => pss_one (ps_ret (pe_tup (pa_cons (pe_str) (pa_cons (pe_xf (C := c 19) T.tm.ec.xf T.tm.no1 hz hf (pv 2)) pa_nil))))) .nil)))) (pss_one (ps_ret pe_non))), ?_⟩
    refine ⟨_, rfl, _, rfl, n, v, rfl, hn, fun d H' s1 hd => ?_⟩
    have cs : n = 0 ∨ n = 1 ∨ n = 2 := by omega
    rcases cs with rfl | rfl | rfl
    · refine ⟨true, X.a, fun _ a na => ?_, fun z => nomatch z⟩
      refine ⟨_, rfl, rfl, rfl, d, _, v, rfl, hd, look_one, by show 2 ≤ sizeLine; decide, fun t ht => ?_⟩
      exact q _ t (s1.trans (same_new ht)) upd_same
    · refine ⟨false, X.b, (fun z => nomatch z), fun _ => ⟨true, X.d, fun _ a na => ?_, fun z => nomatch z⟩⟩
      refine ⟨_, rfl, rfl, rfl, d, _, v, rfl, hd, look_one, by show 2 ≤ sizeLine; decide, fun t ht => ?_⟩
      exact q _ t (s1.trans (same_new ht)) upd_same
    · refine ⟨false, X.e, (fun z => nomatch z), fun _ => ⟨false, X.f, (fun z => nomatch z), fun _ => ⟨true, X.g, fun _ a na => ?_, fun z => nomatch z⟩⟩⟩
      refine ⟨_, rfl, rfl, rfl, d, _, v, rfl, hd, rfl, by show 2 ≤ sizeLine; decide, fun t ht => ?_⟩
      exact q _ t (s1.trans (same_new ht)) upd_same
end
end K0

namespace K0
open PySem PySem.Spec PyProof.Rows L2
section
variable {P : Program} {w : World} {K : PySem.W.Frag} {mg : Str → Option Value} {base : Heap} {c : Nat → Addr} {cM cS : Addr}
/-! ### law -/
def spLaw (K : PySem.W.Frag) : Sp := fun vs H Q _ => ∃ (a : Addr) (ns : List Int), vs = [.ref a] ∧ SqL K H a (ns.map V.int) ∧ ns.length ≤ 63 ∧ ∀ H', Q (.bl true) H'
abbrev sLaw : Stmt := top 38
abbrev nLaw : List Str := ["_law_script", "_law_cup_here", "_law_turn", "_law_one", "_law_other", "_law_number"]
theorem scLaw : FnScope nLaw ["_law_script"] (defScope sLaw) := ⟨rfl, rfl, rfl, by decide +kernel, rfl, by decide +kernel, by decide +kernel⟩
/-- the first tuples of those caught -/
def Caught (x : V) (H : Hp) (D : Addr) (i : Nat) : Prop := ∃ ts : List Addr, ts.length = i ∧ H D = some (.lst (ts.map V.ref)) ∧ ∀ (j : Nat) (t : Addr), ts[j]? = some t → H t = some (.tup [.str (wd j), x])
theorem ok_law {f : Addr} {fd : FuncData} (F : Fun K "law" "law" sLaw f fd) (B : Bn mg) (C1 : Callee P w K mg base CX0 1 "_law_cup" ["_law_script"] (spCup K)) (C2 : Callee P w K mg base CX0 3 "_law_field" ["_law_cup_here"] (spF K)) (C3 : Callee P w K mg base CX0 4 "_law_single_right" ["_law_one", "_law_other"] (spTwo K))
    (C4 : Callee P w K mg base CX0 3 "_law_double_right" ["_law_one", "_law_other"] (spTwo K)) (C5 : Callee P w K mg base CX0 5 "_law_caught" ["_law_number", "_law_field_here"] spCaught) : FnOk P w K mg base CX0 6 f fd ["_law_script"] (spLaw K) := by
  obtain ⟨f1, fd1, m1, k1, b1, G1⟩ := C1
  obtain ⟨f2, fd2, m2, k2, b2, G2⟩ := C2
  obtain ⟨f3, fd3, m3, k3, b3, G3⟩ := C3
  obtain ⟨f4, fd4, m4, k4, b4, G4⟩ := C4
  obtain ⟨f5, fd5, m5, k5, b5, G5⟩ := C5
  have nd := scLaw.nd
  refine F.ok scLaw (fun vs H Q E h => ?_) (fun cdv A outer s H vs Q E hr h => ?_)
  · obtain ⟨a, ns, rfl, _⟩ := h
    rfl
  · obtain ⟨a, ns, rfl, hS, hl, q⟩ := h
    refine ⟨_, (pss_cons ((ps_set (i := 1) nd rfl (Or.inl rfl) ((pe_call G1 (hr.mono (by decide)) rfl m1 k1 b1 .nil pass0 (pa_cons (pv 0) pa_nil))))) (pss_cons (ps_for PassesOwn.never rfl (pi_range1 rfl B.range (pa_cons (pe_int) pa_nil)) (pg_name (i := 2) nd rfl (Or.inl rfl)) (pss_cons (ps_asg (pe_tup (pa_cons ((pe_call G2 (hr.mono (by decide)) rfl m2 k2 b2 .nil pass0 (pa_cons (pv 1) pa_nil))) (pa_cons ((pe_call G2 (hr.mono (by decide)) rfl m2 k2 b2 .nil pass0 (pa_cons (pv 1) pa_nil))) pa_nil))) (pg_tup rfl (pgs_cons (pg_name (i := 3) nd rfl (Or.inr rfl)) (pgs_cons (pg_name (i := 4) nd rfl (Or.inl rfl)) pgs_nil)))) (pss_cons (ps_if (PW.pt (pw_or (pt_not (pt_val (pe_call G3 (hr.mono (by decide)) rfl m3 k3 b3 .nil pass0 (pa_cons (pv 3) (pa_cons (pv 4) pa_nil))))) (pw_or (pt_not (pt_val (pe_call G4 (hr.mono (by decide)) rfl m4 k4 b4 .nil pass0 (pa_cons (pv 3) (pa_cons (pv 4) pa_nil))))) (pw_or1 (pt_not (pt_val (pe_call G4 (hr.mono (by decide)) rfl m4 k4 b4 .nil pass0 (pa_cons (pv 4) (pa_cons (pv 3) pa_nil))))))))) (pss_one (ps_ret pe_bl)) pss_nil) (pss_one (ps_if (pt_cmpR (op_neT hr.units) (pe_lc (own := [("_law_number", 5)]) (g := gName 5) (tt := tYes) rfl nd (pi_range1 rfl B.range (pa_cons (pe_int) pa_nil)) (blkOk_by (N := nLaw) (sc := defScope sLaw) (by decide +kernel)) (fun _ _ _ _ _ => pg_name (i := 5) nd rfl (Or.inl rfl)) (fun _ _ _ _ _ => pts_nil) (fun _ _ _ _ _ => (pe_call G5 (hr.mono (by decide)) rfl m5 k5 b5 .nil pass0 (pa_cons (pv 5) (pa_cons (pv 3) pa_nil)))))
          (pe_lst (pa_cons (pe_tup (pa_cons (pe_str) (pa_cons (pv 3) pa_nil))) (pa_cons (pe_tup (pa_cons (pe_str) (pa_cons (pv 3) pa_nil))) (pa_cons (pe_tup (pa_cons (pe_str) (pa_cons (pv 3) pa_nil))) pa_nil)))) (nomark _)) (pss_one (ps_ret pe_bl)) pss_nil))))) (pss_one (ps_ret pe_bl)))), ?_⟩
    refine ⟨_, rfl, a, ns, rfl, hS, hl, fun H1 p s1 np c1 => ?_⟩
    refine ⟨4, rfl, by decide, by decide, ?_⟩
    refine for_range (lo := 0) (n := 4) (fun i σ H' => Cup H' p (6 * i) ∧ ∃ x1 x2 x3 x4, σ = [some (.ref a), some (.ref p), x1, x2, x3, x4]) ⟨c1, _, _, _, _, rfl⟩ (fun i σ H2 hi pv => ?_) (fun σ H2 pv => q _)
    obtain ⟨c2, x1, x2, x3, x4, rfl⟩ := pv
    refine ⟨_, rfl, p, _, rfl, c2, by omega, fun H3 x s3 c3 kx nx => ?_⟩
    refine ⟨_, rfl, p, _, rfl, c3, by omega, fun H4 y s4 c4 ky ny => ?_⟩
    obtain ⟨_, _, _, hp3⟩ := c3.at
    have kx := kx.sb hp3 nx s4
    refine ⟨by show 2 ≤ sizeLine; decide, fun T hT => ?_⟩
    have sT := same_new (o := .tup [x, y]) hT
    have wT : upd H4 T (.tup [x, y]) T = some (.tup [x, y]) := upd_same
    generalize upd H4 T (.tup [x, y]) = H4' at sT wT ⊢
    have kx := kx.same sT
    have ky := ky.same sT
    have c4 := c4.same sT
    refine ⟨T, _, rfl, SqT.of wT, rfl, _, _, rfl, _, _, rfl, rfl, ?_⟩
    refine ⟨_, rfl, _, rfl, x, y, rfl, kx, ky, fun H5 s5 => ⟨_, rfl, iteF ?_⟩⟩
    refine ⟨_, rfl, _, rfl, x, y, rfl, kx.same s5, ky.same s5, fun H6 s6 => ⟨_, rfl, iteF ?_⟩⟩
    have s6 := s5.trans s6
    refine ⟨_, rfl, _, rfl, y, x, rfl, ky.same s6, kx.same s6, fun H7 s7 => ⟨_, rfl, iteF ?_⟩⟩
    have s7 := s6.trans s7
    refine ⟨3, rfl, by decide, by decide, fun D hD => ?_⟩
    refine lc_range (lo := 0) (n := 3) (fun i H' => Same H7 H' ∧ Caught x H' D i) ⟨same_new hD, [], rfl, upd_same, fun j t e => by simp at e⟩ (fun i H' hi p => ?_) (fun H8 p8 => ?_)
    · obtain ⟨sm, ts, lt, hd, ht⟩ := p
      have z : (0 : Int) + (i : Int) = (i : Int) := by omega
      rw [z]
      refine ⟨rfl, ?_⟩
      show tCall spCaught [] E0 (tCons (tVar 5) (tCons (tVar 3) tNil)) _ H' _
      refine ⟨_, rfl, _, rfl, i, x, rfl, hi, fun H9 t s9 ht9 => ⟨_, s9 _ _ hd, by rw [List.length_map]; exact small1000 (by omega), fun b o e => ?_, ts ++ [t], by simp [lt], ?_, fun j u e => ?_⟩⟩
      · rw [upd_ne (ne_of_none e hD)]
        exact s9 _ _ (sm b o e)
      · rw [upd_same, List.map_append]
        rfl
      · by_cases hj : j < ts.length
        · rw [List.getElem?_append_left hj] at e
          have e2 := s9 _ _ (ht j u e)
          rw [upd_ne (L2.ne_of e2 (s9 _ _ hd) (by intro z; cases z))]
          exact e2
        · have hj2 : j = ts.length := by
            rcases Nat.lt_or_ge j (ts ++ [t]).length with h | h
            · simp at h
              omega
            · rw [List.getElem?_eq_none h] at e
              cases e
          subst hj2
          rw [List.getElem?_append_right (Nat.le_refl _), Nat.sub_self] at e
          have eu : t = u := Option.some.inj e
          subst eu
          rw [upd_ne (L2.ne_of ht9 (s9 _ _ hd) (by intro z; cases z)), lt]
          exact ht9
    · obtain ⟨s8, ts, lt, hd, ht⟩ := p8
      have s8 := s7.trans s8
      refine ⟨_, rfl, by show 2 ≤ sizeLine; decide, fun u0 g0 => ?_⟩
      have t0 := same_new (o := .tup [V.str "missing", x]) g0
      have w0 : upd H8 u0 (.tup [V.str "missing", x]) u0 = some (.tup [V.str "missing", x]) := upd_same
      generalize upd H8 u0 (.tup [V.str "missing", x]) = J0 at t0 w0 ⊢
      refine ⟨_, rfl, by show 2 ≤ sizeLine; decide, fun u1 g1 => ?_⟩
      have t1 := same_new (o := .tup [V.str "twice", x]) g1
      have w1 : upd J0 u1 (.tup [V.str "twice", x]) u1 = some (.tup [V.str "twice", x]) := upd_same
      generalize upd J0 u1 (.tup [V.str "twice", x]) = J1 at t1 w1 ⊢
      have w0 := t1 _ _ w0
      have t1 := t0.trans t1
      refine ⟨_, rfl, by show 2 ≤ sizeLine; decide, fun u2 g2 => ?_⟩
      have t2 := same_new (o := .tup [V.str "seen", x]) g2
      have w2 : upd J1 u2 (.tup [V.str "seen", x]) u2 = some (.tup [V.str "seen", x]) := upd_same
      generalize upd J1 u2 (.tup [V.str "seen", x]) = J2 at t2 w2 ⊢
      have w0 := t2 _ _ w0
      have w1 := t2 _ _ w1
      have t2 := t1.trans t2
      refine ⟨by show 3 ≤ sizeLine; decide, fun L gL => ?_⟩
      have t3 := same_new (o := .lst [V.ref u0, V.ref u1, V.ref u2]) gL
      have wL : upd J2 L (.lst [V.ref u0, V.ref u1, V.ref u2]) L = some (.lst [V.ref u0, V.ref u1, V.ref u2]) := upd_same
      generalize upd J2 L (.lst [V.ref u0, V.ref u1, V.ref u2]) = J3 at t3 wL ⊢
      have w0 := t3 _ _ w0
      have w1 := t3 _ _ w1
      have w2 := t3 _ _ w2
      have t3 := t2.trans t3
      have fin := s8.trans t3
      refine ⟨D, L, ts.map V.ref, _, rfl, rfl, SqL.of (t3 _ _ hd), SqL.of wL, by rw [List.length_map, lt]; rfl, fun j e1 e2 h1 h2 => ?_, _, rfl, iteF ⟨c4.same fin, _, _, _, _, rfl⟩⟩
      obtain ⟨t, r1, r2⟩ : ∃ t, ts[j]? = some t ∧ e1 = V.ref t := by
        rw [List.getElem?_map] at h1
        cases h : ts[j]? with
        | none =>
          rw [h] at h1
          cases h1
        | some t =>
          rw [h] at h1
          exact ⟨t, rfl, (Option.some.inj h1).symm⟩
      have tt := t3 _ _ (ht j t r1)
      have sv : ∀ z ∈ [V.str (wd j), x], Sv K J3 z := fun z hz => by
        rcases List.mem_cons.mp hz with e | e
        · rw [e]
          exact .str _
        · rw [List.mem_singleton.mp e]
          exact kx.same fin
      match j, h2 with
      | 0, h2 => exact ⟨t, u0, _, r2, (Option.some.inj h2).symm, SqT.of tt, SqT.of w0, sv⟩
      | 1, h2 => exact ⟨t, u1, _, r2, (Option.some.inj h2).symm, SqT.of tt, SqT.of w1, sv⟩
      | 2, h2 => exact ⟨t, u2, _, r2, (Option.some.inj h2).symm, SqT.of tt, SqT.of w2, sv⟩
end
end K0

namespace K0
open PySem PySem.Spec PyProof.Rows L2
/-! ### what the written part says, looked up at once -/
def oexB (K : PySem.W.Frag) (C : Addr) : Bool := match K.lookup C with
  | some ⟨.type "type", _, .cls cd, sl⟩ => (match cd.mro, sl.toList with
    | .ref C' :: bm, [_, _, _, _, some (.builtin n), _] => C' == C && n == "ValueError.__new__" && !cd.hasDel && cd.hasDict && PySem.HandSPX.refsVE bm
    | _, _ => false)
  | _ => false
theorem oexB_ok {K : PySem.W.Frag} {C : Addr} (q : oexB K C = true) : ∃ nm qn N bs bm sn sub ab col dd k0 k1 k2 k3 k5, K.lookup C = some (excClassObj nm qn C N bs bm true sn sub ab col dd k0 k1 k2 k3 k5 "ValueError.__new__") ∧ PySem.HandSPX.refsVE bm = true := by
  unfold oexB at q
  split at q
  · rename_i dd cd sl ho
    split at q
    · rename_i C' bm k0 k1 k2 k3 n k5 hm hs
      simp only [Bool.and_eq_true, beq_iff_eq, Bool.not_eq_true'] at q
      obtain ⟨⟨⟨⟨rfl, rfl⟩, hdel⟩, hd⟩, ht⟩ := q
      obtain ⟨nm, bs, mro, ns, qn, hdc, sn, sub, ab, col, del⟩ := cd
      dsimp only at hm hdel hd
      subst hm hdel hd
      have hsl : sl = #[k0, k1, k2, k3, some (.builtin "ValueError.__new__"), k5] := by
        obtain ⟨l⟩ := sl
        simp only at hs
        rw [hs]
      subst hsl
      exact ⟨nm, qn, ns, bs, bm, sn, sub, ab, col, dd, k0, k1, k2, k3, k5, ho, ht⟩
    · cases q
  · cases q
def ecB (K : PySem.W.Frag) (C : Addr) : Bool := oexB K C && (decide (PySem.W.findIn K (.ref C) "__setattr__" = some (some (.builtin "object.__setattr__"))) && (decide (PySem.W.subIn K (.ref C) (.type "BaseException") = some true) && (decide (PySem.W.typeIn K (.ref C) = some (.type "type")) && (PySem.W.keepIn K (.ref C) &&
  (decide (PySem.W.findIn K (.ref C) "__getattribute__" = some (some (.builtin "BaseException.__getattribute__"))) && (decide (PySem.W.findIn K (.ref C) "__getattr__" = some none) && (PySem.W.hasDictIn K C && (decide (PySem.W.findIn K (.ref C) "__class__" = some (some (.builtin "object.__class__"))) &&
  (decide (PySem.W.specialIn K (.builtin "object.__class__") "__get__" = some (some (.builtin "getset_descriptor.__get__"))) && (decide (PySem.W.takesIn K (.builtin "object.__class__") = some true) && (decide (PySem.W.mroIn K C (.type "object") = some true) &&
  (decide (PySem.W.findIn K (.ref C) "__eq__" = some (some (.builtin "object.__eq__"))) && decide (PySem.W.findIn K (.ref C) "__ne__" = some (some (.builtin "object.__ne__")))))))))))))))
theorem ecB_ok {K : PySem.W.Frag} {C : Addr} (h : ecB K C = true) : Ec K C := by
  unfold ecB at h
  simp only [Bool.and_eq_true, decide_eq_true_eq] at h
  obtain ⟨h0, h1, h2, h3, h4, h5, h6, h7, h8, h9, h10, h11, h12, h13⟩ := h
  exact ⟨⟨oexB_ok h0, h1, h2, h3, h4⟩, ⟨h5, h6, h2, h7, h8, h9, h10, h11⟩, ⟨h5, h6, h2, h7⟩, h12, h13⟩
def ecAll (K : PySem.W.Frag) (l : List Addr) : Bool := l.all (ecB K)
theorem ecAll_ok {K : PySem.W.Frag} {l : List Addr} (h : ecAll K l = true) : ∀ C ∈ l, Ec K C := fun C hC => ecB_ok (List.all_eq_true.mp h C hC)
def clAt (l : List Addr) (n : Nat) : Addr := l.getD n 0
theorem clAt_mem {l : List Addr} {n : Nat} (h : n < l.length) : clAt l n ∈ l := by
  unfold clAt
  rw [List.getD_eq_getElem?_getD, List.getElem?_eq_getElem h]
  exact List.getElem_mem h
def oneB (K : PySem.W.Frag) (l : List Addr) (cM cS : Addr) (n : Nat) : Bool := ((List.range 23).all fun i => decide (PySem.W.kitOne K (.ref (clAt l n)) (.ref (clAt l i)) = some (decide (i = n)))) && (decide (PySem.W.kitOne K (.ref (clAt l n)) (.ref cM) = some (decide (13 ≤ n) && decide (n < 17))) &&
  (decide (PySem.W.kitOne K (.ref (clAt l n)) (.ref cS) = some true) && (decide (PySem.W.kitOne K (.ref (clAt l n)) (.type "ValueError") = some true) && decide (PySem.W.kitAny K (.ref (clAt l n)) [.type "LookupError", .type "TypeError", .type "ArithmeticError", .type "AttributeError", .type "RuntimeError"] = some false))))
def oneAll (K : PySem.W.Frag) (l : List Addr) (cM cS : Addr) : Bool := ((List.range 23).all (oneB K l cM cS)) && (decide (PySem.W.kitOne K (.ref cM) (.ref cS) = some true) && decide (PySem.W.kitAny K (.ref cM) [.ref (clAt l 13), .ref (clAt l 14), .ref (clAt l 15), .ref (clAt l 16), .ref (clAt l 17)] = some false))
theorem oneAll_ok {K : PySem.W.Frag} {l : List Addr} {cM cS : Addr} (h : oneAll K l cM cS = true) : (∀ n, n < 23 → One K (clAt l) cM cS (clAt l n) n) ∧ PySem.W.kitOne K (.ref cM) (.ref cS) = some true ∧ PySem.W.kitAny K (.ref cM) [.ref (clAt l 13), .ref (clAt l 14), .ref (clAt l 15), .ref (clAt l 16), .ref (clAt l 17)] = some false := by
  unfold oneAll at h
  simp only [Bool.and_eq_true, decide_eq_true_eq] at h
  obtain ⟨h, h1, h2⟩ := h
  refine ⟨fun n hn => ?_, h1, h2⟩
  have z := List.all_eq_true.mp h n (List.mem_range.mpr hn)
  unfold oneB at z
  simp only [Bool.and_eq_true, decide_eq_true_eq] at z
  obtain ⟨z, z1, z2, z3, z4⟩ := z
  exact ⟨fun i hi => of_decide_eq_true (List.all_eq_true.mp z i (List.mem_range.mpr hi)), by rw [z1], z2, z3, z4⟩
def exAll (K : PySem.W.Frag) (l : List Addr) (cM cS : Addr) : Bool := decide (PySem.W.exmOne K (.ref (clAt l 14)) (.ref cM) = some true) && (decide (PySem.W.exmOne K (.ref (clAt l 17)) (.ref cM) = some false) && (decide (PySem.W.exmOne K (.ref (clAt l 17)) (.ref (clAt l 17)) = some true) &&
  (decide (PySem.W.exmOne K (.ref (clAt l 19)) (.ref cM) = some false) && (decide (PySem.W.exmOne K (.ref (clAt l 19)) (.ref (clAt l 17)) = some false) && decide (PySem.W.exmOne K (.ref (clAt l 19)) (.ref cS) = some true)))))
theorem exAll_ok {K : PySem.W.Frag} {l : List Addr} {cM cS : Addr} (h : exAll K l cM cS = true) : Ex K (clAt l) cM cS := by
  unfold exAll at h
  simp only [Bool.and_eq_true, decide_eq_true_eq] at h
  obtain ⟨h1, h2, h3, h4, h5, h6⟩ := h
  exact ⟨h1, h2, h3, h4, h5, h6⟩
def noAll (K : PySem.W.Frag) (l : List Addr) : Bool := (List.range 19).all fun n => decide (PySem.W.findIn K (.ref (clAt l n)) (fl n) = some none)
theorem noAll_ok {K : PySem.W.Frag} {l : List Addr} (h : noAll K l = true) : ∀ n, n < 19 → PySem.W.findIn K (.ref (clAt l n)) (fl n) = some none := fun n hn => of_decide_eq_true (List.all_eq_true.mp h n (List.mem_range.mpr hn))
def noTwo (K : PySem.W.Frag) (a b d e : Addr) : Bool := decide (PySem.W.findIn K (.ref a) "value" = some none) && (decide (PySem.W.findIn K (.ref b) "what" = some none) && (decide (PySem.W.findIn K (.ref b) "most" = some none) && (decide (PySem.W.findIn K (.ref d) "line" = some none) && (decide (PySem.W.findIn K (.ref d) "item" = some none) &&
  (decide (PySem.W.findIn K (.ref e) "line" = some none) && decide (PySem.W.findIn K (.ref e) "error" = some none))))))
theorem noTwo_ok {K : PySem.W.Frag} {a b d e : Addr} (h : noTwo K a b d e = true) : PySem.W.findIn K (.ref a) "value" = some none ∧ PySem.W.findIn K (.ref b) "what" = some none ∧ PySem.W.findIn K (.ref b) "most" = some none ∧ PySem.W.findIn K (.ref d) "line" = some none ∧ PySem.W.findIn K (.ref d) "item" = some none ∧
    PySem.W.findIn K (.ref e) "line" = some none ∧ PySem.W.findIn K (.ref e) "error" = some none := by
  unfold noTwo at h
  simp only [Bool.and_eq_true, decide_eq_true_eq] at h
  exact h
theorem all_mk {l : PySem.W.OpenLaw} {w : World} {K : PySem.W.Frag} {h : Heap} {mg : Str → Option Value} {fa : Addr} {C2 C3 C4 C5 C6 C7 C8 C9 C10 C11 C12 C13 C14 C16 C17 C18 C19 C20 C21 C22 C23 C24 C25 C15 CS f27 f28 f29 f30 f31 f32 f33 f34 f35 f36 f37 f38 fI2 fI3 fI4 fI5 fI6 fI7 fI8 fI9 fI10 fI11 fI12 fI13 fI14 fI15 fI20 fI21 fI22 fI24 fI25 : Addr} {od27 an27 od28 an28 od29 an29 od30 an30 od31 an31 od32 an32 od33 an33 od34 an34 od35 an35 od36 an36 od37 an37 od38 an38 odI2 anI2 odI3 anI3 odI4 anI4 odI5 anI5 odI6 anI6 odI7 anI7 odI8 anI8 odI9 anI9 odI10 anI10 odI11 anI11 odI12 anI12 odI13 anI13 odI14 anI14 odI15 anI15 odI20 anI20 odI21 anI21 odI22 anI22 odI24 anI24 odI25 anI25 : Option Addr} {sl27 sl28 sl29 sl30 sl31 sl32 sl33 sl34 sl35 sl36 sl37 sl38 slI2 slI3 slI4 slI5 slI6 slI7 slI8 slI9 slI10 slI11 slI12 slI13 slI14 slI15 slI20 slI21 slI22 slI24 slI25 : Array (Option Value)} {oc27 kV27 dc27 pm27 cv27 ct27 oc28 kV28 dc28 pm28 cv28 ct28 oc29 kV29 dc29 pm29 cv29 ct29 oc30 kV30 dc30 pm30 cv30 ct30 oc31 kV31 dc31 pm31 cv31 ct31 oc32 kV32 dc32 pm32 cv32 ct32 oc33 kV33 dc33 pm33 cv33 ct33 oc34 kV34 dc34 pm34 cv34 ct34 oc35 kV35 dc35 pm35 cv35 ct35 oc36 kV36 dc36 pm36 cv36 ct36 oc37 kV37 dc37 pm37 cv37 ct37 oc38 kV38 dc38 pm38 cv38 ct38 ocI2 kVI2 dcI2 pmI2 cvI2 ctI2 ocI3 kVI3 dcI3 pmI3 cvI3 ctI3 ocI4 kVI4 dcI4 pmI4 cvI4 ctI4 ocI5 kVI5 dcI5 pmI5 cvI5 ctI5 ocI6 kVI6 dcI6 pmI6 cvI6 ctI6 ocI7 kVI7 dcI7 pmI7 cvI7 ctI7 ocI8 kVI8 dcI8 pmI8 cvI8 ctI8 ocI9 kVI9 dcI9 pmI9 cvI9 ctI9 ocI10 kVI10 dcI10 pmI10 cvI10 ctI10 ocI11 kVI11 dcI11 pmI11 cvI11 ctI11 ocI12 kVI12 dcI12 pmI12 cvI12 ctI12 ocI13 kVI13 dcI13 pmI13 cvI13 ctI13 ocI14 kVI14 dcI14 pmI14 cvI14 ctI14 ocI15 kVI15 dcI15 pmI15 cvI15 ctI15 ocI20 kVI20 dcI20 pmI20 cvI20 ctI20 ocI21 kVI21 dcI21 pmI21 cvI21 ctI21 ocI22 kVI22 dcI22 pmI22 cvI22 ctI22 ocI24 kVI24 dcI24 pmI24 cvI24 ctI24 ocI25 kVI25 dcI25 pmI25 cvI25 ctI25 : Value}
    (X : K.In h) (G : h.Ns mainGlobals mg) (hfa : mg "law" = some (.ref fa))
    (aC2 : PySem.W.nsIn K mainGlobals "BadNumber" = some (some (.ref C2)))
    (aC3 : PySem.W.nsIn K mainGlobals "BadRatio" = some (some (.ref C3)))
    (aC4 : PySem.W.nsIn K mainGlobals "BadTable" = some (some (.ref C4)))
    (aC5 : PySem.W.nsIn K mainGlobals "BadChart" = some (some (.ref C5)))
    (aC6 : PySem.W.nsIn K mainGlobals "BadBody" = some (some (.ref C6)))
    (aC7 : PySem.W.nsIn K mainGlobals "BadPicture" = some (some (.ref C7)))
    (aC8 : PySem.W.nsIn K mainGlobals "BadAlbum" = some (some (.ref C8)))
    (aC9 : PySem.W.nsIn K mainGlobals "BadTray" = some (some (.ref C9)))
    (aC10 : PySem.W.nsIn K mainGlobals "BadSaying" = some (some (.ref C10)))
    (aC11 : PySem.W.nsIn K mainGlobals "BadFact" = some (some (.ref C11)))
    (aC12 : PySem.W.nsIn K mainGlobals "BadPaper" = some (some (.ref C12)))
    (aC13 : PySem.W.nsIn K mainGlobals "BadDesk" = some (some (.ref C13)))
    (aC14 : PySem.W.nsIn K mainGlobals "Misfit" = some (some (.ref C14)))
    (aC16 : PySem.W.nsIn K mainGlobals "NoPin" = some (some (.ref C16)))
    (aC17 : PySem.W.nsIn K mainGlobals "NoPicture" = some (some (.ref C17)))
    (aC18 : PySem.W.nsIn K mainGlobals "NoFact" = some (some (.ref C18)))
    (aC19 : PySem.W.nsIn K mainGlobals "NoName" = some (some (.ref C19)))
    (aC20 : PySem.W.nsIn K mainGlobals "Twice" = some (some (.ref C20)))
    (aC21 : PySem.W.nsIn K mainGlobals "Impossible" = some (some (.ref C21)))
    (aC22 : PySem.W.nsIn K mainGlobals "TooMany" = some (some (.ref C22)))
    (aC23 : PySem.W.nsIn K mainGlobals "Nothing" = some (some (.ref C23)))
    (aC24 : PySem.W.nsIn K mainGlobals "BadText" = some (some (.ref C24)))
    (aC25 : PySem.W.nsIn K mainGlobals "BadLine" = some (some (.ref C25)))
    (aC15 : PySem.W.nsIn K mainGlobals "Missing" = some (some (.ref C15)))
    (aS : PySem.W.nsIn K mainGlobals "SeenError" = some (some (.ref CS)))
    (iC2 : PySem.W.findIn K (.ref C2) "__init__" = some (some (.ref fI2)))
    (iC3 : PySem.W.findIn K (.ref C3) "__init__" = some (some (.ref fI3)))
    (iC4 : PySem.W.findIn K (.ref C4) "__init__" = some (some (.ref fI4)))
    (iC5 : PySem.W.findIn K (.ref C5) "__init__" = some (some (.ref fI5)))
    (iC6 : PySem.W.findIn K (.ref C6) "__init__" = some (some (.ref fI6)))
    (iC7 : PySem.W.findIn K (.ref C7) "__init__" = some (some (.ref fI7)))
    (iC8 : PySem.W.findIn K (.ref C8) "__init__" = some (some (.ref fI8)))
    (iC9 : PySem.W.findIn K (.ref C9) "__init__" = some (some (.ref fI9)))
    (iC10 : PySem.W.findIn K (.ref C10) "__init__" = some (some (.ref fI10)))
    (iC11 : PySem.W.findIn K (.ref C11) "__init__" = some (some (.ref fI11)))
    (iC12 : PySem.W.findIn K (.ref C12) "__init__" = some (some (.ref fI12)))
    (iC13 : PySem.W.findIn K (.ref C13) "__init__" = some (some (.ref fI13)))
    (iC14 : PySem.W.findIn K (.ref C14) "__init__" = some (some (.ref fI14)))
    (iC15 : PySem.W.findIn K (.ref C15) "__init__" = some (some (.ref fI15)))
    (iC20 : PySem.W.findIn K (.ref C20) "__init__" = some (some (.ref fI20)))
    (iC21 : PySem.W.findIn K (.ref C21) "__init__" = some (some (.ref fI21)))
    (iC22 : PySem.W.findIn K (.ref C22) "__init__" = some (some (.ref fI22)))
    (iC24 : PySem.W.findIn K (.ref C24) "__init__" = some (some (.ref fI24)))
    (iC25 : PySem.W.findIn K (.ref C25) "__init__" = some (some (.ref fI25)))
    (iC16 : PySem.W.findIn K (.ref C16) "__init__" = some (some (.ref fI15)))
    (iC17 : PySem.W.findIn K (.ref C17) "__init__" = some (some (.ref fI15)))
    (iC18 : PySem.W.findIn K (.ref C18) "__init__" = some (some (.ref fI15)))
    (iC19 : PySem.W.findIn K (.ref C19) "__init__" = some (some (.ref fI15)))
    (lI2 : K.lookup fI2 = some ⟨ocI2, odI2, .func (PySem.W.fnOf "__init__" "BadNumber.__init__" (defArgs sI2) (defBody sI2) (defScope sI2) .none kVI2 dcI2 pmI2 anI2 cvI2 ctI2), slI2⟩)
    (cI2 : PySem.W.codeIn K cvI2 "BadNumber.__init__" = true)
    (kI2 : PySem.W.keepIn K (.ref fI2) = true)
    (tI2 : PySem.W.typeIn K (.ref fI2) = some (.type "function"))
    (lI3 : K.lookup fI3 = some ⟨ocI3, odI3, .func (PySem.W.fnOf "__init__" "BadRatio.__init__" (defArgs sI3) (defBody sI3) (defScope sI3) .none kVI3 dcI3 pmI3 anI3 cvI3 ctI3), slI3⟩)
    (cI3 : PySem.W.codeIn K cvI3 "BadRatio.__init__" = true)
    (kI3 : PySem.W.keepIn K (.ref fI3) = true)
    (tI3 : PySem.W.typeIn K (.ref fI3) = some (.type "function"))
    (lI4 : K.lookup fI4 = some ⟨ocI4, odI4, .func (PySem.W.fnOf "__init__" "BadTable.__init__" (defArgs sI4) (defBody sI4) (defScope sI4) .none kVI4 dcI4 pmI4 anI4 cvI4 ctI4), slI4⟩)
    (cI4 : PySem.W.codeIn K cvI4 "BadTable.__init__" = true)
    (kI4 : PySem.W.keepIn K (.ref fI4) = true)
    (tI4 : PySem.W.typeIn K (.ref fI4) = some (.type "function"))
    (lI5 : K.lookup fI5 = some ⟨ocI5, odI5, .func (PySem.W.fnOf "__init__" "BadChart.__init__" (defArgs sI5) (defBody sI5) (defScope sI5) .none kVI5 dcI5 pmI5 anI5 cvI5 ctI5), slI5⟩)
    (cI5 : PySem.W.codeIn K cvI5 "BadChart.__init__" = true)
    (kI5 : PySem.W.keepIn K (.ref fI5) = true)
    (tI5 : PySem.W.typeIn K (.ref fI5) = some (.type "function"))
    (lI6 : K.lookup fI6 = some ⟨ocI6, odI6, .func (PySem.W.fnOf "__init__" "BadBody.__init__" (defArgs sI6) (defBody sI6) (defScope sI6) .none kVI6 dcI6 pmI6 anI6 cvI6 ctI6), slI6⟩)
    (cI6 : PySem.W.codeIn K cvI6 "BadBody.__init__" = true)
    (kI6 : PySem.W.keepIn K (.ref fI6) = true)
    (tI6 : PySem.W.typeIn K (.ref fI6) = some (.type "function"))
    (lI7 : K.lookup fI7 = some ⟨ocI7, odI7, .func (PySem.W.fnOf "__init__" "BadPicture.__init__" (defArgs sI7) (defBody sI7) (defScope sI7) .none kVI7 dcI7 pmI7 anI7 cvI7 ctI7), slI7⟩)
    (cI7 : PySem.W.codeIn K cvI7 "BadPicture.__init__" = true)
    (kI7 : PySem.W.keepIn K (.ref fI7) = true)
    (tI7 : PySem.W.typeIn K (.ref fI7) = some (.type "function"))
    (lI8 : K.lookup fI8 = some ⟨ocI8, odI8, .func (PySem.W.fnOf "__init__" "BadAlbum.__init__" (defArgs sI8) (defBody sI8) (defScope sI8) .none kVI8 dcI8 pmI8 anI8 cvI8 ctI8), slI8⟩)
    (cI8 : PySem.W.codeIn K cvI8 "BadAlbum.__init__" = true)
    (kI8 : PySem.W.keepIn K (.ref fI8) = true)
    (tI8 : PySem.W.typeIn K (.ref fI8) = some (.type "function"))
    (lI9 : K.lookup fI9 = some ⟨ocI9, odI9, .func (PySem.W.fnOf "__init__" "BadTray.__init__" (defArgs sI9) (defBody sI9) (defScope sI9) .none kVI9 dcI9 pmI9 anI9 cvI9 ctI9), slI9⟩)
    (cI9 : PySem.W.codeIn K cvI9 "BadTray.__init__" = true)
    (kI9 : PySem.W.keepIn K (.ref fI9) = true)
    (tI9 : PySem.W.typeIn K (.ref fI9) = some (.type "function"))
    (lI10 : K.lookup fI10 = some ⟨ocI10, odI10, .func (PySem.W.fnOf "__init__" "BadSaying.__init__" (defArgs sI10) (defBody sI10) (defScope sI10) .none kVI10 dcI10 pmI10 anI10 cvI10 ctI10), slI10⟩)
    (cI10 : PySem.W.codeIn K cvI10 "BadSaying.__init__" = true)
    (kI10 : PySem.W.keepIn K (.ref fI10) = true)
    (tI10 : PySem.W.typeIn K (.ref fI10) = some (.type "function"))
    (lI11 : K.lookup fI11 = some ⟨ocI11, odI11, .func (PySem.W.fnOf "__init__" "BadFact.__init__" (defArgs sI11) (defBody sI11) (defScope sI11) .none kVI11 dcI11 pmI11 anI11 cvI11 ctI11), slI11⟩)
    (cI11 : PySem.W.codeIn K cvI11 "BadFact.__init__" = true)
    (kI11 : PySem.W.keepIn K (.ref fI11) = true)
    (tI11 : PySem.W.typeIn K (.ref fI11) = some (.type "function"))
    (lI12 : K.lookup fI12 = some ⟨ocI12, odI12, .func (PySem.W.fnOf "__init__" "BadPaper.__init__" (defArgs sI12) (defBody sI12) (defScope sI12) .none kVI12 dcI12 pmI12 anI12 cvI12 ctI12), slI12⟩)
    (cI12 : PySem.W.codeIn K cvI12 "BadPaper.__init__" = true)
    (kI12 : PySem.W.keepIn K (.ref fI12) = true)
    (tI12 : PySem.W.typeIn K (.ref fI12) = some (.type "function"))
    (lI13 : K.lookup fI13 = some ⟨ocI13, odI13, .func (PySem.W.fnOf "__init__" "BadDesk.__init__" (defArgs sI13) (defBody sI13) (defScope sI13) .none kVI13 dcI13 pmI13 anI13 cvI13 ctI13), slI13⟩)
    (cI13 : PySem.W.codeIn K cvI13 "BadDesk.__init__" = true)
    (kI13 : PySem.W.keepIn K (.ref fI13) = true)
    (tI13 : PySem.W.typeIn K (.ref fI13) = some (.type "function"))
    (lI14 : K.lookup fI14 = some ⟨ocI14, odI14, .func (PySem.W.fnOf "__init__" "Misfit.__init__" (defArgs sI14) (defBody sI14) (defScope sI14) .none kVI14 dcI14 pmI14 anI14 cvI14 ctI14), slI14⟩)
    (cI14 : PySem.W.codeIn K cvI14 "Misfit.__init__" = true)
    (kI14 : PySem.W.keepIn K (.ref fI14) = true)
    (tI14 : PySem.W.typeIn K (.ref fI14) = some (.type "function"))
    (lI15 : K.lookup fI15 = some ⟨ocI15, odI15, .func (PySem.W.fnOf "__init__" "Missing.__init__" (defArgs sI15) (defBody sI15) (defScope sI15) .none kVI15 dcI15 pmI15 anI15 cvI15 ctI15), slI15⟩)
    (cI15 : PySem.W.codeIn K cvI15 "Missing.__init__" = true)
    (kI15 : PySem.W.keepIn K (.ref fI15) = true)
    (tI15 : PySem.W.typeIn K (.ref fI15) = some (.type "function"))
    (lI20 : K.lookup fI20 = some ⟨ocI20, odI20, .func (PySem.W.fnOf "__init__" "Twice.__init__" (defArgs sI20) (defBody sI20) (defScope sI20) .none kVI20 dcI20 pmI20 anI20 cvI20 ctI20), slI20⟩)
    (cI20 : PySem.W.codeIn K cvI20 "Twice.__init__" = true)
    (kI20 : PySem.W.keepIn K (.ref fI20) = true)
    (tI20 : PySem.W.typeIn K (.ref fI20) = some (.type "function"))
    (lI21 : K.lookup fI21 = some ⟨ocI21, odI21, .func (PySem.W.fnOf "__init__" "Impossible.__init__" (defArgs sI21) (defBody sI21) (defScope sI21) .none kVI21 dcI21 pmI21 anI21 cvI21 ctI21), slI21⟩)
    (cI21 : PySem.W.codeIn K cvI21 "Impossible.__init__" = true)
    (kI21 : PySem.W.keepIn K (.ref fI21) = true)
    (tI21 : PySem.W.typeIn K (.ref fI21) = some (.type "function"))
    (lI22 : K.lookup fI22 = some ⟨ocI22, odI22, .func (PySem.W.fnOf "__init__" "TooMany.__init__" (defArgs sI22) (defBody sI22) (defScope sI22) .none kVI22 dcI22 pmI22 anI22 cvI22 ctI22), slI22⟩)
    (cI22 : PySem.W.codeIn K cvI22 "TooMany.__init__" = true)
    (kI22 : PySem.W.keepIn K (.ref fI22) = true)
    (tI22 : PySem.W.typeIn K (.ref fI22) = some (.type "function"))
    (lI24 : K.lookup fI24 = some ⟨ocI24, odI24, .func (PySem.W.fnOf "__init__" "BadText.__init__" (defArgs sI24) (defBody sI24) (defScope sI24) .none kVI24 dcI24 pmI24 anI24 cvI24 ctI24), slI24⟩)
    (cI24 : PySem.W.codeIn K cvI24 "BadText.__init__" = true)
    (kI24 : PySem.W.keepIn K (.ref fI24) = true)
    (tI24 : PySem.W.typeIn K (.ref fI24) = some (.type "function"))
    (lI25 : K.lookup fI25 = some ⟨ocI25, odI25, .func (PySem.W.fnOf "__init__" "BadLine.__init__" (defArgs sI25) (defBody sI25) (defScope sI25) .none kVI25 dcI25 pmI25 anI25 cvI25 ctI25), slI25⟩)
    (cI25 : PySem.W.codeIn K cvI25 "BadLine.__init__" = true)
    (kI25 : PySem.W.keepIn K (.ref fI25) = true)
    (tI25 : PySem.W.typeIn K (.ref fI25) = some (.type "function"))
    (hE : ecAll K (C15 :: [C2, C3, C4, C5, C6, C7, C8, C9, C10, C11, C12, C13, C14, C16, C17, C18, C19, C20, C21, C22, C23, C24, C25]) = true)
    (hO : oneAll K [C2, C3, C4, C5, C6, C7, C8, C9, C10, C11, C12, C13, C14, C16, C17, C18, C19, C20, C21, C22, C23, C24, C25] C15 CS = true)
    (hX : exAll K [C2, C3, C4, C5, C6, C7, C8, C9, C10, C11, C12, C13, C14, C16, C17, C18, C19, C20, C21, C22, C23, C24, C25] C15 CS = true)
    (hN : noAll K [C2, C3, C4, C5, C6, C7, C8, C9, C10, C11, C12, C13, C14, C16, C17, C18, C19, C20, C21, C22, C23, C24, C25] = true)
    (hM : noTwo K C15 C22 C24 C25 = true)
    (hT : PySem.W.excIn K C23 [.type "ValueError", .type "Exception", .type "BaseException", .type "object"] "ValueError.__new__" = true)
    (a27 : PySem.W.nsIn K mainGlobals "_law_cup" = some (some (.ref f27)))
    (l27 : K.lookup f27 = some ⟨oc27, od27, .func (PySem.W.fnOf "_law_cup" "_law_cup" (defArgs sCup) (defBody sCup) (defScope sCup) .none kV27 dc27 pm27 an27 cv27 ct27), sl27⟩)
    (c27 : PySem.W.codeIn K cv27 "_law_cup" = true)
    (k27 : PySem.W.keepIn K (.ref f27) = true)
    (a28 : PySem.W.nsIn K mainGlobals "_law_dip" = some (some (.ref f28)))
    (l28 : K.lookup f28 = some ⟨oc28, od28, .func (PySem.W.fnOf "_law_dip" "_law_dip" (defArgs sDip) (defBody sDip) (defScope sDip) .none kV28 dc28 pm28 an28 cv28 ct28), sl28⟩)
    (c28 : PySem.W.codeIn K cv28 "_law_dip" = true)
    (k28 : PySem.W.keepIn K (.ref f28) = true)
    (a29 : PySem.W.nsIn K mainGlobals "_law_field" = some (some (.ref f29)))
    (l29 : K.lookup f29 = some ⟨oc29, od29, .func (PySem.W.fnOf "_law_field" "_law_field" (defArgs sF) (defBody sF) (defScope sF) .none kV29 dc29 pm29 an29 cv29 ct29), sl29⟩)
    (c29 : PySem.W.codeIn K cv29 "_law_field" = true)
    (k29 : PySem.W.keepIn K (.ref f29) = true)
    (a30 : PySem.W.nsIn K mainGlobals "_law_is_one" = some (some (.ref f30)))
    (l30 : K.lookup f30 = some ⟨oc30, od30, .func (PySem.W.fnOf "_law_is_one" "_law_is_one" (defArgs sOne) (defBody sOne) (defScope sOne) .none kV30 dc30 pm30 an30 cv30 ct30), sl30⟩)
    (c30 : PySem.W.codeIn K cv30 "_law_is_one" = true)
    (k30 : PySem.W.keepIn K (.ref f30) = true)
    (a31 : PySem.W.nsIn K mainGlobals "_law_by_place" = some (some (.ref f31)))
    (l31 : K.lookup f31 = some ⟨oc31, od31, .func (PySem.W.fnOf "_law_by_place" "_law_by_place" (defArgs sBp) (defBody sBp) (defScope sBp) .none kV31 dc31 pm31 an31 cv31 ct31), sl31⟩)
    (c31 : PySem.W.codeIn K cv31 "_law_by_place" = true)
    (k31 : PySem.W.keepIn K (.ref f31) = true)
    (a32 : PySem.W.nsIn K mainGlobals "_law_by_name" = some (some (.ref f32)))
    (l32 : K.lookup f32 = some ⟨oc32, od32, .func (PySem.W.fnOf "_law_by_name" "_law_by_name" (defArgs sBn) (defBody sBn) (defScope sBn) .none kV32 dc32 pm32 an32 cv32 ct32), sl32⟩)
    (c32 : PySem.W.codeIn K cv32 "_law_by_name" = true)
    (k32 : PySem.W.keepIn K (.ref f32) = true)
    (a33 : PySem.W.nsIn K mainGlobals "_law_kept" = some (some (.ref f33)))
    (l33 : K.lookup f33 = some ⟨oc33, od33, .func (PySem.W.fnOf "_law_kept" "_law_kept" (defArgs sKept) (defBody sKept) (defScope sKept) .none kV33 dc33 pm33 an33 cv33 ct33), sl33⟩)
    (c33 : PySem.W.codeIn K cv33 "_law_kept" = true)
    (k33 : PySem.W.keepIn K (.ref f33) = true)
    (a34 : PySem.W.nsIn K mainGlobals "_law_single_right" = some (some (.ref f34)))
    (l34 : K.lookup f34 = some ⟨oc34, od34, .func (PySem.W.fnOf "_law_single_right" "_law_single_right" (defArgs sSg) (defBody sSg) (defScope sSg) .none kV34 dc34 pm34 an34 cv34 ct34), sl34⟩)
    (c34 : PySem.W.codeIn K cv34 "_law_single_right" = true)
    (k34 : PySem.W.keepIn K (.ref f34) = true)
    (a35 : PySem.W.nsIn K mainGlobals "_law_double_right" = some (some (.ref f35)))
    (l35 : K.lookup f35 = some ⟨oc35, od35, .func (PySem.W.fnOf "_law_double_right" "_law_double_right" (defArgs sDb) (defBody sDb) (defScope sDb) .none kV35 dc35 pm35 an35 cv35 ct35), sl35⟩)
    (c35 : PySem.W.codeIn K cv35 "_law_double_right" = true)
    (k35 : PySem.W.keepIn K (.ref f35) = true)
    (a36 : PySem.W.nsIn K mainGlobals "_law_raised" = some (some (.ref f36)))
    (l36 : K.lookup f36 = some ⟨oc36, od36, .func (PySem.W.fnOf "_law_raised" "_law_raised" (defArgs sRd) (defBody sRd) (defScope sRd) .none kV36 dc36 pm36 an36 cv36 ct36), sl36⟩)
    (c36 : PySem.W.codeIn K cv36 "_law_raised" = true)
    (k36 : PySem.W.keepIn K (.ref f36) = true)
    (a37 : PySem.W.nsIn K mainGlobals "_law_caught" = some (some (.ref f37)))
    (l37 : K.lookup f37 = some ⟨oc37, od37, .func (PySem.W.fnOf "_law_caught" "_law_caught" (defArgs sCt) (defBody sCt) (defScope sCt) .none kV37 dc37 pm37 an37 cv37 ct37), sl37⟩)
    (c37 : PySem.W.codeIn K cv37 "_law_caught" = true)
    (k37 : PySem.W.keepIn K (.ref f37) = true)
    (a38 : PySem.W.nsIn K mainGlobals "law" = some (some (.ref f38)))
    (l38 : K.lookup f38 = some ⟨oc38, od38, .func (PySem.W.fnOf "law" "law" (defArgs sLaw) (defBody sLaw) (defScope sLaw) .none kV38 dc38 pm38 an38 cv38 ct38), sl38⟩)
    (c38 : PySem.W.codeIn K cv38 "law" = true)
    (k38 : PySem.W.keepIn K (.ref f38) = true)
    (z_isinstance : PySem.W.nsIn K mainGlobals "isinstance" = some none)
    (z_int : PySem.W.nsIn K mainGlobals "int" = some none)
    (z_abs : PySem.W.nsIn K mainGlobals "abs" = some none)
    (z_range : PySem.W.nsIn K mainGlobals "range" = some none)
    (z_str : PySem.W.nsIn K mainGlobals "str" = some none)
    (z_ValueError : PySem.W.nsIn K mainGlobals "ValueError" = some none)
    (z_LookupError : PySem.W.nsIn K mainGlobals "LookupError" = some none)
    (z_TypeError : PySem.W.nsIn K mainGlobals "TypeError" = some none)
    (z_ArithmeticError : PySem.W.nsIn K mainGlobals "ArithmeticError" = some none)
    (z_AttributeError : PySem.W.nsIn K mainGlobals "AttributeError" = some none)
    (z_RuntimeError : PySem.W.nsIn K mainGlobals "RuntimeError" = some none) :
    ∃ fd : FuncData, (∀ (s : Shared) (v : Value), BindsTo s fd ⟨[v], []⟩ [("_law_script", v)]) ∧ ∀ base : Heap, K.In base → base.Ns mainGlobals mg → FnOk l.prog w K mg base CX0 6 fa fd ["_law_script"] (spLaw K) := by
  have e := hfa.symm.trans (PySem.W.mg_of X G a38)
  cases e
  have F27 := fun_mk (st := sCup) l27 c27 k27
  have F28 := fun_mk (st := sDip) l28 c28 k28
  have F29 := fun_mk (st := sF) l29 c29 k29
  have F30 := fun_mk (st := sOne) l30 c30 k30
  have F31 := fun_mk (st := sBp) l31 c31 k31
  have F32 := fun_mk (st := sBn) l32 c32 k32
  have F33 := fun_mk (st := sKept) l33 c33 k33
  have F34 := fun_mk (st := sSg) l34 c34 k34
  have F35 := fun_mk (st := sDb) l35 c35 k35
  have F36 := fun_mk (st := sRd) l36 c36 k36
  have F37 := fun_mk (st := sCt) l37 c37 k37
  have F38 := fun_mk (st := sLaw) l38 c38 k38
  have FI2 := fun_mk (st := sI2) lI2 cI2 kI2
  have FI3 := fun_mk (st := sI3) lI3 cI3 kI3
  have FI4 := fun_mk (st := sI4) lI4 cI4 kI4
  have FI5 := fun_mk (st := sI5) lI5 cI5 kI5
  have FI6 := fun_mk (st := sI6) lI6 cI6 kI6
  have FI7 := fun_mk (st := sI7) lI7 cI7 kI7
  have FI8 := fun_mk (st := sI8) lI8 cI8 kI8
  have FI9 := fun_mk (st := sI9) lI9 cI9 kI9
  have FI10 := fun_mk (st := sI10) lI10 cI10 kI10
  have FI11 := fun_mk (st := sI11) lI11 cI11 kI11
  have FI12 := fun_mk (st := sI12) lI12 cI12 kI12
  have FI13 := fun_mk (st := sI13) lI13 cI13 kI13
  have FI14 := fun_mk (st := sI14) lI14 cI14 kI14
  have FI15 := fun_mk (st := sI15) lI15 cI15 kI15
  have FI20 := fun_mk (st := sI20) lI20 cI20 kI20
  have FI21 := fun_mk (st := sI21) lI21 cI21 kI21
  have FI22 := fun_mk (st := sI22) lI22 cI22 kI22
  have FI24 := fun_mk (st := sI24) lI24 cI24 kI24
  have FI25 := fun_mk (st := sI25) lI25 cI25 kI25
  have B : Bn mg := ⟨PySem.W.mg_none_of X G z_isinstance, PySem.W.mg_none_of X G z_int, PySem.W.mg_none_of X G z_abs, PySem.W.mg_none_of X G z_range, PySem.W.mg_none_of X G z_str, PySem.W.mg_none_of X G z_ValueError, PySem.W.mg_none_of X G z_LookupError, PySem.W.mg_none_of X G z_TypeError, PySem.W.mg_none_of X G z_ArithmeticError, PySem.W.mg_none_of X G z_AttributeError, PySem.W.mg_none_of X G z_RuntimeError⟩
  have N : Nm mg (clAt [C2, C3, C4, C5, C6, C7, C8, C9, C10, C11, C12, C13, C14, C16, C17, C18, C19, C20, C21, C22, C23, C24, C25]) C15 CS := ⟨PySem.W.mg_of X G aC2, PySem.W.mg_of X G aC3, PySem.W.mg_of X G aC4, PySem.W.mg_of X G aC5, PySem.W.mg_of X G aC6, PySem.W.mg_of X G aC7, PySem.W.mg_of X G aC8, PySem.W.mg_of X G aC9, PySem.W.mg_of X G aC10, PySem.W.mg_of X G aC11, PySem.W.mg_of X G aC12, PySem.W.mg_of X G aC13, PySem.W.mg_of X G aC14, PySem.W.mg_of X G aC16, PySem.W.mg_of X G aC17, PySem.W.mg_of X G aC18, PySem.W.mg_of X G aC19, PySem.W.mg_of X G aC20, PySem.W.mg_of X G aC21, PySem.W.mg_of X G aC22, PySem.W.mg_of X G aC23, PySem.W.mg_of X G aC24, PySem.W.mg_of X G aC25, PySem.W.mg_of X G aC15, PySem.W.mg_of X G aS⟩
  have EA := ecAll_ok hE
  have EC : ∀ n, n < 23 → Ec K (clAt [C2, C3, C4, C5, C6, C7, C8, C9, C10, C11, C12, C13, C14, C16, C17, C18, C19, C20, C21, C22, C23, C24, C25] n) := fun n h => EA _ (List.mem_cons_of_mem _ (clAt_mem h))
  have EM : Ec K C15 := EA _ List.mem_cons_self
  have ON := oneAll_ok hO
  have NO := noAll_ok hN
  obtain ⟨u1, u2, u3, u4, u5, u6, u7⟩ := noTwo_ok hM
  refine ⟨PySem.W.fnOf "law" "law" (defArgs sLaw) (defBody sLaw) (defScope sLaw) .none kV38 dc38 pm38 an38 cv38 ct38, fun s u => .of_eq rfl, fun base _ _ => ?_⟩
  have T0 : Cl1 l.prog w K mg base "BadNumber" "part" (clAt [C2, C3, C4, C5, C6, C7, C8, C9, C10, C11, C12, C13, C14, C16, C17, C18, C19, C20, C21, C22, C23, C24, C25] 0) := ⟨PySem.W.mg_of X G aC2, EC 0 (by decide), NO 0 (by decide), fI2, _, iC2, tI2, ok_I2 FI2, kbn fun us ws h1 h2 => match us, ws, h1, h2 with | [_, _], [], _, _ => rfl, kbn fun us ws h1 h2 => match us, ws, h1, h2 with | [_], [_], _, _ => rfl⟩
  have T1 : Cl1 l.prog w K mg base "BadRatio" "part" (clAt [C2, C3, C4, C5, C6, C7, C8, C9, C10, C11, C12, C13, C14, C16, C17, C18, C19, C20, C21, C22, C23, C24, C25] 1) := ⟨PySem.W.mg_of X G aC3, EC 1 (by decide), NO 1 (by decide), fI3, _, iC3, tI3, ok_I3 FI3, kbn fun us ws h1 h2 => match us, ws, h1, h2 with | [_, _], [], _, _ => rfl, kbn fun us ws h1 h2 => match us, ws, h1, h2 with | [_], [_], _, _ => rfl⟩
  have T2 : Cl1 l.prog w K mg base "BadTable" "part" (clAt [C2, C3, C4, C5, C6, C7, C8, C9, C10, C11, C12, C13, C14, C16, C17, C18, C19, C20, C21, C22, C23, C24, C25] 2) := ⟨PySem.W.mg_of X G aC4, EC 2 (by decide), NO 2 (by decide), fI4, _, iC4, tI4, ok_I4 FI4, kbn fun us ws h1 h2 => match us, ws, h1, h2 with | [_, _], [], _, _ => rfl, kbn fun us ws h1 h2 => match us, ws, h1, h2 with | [_], [_], _, _ => rfl⟩
  have T3 : Cl1 l.prog w K mg base "BadChart" "part" (clAt [C2, C3, C4, C5, C6, C7, C8, C9, C10, C11, C12, C13, C14, C16, C17, C18, C19, C20, C21, C22, C23, C24, C25] 3) := ⟨PySem.W.mg_of X G aC5, EC 3 (by decide), NO 3 (by decide), fI5, _, iC5, tI5, ok_I5 FI5, kbn fun us ws h1 h2 => match us, ws, h1, h2 with | [_, _], [], _, _ => rfl, kbn fun us ws h1 h2 => match us, ws, h1, h2 with | [_], [_], _, _ => rfl⟩
  have T4 : Cl1 l.prog w K mg base "BadBody" "part" (clAt [C2, C3, C4, C5, C6, C7, C8, C9, C10, C11, C12, C13, C14, C16, C17, C18, C19, C20, C21, C22, C23, C24, C25] 4) := ⟨PySem.W.mg_of X G aC6, EC 4 (by decide), NO 4 (by decide), fI6, _, iC6, tI6, ok_I6 FI6, kbn fun us ws h1 h2 => match us, ws, h1, h2 with | [_, _], [], _, _ => rfl, kbn fun us ws h1 h2 => match us, ws, h1, h2 with | [_], [_], _, _ => rfl⟩
  have T5 : Cl1 l.prog w K mg base "BadPicture" "part" (clAt [C2, C3, C4, C5, C6, C7, C8, C9, C10, C11, C12, C13, C14, C16, C17, C18, C19, C20, C21, C22, C23, C24, C25] 5) := ⟨PySem.W.mg_of X G aC7, EC 5 (by decide), NO 5 (by decide), fI7, _, iC7, tI7, ok_I7 FI7, kbn fun us ws h1 h2 => match us, ws, h1, h2 with | [_, _], [], _, _ => rfl, kbn fun us ws h1 h2 => match us, ws, h1, h2 with | [_], [_], _, _ => rfl⟩
  have T6 : Cl1 l.prog w K mg base "BadAlbum" "part" (clAt [C2, C3, C4, C5, C6, C7, C8, C9, C10, C11, C12, C13, C14, C16, C17, C18, C19, C20, C21, C22, C23, C24, C25] 6) := ⟨PySem.W.mg_of X G aC8, EC 6 (by decide), NO 6 (by decide), fI8, _, iC8, tI8, ok_I8 FI8, kbn fun us ws h1 h2 => match us, ws, h1, h2 with | [_, _], [], _, _ => rfl, kbn fun us ws h1 h2 => match us, ws, h1, h2 with | [_], [_], _, _ => rfl⟩
  have T7 : Cl1 l.prog w K mg base "BadTray" "part" (clAt [C2, C3, C4, C5, C6, C7, C8, C9, C10, C11, C12, C13, C14, C16, C17, C18, C19, C20, C21, C22, C23, C24, C25] 7) := ⟨PySem.W.mg_of X G aC9, EC 7 (by decide), NO 7 (by decide), fI9, _, iC9, tI9, ok_I9 FI9, kbn fun us ws h1 h2 => match us, ws, h1, h2 with | [_, _], [], _, _ => rfl, kbn fun us ws h1 h2 => match us, ws, h1, h2 with | [_], [_], _, _ => rfl⟩
  have T8 : Cl1 l.prog w K mg base "BadSaying" "part" (clAt [C2, C3, C4, C5, C6, C7, C8, C9, C10, C11, C12, C13, C14, C16, C17, C18, C19, C20, C21, C22, C23, C24, C25] 8) := ⟨PySem.W.mg_of X G aC10, EC 8 (by decide), NO 8 (by decide), fI10, _, iC10, tI10, ok_I10 FI10, kbn fun us ws h1 h2 => match us, ws, h1, h2 with | [_, _], [], _, _ => rfl, kbn fun us ws h1 h2 => match us, ws, h1, h2 with | [_], [_], _, _ => rfl⟩
  have T9 : Cl1 l.prog w K mg base "BadFact" "part" (clAt [C2, C3, C4, C5, C6, C7, C8, C9, C10, C11, C12, C13, C14, C16, C17, C18, C19, C20, C21, C22, C23, C24, C25] 9) := ⟨PySem.W.mg_of X G aC11, EC 9 (by decide), NO 9 (by decide), fI11, _, iC11, tI11, ok_I11 FI11, kbn fun us ws h1 h2 => match us, ws, h1, h2 with | [_, _], [], _, _ => rfl, kbn fun us ws h1 h2 => match us, ws, h1, h2 with | [_], [_], _, _ => rfl⟩
  have T10 : Cl1 l.prog w K mg base "BadPaper" "part" (clAt [C2, C3, C4, C5, C6, C7, C8, C9, C10, C11, C12, C13, C14, C16, C17, C18, C19, C20, C21, C22, C23, C24, C25] 10) := ⟨PySem.W.mg_of X G aC12, EC 10 (by decide), NO 10 (by decide), fI12, _, iC12, tI12, ok_I12 FI12, kbn fun us ws h1 h2 => match us, ws, h1, h2 with | [_, _], [], _, _ => rfl, kbn fun us ws h1 h2 => match us, ws, h1, h2 with | [_], [_], _, _ => rfl⟩
  have T11 : Cl1 l.prog w K mg base "BadDesk" "part" (clAt [C2, C3, C4, C5, C6, C7, C8, C9, C10, C11, C12, C13, C14, C16, C17, C18, C19, C20, C21, C22, C23, C24, C25] 11) := ⟨PySem.W.mg_of X G aC13, EC 11 (by decide), NO 11 (by decide), fI13, _, iC13, tI13, ok_I13 FI13, kbn fun us ws h1 h2 => match us, ws, h1, h2 with | [_, _], [], _, _ => rfl, kbn fun us ws h1 h2 => match us, ws, h1, h2 with | [_], [_], _, _ => rfl⟩
  have T12 : Cl1 l.prog w K mg base "Misfit" "part" (clAt [C2, C3, C4, C5, C6, C7, C8, C9, C10, C11, C12, C13, C14, C16, C17, C18, C19, C20, C21, C22, C23, C24, C25] 12) := ⟨PySem.W.mg_of X G aC14, EC 12 (by decide), NO 12 (by decide), fI14, _, iC14, tI14, ok_I14 FI14, kbn fun us ws h1 h2 => match us, ws, h1, h2 with | [_, _], [], _, _ => rfl, kbn fun us ws h1 h2 => match us, ws, h1, h2 with | [_], [_], _, _ => rfl⟩
  have T13 : Cl1 l.prog w K mg base "NoPin" "value" (clAt [C2, C3, C4, C5, C6, C7, C8, C9, C10, C11, C12, C13, C14, C16, C17, C18, C19, C20, C21, C22, C23, C24, C25] 13) := ⟨PySem.W.mg_of X G aC16, EC 13 (by decide), NO 13 (by decide), fI15, _, iC16, tI15, ok_I15 FI15, kbn fun us ws h1 h2 => match us, ws, h1, h2 with | [_, _], [], _, _ => rfl, kbn fun us ws h1 h2 => match us, ws, h1, h2 with | [_], [_], _, _ => rfl⟩
  have T14 : Cl1 l.prog w K mg base "NoPicture" "value" (clAt [C2, C3, C4, C5, C6, C7, C8, C9, C10, C11, C12, C13, C14, C16, C17, C18, C19, C20, C21, C22, C23, C24, C25] 14) := ⟨PySem.W.mg_of X G aC17, EC 14 (by decide), NO 14 (by decide), fI15, _, iC17, tI15, ok_I15 FI15, kbn fun us ws h1 h2 => match us, ws, h1, h2 with | [_, _], [], _, _ => rfl, kbn fun us ws h1 h2 => match us, ws, h1, h2 with | [_], [_], _, _ => rfl⟩
  have T15 : Cl1 l.prog w K mg base "NoFact" "value" (clAt [C2, C3, C4, C5, C6, C7, C8, C9, C10, C11, C12, C13, C14, C16, C17, C18, C19, C20, C21, C22, C23, C24, C25] 15) := ⟨PySem.W.mg_of X G aC18, EC 15 (by decide), NO 15 (by decide), fI15, _, iC18, tI15, ok_I15 FI15, kbn fun us ws h1 h2 => match us, ws, h1, h2 with | [_, _], [], _, _ => rfl, kbn fun us ws h1 h2 => match us, ws, h1, h2 with | [_], [_], _, _ => rfl⟩
  have T16 : Cl1 l.prog w K mg base "NoName" "value" (clAt [C2, C3, C4, C5, C6, C7, C8, C9, C10, C11, C12, C13, C14, C16, C17, C18, C19, C20, C21, C22, C23, C24, C25] 16) := ⟨PySem.W.mg_of X G aC19, EC 16 (by decide), NO 16 (by decide), fI15, _, iC19, tI15, ok_I15 FI15, kbn fun us ws h1 h2 => match us, ws, h1, h2 with | [_, _], [], _, _ => rfl, kbn fun us ws h1 h2 => match us, ws, h1, h2 with | [_], [_], _, _ => rfl⟩
  have T17 : Cl1 l.prog w K mg base "Twice" "value" (clAt [C2, C3, C4, C5, C6, C7, C8, C9, C10, C11, C12, C13, C14, C16, C17, C18, C19, C20, C21, C22, C23, C24, C25] 17) := ⟨PySem.W.mg_of X G aC20, EC 17 (by decide), NO 17 (by decide), fI20, _, iC20, tI20, ok_I20 FI20, kbn fun us ws h1 h2 => match us, ws, h1, h2 with | [_, _], [], _, _ => rfl, kbn fun us ws h1 h2 => match us, ws, h1, h2 with | [_], [_], _, _ => rfl⟩
  have T18 : Cl1 l.prog w K mg base "Impossible" "paper" (clAt [C2, C3, C4, C5, C6, C7, C8, C9, C10, C11, C12, C13, C14, C16, C17, C18, C19, C20, C21, C22, C23, C24, C25] 18) := ⟨PySem.W.mg_of X G aC21, EC 18 (by decide), NO 18 (by decide), fI21, _, iC21, tI21, ok_I21 FI21, kbn fun us ws h1 h2 => match us, ws, h1, h2 with | [_, _], [], _, _ => rfl, kbn fun us ws h1 h2 => match us, ws, h1, h2 with | [_], [_], _, _ => rfl⟩
  have TM : Cl1 l.prog w K mg base "Missing" "value" C15 := ⟨PySem.W.mg_of X G aC15, EM, u1, fI15, _, iC15, tI15, ok_I15 FI15, kbn fun us ws h1 h2 => match us, ws, h1, h2 with | [_, _], [], _, _ => rfl, kbn fun us ws h1 h2 => match us, ws, h1, h2 with | [_], [_], _, _ => rfl⟩
  have D22 : Cl2 l.prog w K mg base "TooMany" "what" "most" (clAt [C2, C3, C4, C5, C6, C7, C8, C9, C10, C11, C12, C13, C14, C16, C17, C18, C19, C20, C21, C22, C23, C24, C25] 19) := ⟨PySem.W.mg_of X G aC22, EC 19 (by decide), u2, u3, fI22, _, iC22, tI22, ok_I22 FI22, kbn fun us ws h1 h2 => match us, ws, h1, h2 with | [_, _, _], [], _, _ => rfl, kbr fun us ws h1 h2 => match us, ws, h1, h2 with | [_], [_, _], _, _ => rfl⟩
  have D24 : Cl2 l.prog w K mg base "BadText" "line" "item" (clAt [C2, C3, C4, C5, C6, C7, C8, C9, C10, C11, C12, C13, C14, C16, C17, C18, C19, C20, C21, C22, C23, C24, C25] 21) := ⟨PySem.W.mg_of X G aC24, EC 21 (by decide), u4, u5, fI24, _, iC24, tI24, ok_I24 FI24, kbn fun us ws h1 h2 => match us, ws, h1, h2 with | [_, _, _], [], _, _ => rfl, kbr fun us ws h1 h2 => match us, ws, h1, h2 with | [_], [_, _], _, _ => rfl⟩
  have D25 : Cl2 l.prog w K mg base "BadLine" "line" "error" (clAt [C2, C3, C4, C5, C6, C7, C8, C9, C10, C11, C12, C13, C14, C16, C17, C18, C19, C20, C21, C22, C23, C24, C25] 22) := ⟨PySem.W.mg_of X G aC25, EC 22 (by decide), u6, u7, fI25, _, iC25, tI25, ok_I25 FI25, kbn fun us ws h1 h2 => match us, ws, h1, h2 with | [_, _, _], [], _, _ => rfl, kbr fun us ws h1 h2 => match us, ws, h1, h2 with | [_], [_, _], _, _ => rfl⟩
  have TX : Tx l.prog w K mg base (clAt [C2, C3, C4, C5, C6, C7, C8, C9, C10, C11, C12, C13, C14, C16, C17, C18, C19, C20, C21, C22, C23, C24, C25]) := ⟨T0, T1, T2, T3, T4, T5, T6, T7, T8, T9, T10, T11, T12, T13, T14, T15, T16, T17, T18⟩
  have A : Av l.prog w K mg base (clAt [C2, C3, C4, C5, C6, C7, C8, C9, C10, C11, C12, C13, C14, C16, C17, C18, C19, C20, C21, C22, C23, C24, C25]) C15 CS := ⟨TX, N, ON.1, EC, NO, TM, ON.2.1, ON.2.2, D22, D24, D25, hT⟩
  have XX : Ex K (clAt [C2, C3, C4, C5, C6, C7, C8, C9, C10, C11, C12, C13, C14, C16, C17, C18, C19, C20, C21, C22, C23, C24, C25]) C15 CS := exAll_ok hX
  have C27d : Callee l.prog w K mg base CX0 1 "_law_cup" ["_law_script"] (spCup K) := ⟨f27, _, PySem.W.mg_of X G a27, F27.kp, F27.binds (ps := ["_law_script"]) fun _ _ _ _ _ _ us hl => match us, hl with | [_], _ => rfl, ok_cup F27 B⟩
  have C28d : Callee l.prog w K mg base CX0 1 "_law_dip" ["_law_cup_here", "_law_many"] spDip := ⟨f28, _, PySem.W.mg_of X G a28, F28.kp, F28.binds (ps := ["_law_cup_here", "_law_many"]) fun _ _ _ _ _ _ us hl => match us, hl with | [_, _], _ => rfl, ok_dip F28 B⟩
  have C29d : Callee l.prog w K mg base CX0 3 "_law_field" ["_law_cup_here"] (spF K) := ⟨f29, _, PySem.W.mg_of X G a29, F29.kp, F29.binds (ps := ["_law_cup_here"]) fun _ _ _ _ _ _ us hl => match us, hl with | [_], _ => rfl, ok_field F29 B C28d T13⟩
  have C30d : Callee l.prog w K mg base CX0 2 "_law_is_one" ["_law_error", "_law_number"] (spOne K (clAt [C2, C3, C4, C5, C6, C7, C8, C9, C10, C11, C12, C13, C14, C16, C17, C18, C19, C20, C21, C22, C23, C24, C25]) C15 CS) := ⟨f30, _, PySem.W.mg_of X G a30, F30.kp, F30.binds (ps := ["_law_error", "_law_number"]) fun _ _ _ _ _ _ us hl => match us, hl with | [_, _], _ => rfl, ok_one F30 B N⟩
  have C31d : Callee l.prog w K mg base CX0 3 "_law_by_place" ["_law_field_here"] (spMade (clAt [C2, C3, C4, C5, C6, C7, C8, C9, C10, C11, C12, C13, C14, C16, C17, C18, C19, C20, C21, C22, C23, C24, C25])) := ⟨f31, _, PySem.W.mg_of X G a31, F31.kp, F31.binds (ps := ["_law_field_here"]) fun _ _ _ _ _ _ us hl => match us, hl with | [_], _ => rfl, ok_bp F31 TX⟩
  have C32d : Callee l.prog w K mg base CX0 3 "_law_by_name" ["_law_field_here"] (spMade (clAt [C2, C3, C4, C5, C6, C7, C8, C9, C10, C11, C12, C13, C14, C16, C17, C18, C19, C20, C21, C22, C23, C24, C25])) := ⟨f32, _, PySem.W.mg_of X G a32, F32.kp, F32.binds (ps := ["_law_field_here"]) fun _ _ _ _ _ _ us hl => match us, hl with | [_], _ => rfl, ok_bn F32 TX⟩
  have C33d : Callee l.prog w K mg base CX0 1 "_law_kept" ["_law_error", "_law_number"] (spKept K) := ⟨f33, _, PySem.W.mg_of X G a33, F33.kp, F33.binds (ps := ["_law_error", "_law_number"]) fun _ _ _ _ _ _ us hl => match us, hl with | [_, _], _ => rfl, ok_kept F33⟩
  have C34d : Callee l.prog w K mg base CX0 4 "_law_single_right" ["_law_one", "_law_other"] (spTwo K) := ⟨f34, _, PySem.W.mg_of X G a34, F34.kp, F34.binds (ps := ["_law_one", "_law_other"]) fun _ _ _ _ _ _ us hl => match us, hl with | [_, _], _ => rfl, ok_single F34 B A C31d C32d C30d C33d⟩
  have C35d : Callee l.prog w K mg base CX0 3 "_law_double_right" ["_law_one", "_law_other"] (spTwo K) := ⟨f35, _, PySem.W.mg_of X G a35, F35.kp, F35.binds (ps := ["_law_one", "_law_other"]) fun _ _ _ _ _ _ us hl => match us, hl with | [_, _], _ => rfl, ok_double F35 A C30d⟩
  have C36d : Callee l.prog w K mg base (L2.CX l.prog w) 4 "_law_raised" ["_law_number", "_law_field_here"] (spRaised (clAt [C2, C3, C4, C5, C6, C7, C8, C9, C10, C11, C12, C13, C14, C16, C17, C18, C19, C20, C21, C22, C23, C24, C25])) := ⟨f36, _, PySem.W.mg_of X G a36, F36.kp, F36.binds (ps := ["_law_number", "_law_field_here"]) fun _ _ _ _ _ _ us hl => match us, hl with | [_, _], _ => rfl, ok_raised F36 A⟩
  have C37d : Callee l.prog w K mg base CX0 5 "_law_caught" ["_law_number", "_law_field_here"] spCaught := ⟨f37, _, PySem.W.mg_of X G a37, F37.kp, F37.binds (ps := ["_law_number", "_law_field_here"]) fun _ _ _ _ _ _ us hl => match us, hl with | [_, _], _ => rfl, ok_caught F37 A XX C36d⟩
  exact ok_law F38 B C27d C29d C34d C35d C37d
end K0

open PySem PySem.W PyProof.Rows in
set_option maxRecDepth 100000 in
set_option maxHeartbeats 0 in
theorem PySem.Challenge.cw_farseen_k00_errors_keep_their_fields_holds : PySem.Challenge.rw_farseen_k00_errors_keep_their_fields.Holds := by
  w_on; o_law; k_head; (case hw => w_witness2)
  k_fill
  refine L2.walk_of (l := PySem.Challenge.rw_farseen_k00_errors_keep_their_fields) (n := 63) (k := 6) (x := "_law_script") (CX := fun _ => L2.CX0) (sp := fun w => K0.spLaw _) rfl (by decide) rfl ⟨rfl, by decide, by decide⟩ (fun w h Y => PySem.W.kIn_of Y) ?F (fun _ _ a ns hl _ hS => ⟨a, ns, rfl, hS, hl, fun _ => rfl⟩) (fun _ _ _ _ _ h => h)
  case F =>
    intro w mg fa h KX G hmg
    refine' K0.all_mk KX G hmg ?aC2 ?aC3 ?aC4 ?aC5 ?aC6 ?aC7 ?aC8 ?aC9 ?aC10 ?aC11 ?aC12 ?aC13 ?aC14 ?aC16 ?aC17 ?aC18 ?aC19 ?aC20 ?aC21 ?aC22 ?aC23 ?aC24 ?aC25 ?aC15 ?aS ?iC2 ?iC3 ?iC4 ?iC5 ?iC6 ?iC7 ?iC8 ?iC9 ?iC10 ?iC11 ?iC12 ?iC13 ?iC14 ?iC15 ?iC20 ?iC21 ?iC22 ?iC24 ?iC25 ?iC16 ?iC17 ?iC18 ?iC19 ?lI2 ?cI2 ?kI2 ?tI2 ?lI3 ?cI3 ?kI3 ?tI3 ?lI4 ?cI4 ?kI4 ?tI4 ?lI5 ?cI5 ?kI5 ?tI5 ?lI6 ?cI6 ?kI6 ?tI6 ?lI7 ?cI7 ?kI7 ?tI7 ?lI8 ?cI8 ?kI8 ?tI8 ?lI9 ?cI9 ?kI9 ?tI9 ?lI10 ?cI10 ?kI10 ?tI10 ?lI11 ?cI11 ?kI11 ?tI11 ?lI12 ?cI12 ?kI12 ?tI12 ?lI13 ?cI13 ?kI13 ?tI13 ?lI14 ?cI14 ?kI14 ?tI14 ?lI15 ?cI15 ?kI15 ?tI15 ?lI20 ?cI20 ?kI20 ?tI20 ?lI21 ?cI21 ?kI21 ?tI21 ?lI22 ?cI22 ?kI22 ?tI22 ?lI24 ?cI24 ?kI24 ?tI24 ?lI25 ?cI25 ?kI25 ?tI25 ?hE ?hO ?hX ?hN ?hM ?hT ?a27 ?l27 ?c27 ?k27 ?a28 ?l28 ?c28 ?k28 ?a29 ?l29 ?c29 ?k29 ?a30 ?l30 ?c30 ?k30 ?a31 ?l31 ?c31 ?k31 ?a32 ?l32 ?c32 ?k32 ?a33 ?l33 ?c33 ?k33 ?a34 ?l34 ?c34 ?k34 ?a35 ?l35 ?c35 ?k35 ?a36 ?l36 ?c36 ?k36 ?a37 ?l37 ?c37 ?k37 ?a38 ?l38 ?c38 ?k38 ?z_isinstance ?z_int ?z_abs ?z_range ?z_str ?z_ValueError ?z_LookupError ?z_TypeError ?z_ArithmeticError ?z_AttributeError ?z_RuntimeError
    (case aC2 => k_is)
    (case aC3 => k_is)
    (case aC4 => k_is)
    (case aC5 => k_is)
    (case aC6 => k_is)
    (case aC7 => k_is)
    (case aC8 => k_is)
    (case aC9 => k_is)
    (case aC10 => k_is)
    (case aC11 => k_is)
    (case aC12 => k_is)
    (case aC13 => k_is)
    (case aC14 => k_is)
    (case aC16 => k_is)
    (case aC17 => k_is)
    (case aC18 => k_is)
    (case aC19 => k_is)
    (case aC20 => k_is)
    (case aC21 => k_is)
    (case aC22 => k_is)
    (case aC23 => k_is)
    (case aC24 => k_is)
    (case aC25 => k_is)
    (case aC15 => k_is)
    (case aS => k_is)
    (case iC2 => k_is)
    (case iC3 => k_is)
    (case iC4 => k_is)
    (case iC5 => k_is)
    (case iC6 => k_is)
    (case iC7 => k_is)
    (case iC8 => k_is)
    (case iC9 => k_is)
    (case iC10 => k_is)
    (case iC11 => k_is)
    (case iC12 => k_is)
    (case iC13 => k_is)
    (case iC14 => k_is)
    (case iC15 => k_is)
    (case iC20 => k_is)
    (case iC21 => k_is)
    (case iC22 => k_is)
    (case iC24 => k_is)
    (case iC25 => k_is)
    (case iC16 => k_is)
    (case iC17 => k_is)
    (case iC18 => k_is)
    (case iC19 => k_is)
    (case lI2 => k_is)
    (case cI2 => k_is)
    (case kI2 => k_is)
    (case tI2 => k_is)
    (case lI3 => k_is)
    (case cI3 => k_is)
    (case kI3 => k_is)
    (case tI3 => k_is)
    (case lI4 => k_is)
    (case cI4 => k_is)
    (case kI4 => k_is)
    (case tI4 => k_is)
    (case lI5 => k_is)
    (case cI5 => k_is)
    (case kI5 => k_is)
    (case tI5 => k_is)
    (case lI6 => k_is)
    (case cI6 => k_is)
    (case kI6 => k_is)
    (case tI6 => k_is)
    (case lI7 => k_is)
    (case cI7 => k_is)
    (case kI7 => k_is)
    (case tI7 => k_is)
    (case lI8 => k_is)
    (case cI8 => k_is)
    (case kI8 => k_is)
    (case tI8 => k_is)
    (case lI9 => k_is)
    (case cI9 => k_is)
    (case kI9 => k_is)
    (case tI9 => k_is)
    (case lI10 => k_is)
    (case cI10 => k_is)
    (case kI10 => k_is)
    (case tI10 => k_is)
    (case lI11 => k_is)
    (case cI11 => k_is)
    (case kI11 => k_is)
    (case tI11 => k_is)
    (case lI12 => k_is)
    (case cI12 => k_is)
    (case kI12 => k_is)
    (case tI12 => k_is)
    (case lI13 => k_is)
    (case cI13 => k_is)
    (case kI13 => k_is)
    (case tI13 => k_is)
    (case lI14 => k_is)
    (case cI14 => k_is)
    (case kI14 => k_is)
    (case tI14 => k_is)
    (case lI15 => k_is)
    (case cI15 => k_is)
    (case kI15 => k_is)
    (case tI15 => k_is)
    (case lI20 => k_is)
    (case cI20 => k_is)
    (case kI20 => k_is)
    (case tI20 => k_is)
    (case lI21 => k_is)
    (case cI21 => k_is)
    (case kI21 => k_is)
    (case tI21 => k_is)
    (case lI22 => k_is)
    (case cI22 => k_is)
    (case kI22 => k_is)
    (case tI22 => k_is)
    (case lI24 => k_is)
    (case cI24 => k_is)
    (case kI24 => k_is)
    (case tI24 => k_is)
    (case lI25 => k_is)
    (case cI25 => k_is)
    (case kI25 => k_is)
    (case tI25 => k_is)
    (case hE => first | kernel_rfl | k_is | rfl)
    (case hO => first | kernel_rfl | k_is | rfl)
    (case hX => first | kernel_rfl | k_is | rfl)
    (case hN => first | kernel_rfl | k_is | rfl)
    (case hM => first | kernel_rfl | k_is | rfl)
    (case hT => first | kernel_rfl | k_is | rfl)
    (case a27 => k_is)
    (case l27 => k_is)
    (case c27 => k_is)
    (case k27 => k_is)
    (case a28 => k_is)
    (case l28 => k_is)
    (case c28 => k_is)
    (case k28 => k_is)
    (case a29 => k_is)
    (case l29 => k_is)
    (case c29 => k_is)
    (case k29 => k_is)
    (case a30 => k_is)
    (case l30 => k_is)
    (case c30 => k_is)
    (case k30 => k_is)
    (case a31 => k_is)
    (case l31 => k_is)
    (case c31 => k_is)
    (case k31 => k_is)
    (case a32 => k_is)
    (case l32 => k_is)
    (case c32 => k_is)
    (case k32 => k_is)
    (case a33 => k_is)
    (case l33 => k_is)
    (case c33 => k_is)
    (case k33 => k_is)
    (case a34 => k_is)
    (case l34 => k_is)
    (case c34 => k_is)
    (case k34 => k_is)
    (case a35 => k_is)
    (case l35 => k_is)
    (case c35 => k_is)
    (case k35 => k_is)
    (case a36 => k_is)
    (case l36 => k_is)
    (case c36 => k_is)
    (case k36 => k_is)
    (case a37 => k_is)
    (case l37 => k_is)
    (case c37 => k_is)
    (case k37 => k_is)
    (case a38 => k_is)
    (case l38 => k_is)
    (case c38 => k_is)
    (case k38 => k_is)
    (case z_isinstance => k_is)
    (case z_int => k_is)
    (case z_abs => k_is)
    (case z_range => k_is)
    (case z_str => k_is)
    (case z_ValueError => k_is)
    (case z_LookupError => k_is)
    (case z_TypeError => k_is)
    (case z_ArithmeticError => k_is)
    (case z_AttributeError => k_is)
    (case z_RuntimeError => k_is)
