import PyProof.Rows.All
import Wide.All
import OpenK.AllK
import Wide.FinOn
import HandS.ForMost
import HandS.EndTab
import HandS.HeadWalk
import PyProof.ReprRoads
import HandS.IsInst
import HandS.Wide
import HandS.ExcInit
import HandS.WordsExc
import HandS.SetKeys
import HandS.Zip
import HandS.Style
import HandS.Text
import HandS.Conv
import HandS.ExcIs
import HandS.FStr
import KE.KCallOwn
import HandS.OwnEq
import PyProof.InstEq
import HandS.Defaults
import HandS.MakeKwOnly
import HandS.ExcField
import KE.KExcIs
import HandS.ExcValue
import HandS.MakeKw
import HandS.Walk
import HandS.TupAny
import HandS.Lambda
import KE.KNestM
import PySem.Challenge.RW_farseen_k13_pins_in_order_left_out_put_i
set_option Elab.async false
set_option linter.all false
set_option maxRecDepth 100000
set_option maxHeartbeats 8000000
namespace GG
open PySem PySem.Spec PyProof.Rows L2
/-! ### defs that are called while nothing is being shown: the text of a value hangs on it -/
/-- no text of a list, a tuple, a dict is being made -/
def Shy (A : Around) : Prop := A.guards = some []
theorem Shy.deeper {A : Around} (h : Shy A) (env : Env) : Shy (A.deeper env) := h
/-- as FnOk, for calls while nothing is being shown -/
def FnG (P : Program) (w : World) (K : PySem.W.Frag) (mg : Str → Option Value) (base : Heap) (CX : CXT) (k : Nat) (f : Addr) (fd : FuncData) (ps : List Str) (sp : Sp) : Prop :=
  (∀ (xs : List V) (H : Hp) (Q : VK) (E : XK), sp xs H Q E → xs.length = ps.length) ∧
  ∀ (A : Around) (out : List Env) (z : Shared) (H : Hp) (g : Args) (us : List Value) (xs : List V) (Q : VK) (E : XK), Shy A → Room k A → Env0 P w K mg base A out z H → BindsTo z fd g (ps.zip us) → Vals xs us → sp xs H Q E →
    codeAny (model P w) A (.call (.ref f) g) (CR CX out P w H z Q E) z
section
variable {P : Program} {w : World} {K : PySem.W.Frag} {mg : Str → Option Value} {base : Heap} {CX : CXT} {k : Nat} {f : Addr} {fd : FuncData} {ps : List Str} {sp : Sp}
theorem FnG.of (F : FnOk P w K mg base CX k f fd ps sp) : FnG P w K mg base CX k f fd ps sp := ⟨F.len, fun A out z H g us xs Q E _ => F.run A out z H g us xs Q E⟩
theorem fn_g {x q : Str} {pr : Arguments} {bd : List Stmt} {sc : Scope} {dV kV dc pm cd ct oc : Value} {an od : Option Addr} {sl : Array (Option Value)} {N : List Str}
    (lk : K.lookup f = some ⟨oc, od, .func (PySem.W.fnOf x q pr bd sc dV kV dc pm an cd ct), sl⟩) (hc : PySem.W.codeIn K cd q = true) (S : FnScope N ps sc) (ln : ∀ (xs : List V) (H : Hp) (Q : VK) (E : XK), sp xs H Q E → xs.length = ps.length)
    (go : ∀ (A : Around) (out : List Env) (z : Shared) (H : Hp) (xs : List V) (Q : VK) (E : XK), Shy A → Room k (A.deeper (envOfC q sc z.heap.objs.size f cd)) → sp xs H Q E →
      ∃ t, PSs (cxOf CX P w K mg base N q sc f cd A out z H E) bd t ∧ t { nx := fun _ H' => Q .non H', rt := Q } (start N xs) H) :
    FnG P w K mg base CX (k + 1) f (PySem.W.fnOf x q pr bd sc dV kV dc pm an cd ct) ps sp := by
  refine ⟨ln, fun A out z H g us xs Q E sh hr e0 hb r h => ?_⟩
  have up : ∀ (b : Addr) (o : Obj), base.get? b = some o → z.heap.get? b = some o := fun b o e => (e0.bs b o e).1
  have kIn : K.In z.heap := e0.mod.kin.keeps up
  have kinds : ∀ y ∈ ps.zip us, sc.names.lookup y.1 = some .local ∨ (sc.names.lookup y.1 = some .cell ∧ ((cellsFrom (z.heap.objs.size + 1) sc.names []).lookup y.1).isSome = true) := by
    rintro ⟨n, v⟩ hy
    exact (S.par n (List.of_mem_zip hy).1).imp id fun e => ⟨e, PySem.W.cellsFrom_some _ _ _ (.inl e)⟩
  refine codeAny_call_function hr.depth (kIn _ _ lk) rfl S.co S.gen rfl (PySem.W.codeRec_of kIn hc) (hb _ _ _ _ (wpAny_newFunctionEnv_cells S.kind kinds fun e he s1 x => ?_))
  subst he
  refine ⟨(e0.mod.nolimit.keeps up).keeps x.toInCall.keep, codeAny_func ?_⟩
  obtain ⟨t, ht, hq⟩ := go A out z H xs Q E sh (hr.deeper _) h
  refine wpAny_mono (ht.run [] s1 (start N xs) H _ (inv_start S hr.hd e0 (ln _ _ _ _ h) r x) hq) (fun fl s' e => ?_) fun _ _ e => e
  cases fl with
  | ret u =>
    obtain ⟨v, σ, H', J, rv, qv⟩ := e
    exact ⟨v, H', J.os, J.bare, J.base, J.hok, rv, qv⟩
  | next =>
    obtain ⟨σ, H', J, qv⟩ := e
    exact ⟨V.non, H', J.os, J.bare, J.base, J.hok, rfl, qv⟩
  | brk =>
    obtain ⟨_, _, _, no⟩ := e
    exact no.elim
  | cont =>
    obtain ⟨_, _, _, no⟩ := e
    exact no.elim
end
section
variable {X : Cx} {CX : CXT} {k : Nat} {f : Addr} {fd : FuncData} {ps : List Str} {sp : Sp} {ds : List Value} {dvs : List V} {E : XK} {x : Str} {p pos : Pos} {e : Expr} {es : List Expr} {t : TA}
/-- f(e, ..) where nothing is being shown -/
theorem pe_cg (F : FnG X.prog X.w X.K X.mg X.base CX k f fd ps sp) (sh : Shy X.A) (hr : Room k X.A) (gl : Gl X x) (hm : X.mg x = some (.ref f)) (kp : PySem.W.keepIn X.K (.ref f) = true) (hb : Binds X.K fd ps ds) (hd : Vals dvs ds) (hx : Passes CX X E)
    (ha : PA X (e :: es) t) (nb : (x == ("__debug__" : Str)) = false := by decide) (st : starEach (e :: es) X.env = (false, eval e X.env) :: starEach es X.env := by rfl) (np : (backTo pos (starEach es X.env)).any (·.1) = false := by rfl) :
    PE X (.Call (.Name x p) (e :: es) [] pos) (tCall sp dvs E t) := by
  refine ⟨fun pins s σ H Q I h => wpAny_Call_Name_kw (ld_glob I gl hm ?_ nb)⟩
  refine PySem.W.callWith_K (h₀ := X.base) I.ok.mod.kin kp (thn (ha.run pos pins s σ H _ I h) ?_) st np
  rintro us s1 ⟨vs, H1, I1, r, q⟩
  have rr : Vals (vs ++ dvs) (us ++ ds) := r.append hd
  refine ⟨I1.kIn, wpAny_call (codeAny_mono (F.2 X.A X.stack s1 H1 ⟨us, []⟩ (us ++ ds) (vs ++ dvs) Q E sh hr I1.env0 (hb s1 us I1.kIn (by rw [← rr.length]; exact F.1 _ _ _ _ q)) rr q) ?_)⟩
  intro r' s2 hq
  cases r' with
  | error a => exact hx pins σ H1 s1 a s2 I1 hq
  | ok fl => cases fl with
    | ret u => exact I1.after hq
    | next => exact hq.elim
    | brk => exact hq.elim
    | cont => exact hq.elim
end
end GG

namespace GG
open PySem PySem.Spec PyProof.Rows L2
/-! ### the end, for a law that is such a def -/
/-- what is tracked at the start: the script, unless it is written, and tables -/
structure Begun (K : PySem.W.Frag) (h : Heap) (a : Addr) (vs : List Value) (ns : List Int) (cs : List (Addr × Addr)) (H : Hp) : Prop where
  tb : ∀ p ∈ cs, H p.2 = some (.tbl #[])
  al : ∀ b u, H b = some u → (u = .tbl #[] ∧ h.get? b = some { cls := .none, data := .fields #[] } ∧ K.lookup b = none ∧ b ∈ cs.map (·.2)) ∨ (b = a ∧ u = .frz { cls := .type "list", data := .seq vs.toArray } (.lst (ns.map V.int)) ∧ K.lookup a = none)
  sq : SqL K H a (ns.map V.int)
section
variable {P : Program} {w : World} {K : PySem.W.Frag} {a : Addr} {vs : List Value} {ns : List Int} {cs : List (Addr × Addr)} {H : Hp} {h : Heap}
theorem begun (KX : K.In h) (hT : ∀ p ∈ cs, h.get? p.2 = some { cls := .none, data := .fields #[] }) (nT : ∀ p ∈ cs, K.lookup p.2 = none) (ha : h.get? a = some { cls := .type "list", data := .seq vs.toArray }) (rv : Vals (ns.map V.int) vs) (hl : ns.length ≤ sizeLine) : ∃ H, Begun K h a vs ns cs H := by
  classical
  have isT : ∀ b, b ∈ cs.map (·.2) → h.get? b = some { cls := .none, data := .fields #[] } ∧ K.lookup b = none := fun b hb => by
    obtain ⟨p, hp, rfl⟩ := List.mem_map.mp hb
    exact ⟨hT p hp, nT p hp⟩
  have na : a ∉ cs.map (·.2) := fun z => by
    have q := (isT a z).1
    rw [ha] at q
    exact absurd (congrArg Obj.data (Option.some.inj q)) (by intro z; cases z)
  have mem : ∀ p ∈ cs, p.2 ∈ cs.map (·.2) := fun p hp => List.mem_map_of_mem hp
  have lv : vs.length = ns.length := by
    rw [← rv.length, List.length_map]
  cases e : K.lookup a with
  | none =>
    refine ⟨fun b => if b ∈ cs.map (·.2) then some (.tbl #[]) else if b = a then some (.frz { cls := .type "list", data := .seq vs.toArray } (.lst (ns.map V.int))) else none, fun p hp => if_pos (mem p hp), fun b u hb => ?_, .inl (.inr ⟨{ cls := .type "list", data := .seq vs.toArray }, ?_⟩)⟩
    · by_cases m : b ∈ cs.map (·.2)
      · rw [if_pos m] at hb
        exact .inl ⟨(Option.some.inj hb).symm, (isT b m).1, (isT b m).2, m⟩
      · rw [if_neg m] at hb
        by_cases eb : b = a
        · rw [if_pos eb] at hb
          exact .inr ⟨eb, (Option.some.inj hb).symm, e⟩
        · rw [if_neg eb] at hb
          cases hb
    · show (if a ∈ cs.map (·.2) then _ else _) = _
      rw [if_neg na, if_pos rfl]
  | some o =>
    have eo : o = { cls := .type "list", data := .seq vs.toArray } := by
      have q := KX a o e
      rw [ha] at q
      exact (Option.some.inj q).symm
    subst eo
    refine ⟨fun b => if b ∈ cs.map (·.2) then some (.tbl #[]) else none, fun p hp => if_pos (mem p hp), fun b u hb => ?_, .inr ⟨_, vs.toArray, _, e, rfl, rfl, rfl, by rw [List.size_toArray, lv]; exact hl, by simpa using rv⟩⟩
    by_cases m : b ∈ cs.map (·.2)
    · rw [if_pos m] at hb
      exact .inl ⟨(Option.some.inj hb).symm, (isT b m).1, (isT b m).2, m⟩
    · rw [if_neg m] at hb
      cases hb
variable {b : Addr} {o : Obj}
/-- what is neither a list nor an empty table is not tracked -/
theorem Begun.off (B : Begun K h a vs ns cs H) (ha : h.get? a = some { cls := .type "list", data := .seq vs.toArray }) (e : h.get? b = some o) (n1 : ∀ us n, o.data ≠ .seq us n) (n2 : o.data ≠ .fields #[]) : H b = none := by
  cases q : H b with
  | none => rfl
  | some u =>
    rcases B.al b u q with ⟨_, g, _⟩ | ⟨rfl, _⟩
    · rw [e] at g
      cases g
      exact absurd rfl n2
    · rw [e] at ha
      cases ha
      exact absurd rfl (n1 _ _)
theorem Begun.get (B : Begun K h a vs ns cs H) (ha : h.get? a = some { cls := .type "list", data := .seq vs.toArray }) (e : h.get? b = some o) (n1 : ∀ us n, o.data ≠ .seq us n) (n2 : o.data ≠ .fields #[]) : (hidT h H).get? b = some o := hidT_get e (B.off ha e n1 n2)
theorem Begun.nsp (B : Begun K h a vs ns cs H) (ha : h.get? a = some { cls := .type "list", data := .seq vs.toArray }) {m : Str → Option Value} (n : h.Ns b m) : (hidT h H).Ns b m := by
  obtain ⟨o, es, ep, e, d, r⟩ := n
  exact ⟨o, es, ep, B.get ha e (by rw [d]; intro _ _ z; cases z) (by rw [d]; intro z; cases z), d, r⟩
theorem Begun.kin (B : Begun K h a vs ns cs H) (KX : K.In h) : K.In (hidT h H) := fun b o e => hidT_get (KX b o e) (by
  cases q : H b with
  | none => rfl
  | some u =>
    rcases B.al b u q with ⟨_, _, g, _⟩ | ⟨rfl, _, g⟩
    · rw [e] at g
      cases g
    · rw [e] at g
      cases g)
theorem Begun.hok (B : Begun K h a vs ns cs H) (ha : h.get? a = some { cls := .type "list", data := .seq vs.toArray }) (rv : Vals (ns.map V.int) vs) (hl : ns.length ≤ sizeLine) : HOk P w H h := fun b u q => by
  rcases B.al b u q with ⟨rfl, g, _⟩ | ⟨rfl, rfl, _⟩
  · exact g
  · exact ⟨ha, by rw [List.length_map]; exact hl, vs, _, rv, ha⟩
end
theorem top_g {P : Program} {w : World} {K : PySem.W.Frag} {mg mb : Str → Option Value} {CX : CXT} {k : Nat} {fa a : Addr} {cs : List (Addr × Addr)} {fd : FuncData} {x : Str} {sp : Sp} {s : Shared} {vs : List Value} {ns : List Int}
    (KX : K.In s.heap) (gn : s.heap.Ns mainGlobals mg) (bn : s.heap.Ns builtinsNs mb) (bb : ∀ y : Str, y ≠ "__name__" → mb y = bootBuiltins y) (nl : s.heap.NoLimit) (ge : s.gens = #[])
    (hT : ∀ p ∈ cs, s.heap.get? p.2 = some { cls := .none, data := .fields #[] }) (nT : ∀ p ∈ cs, K.lookup p.2 = none) (hC : ∀ p ∈ cs, PySem.W.CodeHd s.heap p.1 p.2)
    (hM : ∃ (m : Addr) (om : Obj), mg "__builtins__" = some (.ref m) ∧ m ≠ builtinsNs ∧ s.heap.get? m = some om ∧ om.cls = .type "module" ∧ om.dict = some builtinsNs ∧ om.data = .plain)
    (ha : s.heap.get? a = some { cls := .type "list", data := .seq vs.toArray }) (hi : IntsAre vs ns) (hl : ns.length ≤ sizeLine) (hr : Room k callerA)
    (F : ∀ bs : Heap, K.In bs → bs.Ns mainGlobals mg → (∀ p ∈ cs, LamX.TabB bs mg p.1 p.2) → FnG P w K mg bs CX k fa fd [x] sp) (bi : ∀ (z : Shared) (u : Value), BindsTo z fd ⟨[u], []⟩ [(x, u)])
    (hs : ∀ H : Hp, (∀ p ∈ cs, H p.2 = some (.tbl #[])) → SqL K H a (ns.map V.int) → sp [.ref a] H (fun v _ => v = .bl true) fun _ _ _ => False)
    (hX : ∀ H e z, CX [] H s (fun _ _ _ => False) e z → False) :
    codeAny (model P w) callerA (.call (.ref fa) ⟨[.ref a], []⟩) (fun r z => r = .ok (.ret (.bool true)) ∧ OldK s.heap z.heap ∧ z.os = s.os ∧ AllBare z.gens) s := by
  have rv := vals_ints hi
  obtain ⟨H, B⟩ := begun KX hT nT ha rv hl
  have md : L2.Mod K mg (hidT s.heap H) := ⟨B.kin KX, B.nsp ha gn, ⟨mb, B.nsp ha bn, bb⟩, let ⟨mc, h1, h2⟩ := nl; ⟨mc, B.nsp ha h1, h2⟩⟩
  have tabs : ∀ p ∈ cs, LamX.TabB (hidT s.heap H) mg p.1 p.2 := fun p hp => by
    have tp := hT p hp
    obtain ⟨m, om, b1, b2, b3, b4, b5, b6⟩ := hM
    refine ⟨?_, ⟨m, om, b1, b2, fun q => ?_, fun q => ?_, B.get ha b3 (by rw [b6]; intro _ _ z; cases z) (by rw [b6]; intro z; cases z), b4, b5, b6⟩, fun q => ?_⟩
    · obtain ⟨o, us, fl, tf, fg, tg, iF, tx, tt, e1, r1, r2, r3, rest⟩ := hC p hp
      refine ⟨o, us, fl, tf, fg, tg, iF, tx, tt, B.get ha e1 (by rw [r2]; intro _ _ z; cases z) (fun z => ?_), r1, r2, r3, rest⟩
      rw [r2] at z
      cases z
      simp at r3
    · obtain ⟨o, es, ep, e, hd, _⟩ := gn
      rw [q, e] at b3
      cases b3
      rw [hd] at b6
      cases b6
    · rw [q, tp] at b3
      cases b3
      cases b6
    · obtain ⟨o, es, ep, e, hd, _⟩ := gn
      rw [q, tp] at e
      cases e
      cases hd
  have e0 : Env0 P w K mg (hidT s.heap H) callerA [] s H := ⟨rfl, md, fun b o e => of_hidT e, Nat.le_of_eq (hidT_size _ _), trivial, (fun b hb => absurd hb List.not_mem_nil), B.hok ha rv hl, AllBare.of_eq ge⟩
  refine codeAny_mono ((F _ md.kin md.glob tabs).2 callerA [] s H ⟨[.ref a], []⟩ [.ref a] [.ref a] _ _ rfl hr e0 (bi s (.ref a)) (.cons rfl .nil) (hs H B.tb B.sq)) ?_
  intro r z hz
  cases r with
  | error e => exact (hX H e z hz).elim
  | ok fl => cases fl with
    | next => exact hz.elim
    | brk => exact hz.elim
    | cont => exact hz.elim
    | ret u =>
      obtain ⟨v, H', os, bare, un, hok, rvu, qv⟩ := hz
      have qv : v = .bl true := qv
      subst qv
      obtain rfl : u = Value.bool true := rvu
      have stays : ∀ (b : Addr) (o : Obj), (∀ u, H b = some u → ¬ (u = .tbl #[])) → s.heap.get? b = some o → z.heap.get? b = some o := fun b o nt e => by
        cases q : H b with
        | none => exact un.keep b o e q (fun z => nomatch z) (fun z => nomatch z)
        | some u =>
          rcases B.al b u q with ⟨t, _⟩ | ⟨rfl, rfl, _⟩
          · exact absurd t (nt u q)
          · rw [ha] at e
            cases e
            exact (hok b _ (un.frzs b _ _ q)).1
      have grows : ∀ p ∈ cs, ∃ more : Array Value, z.heap.get? p.2 = some { cls := .none, data := .fields more } := fun p hp => by
        obtain ⟨more, q⟩ := un.tbls p.2 #[] (B.tb p hp)
        exact ⟨_, hok p.2 _ q⟩
      have one : ∀ (b : Addr) (o : Obj), s.heap.get? b = some o → z.heap.get? b = some o ∨ ∃ p ∈ cs, b = p.2 := fun b o e => by
        by_cases t : H b = some (.tbl #[])
        · rcases B.al b _ t with ⟨_, _, _, m⟩ | ⟨_, y, _⟩
          · obtain ⟨p, hp, ep⟩ := List.mem_map.mp m
            exact .inr ⟨p, hp, ep.symm⟩
          · cases y
        · exact .inl (stays b o (fun u q t2 => t (by rw [q, t2])) e)
      refine ⟨rfl, ⟨fun b o e => ?_, fun b o e => ?_⟩, os, bare⟩
      · rcases one b o e with g | ⟨p, hp, rfl⟩
        · exact .inl g
        · obtain ⟨more, g⟩ := grows p hp
          rw [hT p hp] at e
          cases e
          exact .inr (.inl ⟨((hC p hp).tab (hT p hp)).isCodeTable, rfl, #[], more, rfl, by rw [Array.empty_append]; exact g⟩)
      · rcases one b o e with g | ⟨p, hp, rfl⟩
        · exact ⟨o, g⟩
        · obtain ⟨more, g⟩ := grows p hp
          exact ⟨_, g⟩
/-- what is known of the law's promise at the head's heap -/
def LawG (l : PySem.W.OpenLaw) (w : World) (K : PySem.W.Frag) (CX : CXT) (k n : Nat) (x : Str) (mg : Str → Option Value) (fa : Addr) (h : Heap) : Prop :=
  ∃ (fd : FuncData) (cs : List (Addr × Addr)) (sp : Sp), ((∀ p ∈ cs, h.get? p.2 = some { cls := .none, data := .fields #[] }) ∧ (∀ p ∈ cs, K.lookup p.2 = none) ∧ (∀ p ∈ cs, PySem.W.CodeHd h p.1 p.2)) ∧ (∀ (z : Shared) (u : Value), BindsTo z fd ⟨[u], []⟩ [(x, u)]) ∧
    (∀ (H : Hp) (a : Addr) (ns : List Int), ns.length ≤ n → (∀ i ∈ ns, Builtin.Int.intBits i ≤ 1048576) → (∀ p ∈ cs, H p.2 = some (.tbl #[])) → SqL K H a (ns.map V.int) → sp [.ref a] H (fun v _ => v = .bl true) fun _ _ _ => False) ∧
    ∀ bs : Heap, K.In bs → bs.Ns mainGlobals mg → (∀ p ∈ cs, LamX.TabB bs mg p.1 p.2) → FnG l.prog w K mg bs CX k fa fd [x] sp
theorem walk_g {l : PySem.W.OpenLaw} {n k : Nat} {q : Program} {loose : List Str} {XP : (Str → Option Value) → Heap → Prop} {YP : World → Heap → Prop} {d : DefRec} {K : Params → PySem.W.Frag} {CX : World → CXT} {x : Str}
    (hn : l.most = some n) (n2 : n ≤ sizeLine) (df : d.params.defaults = []) (hr : Room k callerA) (hY : ∀ (w : World) (h : Heap), YP w h → (K w.params).In h)
    (F : ∀ (w : World) (mg : Str → Option Value) (fa : Addr) (h : Heap), YP w h → (K w.params).In h → h.Ns mainGlobals mg → mg d.name = some (.ref fa) → LawG l w (K w.params) (CX w) k n x mg fa h)
    (hX : ∀ (w : World) (H : Hp) (s : Shared) (e : Value) (z : Shared), CX w [] H s (fun _ _ _ => False) e z → False) :
    PySem.W.WalkO q loose XP YP l.row.toRowW d [] (fun f vs => PySem.call f vs) := by
  refine Att.attach_callB hn df ?_
  intro w s0 s mg mb fa o pm cd dc a vs ns G Y _ _ _ hm hob his hle hbi hge
  obtain ⟨fd, cs, sp, ⟨hT, nT, hC⟩, bi, hs, hF⟩ := F w mg fa _ Y (hY w _ Y) G.T.g hm
  exact top_g (hY w _ Y) G.T.g G.T.b G.T.builtins G.T.nolimit hge hT nT hC G.T.bmain hob his (Nat.le_trans hle n2) hr hF bi (fun H t q => hs H a ns hle hbi t q) fun H e z => hX w H s e z
end GG

namespace GG
open PySem PySem.Spec PyProof.Rows L2
/-! ### repr(v) where nothing is being shown -/
/-- a dict from integers to integers -/
def dI (ms : List (Int × Int)) : PyData := .dict (ms.map fun m => (.int m.1, .int m.2))
/-- what is shown of v -/
def Rp (K : PySem.W.Frag) (H : Hp) (v : V) (d : PyData) : Prop := (Dp K H v d ∧ d.hasDict = false) ∨ ∃ (a : Addr) (ms : List (Int × Int)), v = .ref a ∧ H a = some (.dK (ms.map fun m => (Sum.inl m.1, V.int m.2))) ∧ d = dI ms
def rRep (K : PySem.W.Frag) : List V → Hp → VK → Prop := fun xs H Q => ∃ (v : V) (d : PyData), xs = [v] ∧ Rp K H v d ∧ d.showable = true ∧ d.shown.length ≤ sizeLine ∧ d.depth ≤ 10 ∧ Q (.str d.shown) H
section
variable {P : Program} {w : World} {h : Heap}
theorem reads_ints {es : List DictEntry} {kvs : List (Key × Value)} (p : Pairs (mixKind P w) es kvs) : ∀ {ms : List (Int × Int)}, KV (ms.map fun m => ((Sum.inl m.1 : Key), V.int m.2)) kvs → ReadsAll h (es.map (·.key)) (ms.map fun m => PyData.int m.1) [] ∧ ReadsAll h (es.map (·.val)) (ms.map fun m => PyData.int m.2) [] := by
  induction p with
  | nil =>
    intro ms r
    cases ms with
    | nil => exact ⟨.nil, .nil⟩
    | cons _ _ => cases r
  | @cons e kv es kvs h1 h2 _ ih =>
    intro ms r
    cases ms with
    | nil => cases r
    | cons m ms =>
      cases r with
      | cons r0 r1 =>
        obtain ⟨a, b⟩ := ih r1
        obtain ⟨k, v⟩ := kv
        obtain ⟨z1, z2⟩ := r0
        have z1 : Sum.inl m.1 = k := z1
        subst z1
        obtain ⟨t, rfl⟩ := z2
        rcases keyIs_shape (k := Sum.inl m.1) (v := e.key) h1 with ⟨i, u, q1, q2⟩ | ⟨_, _, q1, _⟩
        · cases q1
          refine ⟨?_, ?_⟩
          · show ReadsAll h (e.key :: _) _ ([] ++ [])
            rw [q2]
            exact .cons (.int _ _) a
          · show ReadsAll h (e.val :: _) _ ([] ++ [])
            rw [h2]
            exact .cons (.int _ _) b
        · cases q1
end
section
variable {X : Cx}
theorem call_repr (sh : Shy X.A) (hu : X.A.units + 40 < cLine) : CallR X (.builtin "repr") (rRep X.K) := by
  intro pins s σ H xs us Q I r h
  obtain ⟨v, d, rfl, rp, sw, sz, dp, q⟩ := h
  obtain ⟨u, rfl, ru⟩ := vals1 r
  have fin : ∀ (h' : Heap) (t tk : Tok), (∀ b o, s.heap.get? b = some o → h'.get? b = some o) → EP X pins σ Q (.str d.shown t) { s with heap := h', toks := tk } := fun h' t tk k => ⟨.str d.shown, H, I.kept k, ⟨t, rfl⟩, q⟩
  have fin0 : EP X pins σ Q (.str d.shown s.toks) { s with toks := s.toks + 1 } := fin s.heap s.toks _ fun _ _ e => e
  rcases rp with ⟨hd, nd⟩ | ⟨a, ms, rfl, ha, rfl⟩
  · obtain ⟨as, rd⟩ := Dp.reads I d v u hd ru
    cases rd with
    | none => exact PySem.P.repr_of_none fin0
    | bool b => exact PySem.P.repr_of_bool fin0
    | int i t => exact PySem.P.repr_of_int (by simpa [PyData.showable] using sw) fin0
    | str x t => exact PySem.P.repr_of_str fin0 sz
    | list h1 h2 h3 h4 => exact repr_of_reads' (.list h1 h2 h3 h4) sw (fun z => by rw [nd] at z; cases z) sh (by omega) (fun _ _ e => e) fin sz
    | tuple h1 h2 h3 h4 => exact repr_of_reads' (.tuple h1 h2 h3 h4) sw (fun z => by rw [nd] at z; cases z) sh (by omega) (fun _ _ e => e) fin sz
    | dict _ _ _ _ _ => cases hd
  · obtain rfl : u = Value.ref a := ru
    obtain ⟨_, low, vs, kv, o, es, ep, h1, h2, h3, _, pr, _⟩ := dk_of I.hok ha
    obtain ⟨rk, rv⟩ := reads_ints (h := s.heap) pr kv
    have rd : Reads s.heap (.ref a) (dI ms) (a :: [] ++ []) := .dict h1 h2.1 h3 (by rw [List.map_map]; exact rk) (by rw [List.map_map]; exact rv)
    exact repr_of_reads' rd sw (fun _ z => by
      rw [List.append_nil, List.mem_singleton] at z
      rw [z] at low
      simp at low) sh (by omega) (fun _ _ e => e) fin sz
end
end GG

namespace K13
open PySem PySem.Spec PyProof.Rows L2
def top (i : Nat) : Stmt := PySem.Challenge.pw_farseen_k13_pins_in_order_left_out_put_i.main.body.getD i (.Pass ⟨0, 0, 0, 0⟩)
def inClass (s : Stmt) (i : Nat) : Stmt := match s with
  | .ClassDef _ _ _ b _ _ _ _ _ _ _ => b.getD i (.Pass ⟨0, 0, 0, 0⟩)
  | _ => .Pass ⟨0, 0, 0, 0⟩
/-! ### values: kinds -/
def isI : V → Bool
  | .int _ => true
  | _ => false
/-- what is told of the class of pictures, so that isinstance asks its instances -/
structure PicC (K : PySem.W.Frag) (C : Addr) : Prop where
  cls : Cls K C
  ha : PySem.W.findIn K (.ref C) "__class__" = some (some (.builtin "object.__class__"))
  hn : PySem.W.specialIn K (.builtin "object.__class__") "__get__" = some (some (.builtin "getset_descriptor.__get__"))
  ht : PySem.W.takesIn K (.builtin "object.__class__") = some true
  hm : PySem.W.mroIn K C (.type "object") = some true
  ki : PySem.W.kitOne K (.ref C) (.type "int") = some false
  kb : PySem.W.kitOne K (.ref C) (.type "bool") = some false
  kt : PySem.W.kitOne K (.ref C) (.type "tuple") = some false
  ks : PySem.W.kitAny K (.ref C) [.type "list", .type "tuple"] = some false
/-- a value of a kind that is looked at; whether it is a list or a tuple -/
inductive Kd (K : PySem.W.Frag) (H : Hp) : V → Bool → Prop
  | non : Kd K H .non false
  | bl (b : Bool) : Kd K H (.bl b) false
  | int (i : Int) : Kd K H (.int i) false
  | str (x : Str) : Kd K H (.str x) false
  | lst {a : Addr} {xs : List V} (e : H a = some (.lst xs)) : Kd K H (.ref a) true
  | tup {a : Addr} {xs : List V} (e : H a = some (.tup xs)) : Kd K H (.ref a) true
  | dK {a : Addr} {kvs : List (Key × V)} (e : H a = some (.dK kvs)) : Kd K H (.ref a) false
  | ins {a C dx : Addr} {fs : List (Str × V)} (e : H a = some (.ins C dx fs)) (P : PicC K C) : Kd K H (.ref a) false
theorem Kd.same {K : PySem.W.Frag} {H H' : Hp} {v : V} {t : Bool} (k : Kd K H v t) (s : Same H H') : Kd K H' v t := by
  cases k with
  | non => exact .non
  | bl b => exact .bl b
  | int i => exact .int i
  | str x => exact .str x
  | lst e => exact .lst (s _ _ e)
  | tup e => exact .tup (s _ _ e)
  | dK e => exact .dK (s _ _ e)
  | ins e P => exact .ins (s _ _ e) P
theorem no_two {K : PySem.W.Frag} {x : String} (h1 : kitB x "list" = some false) (h2 : kitB x "tuple" = some false) : PySem.W.kitAny K (.type x) [.type "list", .type "tuple"] = some false :=
  kitAny_cons (kit_ty h1) (fun _ => kitAny_cons (kit_ty h2) (fun _ => kitAny_nil) (fun z => nomatch z)) (fun z => nomatch z)
/-- what isinstance is told of it -/
theorem Kd.told {K : PySem.W.Frag} {H : Hp} {v : V} {t : Bool} (k : Kd K H v t) : ∃ (u : Value) (b c : Bool), TyX K H v u ∧ PySem.W.kitOne K u (.type "int") = some b ∧ PySem.W.kitOne K u (.type "bool") = some c ∧ (b && !c) = isI v ∧ PySem.W.kitAny K u [.type "list", .type "tuple"] = some t := by
  cases k with
  | non => exact ⟨_, _, _, .base .non, kit_ty (by decide +kernel : kitB _ _ = some false), kit_ty (by decide +kernel : kitB _ _ = some false), rfl, no_two (by decide +kernel) (by decide +kernel)⟩
  | bl b => exact ⟨_, _, _, .base (.bl b), kit_ty (by decide +kernel : kitB _ _ = some true), kit_ty (by decide +kernel : kitB _ _ = some true), rfl, no_two (by decide +kernel) (by decide +kernel)⟩
  | int i => exact ⟨_, _, _, .base (.int i), kit_ty (by decide +kernel : kitB _ _ = some true), kit_ty (by decide +kernel : kitB _ _ = some false), rfl, no_two (by decide +kernel) (by decide +kernel)⟩
  | str x => exact ⟨_, _, _, .base (.str x), kit_ty (by decide +kernel : kitB _ _ = some false), kit_ty (by decide +kernel : kitB _ _ = some false), rfl, no_two (by decide +kernel) (by decide +kernel)⟩
  | lst e => exact ⟨_, _, _, .base (.lst e), kit_ty (by decide +kernel : kitB _ _ = some false), kit_ty (by decide +kernel : kitB _ _ = some false), rfl, kitAny_cons (kit_ty (by decide +kernel : kitB _ _ = some true)) (fun z => nomatch z) (fun _ => rfl)⟩
  | tup e => exact ⟨_, _, _, .base (.tup e), kit_ty (by decide +kernel : kitB _ _ = some false), kit_ty (by decide +kernel : kitB _ _ = some false), rfl, kitAny_cons (kit_ty (by decide +kernel : kitB _ _ = some false)) (fun _ => kitAny_cons (kit_ty (by decide +kernel : kitB _ _ = some true)) (fun z => nomatch z) (fun _ => rfl)) (fun z => nomatch z)⟩
  | dK e => exact ⟨_, _, _, .base (.dK e), kit_ty (by decide +kernel : kitB _ _ = some false), kit_ty (by decide +kernel : kitB _ _ = some false), rfl, no_two (by decide +kernel) (by decide +kernel)⟩
  | ins e P => exact ⟨_, _, _, .base (.ins e P.cls P.ha P.hn P.ht P.hm), P.ki, P.kb, rfl, P.ks⟩
/-- a list or a tuple of these -/
def Sq (H : Hp) (a : Addr) (xs : List V) : Prop := H a = some (.lst xs) ∨ H a = some (.tup xs)
theorem Sq.same {H H' : Hp} {a : Addr} {xs : List V} (k : Sq H a xs) (s : Same H H') : Sq H' a xs := k.elim (fun e => .inl (s _ _ e)) (fun e => .inr (s _ _ e))
theorem Sq.kd {K : PySem.W.Frag} {H : Hp} {a : Addr} {xs : List V} (k : Sq H a xs) : Kd K H (.ref a) true := k.elim (fun e => .lst e) (fun e => .tup e)
theorem same_new {H : Hp} {p : Addr} {o : HO} (h : H p = none) : Same H (upd H p o) := fun b u e => by
  rw [upd_ne (ne_of_none e h)]
  exact e
theorem Same.me {H : Hp} : Same H H := fun _ _ e => e
theorem take_more {α : Type} : ∀ {l : List α} {i : Nat} {x : α}, l[i]? = some x → l.take (i + 1) = l.take i ++ [x]
  | [], i, x, h => by simp at h
  | a :: l, 0, x, h => by
    have e : a = x := Option.some.inj h
    subst e
    rfl
  | a :: l, i + 1, x, h => by
    have ih := take_more (l := l) (i := i) (x := x) h
    show a :: l.take (i + 1) = a :: l.take i ++ [x]
    rw [ih]
    rfl
/-! ### the built-in names -/
structure Bn (mg : Str → Option Value) : Prop where
  isinstance : mg "isinstance" = none
  int : mg "int" = none
  bool : mg "bool" = none
  list : mg "list" = none
  tuple : mg "tuple" = none
  all : mg "all" = none
  len : mg "len" = none
  range : mg "range" = none
  abs : mg "abs" = none
  str : mg "str" = none
  sum : mg "sum" = none
  min : mg "min" = none
  enumerate : mg "enumerate" = none
/-- a def that may be called by its name -/
def Callee (P : Program) (w : World) (K : PySem.W.Frag) (mg : Str → Option Value) (base : Heap) (CX : CXT) (k : Nat) (x : Str) (ps : List Str) (sp : Sp) : Prop :=
  ∃ (f : Addr) (fd : FuncData), mg x = some (.ref f) ∧ PySem.W.keepIn K (.ref f) = true ∧ Binds K fd ps [] ∧ FnOk P w K mg base CX k f fd ps sp
def RB (b : Bool) (H : Hp) (Q : VK) : Prop := ∀ H', Same H H' → Q (.bl b) H'
section
variable {P : Program} {w : World} {K : PySem.W.Frag} {mg : Str → Option Value} {base : Heap}
/-! ### is_integer -/
def spInt (K : PySem.W.Frag) : Sp := fun vs H Q _ => ∃ v t, vs = [v] ∧ Kd K H v t ∧ Q (.bl (isI v)) H
abbrev sInt : Stmt := top 12
theorem scInt : FnScope ["value"] ["value"] (defScope sInt) := ⟨rfl, rfl, rfl, by decide +kernel, rfl, by decide +kernel, by decide +kernel⟩
theorem ok_int {f : Addr} {fd : FuncData} (F : Fun K "is_integer" "is_integer" sInt f fd) (B : Bn mg) : FnOk P w K mg base CX0 1 f fd ["value"] (spInt K) := by
  refine F.ok scInt (fun vs H Q E h => ?_) (fun cdv A outer s H vs Q E hr h => ?_)
  · obtain ⟨v, t, rfl, _⟩ := h
    rfl
  · obtain ⟨v, t, rfl, k, q⟩ := h
    refine ⟨_, pss_one (ps_ret (pe_and ((pe_callB (r := rIsi K) call_isi (by rfl) B.isinstance boot_isinstance (pa_cons (pv 0) (pa_cons (pe_bltn (v := .ty "int") (by rfl) B.int (by decide +kernel) rfl) pa_nil)))) (pe_one (pe_not (pe_callB (r := rIsi K) call_isi (by rfl) B.isinstance boot_isinstance (pa_cons (pv 0) (pa_cons (pe_bltn (v := .ty "bool") (by rfl) B.bool (by decide +kernel) rfl) pa_nil))))))), ?_⟩
    obtain ⟨u, b, c, ty, hb, hc, e, _⟩ := k.told
    refine ⟨_, rfl, _, _, _, _, b, rfl, .ty _, ty, hb, b, rfl, ?_⟩
    cases b with
    | true =>
      refine iteT ⟨_, rfl, _, _, _, _, c, rfl, .ty _, ty, hc, c, rfl, ?_⟩
      rw [← e] at q
      simpa using q
    | false =>
      refine iteF ?_
      rw [← e] at q
      simpa using q
/-! ### is_list -/
def spIsList (K : PySem.W.Frag) : Sp := fun vs H Q _ => ∃ v t, vs = [v] ∧ Kd K H v t ∧ RB t H Q
abbrev sIsList : Stmt := top 14
theorem scIsList : FnScope ["value"] ["value"] (defScope sIsList) := ⟨rfl, rfl, rfl, by decide +kernel, rfl, by decide +kernel, by decide +kernel⟩
theorem ok_isList {f : Addr} {fd : FuncData} (F : Fun K "is_list" "is_list" sIsList f fd) (B : Bn mg) : FnOk P w K mg base CX0 1 f fd ["value"] (spIsList K) := by
  refine F.ok scIsList (fun vs H Q E h => ?_) (fun cdv A outer s H vs Q E hr h => ?_)
  · obtain ⟨v, t, rfl, _⟩ := h
    rfl
  · obtain ⟨v, t, rfl, k, q⟩ := h
    refine ⟨_, pss_one (ps_ret (pe_callB call_isiT (by rfl) B.isinstance boot_isinstance (pa_cons (pv 0) (pa_cons (pe_tup (pa_cons (pe_bltn (v := .ty "list") (by rfl) B.list (by decide +kernel) rfl) (pa_cons (pe_bltn (v := .ty "tuple") (by rfl) B.tuple (by decide +kernel) rfl) pa_nil))) pa_nil)))), ?_⟩
    refine ⟨_, rfl, by show 2 ≤ sizeLine; decide, fun p hp => ?_⟩
    obtain ⟨u, _, _, ty, _, _, _, hs⟩ := (k.same (same_new (o := .tup [.ty "list", .ty "tuple"]) hp)).told
    exact ⟨_, p, _, _, _, t, rfl, upd_same, .cons (.ty _) (.cons (.ty _) .nil), ty, hs, q _ (same_new hp)⟩
/-! ### is_within -/
def within (v : V) (l m : Int) : Bool := match v with
  | .int n => decide (l ≤ n) && decide (n ≤ m)
  | _ => false
def spWithin (K : PySem.W.Frag) : Sp := fun vs H Q _ => ∃ v t l m, vs = [v, .int l, .int m] ∧ Kd K H v t ∧ Q (.bl (within v l m)) H
abbrev sWithin : Stmt := top 13
theorem scWithin : FnScope ["value", "least", "most"] ["value", "least", "most"] (defScope sWithin) := ⟨rfl, rfl, rfl, by decide +kernel, rfl, by decide +kernel, by decide +kernel⟩
theorem ok_within {f : Addr} {fd : FuncData} (F : Fun K "is_within" "is_within" sWithin f fd) (C1 : Callee P w K mg base CX0 1 "is_integer" ["value"] (spInt K)) : FnOk P w K mg base CX0 2 f fd ["value", "least", "most"] (spWithin K) := by
  obtain ⟨f1, fd1, m1, k1, b1, G1⟩ := C1
  refine F.ok scWithin (fun vs H Q E h => ?_) (fun cdv A outer s H vs Q E hr h => ?_)
  · obtain ⟨v, t, l, m, rfl, _⟩ := h
    rfl
  · obtain ⟨v, t, l, m, rfl, k, q⟩ := h
    refine ⟨_, (pss_cons (ps_if (pt_not (pt_val (pe_call G1 (hr.mono (by decide)) rfl m1 k1 b1 .nil pass0 (pa_cons (pv 0) pa_nil)))) (pss_one (ps_ret pe_bl)) pss_nil) (pss_one (ps_ret (pe_and ((pe_or (pe_cmpR op_isN (pv 1) pe_non (nomark _)) (pe_one (pe_cmpR op_le (pv 1) (pv 0) (nomark _))))) (pe_one ((pe_or (pe_cmpR op_isN (pv 2) pe_non (nomark _)) (pe_one (pe_cmpR op_le (pv 0) (pv 2) (nomark _)))))))))), ?_⟩
    refine ⟨_, rfl, v, t, rfl, k, _, rfl, ?_⟩
    cases e : isI v with
    | false =>
      refine iteT ?_
      have : within v l m = false := by
        cases v <;> first | rfl | cases e
      rw [this] at q
      exact q
    | true =>
      obtain ⟨n, rfl⟩ : ∃ n, v = .int n := by
        cases v <;> first | exact ⟨_, rfl⟩ | cases e
      have q : Q (.bl (decide (l ≤ n) && decide (n ≤ m))) H := q
      refine iteF ⟨_, rfl, rfl, _, rfl, iteF ⟨_, rfl, _, rfl, _, _, rfl, rfl, _, rfl, ?_⟩⟩
      by_cases hl : l ≤ n
      · rw [decide_eq_true hl] at q ⊢
        exact iteT ⟨_, rfl, rfl, _, rfl, iteF ⟨_, rfl, _, rfl, _, _, rfl, rfl, q⟩⟩
      · rw [decide_eq_false hl] at q ⊢
        exact iteF q
end
end K13

namespace K13
open PySem PySem.Spec PyProof.Rows L2
def G9 : Int := 1000000000
def inB (x : V) : Bool := within x (-G9) G9
def rowB (xs : List V) : Bool := decide (xs.length = 2) && xs.all inB
/-- a value judged as a row of two -/
inductive RowV (K : PySem.W.Frag) (H : Hp) : V → Bool → Prop
  | no {v : V} (k : Kd K H v false) : RowV K H v false
  | seq {a : Addr} {xs : List V} (hs : Sq H a xs) (hk : ∀ x ∈ xs, ∃ t, Kd K H x t) (hl : xs.length ≤ 100) : RowV K H (.ref a) (rowB xs)
theorem RowV.same {K : PySem.W.Frag} {H H' : Hp} {v : V} {b : Bool} (k : RowV K H v b) (s : Same H H') : RowV K H' v b := by
  cases k with
  | no k => exact .no (k.same s)
  | seq hs hk hl => exact .seq (hs.same s) (fun x hx => let ⟨t, k⟩ := hk x hx; ⟨t, k.same s⟩) hl
/-- a value judged as rows of two -/
inductive RowsV (K : PySem.W.Frag) (H : Hp) : V → Option (List Bool) → Prop
  | no {v : V} (k : Kd K H v false) : RowsV K H v none
  | seq {a : Addr} {xs : List V} {bs : List Bool} (hs : Sq H a xs) (hk : Paired (RowV K H) xs bs) (hl : xs.length ≤ 100) : RowsV K H (.ref a) (some bs)
theorem paired_same {K : PySem.W.Frag} {H H' : Hp} {xs : List V} {bs : List Bool} (h : Paired (RowV K H) xs bs) (s : Same H H') : Paired (RowV K H') xs bs := by
  induction h with
  | nil => exact .nil
  | cons a _ ih => exact .cons (a.same s) ih
theorem RowsV.same {K : PySem.W.Frag} {H H' : Hp} {v : V} {b : Option (List Bool)} (k : RowsV K H v b) (s : Same H H') : RowsV K H' v b := by
  cases k with
  | no k => exact .no (k.same s)
  | seq hs hk hl => exact .seq (hs.same s) (paired_same hk s) hl
def rowsB : Option (List Bool) → Bool
  | none => false
  | some bs => bs.all id
def plB : Option (List Bool) → Bool
  | none => false
  | some bs => bs.all id && decide (4 ≤ bs.length) && decide (bs.length ≤ 7)
theorem paired_get {α β : Type} {R : α → β → Prop} {xs : List α} {ys : List β} (h : Paired R xs ys) : ∀ {i : Nat} {x : α}, xs[i]? = some x → ∃ y, ys[i]? = some y ∧ R x y := by
  induction h with
  | nil =>
    intro i x e
    simp at e
  | cons a _ ih =>
    intro i x e
    cases i with
    | zero =>
      have z := Option.some.inj e
      subst z
      exact ⟨_, rfl, a⟩
    | succ i => exact ih (by simpa using e)
theorem len100 {α β : Type} {xs : List α} (h : xs.length ≤ 100) (i : Nat) (f : α → β) : ((xs.take i).map f).length < sizeLine := by
  rw [List.length_map, List.length_take]
  exact small1000 (Nat.le_trans (Nat.min_le_right _ _) (by omega))
theorem all_id {xs : List V} {f : V → Bool} : (xs.map f).all id = xs.all f := by
  rw [List.all_map]
  rfl
/-- the list that a comprehension has made so far -/
def At (H0 : Hp) (D : Addr) (ys : List V) (H : Hp) : Prop := Same H0 H ∧ H D = some (.lst ys)
theorem At.step {H0 H H1 : Hp} {D : Addr} {ys zs : List V} {y : V} (hD : H0 D = none) (p : At H0 D ys H) (s : Same H H1) (e : zs = ys ++ [y]) : At H0 D zs (upd H1 D (.lst (ys ++ [y]))) := by
  refine ⟨fun b o h => ?_, by rw [upd_same, e]⟩
  rw [upd_ne (ne_of_none h hD)]
  exact s _ _ (p.1 b o h)
section
variable {P : Program} {w : World} {K : PySem.W.Frag} {mg : Str → Option Value} {base : Heap}
/-! ### is_row -/
def spRow (K : PySem.W.Frag) : Sp := fun vs H Q _ => ∃ v b, vs = [v, .int 2, .int 2] ∧ RowV K H v b ∧ RB b H Q
abbrev sRow : Stmt := top 25
abbrev nRow : List Str := ["value", "fewest", "most", "item"]
theorem scRow : FnScope nRow ["value", "fewest", "most"] (defScope sRow) := ⟨rfl, rfl, rfl, by decide +kernel, rfl, by decide +kernel, by decide +kernel⟩
theorem ok_row {f : Addr} {fd : FuncData} (F : Fun K "is_row" "is_row" sRow f fd) (B : Bn mg) (L : ∃ t, mg "LIMIT" = some (.int 1000000000 t)) (C1 : Callee P w K mg base CX0 1 "is_list" ["value"] (spIsList K)) (C2 : Callee P w K mg base CX0 2 "is_within" ["value", "least", "most"] (spWithin K)) : FnOk P w K mg base CX0 3 f fd ["value", "fewest", "most"] (spRow K) := by
  obtain ⟨f1, fd1, m1, k1, b1, G1⟩ := C1
  obtain ⟨f2, fd2, m2, k2, b2, G2⟩ := C2
  obtain ⟨tL, mL⟩ := L
  have nd := scRow.nd
  refine F.ok scRow (fun vs H Q E h => ?_) (fun cdv A outer s H vs Q E hr h => ?_)
  · obtain ⟨v, b, rfl, _⟩ := h
    rfl
  · obtain ⟨v, b, rfl, j, q⟩ := h
    cases j with
    | no k =>
      refine ⟨_, (pss_cons (ps_if (PW.pt (pw_or (pt_not (pt_val (pe_call G1 (hr.mono (by decide)) rfl m1 k1 b1 .nil pass0 (pa_cons (pv 0) pa_nil)))) (pw_or1 (pt_not (pt_chain op_le op_le (pv 1) (pe_callB call_len_seq (by rfl) B.len PySem.boot_len (pa_cons (pv 0) pa_nil)) (pv 2)))))) (pss_one (ps_ret pe_bl)) pss_nil) (pss_one (ps_ret (pe_callB (cr_all rfl) (by rfl) B.all boot_all (pa_cons (pe_lc (own := [("item", 3)]) (g := gName 3) (tt := tYes) rfl nd (pi_list (pv 0)) (blkOk_by (N := nRow) (sc := defScope sRow) (by decide +kernel)) (fun _ _ _ _ _ => pg_name (i := 3) nd rfl (Or.inl rfl)) (fun _ _ _ _ _ => pts_nil) (fun _ _ _ _ _ => (pe_call G2 (hr.mono (by decide)) rfl m2 k2 b2 .nil pass0 (pa_cons (pv 3) (pa_cons (pe_un un_neg (pe_glob (v := .int 1000000000) rfl mL ⟨_, rfl⟩)) (pa_cons (pe_glob (v := .int 1000000000) rfl mL ⟨_, rfl⟩) pa_nil)))))) pa_nil))))), ?_⟩
      exact ⟨_, rfl, v, false, rfl, k, fun H1 s1 => ⟨_, rfl, iteT (q _ s1)⟩⟩
    | @seq a xs hs hk hl =>
      have key : ∀ H1, Same H H1 → ∀ D H2, At H1 D (xs.map fun x => V.bl (inB x)) H2 → xs.length = 2 → rAll K [.ref D] H2 Q := fun H1 s1 D H2 p h2 => by
        refine ⟨D, xs.map inB, rfl, SqL.of (by rw [p.2, List.map_map]; rfl), ?_⟩
        have e : rowB xs = (xs.map inB).all id := by
          unfold rowB
          rw [decide_eq_true h2, Bool.true_and, all_id]
        rw [← e]
        exact q _ (s1.trans p.1)
      have nok : xs.length ≠ 2 → rowB xs = false := fun h => by
        unfold rowB
        rw [decide_eq_false h]
        rfl
      have sq := hs
      rcases hs with hs | hs
      · refine ⟨_, (pss_cons (ps_if (PW.pt (pw_or (pt_not (pt_val (pe_call G1 (hr.mono (by decide)) rfl m1 k1 b1 .nil pass0 (pa_cons (pv 0) pa_nil)))) (pw_or1 (pt_not (pt_chain op_le op_le (pv 1) (pe_callB call_len_seq (by rfl) B.len PySem.boot_len (pa_cons (pv 0) pa_nil)) (pv 2)))))) (pss_one (ps_ret pe_bl)) pss_nil) (pss_one (ps_ret (pe_callB (cr_all rfl) (by rfl) B.all boot_all (pa_cons (pe_lc (own := [("item", 3)]) (g := gName 3) (tt := tYes) rfl nd (pi_list (pv 0)) (blkOk_by (N := nRow) (sc := defScope sRow) (by decide +kernel)) (fun _ _ _ _ _ => pg_name (i := 3) nd rfl (Or.inl rfl)) (fun _ _ _ _ _ => pts_nil) (fun _ _ _ _ _ => (pe_call G2 (hr.mono (by decide)) rfl m2 k2 b2 .nil pass0 (pa_cons (pv 3) (pa_cons (pe_un un_neg (pe_glob (v := .int 1000000000) rfl mL ⟨_, rfl⟩)) (pa_cons (pe_glob (v := .int 1000000000) rfl mL ⟨_, rfl⟩) pa_nil)))))) pa_nil))))), ?_⟩
        refine ⟨_, rfl, _, true, rfl, sq.kd, fun H1 s1 => ⟨_, rfl, iteF ?_⟩⟩
        refine ⟨_, rfl, _, rfl, a, xs, rfl, .inl (SqL.of (s1 _ _ hs)), _, _, rfl, rfl, _, rfl, ?_⟩
        by_cases h2 : xs.length = 2
        · rw [decide_eq_true (show (2 : Int) ≤ (xs.length : Int) by omega)]
          refine iteT ⟨_, rfl, _, _, rfl, rfl, _, rfl, ?_⟩
          rw [decide_eq_true (show (xs.length : Int) ≤ 2 by omega)]
          refine iteF ⟨_, rfl, a, rfl, ⟨_, SqL.of (s1 _ _ hs)⟩, fun D hD => ?_⟩
          refine lc_list (K := K) (a := a) (xs := xs) (fun i => At H1 D ((xs.take i).map fun x => V.bl (inB x))) ⟨same_new hD, upd_same⟩ (fun i H' _ p => SqL.of (p.1 _ _ (s1 _ _ hs))) (fun i x H' hx p => ?_) (fun H' p => ?_)
          · obtain ⟨tx, kx⟩ := hk x (List.mem_of_getElem? hx)
            refine ⟨rfl, ?_⟩
            show tCall (spWithin K) [] E0 (tCons (tVar 3) (tCons _ (tCons _ tNil))) _ H' _
            refine ⟨_, rfl, _, rfl, x, tx, _, _, rfl, (kx.same s1).same p.1, _, p.2, len100 hl _ _, p.step hD Same.me ?_⟩
            rw [take_more hx, List.map_append]
            rfl
          · rw [List.take_length] at p
            exact key H1 s1 D H' p h2
        · have q2 := q _ s1
          rw [nok h2] at q2
          by_cases h3 : (2 : Int) ≤ (xs.length : Int)
          · rw [decide_eq_true h3]
            refine iteT ⟨_, rfl, _, _, rfl, rfl, _, rfl, ?_⟩
            rw [decide_eq_false (show ¬ (xs.length : Int) ≤ 2 by omega)]
            exact iteT q2
          · rw [decide_eq_false h3]
            exact iteF ⟨_, rfl, iteT q2⟩
      · refine ⟨_, (pss_cons (ps_if (PW.pt (pw_or (pt_not (pt_val (pe_call G1 (hr.mono (by decide)) rfl m1 k1 b1 .nil pass0 (pa_cons (pv 0) pa_nil)))) (pw_or1 (pt_not (pt_chain op_le op_le (pv 1) (pe_callB call_len_seq (by rfl) B.len PySem.boot_len (pa_cons (pv 0) pa_nil)) (pv 2)))))) (pss_one (ps_ret pe_bl)) pss_nil) (pss_one (ps_ret (pe_callB (cr_all rfl) (by rfl) B.all boot_all (pa_cons (pe_lc (own := [("item", 3)]) (g := gName 3) (tt := tYes) rfl nd (pi_tup (pv 0)) (blkOk_by (N := nRow) (sc := defScope sRow) (by decide +kernel)) (fun _ _ _ _ _ => pg_name (i := 3) nd rfl (Or.inl rfl)) (fun _ _ _ _ _ => pts_nil) (fun _ _ _ _ _ => (pe_call G2 (hr.mono (by decide)) rfl m2 k2 b2 .nil pass0 (pa_cons (pv 3) (pa_cons (pe_un un_neg (pe_glob (v := .int 1000000000) rfl mL ⟨_, rfl⟩)) (pa_cons (pe_glob (v := .int 1000000000) rfl mL ⟨_, rfl⟩) pa_nil)))))) pa_nil))))), ?_⟩
        refine ⟨_, rfl, _, true, rfl, sq.kd, fun H1 s1 => ⟨_, rfl, iteF ?_⟩⟩
        refine ⟨_, rfl, _, rfl, a, xs, rfl, .inr (SqT.of (s1 _ _ hs)), _, _, rfl, rfl, _, rfl, ?_⟩
        by_cases h2 : xs.length = 2
        · rw [decide_eq_true (show (2 : Int) ≤ (xs.length : Int) by omega)]
          refine iteT ⟨_, rfl, _, _, rfl, rfl, _, rfl, ?_⟩
          rw [decide_eq_true (show (xs.length : Int) ≤ 2 by omega)]
          refine iteF ⟨_, rfl, a, rfl, ⟨_, SqT.of (s1 _ _ hs)⟩, fun D hD => ?_⟩
          refine lc_tup (K := K) (a := a) (xs := xs) (fun i => At H1 D ((xs.take i).map fun x => V.bl (inB x))) ⟨same_new hD, upd_same⟩ (fun i H' _ p => SqT.of (p.1 _ _ (s1 _ _ hs))) (fun i x H' hx p => ?_) (fun H' p => ?_)
          · obtain ⟨tx, kx⟩ := hk x (List.mem_of_getElem? hx)
            refine ⟨rfl, ?_⟩
            show tCall (spWithin K) [] E0 (tCons (tVar 3) (tCons _ (tCons _ tNil))) _ H' _
            refine ⟨_, rfl, _, rfl, x, tx, _, _, rfl, (kx.same s1).same p.1, _, p.2, len100 hl _ _, p.step hD Same.me ?_⟩
            rw [take_more hx, List.map_append]
            rfl
          · rw [List.take_length] at p
            exact key H1 s1 D H' p h2
        · have q2 := q _ s1
          rw [nok h2] at q2
          by_cases h3 : (2 : Int) ≤ (xs.length : Int)
          · rw [decide_eq_true h3]
            refine iteT ⟨_, rfl, _, _, rfl, rfl, _, rfl, ?_⟩
            rw [decide_eq_false (show ¬ (xs.length : Int) ≤ 2 by omega)]
            exact iteT q2
          · rw [decide_eq_false h3]
            exact iteF ⟨_, rfl, iteT q2⟩
/-! ### are_rows, are_places -/
def spRows (K : PySem.W.Frag) : Sp := fun vs H Q _ => ∃ v o, vs = [v, .int 2] ∧ RowsV K H v o ∧ RB (rowsB o) H Q
abbrev sRows : Stmt := top 26
abbrev nRows : List Str := ["value", "size", "row"]
theorem scRows : FnScope nRows ["value", "size"] (defScope sRows) := ⟨rfl, rfl, rfl, by decide +kernel, rfl, by decide +kernel, by decide +kernel⟩
theorem ok_rows {f : Addr} {fd : FuncData} (F : Fun K "are_rows" "are_rows" sRows f fd) (B : Bn mg) (C1 : Callee P w K mg base CX0 1 "is_list" ["value"] (spIsList K)) (C2 : Callee P w K mg base CX0 3 "is_row" ["value", "fewest", "most"] (spRow K)) : FnOk P w K mg base CX0 4 f fd ["value", "size"] (spRows K) := by
  obtain ⟨f1, fd1, m1, k1, b1, G1⟩ := C1
  obtain ⟨f2, fd2, m2, k2, b2, G2⟩ := C2
  have nd := scRows.nd
  refine F.ok scRows (fun vs H Q E h => ?_) (fun cdv A outer s H vs Q E hr h => ?_)
  · obtain ⟨v, o, rfl, _⟩ := h
    rfl
  · obtain ⟨v, o, rfl, j, q⟩ := h
    cases j with
    | no k =>
      refine ⟨_, pss_one (ps_ret (pe_and ((pe_call G1 (hr.mono (by decide)) rfl m1 k1 b1 .nil pass0 (pa_cons (pv 0) pa_nil))) (pe_one (pe_callB (cr_all rfl) (by rfl) B.all boot_all (pa_cons (pe_lc (own := [("row", 2)]) (g := gName 2) (tt := tYes) rfl nd (pi_list (pv 0)) (blkOk_by (N := nRows) (sc := defScope sRows) (by decide +kernel)) (fun _ _ _ _ _ => pg_name (i := 2) nd rfl (Or.inl rfl)) (fun _ _ _ _ _ => pts_nil) (fun _ _ _ _ _ => (pe_call G2 (hr.mono (by decide)) rfl m2 k2 b2 .nil pass0 (pa_cons (pv 2) (pa_cons (pv 1) (pa_cons (pv 1) pa_nil)))))) pa_nil))))), ?_⟩
      exact ⟨_, rfl, v, false, rfl, k, fun H1 s1 => ⟨_, rfl, iteF (q _ s1)⟩⟩
    | @seq a xs bs hs hk hl =>
      have sq := hs
      rcases hs with hs | hs
      · refine ⟨_, pss_one (ps_ret (pe_and ((pe_call G1 (hr.mono (by decide)) rfl m1 k1 b1 .nil pass0 (pa_cons (pv 0) pa_nil))) (pe_one (pe_callB (cr_all rfl) (by rfl) B.all boot_all (pa_cons (pe_lc (own := [("row", 2)]) (g := gName 2) (tt := tYes) rfl nd (pi_list (pv 0)) (blkOk_by (N := nRows) (sc := defScope sRows) (by decide +kernel)) (fun _ _ _ _ _ => pg_name (i := 2) nd rfl (Or.inl rfl)) (fun _ _ _ _ _ => pts_nil) (fun _ _ _ _ _ => (pe_call G2 (hr.mono (by decide)) rfl m2 k2 b2 .nil pass0 (pa_cons (pv 2) (pa_cons (pv 1) (pa_cons (pv 1) pa_nil)))))) pa_nil))))), ?_⟩
        refine ⟨_, rfl, _, true, rfl, sq.kd, fun H1 s1 => ⟨_, rfl, iteT ?_⟩⟩
        refine ⟨_, rfl, a, rfl, ⟨_, SqL.of (s1 _ _ hs)⟩, fun D hD => ?_⟩
        refine lc_list (K := K) (a := a) (xs := xs) (fun i => At H1 D ((bs.take i).map V.bl)) ⟨same_new hD, upd_same⟩ (fun i H' _ p => SqL.of (p.1 _ _ (s1 _ _ hs))) (fun i x H' hx p => ?_) (fun H' p => ?_)
        · obtain ⟨b, hb, rx⟩ := paired_get hk hx
          refine ⟨rfl, ?_⟩
          show tCall (spRow K) [] E0 (tCons (tVar 2) (tCons (tVar 1) (tCons (tVar 1) tNil))) _ H' _
          refine ⟨_, rfl, _, rfl, _, rfl, x, b, rfl, (rx.same s1).same p.1, fun H2 s2 => ⟨_, s2 _ _ p.2, len100 (by rw [← Paired.length hk]; exact hl) _ _, p.step hD s2 ?_⟩⟩
          rw [take_more hb, List.map_append]
          rfl
        · rw [Paired.length hk, List.take_length] at p
          exact ⟨D, bs, rfl, SqL.of p.2, q _ (s1.trans p.1)⟩
      · refine ⟨_, pss_one (ps_ret (pe_and ((pe_call G1 (hr.mono (by decide)) rfl m1 k1 b1 .nil pass0 (pa_cons (pv 0) pa_nil))) (pe_one (pe_callB (cr_all rfl) (by rfl) B.all boot_all (pa_cons (pe_lc (own := [("row", 2)]) (g := gName 2) (tt := tYes) rfl nd (pi_tup (pv 0)) (blkOk_by (N := nRows) (sc := defScope sRows) (by decide +kernel)) (fun _ _ _ _ _ => pg_name (i := 2) nd rfl (Or.inl rfl)) (fun _ _ _ _ _ => pts_nil) (fun _ _ _ _ _ => (pe_call G2 (hr.mono (by decide)) rfl m2 k2 b2 .nil pass0 (pa_cons (pv 2) (pa_cons (pv 1) (pa_cons (pv 1) pa_nil)))))) pa_nil))))), ?_⟩
        refine ⟨_, rfl, _, true, rfl, sq.kd, fun H1 s1 => ⟨_, rfl, iteT ?_⟩⟩
        refine ⟨_, rfl, a, rfl, ⟨_, SqT.of (s1 _ _ hs)⟩, fun D hD => ?_⟩
        refine lc_tup (K := K) (a := a) (xs := xs) (fun i => At H1 D ((bs.take i).map V.bl)) ⟨same_new hD, upd_same⟩ (fun i H' _ p => SqT.of (p.1 _ _ (s1 _ _ hs))) (fun i x H' hx p => ?_) (fun H' p => ?_)
        · obtain ⟨b, hb, rx⟩ := paired_get hk hx
          refine ⟨rfl, ?_⟩
          show tCall (spRow K) [] E0 (tCons (tVar 2) (tCons (tVar 1) (tCons (tVar 1) tNil))) _ H' _
          refine ⟨_, rfl, _, rfl, _, rfl, x, b, rfl, (rx.same s1).same p.1, fun H2 s2 => ⟨_, s2 _ _ p.2, len100 (by rw [← Paired.length hk]; exact hl) _ _, p.step hD s2 ?_⟩⟩
          rw [take_more hb, List.map_append]
          rfl
        · rw [Paired.length hk, List.take_length] at p
          exact ⟨D, bs, rfl, SqL.of p.2, q _ (s1.trans p.1)⟩
def spPlaces (K : PySem.W.Frag) : Sp := fun vs H Q _ => ∃ v o, vs = [v, .int 2] ∧ RowsV K H v o ∧ RB (plB o) H Q
abbrev sPlaces : Stmt := top 27
theorem scPlaces : FnScope ["value", "size"] ["value", "size"] (defScope sPlaces) := ⟨rfl, rfl, rfl, by decide +kernel, rfl, by decide +kernel, by decide +kernel⟩
theorem ok_places {f : Addr} {fd : FuncData} (F : Fun K "are_places" "are_places" sPlaces f fd) (B : Bn mg) (C1 : Callee P w K mg base CX0 4 "are_rows" ["value", "size"] (spRows K)) : FnOk P w K mg base CX0 5 f fd ["value", "size"] (spPlaces K) := by
  obtain ⟨f1, fd1, m1, k1, b1, G1⟩ := C1
  refine F.ok scPlaces (fun vs H Q E h => ?_) (fun cdv A outer s H vs Q E hr h => ?_)
  · obtain ⟨v, o, rfl, _⟩ := h
    rfl
  · obtain ⟨v, o, rfl, j, q⟩ := h
    refine ⟨_, pss_one (ps_ret (pe_and ((pe_call G1 (hr.mono (by decide)) rfl m1 k1 b1 .nil pass0 (pa_cons (pv 0) (pa_cons (pv 1) pa_nil)))) (pe_one (pe_chain op_le op_le pe_int (pe_callB call_len_seq (by rfl) B.len PySem.boot_len (pa_cons (pv 0) pa_nil)) pe_int)))), ?_⟩
    refine ⟨_, rfl, _, rfl, v, o, rfl, j, fun H1 s1 => ⟨_, rfl, ?_⟩⟩
    have q2 := q _ s1
    cases hb : rowsB o with
    | false =>
      have e : plB o = false := by
        cases o with
        | none => rfl
        | some bs =>
          have hb : bs.all id = false := hb
          show (bs.all id && _ && _) = false
          rw [hb]
          rfl
      rw [e] at q2
      exact iteF q2
    | true =>
      cases j with
      | no k => cases hb
      | @seq a xs bs hs hk hl =>
        have hb : bs.all id = true := hb
        have el : xs.length = bs.length := Paired.length hk
        have e : plB (some bs) = (decide (4 ≤ bs.length) && decide (bs.length ≤ 7)) := by
          show (bs.all id && _ && _) = _
          rw [hb, Bool.true_and]
        rw [e] at q2
        refine iteT ⟨_, rfl, a, xs, rfl, hs.elim (fun z => .inl (SqL.of (s1 _ _ z))) (fun z => .inr (SqT.of (s1 _ _ z))), _, _, rfl, rfl, _, rfl, ?_⟩
        by_cases h4 : 4 ≤ bs.length
        · rw [decide_eq_true h4, Bool.true_and] at q2
          rw [decide_eq_true (show (4 : Int) ≤ (xs.length : Int) by omega)]
          refine iteT ⟨_, _, rfl, rfl, ?_⟩
          have e7 : decide ((xs.length : Int) ≤ 7) = decide (bs.length ≤ 7) := by
            rw [Bool.eq_iff_iff, decide_eq_true_iff, decide_eq_true_iff]
            omega
          rw [← e7] at q2
          exact q2
        · rw [decide_eq_false h4, Bool.false_and] at q2
          rw [decide_eq_false (show ¬ (4 : Int) ≤ (xs.length : Int) by omega)]
          exact iteF q2
end
end K13

namespace K13
open PySem PySem.Spec PyProof.Rows L2
/-- a tuple of pairs -/
def Pr (H : Hp) (a : Addr) (p : Int × Int) : Prop := H a = some (.tup [.int p.1, .int p.2])
def PT (H : Hp) (t : Addr) (ps : List (Int × Int)) : Prop := ∃ ts : List Addr, H t = some (.tup (ts.map V.ref)) ∧ Paired (Pr H) ts ps
def it (k : Nat) (p : Int × Int) : Int := if k = 0 then p.1 else p.2
/-- the steps from pin 0, across (0) and up (1) -/
def sk (k : Nat) (ps : List (Int × Int)) : List Int := (ps.drop 1).map fun p => it k p - it k (ps.headD (0, 0))
def rTu (K : PySem.W.Frag) : List V → Hp → VK → Prop := fun xs H Q => ∃ p ys, xs = [.ref p] ∧ ((SqL K H p ys ∧ ∀ l, H l = none → Q (.ref l) (upd H l (.tup ys))) ∨ (SqT K H p ys ∧ Q (.ref p) H))
theorem call_tu {X : Cx} : CallR X (.type "tuple") (rTu X.K) := call_tuple_of
def rLi (K : PySem.W.Frag) : List V → Hp → VK → Prop := fun xs H Q => ∃ p ys, xs = [.ref p] ∧ (SqL K H p ys ∨ SqT K H p ys) ∧ ∀ l, H l = none → Q (.ref l) (upd H l (.lst ys))
theorem call_li {X : Cx} : CallR X (.type "list") (rLi X.K) := call_list_of
section
variable {X : Cx} {K : PySem.W.Frag}
theorem call_tuK (h : X.K = K := by rfl) : CallR X (.type "tuple") (rTu K) := by subst h; exact call_tu
theorem call_liK (h : X.K = K := by rfl) : CallR X (.type "list") (rLi K) := by subst h; exact call_li
theorem sl_tupK (h : X.K = K := by rfl) : SlR X (rSlT K) := by subst h; exact sl_tup
theorem sl_listK (h : X.K = K := by rfl) : SlR X (rSlL K) := by subst h; exact sl_list
theorem ix_tupK (h : X.K = K := by rfl) : IxR X (rIxT K) := by subst h; exact ix_tup
theorem ix_listK (h : X.K = K := by rfl) : IxR X (rIxL K) := by subst h; exact ix_list
theorem pi_tupK {tg l : Expr} {tl : TE} (K : PySem.W.Frag) (hl : PE X l tl) (h : X.K = K := by rfl) : PI X tg l (iTup K tl) := by subst h; exact pi_tup hl
theorem pi_listK {tg l : Expr} {tl : TE} (K : PySem.W.Frag) (hl : PE X l tl) (h : X.K = K := by rfl) : PI X tg l (iList K tl) := by subst h; exact pi_list hl
theorem ix_seqK (h : X.K = K := by rfl) : IxR X (rIx K) := by subst h; exact ix_seq
end
theorem sIx1 (n : Nat) : HT.sIx n 0 (some 1) = min 1 n := HT.sIx_nat n 0 1
theorem cut1 {xs : List V} (h : 1 ≤ xs.length) : cutV xs (some 1) none = xs.drop 1 := by
  unfold cutV
  have e : HT.sIx xs.length 0 (some 1) = 1 := by
    rw [sIx1]
    omega
  rw [e]
  show (xs.drop 1).take (xs.length - 1) = _
  rw [List.take_of_length_le (by rw [List.length_drop]; exact Nat.le_refl _)]
theorem it_at {k : Nat} (hk : k < 2) (p : Int × Int) : atI [V.int p.1, V.int p.2] (0 + (k : Int)) = some (.int (it k p)) := by
  match k, hk with
  | 0, _ => rfl
  | 1, _ => rfl
theorem PT.len {H : Hp} {ts : List Addr} {ps : List (Int × Int)} (h : Paired (Pr H) ts ps) : ts.length = ps.length := Paired.length h
theorem paired_of {α β : Type} {R : α → β → Prop} {xs : List α} {ys : List β} (h : Paired R xs ys) {i : Nat} {y : β} (e : ys[i]? = some y) : ∃ x, xs[i]? = some x ∧ R x y := by
  induction h generalizing i with
  | nil => simp at e
  | cons a _ ih =>
    cases i with
    | zero =>
      have z := Option.some.inj e
      subst z
      exact ⟨_, rfl, a⟩
    | succ i => exact ih (by simpa using e)
section
variable {P : Program} {w : World} {K : PySem.W.Frag} {mg : Str → Option Value} {base : Heap}
/-! ### steps_along -/
def spSteps : Sp := fun vs H Q _ => ∃ (t : Addr) (ps : List (Int × Int)), vs = [.ref t] ∧ PT H t ps ∧ 4 ≤ ps.length ∧ ps.length ≤ 7 ∧
  ∀ H' u r0 r1, Same H H' → H' u = some (.tup [.ref r0, .ref r1]) → H' r0 = some (.tup ((sk 0 ps).map V.int)) → H' r1 = some (.tup ((sk 1 ps).map V.int)) → Q (.ref u) H'
abbrev sSteps : Stmt := top 29
abbrev nSteps : List Str := ["places", "start", "k", "place"]
theorem scSteps : FnScope nSteps ["places"] (defScope sSteps) := ⟨rfl, rfl, rfl, by decide +kernel, rfl, by decide +kernel, by decide +kernel⟩
abbrev scS1 : Scope := { kind := .function, names := [(".0", .local), ("k", .cell), ("tuple", .globalImplicit), ("places", .cell), ("start", .cell)], isGenerator := false, isCoroutine := false }
theorem ok_steps {f : Addr} {fd : FuncData} (F : Fun K "steps_along" "steps_along" sSteps f fd) (B : Bn mg) : FnOk P w K mg base CX0 1 f fd ["places"] spSteps := by
  have nd := scSteps.nd
  refine F.ok scSteps (fun vs H Q E h => ?_) (fun cdv A outer s H vs Q E hr h => ?_)
  · obtain ⟨t, ps, rfl, _⟩ := h
    rfl
  · obtain ⟨t, ps, rfl, pt, l4, l7, q⟩ := h
    refine ⟨_, (pss_cons (ps_set (i := 1) nd rfl (Or.inr rfl) (pe_ix ix_tup (pv 0) (pe_int) (fun _ _ => rfl))) (pss_one (ps_ret (pe_callTy (T := "tuple") (r := rTu K) call_tuK (by rfl) B.tuple (by decide +kernel) (pa_cons (pe_lc (own := [("k", 2)]) (g := gName 2) (tt := tYes) rfl nd (pi_range1 rfl B.range (pa_cons ((pe_callB call_len_seq (by rfl) B.len PySem.boot_len (pa_cons (pv 1) pa_nil))) pa_nil)) (blkOk_by (N := nSteps) (sc := defScope sSteps) (by decide +kernel)) (fun _ _ _ _ _ => pg_name (i := 2) nd rfl (Or.inr rfl)) (fun _ _ _ _ _ => pts_nil)
        (fun _ _ _ _ _ => (pe_callTy (T := "tuple") (r := rTu K) call_tuK (by rfl) B.tuple (by decide +kernel) (pa_cons (pe_lc (own := [("place", 3)]) (g := gName 3) (tt := tYes) rfl nd (pi_tupK K (pe_slice (r := rSlT K) sl_tupK (pv 0) (po_some pe_int) (po_none))) (blkOk_by (N := nSteps) (sc := scS1) (by decide +kernel)) (fun _ _ _ _ _ => pg_name (i := 3) nd rfl (Or.inl rfl)) (fun _ _ _ _ _ => pts_nil)
          (fun _ _ _ _ _ => pe_op op_sub (pe_ix (r := rIxT K) ix_tupK (pv 3) (pv 2) (fun _ _ => rfl)) (pe_ix (r := rIxT K) ix_tupK (pv 1) (pv 2) (fun _ _ => rfl)))) pa_nil)))) pa_nil))))), ?_⟩
    obtain ⟨ts, ht, hp⟩ := pt
    have lt : ts.length = ps.length := Paired.length hp
    obtain ⟨p0, pz, rfl⟩ : ∃ p0 pz, ps = p0 :: pz := by
      cases ps with
      | nil => exact absurd l4 (by decide)
      | cons a b => exact ⟨a, b, rfl⟩
    obtain ⟨t0, e0, h0⟩ := paired_of hp (i := 0) (y := p0) rfl
    have h0 : H t0 = some (.tup [.int p0.1, .int p0.2]) := h0
    refine ⟨_, rfl, t, _, 0, .ref t0, rfl, rfl, SqT.of ht, atI_nat (j := 0) (by rw [List.getElem?_map, e0]; rfl), ?_⟩
    refine ⟨_, rfl, t0, _, rfl, .inr (SqT.of h0), 2, rfl, by decide, by decide, fun D hD => ?_⟩
    have sD := same_new (o := .lst []) hD
    refine lc_range (lo := 0) (n := 2) (fun i H' => Same H H' ∧ ∃ rs : List Addr, rs.length = i ∧ H' D = some (.lst (rs.map V.ref)) ∧ ∀ j r, rs[j]? = some r → H' r = some (.tup ((sk j (p0 :: pz)).map V.int))) ⟨sD, [], rfl, upd_same, fun j r e => by simp at e⟩ (fun k H1 hk pk => ?_) (fun H1 pk => ?_)
    · obtain ⟨s1, rs, lr, hd, hr⟩ := pk
      refine ⟨rfl, ?_⟩
      refine ⟨_, rfl, _, rfl, t, _, rfl, SqT.of (s1 _ _ ht), ?_, fun c hc => ?_⟩
      · rw [List.length_map]
        intro z
        have z1 := z.1
        have : HT.sIx ts.length 0 (some 1) = 1 := by
          rw [sIx1]
          simp only [List.length_cons] at lt
          omega
        omega
      have l1 : 1 ≤ (ts.map V.ref).length := by
        rw [List.length_map, lt]
        simp
      rw [cut1 l1]
      have sc := same_new (o := .tup ((ts.map V.ref).drop 1)) hc
      have wc : upd H1 c (.tup ((ts.map V.ref).drop 1)) c = some (.tup ((ts.map V.ref).drop 1)) := upd_same
      generalize upd H1 c (.tup ((ts.map V.ref).drop 1)) = H2 at sc wc ⊢
      have s2 := s1.trans sc
      refine ⟨c, rfl, ⟨_, SqT.of wc⟩, fun D2 hD2 => ?_⟩
      refine lc_tup (K := K) (a := c) (xs := (ts.map V.ref).drop 1) (fun i => At H2 D2 (((sk k (p0 :: pz)).take i).map V.int)) ⟨same_new hD2, upd_same⟩ (fun i H' _ p => SqT.of (p.1 _ _ wc)) (fun i x H' hx p => ?_) (fun H' p => ?_)
      · obtain ⟨z, hz⟩ : ∃ z, pz[i]? = some z := by
          rw [List.getElem?_drop, List.getElem?_map] at hx
          have : 1 + i < ts.length := by
            rcases Nat.lt_or_ge (1 + i) ts.length with h | h
            · exact h
            · rw [List.getElem?_eq_none h] at hx
              cases hx
          simp only [List.length_cons] at lt
          exact ⟨pz[i], List.getElem?_eq_getElem (by omega)⟩
        obtain ⟨tz, ez, hzz⟩ := paired_of hp (i := 1 + i) (y := z) (by rw [Nat.add_comm]; exact hz)
        have hzz : H tz = some (.tup [.int z.1, .int z.2]) := hzz
        have ex : x = .ref tz := by
          rw [List.getElem?_drop, List.getElem?_map, ez] at hx
          exact (Option.some.inj hx).symm
        subst ex
        refine ⟨rfl, ?_⟩
        refine ⟨_, rfl, _, rfl, tz, _, _, _, rfl, rfl, SqT.of ((s2.trans p.1) _ _ hzz), it_at hk z, _, rfl, _, rfl, t0, _, _, _, rfl, rfl, SqT.of ((s2.trans p.1) _ _ h0), it_at hk p0, _, _, rfl, rfl, _, p.2, ?_, p.step hD2 Same.me ?_⟩
        · rw [List.length_map, List.length_take]
          refine small1000 (Nat.le_trans (Nat.min_le_right _ _) ?_)
          simp only [sk, List.length_map, List.length_drop, List.length_cons] at l7 ⊢
          omega
        · have es : (sk k (p0 :: pz))[i]? = some (it k z - it k p0) := by
            show (List.map _ pz)[i]? = _
            rw [List.getElem?_map, hz]
            rfl
          rw [take_more es, List.map_append]
          rfl
      · have el : ((ts.map V.ref).drop 1).length = (sk k (p0 :: pz)).length := by
          simp only [sk, List.length_map, List.length_drop, List.length_cons] at lt ⊢
          omega
        rw [el, List.take_length] at p
        obtain ⟨s3, hD3⟩ := p
        refine ⟨D2, _, rfl, .inl ⟨SqL.of hD3, fun r nr => ?_⟩⟩
        have s4 := s3.trans (same_new (o := .tup ((sk k (p0 :: pz)).map V.int)) nr)
        have s5 := sc.trans s4
        have hd5 := s5 _ _ hd
        refine ⟨_, hd5, by rw [List.length_map]; exact small1000 (by omega), fun b o e => ?_, rs ++ [r], by simp [lr], ?_, fun j u e => ?_⟩
        · rw [upd_ne (ne_of_none e hD)]
          exact s5 _ _ (s1 _ _ e)
        · rw [upd_same, List.map_append]
          rfl
        · have nuD : ∀ {u : Addr} {ys : List V}, (upd H' r (.tup ((sk k (p0 :: pz)).map V.int))) u = some (.tup ys) → u ≠ D := fun h => L2.ne_of h hd5 (by intro z; cases z)
          by_cases hj : j < rs.length
          · rw [List.getElem?_append_left hj] at e
            have e2 := s5 _ _ (hr j u e)
            rw [upd_ne (nuD e2)]
            exact e2
          · have hj2 : j = rs.length := by
              rcases Nat.lt_or_ge j (rs ++ [r]).length with h | h
              · simp at h
                omega
              · rw [List.getElem?_eq_none h] at e
                cases e
            subst hj2
            rw [List.getElem?_append_right (Nat.le_refl _), Nat.sub_self] at e
            have eu : r = u := Option.some.inj e
            subst eu
            rw [upd_ne (nuD upd_same), lr]
            exact upd_same
    · obtain ⟨s1, rs, lr, hd, hr⟩ := pk
      obtain ⟨r0, r1, rfl⟩ : ∃ r0 r1, rs = [r0, r1] := by
        match rs, lr with
        | [a, b], _ => exact ⟨a, b, rfl⟩
      refine ⟨D, _, rfl, .inl ⟨SqL.of hd, fun u nu => ?_⟩⟩
      have s2 := same_new (o := .tup ([r0, r1].map V.ref)) nu
      exact q _ u r0 r1 (s1.trans s2) upd_same (s2 _ _ (hr 0 r0 rfl)) (s2 _ _ (hr 1 r1 rfl))
end
end K13

namespace K13
open PySem PySem.Spec PyProof.Rows L2
def crs (xs ys : List Int) (i j : Nat) : Int := xs.getD i 0 * ys.getD j 0 - ys.getD i 0 * xs.getD j 0
/-- all pins on one line -/
def thin (xs ys : List Int) : Prop := ∀ i j, i < j → j < xs.length → crs xs ys i j = 0
theorem cross_zero {x y a b c d : Int} (hxy : x ≠ 0 ∨ y ≠ 0) (h1 : x * b - y * a = 0) (h2 : x * d - y * c = 0) : a * d - b * c = 0 := by
  have e1 : x * b = y * a := by omega
  have e2 : x * d = y * c := by omega
  rcases hxy with h | h
  · have : x * (a * d - b * c) = 0 := by
      have : x * (a * d - b * c) = a * (x * d) - (x * b) * c := by grind
      rw [this, e1, e2]
      grind
    rcases Int.mul_eq_zero.mp this with z | z
    · exact absurd z h
    · exact z
  · have : y * (a * d - b * c) = 0 := by
      have : y * (a * d - b * c) = (y * a) * d - b * (y * c) := by grind
      rw [this, ← e1, ← e2]
      grind
    rcases Int.mul_eq_zero.mp this with z | z
    · exact absurd z h
    · exact z
theorem thin_all {xs ys : List Int} (h : ∀ i, i < xs.length → xs.getD i 0 = 0 ∧ ys.getD i 0 = 0) : thin xs ys := fun i j hij hj => by
  unfold crs
  rw [(h i (by omega)).1, (h i (by omega)).2]
  omega
theorem thin_one {xs ys : List Int} {a : Nat} (ha : a < xs.length) (hz : ∀ i, i < a → xs.getD i 0 = 0 ∧ ys.getD i 0 = 0) (hn : xs.getD a 0 ≠ 0 ∨ ys.getD a 0 ≠ 0) (hm : ∀ j, a < j → j < xs.length → crs xs ys a j = 0) : thin xs ys := fun i j hij hj => by
  rcases Nat.lt_trichotomy i a with h | h | h
  · unfold crs
    rw [(hz i h).1, (hz i h).2]
    omega
  · rw [h]
    exact hm j (by omega) hj
  · have h1 := hm i h (by omega)
    have h2 := hm j (by omega) hj
    unfold crs at h1 h2 ⊢
    have z := cross_zero (x := xs.getD a 0) (y := ys.getD a 0) (a := xs.getD i 0) (b := ys.getD i 0) (c := xs.getD j 0) (d := ys.getD j 0) hn h1 h2
    exact z
theorem ints_at {ns : List Int} {i : Nat} (h : i < ns.length) : atI (ns.map V.int) (i : Int) = some (.int (ns.getD i 0)) := atI_nat (by rw [List.getElem?_map, List.getElem?_eq_getElem h, List.getD_eq_getElem?_getD, List.getElem?_eq_getElem h]; rfl)
def Bd (ns : List Int) : Prop := ∀ n ∈ ns, -(2 ^ 40) < n ∧ n < 2 ^ 40
theorem Bd.get {ns : List Int} (h : Bd ns) (i : Nat) : -(2 ^ 40) < ns.getD i 0 ∧ ns.getD i 0 < 2 ^ 40 := by
  rw [List.getD_eq_getElem?_getD]
  cases e : ns[i]? with
  | none => exact ⟨by decide, by decide⟩
  | some n => exact h n (List.mem_of_getElem? e)
section
variable {P : Program} {w : World} {K : PySem.W.Frag} {mg : Str → Option Value} {base : Heap}
/-! ### first_minor -/
def spMinor : Sp := fun vs H Q _ => ∃ (u v : Addr) (xs ys : List Int), vs = [.ref u, .ref v] ∧ H u = some (.tup (xs.map V.int)) ∧ H v = some (.tup (ys.map V.int)) ∧ ys.length = xs.length ∧ xs.length ≤ 7 ∧ Bd xs ∧ Bd ys ∧
  (thin xs ys → ∀ H', Same H H' → Q .non H') ∧ (¬ thin xs ys → ∀ H' t zs, Same H H' → H' t = some (.tup zs) → Q (.ref t) H')
abbrev sMinor : Stmt := top 31
abbrev nMinor : List Str := ["one", "other", "size", "a", "x", "y", "b", "minor"]
theorem scMinor : FnScope nMinor ["one", "other"] (defScope sMinor) := ⟨rfl, rfl, rfl, by decide +kernel, rfl, by decide +kernel, by decide +kernel⟩
theorem ok_minor {f : Addr} {fd : FuncData} (F : Fun K "first_minor" "first_minor" sMinor f fd) (B : Bn mg) : FnOk P w K mg base CX0 1 f fd ["one", "other"] spMinor := by
  have nd := scMinor.nd
  refine F.ok scMinor (fun vs H Q E h => ?_) (fun cdv A outer s H vs Q E hr h => ?_)
  · obtain ⟨u, v, xs, ys, rfl, _⟩ := h
    rfl
  · obtain ⟨u, v, xs, ys, rfl, hu, hv, ly, l7, bx, by', qy, qn⟩ := h
    refine ⟨_, (pss_cons ((ps_set (i := 2) nd rfl (Or.inl rfl) ((pe_callB call_len_seq (by rfl) B.len PySem.boot_len (pa_cons (pv 0) pa_nil))))) (pss_cons (ps_for PassesOwn.never rfl (pi_range1 rfl B.range (pa_cons (pv 2) pa_nil)) (pg_name (i := 3) nd rfl (Or.inl rfl)) (pss_cons (ps_par (i := 4) (j := 5) rfl nd rfl rfl (by decide) rfl rfl (pa_cons ((pe_ix ix_tup (pv 0) (pv 3) (fun _ _ => rfl))) (pa_cons ((pe_ix ix_tup (pv 1) (pv 3) (fun _ _ => rfl))) pa_nil)) (by rfl)) (pss_one (ps_if (PW.pt (pw_or ((pt_cmpR op_ne (pv 4) (pe_int) (nomark _))) (pw_or1 ((pt_cmpR op_ne (pv 5) (pe_int) (nomark _)))))) (pss_cons (ps_for PassesOwn.never rfl (pi_range2 (by rfl) B.range (pa_cons (pe_op op_add (pv 3) pe_int) (pa_cons (pv 2) pa_nil))) (pg_name (i := 6) nd rfl (Or.inl rfl)) (pss_cons ((ps_set (i := 7) nd rfl (Or.inl rfl) (pe_op op_sub (pe_op op_mul (pv 4) (pe_ix ix_tup (pv 1) (pv 6) (fun _ _ => rfl))) (pe_op op_mul (pv 5) (pe_ix ix_tup (pv 0) (pv 6) (fun _ _ => rfl)))))) (pss_one (ps_if (pt_cmpR op_ne (pv 7) (pe_int) (nomark _)) (pss_one (ps_ret (pe_tup (pa_cons (pv 3) (pa_cons (pv 6) (pa_cons (pv 7) pa_nil)))))) pss_nil)))) (pss_one (ps_ret pe_non))) pss_nil)))) (pss_one (ps_ret pe_non)))), ?_⟩
    refine ⟨_, rfl, u, _, rfl, .inr (SqT.of hu), ?_⟩
    have ln : (xs.map V.int).length = xs.length := List.length_map _
    rw [ln]
    refine ⟨_, rfl, (xs.length : Int), rfl, by omega, by omega, ?_⟩
    rw [Int.toNat_natCast]
    refine for_range (lo := 0) (n := xs.length) (fun a σ H' => H' = H ∧ (∀ i, i < a → xs.getD i 0 = 0 ∧ ys.getD i 0 = 0) ∧ ∃ c1 c2 c3 c4 c5, σ = [some (.ref u), some (.ref v), some (.int xs.length), c1, c2, c3, c4, c5]) ⟨rfl, fun i h => absurd h (Nat.not_lt_zero i), _, _, _, _, _, rfl⟩ (fun a σ H' ha p => ?_) (fun σ H' p => ?_)
    · obtain ⟨rfl, hz, c1, c2, c3, c4, c5, rfl⟩ := p
      have z0 : (0 : Int) + (a : Int) = (a : Int) := by omega
      rw [z0]
      refine ⟨_, rfl, _, rfl, u, _, _, _, rfl, rfl, SqT.of hu, ints_at ha, _, rfl, _, rfl, v, _, _, _, rfl, rfl, SqT.of hv, ints_at (by omega), _, _, rfl, ?_⟩
      obtain ⟨X, hX⟩ : ∃ X, X = xs.getD a 0 := ⟨_, rfl⟩
      obtain ⟨Y, hY⟩ : ∃ Y, Y = ys.getD a 0 := ⟨_, rfl⟩
      have bX := bx.get a
      have bY := by'.get a
      rw [← hX] at bX ⊢
      rw [← hY] at bY ⊢
      refine ⟨_, rfl, rfl, _, rfl, ?_⟩
      by_cases hx : X = 0
      · rw [decide_eq_true (show V.int X = V.int 0 by rw [hx])]
        refine iteF ⟨_, rfl, rfl, _, rfl, ?_⟩
        by_cases hy : Y = 0
        · rw [decide_eq_true (show V.int Y = V.int 0 by rw [hy])]
          refine iteF ⟨rfl, fun i h => ?_, _, _, _, _, _, rfl⟩
          rcases Nat.lt_or_ge i a with h1 | h1
          · exact hz i h1
          · rw [show i = a by omega, ← hX, ← hY]
            exact ⟨hx, hy⟩
        · have hn : X ≠ 0 ∨ Y ≠ 0 := .inr hy
          rw [decide_eq_false (fun z => hy (V.int.inj z))]
          refine iteT ?_
          refine ⟨_, rfl, _, _, rfl, rfl, _, rfl, (a : Int) + 1, (xs.length : Int), rfl, ⟨by omega, by omega, by omega, by omega⟩, ?_⟩
          have en : ((xs.length : Int) - ((a : Int) + 1)).toNat = xs.length - (a + 1) := by omega
          rw [en]
          refine for_range (lo := (a : Int) + 1) (n := xs.length - (a + 1)) (fun b σ H2 => H2 = H' ∧ (∀ j, a < j → j < a + 1 + b → crs xs ys a j = 0) ∧ ∃ d6 d7, σ = [some (.ref u), some (.ref v), some (.int xs.length), some (.int a), some (.int X), some (.int Y), d6, d7]) ⟨rfl, fun j h1 h2 => absurd h2 (by omega), _, _, rfl⟩ (fun b σ H2 hb p => ?_) (fun σ H2 p => ?_)
          · obtain ⟨rfl, hm, d6, d7, rfl⟩ := p
            have zb : (a : Int) + 1 + (b : Int) = ((a + 1 + b : Nat) : Int) := by omega
            rw [zb]
            have hb2 : a + 1 + b < xs.length := by omega
            refine ⟨_, rfl, _, rfl, _, rfl, v, _, _, _, rfl, rfl, SqT.of hv, ints_at (by omega), _, _, rfl, rfl, .inl ⟨by omega, by omega⟩, _, rfl, _, rfl, _, rfl, u, _, _, _, rfl, rfl, SqT.of hu, ints_at hb2, _, _, rfl, rfl, .inl ⟨by omega, by omega⟩, _, _, rfl, rfl, ?_⟩
            have ec : X * ys.getD (a + 1 + b) 0 - Y * xs.getD (a + 1 + b) 0 = crs xs ys a (a + 1 + b) := by
              unfold crs
              rw [← hX, ← hY]
            refine ⟨_, rfl, rfl, _, rfl, ?_⟩
            by_cases hc : crs xs ys a (a + 1 + b) = 0
            · rw [decide_eq_true (show V.int (X * ys.getD (a + 1 + b) 0 - Y * xs.getD (a + 1 + b) 0) = V.int 0 by rw [ec, hc])]
              refine iteF ⟨rfl, fun j h1 h2 => ?_, _, _, rfl⟩
              rcases Nat.lt_or_ge j (a + 1 + b) with h | h
              · exact hm j h1 h
              · rw [show j = a + 1 + b by omega]
                exact hc
            · rw [decide_eq_false (fun z => hc (ec ▸ V.int.inj z))]
              refine iteT ⟨_, rfl, _, rfl, _, rfl, by show 3 ≤ sizeLine; decide, fun t ht => ?_⟩
              exact qn (fun th => hc (th a (a + 1 + b) (by omega) hb2)) _ t _ (same_new ht) upd_same
          · obtain ⟨rfl, hm, d6, d7, rfl⟩ := p
            exact qy (thin_one ha hz (by rw [← hX, ← hY]; exact hn) (fun j h1 h2 => hm j h1 (by omega))) _ Same.me
      · have hn : X ≠ 0 ∨ Y ≠ 0 := .inl hx
        rw [decide_eq_false (fun z => hx (V.int.inj z))]
        refine iteT ?_
        refine ⟨_, rfl, _, _, rfl, rfl, _, rfl, (a : Int) + 1, (xs.length : Int), rfl, ⟨by omega, by omega, by omega, by omega⟩, ?_⟩
        have en : ((xs.length : Int) - ((a : Int) + 1)).toNat = xs.length - (a + 1) := by omega
        rw [en]
        refine for_range (lo := (a : Int) + 1) (n := xs.length - (a + 1)) (fun b σ H2 => H2 = H' ∧ (∀ j, a < j → j < a + 1 + b → crs xs ys a j = 0) ∧ ∃ d6 d7, σ = [some (.ref u), some (.ref v), some (.int xs.length), some (.int a), some (.int X), some (.int Y), d6, d7]) ⟨rfl, fun j h1 h2 => absurd h2 (by omega), _, _, rfl⟩ (fun b σ H2 hb p => ?_) (fun σ H2 p => ?_)
        · obtain ⟨rfl, hm, d6, d7, rfl⟩ := p
          have zb : (a : Int) + 1 + (b : Int) = ((a + 1 + b : Nat) : Int) := by omega
          rw [zb]
          have hb2 : a + 1 + b < xs.length := by omega
          refine ⟨_, rfl, _, rfl, _, rfl, v, _, _, _, rfl, rfl, SqT.of hv, ints_at (by omega), _, _, rfl, rfl, .inl ⟨by omega, by omega⟩, _, rfl, _, rfl, _, rfl, u, _, _, _, rfl, rfl, SqT.of hu, ints_at hb2, _, _, rfl, rfl, .inl ⟨by omega, by omega⟩, _, _, rfl, rfl, ?_⟩
          have ec : X * ys.getD (a + 1 + b) 0 - Y * xs.getD (a + 1 + b) 0 = crs xs ys a (a + 1 + b) := by
            unfold crs
            rw [← hX, ← hY]
          refine ⟨_, rfl, rfl, _, rfl, ?_⟩
          by_cases hc : crs xs ys a (a + 1 + b) = 0
          · rw [decide_eq_true (show V.int (X * ys.getD (a + 1 + b) 0 - Y * xs.getD (a + 1 + b) 0) = V.int 0 by rw [ec, hc])]
            refine iteF ⟨rfl, fun j h1 h2 => ?_, _, _, rfl⟩
            rcases Nat.lt_or_ge j (a + 1 + b) with h | h
            · exact hm j h1 h
            · rw [show j = a + 1 + b by omega]
              exact hc
          · rw [decide_eq_false (fun z => hc (ec ▸ V.int.inj z))]
            refine iteT ⟨_, rfl, _, rfl, _, rfl, by show 3 ≤ sizeLine; decide, fun t ht => ?_⟩
            exact qn (fun th => hc (th a (a + 1 + b) (by omega) hb2)) _ t _ (same_new ht) upd_same
        · obtain ⟨rfl, hm, d6, d7, rfl⟩ := p
          exact qy (thin_one ha hz (by rw [← hX, ← hY]; exact hn) (fun j h1 h2 => hm j h1 (by omega))) _ Same.me
    · obtain ⟨rfl, hz, c1, c2, c3, c4, c5, rfl⟩ := p
      exact qy (thin_all hz) _ Same.me
end
end K13

namespace K13
open PySem PySem.Spec PyProof.Rows L2
/-- what the products have in row i and column j -/
def pg (xs ys : List Int) (i j : Nat) : Int := xs.getD i 0 * xs.getD j 0 + ys.getD i 0 * ys.getD j 0
theorem pg_sym (xs ys : List Int) (i j : Nat) : pg xs ys i j = pg xs ys j i := by
  unfold pg
  rw [Int.mul_comm (xs.getD i 0), Int.mul_comm (ys.getD i 0)]
def mrow (m : Nat → Nat → Int) (n i : Nat) : List Int := (List.range n).map (m i)
def MatL (fs : List Addr) (m : Nat → Nat → Int) (n : Nat) (H : Hp) : Prop := ∀ (j : Nat) (f : Addr), fs[j]? = some f → H f = some (.lst ((mrow m n j).map V.int))
def MatT (H : Hp) (t : Addr) (m : Nat → Nat → Int) (n : Nat) : Prop := ∃ rs : List Addr, rs.length = n ∧ H t = some (.tup (rs.map V.ref)) ∧ ∀ (j : Nat) (r : Addr), rs[j]? = some r → H r = some (.tup ((mrow m n j).map V.int))
def put (m : Nat → Nat → Int) (a b : Nat) (v : Int) : Nat → Nat → Int := fun i j => if i = a ∧ j = b then v else m i j
theorem mrow_len (m : Nat → Nat → Int) (n i : Nat) : (mrow m n i).length = n := by
  unfold mrow
  rw [List.length_map, List.length_range]
theorem mrow_set {m : Nat → Nat → Int} {n a b : Nat} {v : Int} (hb : b < n) : ((mrow m n a).map V.int).set b (.int v) = (mrow (put m a b v) n a).map V.int := by
  apply List.ext_getElem?
  intro j
  unfold mrow
  rw [List.getElem?_set]
  by_cases hj : b = j
  · subst hj
    rw [if_pos rfl, if_pos (by simp [hb])]
    rw [List.getElem?_map, List.getElem?_map, List.getElem?_range hb]
    simp [put]
  · rw [if_neg hj]
    rw [List.getElem?_map, List.getElem?_map, List.getElem?_map, List.getElem?_map]
    cases e : (List.range n)[j]? with
    | none => rfl
    | some k =>
      have : k = j := by
        have h : j < n := by
          rcases Nat.lt_or_ge j n with h | h
          · exact h
          · rw [List.getElem?_eq_none (by rw [List.length_range]; exact h)] at e
            cases e
        rw [List.getElem?_range h] at e
        exact (Option.some.inj e).symm
      subst this
      simp [put, show ¬ k = b from fun z => hj z.symm]
theorem mrow_put {m : Nat → Nat → Int} {n a b i : Nat} {v : Int} (h : i ≠ a) : mrow (put m a b v) n i = mrow m n i := by
  unfold mrow
  refine List.map_congr_left fun j _ => ?_
  unfold put
  rw [if_neg (fun z => h z.1)]
theorem nodup_at {fs : List Addr} (nd : fs.Nodup) {i j : Nat} {f : Addr} (h1 : fs[i]? = some f) (h2 : fs[j]? = some f) : i = j := by
  have a : i < fs.length := by
    rcases Nat.lt_or_ge i fs.length with h | h
    · exact h
    · rw [List.getElem?_eq_none h] at h1
      cases h1
  exact (List.getElem?_inj a nd).mp (h1.trans h2.symm)
theorem MatL.put {fs : List Addr} {m : Nat → Nat → Int} {n a b : Nat} {H : Hp} {f : Addr} {v : Int} (M : MatL fs m n H) (nd : fs.Nodup) (hf : fs[a]? = some f) (hb : b < n) :
    MatL fs (K13.put m a b v) n (upd H f (.lst (((mrow m n a).map V.int).set b (.int v)))) := fun j g hg => by
  by_cases e : g = f
  · subst e
    have : j = a := nodup_at nd hg hf
    subst this
    rw [upd_same, mrow_set hb]
  · have ne : j ≠ a := fun z => e (by rw [z, hf] at hg; exact (Option.some.inj hg).symm)
    rw [upd_ne e, mrow_put ne]
    exact M j g hg
theorem mrow_congr {m m' : Nat → Nat → Int} {n i : Nat} (h : ∀ j, j < n → m i j = m' i j) : mrow m n i = mrow m' n i := by
  unfold mrow
  exact List.map_congr_left fun j hj => h j (List.mem_range.mp hj)
theorem zeros (n : Nat) : (List.replicate n [V.int 0]).flatten = ((mrow (fun _ _ => 0) n 0).map V.int) := by
  unfold mrow
  induction n with
  | zero => rfl
  | succ n ih =>
    rw [List.replicate_succ', List.flatten_append, ih, List.range_succ, List.map_append, List.map_append]
    rfl
theorem ixN_nat {n j : Nat} (h : j < n) : ixN n (j : Int) = some j := by
  unfold ixN
  first
    | (rw [if_neg (by omega), if_pos (by omega)]; simp)
    | (simp; omega)
    | (split <;> simp_all <;> omega)
end K13

namespace K13
open PySem PySem.Spec PyProof.Rows L2
section
variable {P : Program} {w : World} {K : PySem.W.Frag} {mg : Str → Option Value} {base : Heap}
/-- two rows of as many numbers, in a tuple -/
def Two (H : Hp) (u : Addr) (xs ys : List Int) : Prop := ∃ r0 r1, H u = some (.tup [.ref r0, .ref r1]) ∧ H r0 = some (.tup (xs.map V.int)) ∧ H r1 = some (.tup (ys.map V.int))
theorem Two.same {H H' : Hp} {u : Addr} {xs ys : List Int} (h : Two H u xs ys) (s : Same H H') : Two H' u xs ys := let ⟨r0, r1, a, b, c⟩ := h; ⟨r0, r1, s _ _ a, s _ _ b, s _ _ c⟩
/-! ### products_of -/
def spProd : Sp := fun vs H Q _ => ∃ (u : Addr) (xs ys : List Int), vs = [.ref u] ∧ Two H u xs ys ∧ ys.length = xs.length ∧ 1 ≤ xs.length ∧ xs.length ≤ 7 ∧ Bd xs ∧ Bd ys ∧
  ∀ H' t, Same H H' → MatT H' t (pg xs ys) xs.length → Q (.ref t) H'
abbrev sProd : Stmt := top 33
abbrev nProd : List Str := ["rows", "width", "found", "a", "b", "told", "_", "row"]
theorem scProd : FnScope nProd ["rows"] (defScope sProd) := ⟨rfl, rfl, rfl, by decide +kernel, rfl, by decide +kernel, by decide +kernel⟩
theorem ok_prod {f : Addr} {fd : FuncData} (F : Fun K "products_of" "products_of" sProd f fd) (B : Bn mg) : FnOk P w K mg base CX0 1 f fd ["rows"] spProd := by
  have nd := scProd.nd
  refine F.ok scProd (fun vs H Q E h => ?_) (fun cdv A outer s H vs Q E hr h => ?_)
  · obtain ⟨u, xs, ys, rfl, _⟩ := h
    rfl
  · obtain ⟨u, xs, ys, rfl, ⟨r0, r1, hu, h0, h1⟩, ly, l1, l7, bx, by', q⟩ := h
    refine ⟨_, (pss_cons (ps_set (i := 1) nd rfl (Or.inr rfl) (pe_callB call_len_seq (by rfl) B.len PySem.boot_len (pa_cons ((pe_ix ix_tup (pv 0) (pe_int) (fun _ _ => rfl))) pa_nil))) (pss_cons (ps_setLc (i := 2) (own := [("_", 6)]) (g := gName 6) (tt := tYes) rfl nd rfl rfl (sw_true rfl rfl rfl (by decide +kernel)) (pi_range1 rfl B.range (pa_cons (pv 1) pa_nil)) (blkOk_by (N := nProd) (sc := defScope sProd) (by decide +kernel)) (fun _ _ _ _ _ => pg_name (i := 6) nd rfl (Or.inl rfl)) (fun _ _ _ _ _ => pts_nil) (fun _ _ _ _ _ => pe_op op_rep (pe_lst (pa_cons (pe_int) pa_nil)) (pv 1))) (pss_cons (ps_for PassesOwn.never rfl (pi_range1 rfl B.range (pa_cons (pv 1) pa_nil)) (pg_name (i := 3) nd rfl (Or.inr rfl)) (pss_one (ps_for PassesOwn.never rfl (pi_range1 rfl B.range (pa_cons (pe_op op_add (pv 3) pe_int) pa_nil)) (pg_name (i := 4) nd rfl (Or.inr rfl)) (pss_cons ((ps_set (i := 5) nd rfl (Or.inl rfl) (pe_callB (cr_sum rfl) (by rfl) B.sum (by decide +kernel) (pa_cons (pe_lc (own := [("row", 7)]) (g := gName 7) (tt := tYes) rfl nd (pi_tup (pv 0)) (blkOk_by (N := nProd) (sc := defScope sProd) (by decide +kernel)) (fun _ _ _ _ _ => pg_name (i := 7) nd rfl (Or.inl rfl)) (fun _ _ _ _ _ => pts_nil) (fun _ _ _ _ _ => pe_op op_mul (pe_ix (r := rIxT K) ix_tupK (pv 7) (pv 3) (fun _ _ => rfl)) (pe_ix (r := rIxT K) ix_tupK (pv 7) (pv 4) (fun _ _ => rfl)))) pa_nil)))) (pss_cons (ps_asg (pv 5) (pg_sub (pe_ix ix_list (pv 2) (pv 3) (fun _ _ => rfl)) (pv 4) set_list)) (pss_one (ps_asg (pv 5) (pg_sub (pe_ix ix_list (pv 2) (pv 4) (fun _ _ => rfl)) (pv 3) set_list)))))))) (pss_one (ps_ret (pe_callTy (T := "tuple") (r := rTu K) call_tuK (by rfl) B.tuple (by decide +kernel) (pa_cons (pe_lc (own := [("row", 7)]) (g := gName 7) (tt := tYes) rfl nd (pi_list (pv 2)) (blkOk_by (N := nProd) (sc := defScope sProd) (by decide +kernel)) (fun _ _ _ _ _ => pg_name (i := 7) nd rfl (Or.inl rfl)) (fun _ _ _ _ _ => pts_nil) (fun _ _ _ _ _ => (pe_callTy (T := "tuple") (r := rTu K) call_tuK (by rfl) B.tuple (by decide +kernel) (pa_cons (pv 7) pa_nil)))) pa_nil))))))), ?_⟩
    obtain ⟨n, hn⟩ : ∃ n, n = xs.length := ⟨_, rfl⟩
    refine ⟨_, rfl, u, _, 0, .ref r0, rfl, rfl, SqT.of hu, rfl, r0, _, rfl, .inr (SqT.of h0), ?_⟩
    rw [List.length_map, ← hn]
    rw [← hn] at l1 l7 ly
    refine ⟨_, rfl, (n : Int), rfl, by omega, by omega, fun D hD => ?_⟩
    rw [Int.toNat_natCast]
    refine lc_range (lo := 0) (n := n) (fun i H' => Same H H' ∧ ∃ fs : List Addr, fs.length = i ∧ H' D = some (.lst (fs.map V.ref)) ∧ fs.Nodup ∧ (∀ f ∈ fs, f ≠ D ∧ H f = none) ∧ MatL fs (fun _ _ => 0) n H') ⟨same_new hD, [], rfl, upd_same, List.nodup_nil, fun f h => absurd h List.not_mem_nil, fun j f e => by simp at e⟩ (fun i H1 hi pk => ?_) (fun H1 pk => ?_)
    · obtain ⟨s1, fs, lf, hd, ndf, nf, M⟩ := pk
      refine ⟨rfl, ?_⟩
      refine ⟨by show 1 ≤ sizeLine; decide, fun l hl => ?_⟩
      have s2 := same_new (o := .lst [V.int 0]) hl
      refine ⟨_, rfl, l, (n : Int), _, rfl, rfl, upd_same, by omega, by omega, by show 1 * (n : Int).toNat ≤ sizeLine; rw [Int.toNat_natCast, Nat.one_mul]; exact Nat.le_of_lt (small1000 (by omega)), fun g hg => ?_⟩
      rw [Int.toNat_natCast, zeros]
      have s3 := s2.trans (same_new (o := .lst ((mrow (fun _ _ => 0) n 0).map V.int)) hg)
      have hg1 : H1 g = none := s2.free hg
      have wg : (upd (upd H1 l (.lst [V.int 0])) g (.lst ((mrow (fun _ _ => 0) n 0).map V.int))) g = some (.lst ((mrow (fun _ _ => 0) n 0).map V.int)) := upd_same
      generalize upd (upd H1 l (.lst [V.int 0])) g (.lst ((mrow (fun _ _ => 0) n 0).map V.int)) = H3 at s3 wg ⊢
      have gD : g ≠ D := (ne_of_none hd hg1).symm
      refine ⟨_, s3 _ _ hd, by rw [List.length_map]; exact small1000 (by omega), fun b o e => ?_, fs ++ [g], by simp [lf], ?_, ?_, fun f hf => ?_, fun j f e => ?_⟩
      · rw [upd_ne (ne_of_none e hD)]
        exact s3 _ _ (s1 _ _ e)
      · rw [upd_same, List.map_append]
        rfl
      · rw [List.nodup_append]
        refine ⟨ndf, by simp, fun a ha b hb => ?_⟩
        rw [List.mem_singleton.mp hb]
        obtain ⟨j, e⟩ := List.getElem?_of_mem ha
        exact ne_of_none (M j a e) hg1
      · rcases List.mem_append.mp hf with h | h
        · exact nf f h
        · rw [List.mem_singleton.mp h]
          exact ⟨gD, s1.free hg1⟩
      · have fD : f ≠ D := by
          rcases List.mem_append.mp (List.mem_of_getElem? e) with h | h
          · exact (nf f h).1
          · rw [List.mem_singleton.mp h]
            exact gD
        rw [upd_ne fD]
        by_cases hj : j < fs.length
        · rw [List.getElem?_append_left hj] at e
          exact s3 _ _ (M j f e)
        · have hj2 : j = fs.length := by
            rcases Nat.lt_or_ge j (fs ++ [g]).length with h | h
            · simp at h
              omega
            · rw [List.getElem?_eq_none h] at e
              cases e
          subst hj2
          rw [List.getElem?_append_right (Nat.le_refl _), Nat.sub_self] at e
          have eu : g = f := Option.some.inj e
          subst eu
          exact wg
    · obtain ⟨s1, fs, lf, hd, ndf, nf, M⟩ := pk
      refine ⟨_, rfl, (n : Int), rfl, by omega, by omega, ?_⟩
      rw [Int.toNat_natCast]
      refine for_range (lo := 0) (n := n) (fun a σ H2 => Same H H2 ∧ H2 D = some (.lst (fs.map V.ref)) ∧ (∃ m, MatL fs m n H2 ∧ ∀ i j, i < a → j < a → m i j = pg xs ys i j) ∧ ∃ c3 c4 c5 c6 c7, σ = [some (.ref u), some (.int n), some (.ref D), c3, c4, c5, c6, c7])
        ⟨s1, hd, ⟨_, M, fun i j h => absurd h (Nat.not_lt_zero i)⟩, _, _, _, _, _, rfl⟩ (fun a σ H2 ha p => ?_) (fun σ H2 p => ?_)
      · obtain ⟨s2, hd2, ⟨m, M2, g2⟩, c3, c4, c5, c6, c7, rfl⟩ := p
        have z0 : (0 : Int) + (a : Int) = (a : Int) := by omega
        rw [z0]
        refine ⟨_, rfl, _, _, rfl, rfl, (a : Int) + 1, rfl, by omega, by omega, ?_⟩
        have en : ((a : Int) + 1).toNat = a + 1 := by omega
        rw [en]
        refine for_range (lo := 0) (n := a + 1) (fun b σ H3 => Same H H3 ∧ H3 D = some (.lst (fs.map V.ref)) ∧ (∃ m, MatL fs m n H3 ∧ (∀ i j, i < a → j < a → m i j = pg xs ys i j) ∧ ∀ j, j < b → m a j = pg xs ys a j ∧ m j a = pg xs ys j a) ∧ ∃ d4 d5 d6 d7, σ = [some (.ref u), some (.int n), some (.ref D), some (.int a), d4, d5, d6, d7])
          ⟨s2, hd2, ⟨m, M2, g2, fun j h => absurd h (Nat.not_lt_zero j)⟩, _, _, _, _, rfl⟩ (fun b σ H3 hb p => ?_) (fun σ H3 p => ?_)
        · obtain ⟨s3, hd3, ⟨m, M3, g3, k3⟩, d4, d5, d6, d7, rfl⟩ := p
          have zb : (0 : Int) + (b : Int) = (b : Int) := by omega
          rw [zb]
          refine ⟨_, rfl, u, rfl, ⟨_, SqT.of (s3 _ _ hu)⟩, fun L hL => ?_⟩
          refine lc_tup (K := K) (a := u) (xs := [.ref r0, .ref r1]) (fun i => At H3 L (([xs.getD a 0 * xs.getD b 0, ys.getD a 0 * ys.getD b 0].take i).map V.int)) ⟨same_new hL, upd_same⟩ (fun i H' _ p => SqT.of (p.1 _ _ (s3 _ _ hu))) (fun i x H' hx p => ?_) (fun H' p => ?_)
          · refine ⟨rfl, ?_⟩
            match i, hx with
            | 0, hx =>
              have ex : V.ref r0 = x := Option.some.inj hx
              subst ex
              refine ⟨_, rfl, _, rfl, r0, _, _, _, rfl, rfl, SqT.of (p.1 _ _ (s3 _ _ h0)), ints_at (by omega), _, rfl, _, rfl, r0, _, _, _, rfl, rfl, SqT.of (p.1 _ _ (s3 _ _ h0)), ints_at (by omega), _, _, rfl, rfl, .inl ?_, _, p.2, by show 0 < sizeLine; decide, p.step hL Same.me rfl⟩
              have := bx.get a
              exact ⟨by omega, by omega⟩
            | 1, hx =>
              have ex : V.ref r1 = x := Option.some.inj hx
              subst ex
              refine ⟨_, rfl, _, rfl, r1, _, _, _, rfl, rfl, SqT.of (p.1 _ _ (s3 _ _ h1)), ints_at (by omega), _, rfl, _, rfl, r1, _, _, _, rfl, rfl, SqT.of (p.1 _ _ (s3 _ _ h1)), ints_at (by omega), _, _, rfl, rfl, .inl ?_, _, p.2, by show 1 < sizeLine; decide, p.step hL Same.me rfl⟩
              have := by'.get a
              exact ⟨by omega, by omega⟩
          · obtain ⟨sL, wL⟩ := p
            refine ⟨L, [xs.getD a 0 * xs.getD b 0, ys.getD a 0 * ys.getD b 0], rfl, SqL.of wL, ?_⟩
            have es : [xs.getD a 0 * xs.getD b 0, ys.getD a 0 * ys.getD b 0].sum = pg xs ys a b := by
              show _ + (_ + 0) = _
              rw [Int.add_zero]
              rfl
            rw [es]
            have M4 : MatL fs m n H' := fun j g e => sL _ _ (M3 j g e)
            have hd4 := sL _ _ hd3
            have s4 := s3.trans sL
            obtain ⟨fa, efa⟩ : ∃ fa, fs[a]? = some fa := ⟨fs[a], List.getElem?_eq_getElem (by omega)⟩
            obtain ⟨fb, efb⟩ : ∃ fb, fs[b]? = some fb := ⟨fs[b], List.getElem?_eq_getElem (by omega)⟩
            have nfa := nf fa (List.mem_of_getElem? efa)
            have nfb := nf fb (List.mem_of_getElem? efb)
            have iat : ∀ {i : Nat} {g : Addr}, fs[i]? = some g → atI (fs.map V.ref) (i : Int) = some (.ref g) := fun e => atI_nat (by rw [List.getElem?_map, e]; rfl)
            refine ⟨_, rfl, _, rfl, _, rfl, D, _, _, _, rfl, rfl, SqL.of hd4, iat efa, _, rfl, fa, _, _, b, rfl, rfl, M4 a fa efa, by rw [List.length_map, mrow_len]; exact ixN_nat (by omega), ?_⟩
            have M5 := M4.put ndf efa (b := b) (v := pg xs ys a b) (by omega)
            have s5 : Same H (upd H' fa (.lst (((mrow m n a).map V.int).set b (.int (pg xs ys a b))))) := fun c o e => by
              rw [upd_ne (ne_of_none e nfa.2)]
              exact s4 _ _ e
            have hd5 : (upd H' fa (.lst (((mrow m n a).map V.int).set b (.int (pg xs ys a b))))) D = some (.lst (fs.map V.ref)) := by
              rw [upd_ne nfa.1.symm]
              exact hd4
            generalize upd H' fa (.lst (((mrow m n a).map V.int).set b (.int (pg xs ys a b)))) = H5 at M5 s5 hd5 ⊢
            refine ⟨_, rfl, _, rfl, _, rfl, D, _, _, _, rfl, rfl, SqL.of hd5, iat efb, _, rfl, fb, _, _, a, rfl, rfl, M5 b fb efb, by rw [List.length_map, mrow_len]; exact ixN_nat ha, ?_⟩
            have M6 := M5.put ndf efb (b := a) (v := pg xs ys a b) ha
            refine ⟨fun c o e => ?_, ?_, ⟨_, M6, fun i j hi hj => ?_, fun j hj => ?_⟩, _, _, _, _, rfl⟩
            · rw [upd_ne (ne_of_none e nfb.2)]
              exact s5 _ _ e
            · rw [upd_ne nfb.1.symm]
              exact hd5
            · unfold put
              rw [if_neg (by omega), if_neg (by omega)]
              exact g3 i j hi hj
            · have hs := pg_sym xs ys a b
              unfold put
              by_cases ej : j = b
              · subst ej
                constructor
                · by_cases eab : a = j
                  · rw [if_pos ⟨eab, eab.symm⟩]
                  · rw [if_neg (fun z => eab z.1), if_pos ⟨rfl, rfl⟩]
                · rw [if_pos ⟨rfl, rfl⟩]
                  exact hs
              · have kj := k3 j (by omega)
                constructor
                · rw [if_neg (by omega), if_neg (by omega)]
                  exact kj.1
                · rw [if_neg (by omega), if_neg (by omega)]
                  exact kj.2
        · obtain ⟨s3, hd3, ⟨m, M3, g3, k3⟩, d4, d5, d6, d7, rfl⟩ := p
          refine ⟨s3, hd3, ⟨m, M3, fun i j hi hj => ?_⟩, _, _, _, _, _, rfl⟩
          by_cases ei : i = a
          · rw [ei]
            exact (k3 j hj).1
          · by_cases ej : j = a
            · rw [ej]
              exact (k3 i hi).2
            · exact g3 i j (by omega) (by omega)
      · obtain ⟨s2, hd2, ⟨m, M2, g2⟩, c3, c4, c5, c6, c7, rfl⟩ := p
        refine ⟨_, rfl, D, rfl, ⟨_, SqL.of hd2⟩, fun L hL => ?_⟩
        refine lc_list (K := K) (a := D) (xs := fs.map V.ref) (fun i H' => Same H2 H' ∧ ∃ rs : List Addr, rs.length = i ∧ H' L = some (.lst (rs.map V.ref)) ∧ ∀ j r, rs[j]? = some r → H' r = some (.tup ((mrow (pg xs ys) n j).map V.int))) ⟨same_new hL, [], rfl, upd_same, fun j r e => by simp at e⟩ (fun i H' _ p => SqL.of (p.1 _ _ hd2)) (fun i x H' hx p => ?_) (fun H' p => ?_)
        · obtain ⟨s3, rs, lr, hL3, hr⟩ := p
          have hi : i < fs.length := by
            rcases Nat.lt_or_ge i fs.length with h | h
            · exact h
            · rw [List.getElem?_eq_none (by rw [List.length_map]; exact h)] at hx
              cases hx
          obtain ⟨g, eg⟩ : ∃ g, fs[i]? = some g := ⟨fs[i], List.getElem?_eq_getElem hi⟩
          have ex : x = .ref g := by
            rw [List.getElem?_map, eg] at hx
            exact (Option.some.inj hx).symm
          subst ex
          refine ⟨rfl, ?_⟩
          refine ⟨_, rfl, g, _, rfl, .inl ⟨SqL.of (s3 _ _ (M2 i g eg)), fun r nr => ?_⟩⟩
          have em : mrow m n i = mrow (pg xs ys) n i := mrow_congr fun j hj => g2 i j (by omega) hj
          rw [em]
          have s4 := same_new (o := .tup ((mrow (pg xs ys) n i).map V.int)) nr
          have wr : upd H' r (.tup ((mrow (pg xs ys) n i).map V.int)) r = some (.tup ((mrow (pg xs ys) n i).map V.int)) := upd_same
          generalize upd H' r (.tup ((mrow (pg xs ys) n i).map V.int)) = H4 at s4 wr ⊢
          have hL4 := s4 _ _ hL3
          refine ⟨_, hL4, by rw [List.length_map]; exact small1000 (by omega), fun b o e => ?_, rs ++ [r], by simp [lr], ?_, fun j v e => ?_⟩
          · rw [upd_ne (ne_of_none e hL)]
            exact s4 _ _ (s3 _ _ e)
          · rw [upd_same, List.map_append]
            rfl
          · have nvL : ∀ {v : Addr} {zs : List V}, H4 v = some (.tup zs) → v ≠ L := fun h => L2.ne_of h hL4 (by intro z; cases z)
            by_cases hj : j < rs.length
            · rw [List.getElem?_append_left hj] at e
              have e2 := s4 _ _ (hr j v e)
              rw [upd_ne (nvL e2)]
              exact e2
            · have hj2 : j = rs.length := by
                rcases Nat.lt_or_ge j (rs ++ [r]).length with h | h
                · simp at h
                  omega
                · rw [List.getElem?_eq_none h] at e
                  cases e
              subst hj2
              rw [List.getElem?_append_right (Nat.le_refl _), Nat.sub_self] at e
              have eu : r = v := Option.some.inj e
              subst eu
              rw [upd_ne (nvL wr), lr]
              exact wr
        · obtain ⟨s3, rs, lr, hL3, hr⟩ := p
          rw [List.length_map, lf] at lr
          refine ⟨L, _, rfl, .inl ⟨SqL.of hL3, fun t nt => ?_⟩⟩
          have s4 := same_new (o := .tup (rs.map V.ref)) nt
          refine q _ t ((s2.trans s3).trans s4) ?_
          rw [← hn]
          exact ⟨rs, lr, upd_same, fun j r e => s4 _ _ (hr j r e)⟩
end
end K13

namespace K13
open PySem PySem.Spec PyProof.Rows L2
/-! ### BadPicture -/
structure BrTxt (K : PySem.W.Frag) (mg : Str → Option Value) (C fI : Addr) : Prop where
  oex : OexC K C
  mgC : mg "BadPicture" = some (.ref C)
  noP : PySem.W.findIn K (.ref C) "part" = some none
  iC : PySem.W.findIn K (.ref C) "__init__" = some (some (.ref fI))
  tI : PySem.W.typeIn K (.ref fI) = some (.type "function")
/-- a BadPicture is raised: its own dict d tells the part -/
def Rz (C : Addr) (z : Str) (H : Hp) (E : XK) : Prop := ∀ d H', Same H H' → H d = none → H' d = some (.xd [(("part" : Str), .str z)]) → E (.ref C) (some d) H'
theorem raised {H H1 : Hp} {C a dx : Addr} {z : Str} {E : XK} (h : Rz C z H E) (s1 : Same H H1) (ha : H1 a = none) (hd : upd H1 a (exo a C none) dx = none) (ne : dx ≠ a) :
    E (.ref C) (some dx) (upd (L2.del (upd (upd (upd H1 a (exo a C none)) dx (exd dx [(("part" : Str), V.str z)])) a (exo a C (some dx))) a) dx (.xd [(("part" : Str), V.str z)])) := by
  have hd1 : H1 dx = none := by
    rw [upd_ne ne] at hd
    exact hd
  refine h dx _ (fun b o e => ?_) (s1.free hd1) upd_same
  have e1 := s1 b o e
  have nb : b ≠ dx := ne_of_none e1 hd1
  have na : b ≠ a := ne_of_none e1 ha
  rw [upd_ne nb, del_ne na, upd_ne na, upd_ne nb, upd_ne na]
  exact e1
theorem RB.same {z : Bool} {H H1 : Hp} {Q : VK} (h : RB z H Q) (s : Same H H1) : RB z H1 Q := fun H' s' => h H' (s.trans s')
/-- all but what stands at a -/
def Kp (a : Addr) (H H' : Hp) : Prop := ∀ b o, b ≠ a → H b = some o → H' b = some o
theorem Kp.of {a : Addr} {H H' : Hp} (s : Same H H') : Kp a H H' := fun b o _ e => s b o e
theorem Kp.trans {a : Addr} {H H1 H2 : Hp} (x : Kp a H H1) (y : Kp a H1 H2) : Kp a H H2 := fun b o n e => y b o n (x b o n e)
theorem Kp.set {a : Addr} {H : Hp} {o : HO} : Kp a H (upd H a o) := fun b u n e => by rw [upd_ne n]; exact e
/-! ### places that are right -/
def OkP (ps : List (Int × Int)) : Prop := 4 ≤ ps.length ∧ ps.length ≤ 7 ∧ ∀ p ∈ ps, -G9 ≤ p.1 ∧ p.1 ≤ G9 ∧ -G9 ≤ p.2 ∧ p.2 ≤ G9
def PlA (H : Hp) (x : V) (p : Int × Int) : Prop := ∃ r, x = .ref r ∧ Sq H r [.int p.1, .int p.2]
/-- a list or a tuple of pairs, lists or tuples -/
def Pls (H : Hp) (v : V) (ps : List (Int × Int)) : Prop := ∃ b xs, v = .ref b ∧ Sq H b xs ∧ Paired (PlA H) xs ps
theorem PlA.same {H H' : Hp} {x : V} {p : Int × Int} (h : PlA H x p) (s : Same H H') : PlA H' x p := let ⟨r, e, q⟩ := h; ⟨r, e, q.same s⟩
theorem paired_mono {α β : Type} {R S : α → β → Prop} {xs : List α} {ys : List β} (h : Paired R xs ys) (i : ∀ x y, R x y → S x y) : Paired S xs ys := by
  induction h with
  | nil => exact .nil
  | cons a _ ih => exact .cons (i _ _ a) ih
theorem Pls.same {H H' : Hp} {v : V} {ps : List (Int × Int)} (h : Pls H v ps) (s : Same H H') : Pls H' v ps := let ⟨b, xs, e, q, k⟩ := h; ⟨b, xs, e, q.same s, paired_mono k fun _ _ z => z.same s⟩
theorem inB_of {n : Int} (h : -G9 ≤ n) (h2 : n ≤ G9) : inB (.int n) = true := by
  show (decide (-G9 ≤ n) && decide (n ≤ G9)) = true
  rw [decide_eq_true h, decide_eq_true h2]
  rfl
theorem pl_rows {K : PySem.W.Frag} {H : Hp} {xs : List V} {ps : List (Int × Int)} (h : Paired (PlA H) xs ps) (b : ∀ p ∈ ps, -G9 ≤ p.1 ∧ p.1 ≤ G9 ∧ -G9 ≤ p.2 ∧ p.2 ≤ G9) : Paired (RowV K H) xs (ps.map fun _ => true) := by
  induction h with
  | nil => exact .nil
  | @cons x p xs ps a _ ih =>
    refine .cons ?_ (ih fun q hq => b q (List.mem_cons_of_mem _ hq))
    obtain ⟨r, rfl, q⟩ := a
    obtain ⟨b1, b2, b3, b4⟩ := b p List.mem_cons_self
    have z : RowV K H (.ref r) (rowB [.int p.1, .int p.2]) := .seq q (fun x hx => by
      rcases List.mem_cons.mp hx with e | e
      · rw [e]
        exact ⟨_, .int _⟩
      · rw [List.mem_singleton.mp e]
        exact ⟨_, .int _⟩) (by show 2 ≤ 100; decide)
    have e : rowB [V.int p.1, V.int p.2] = true := by
      show (decide _ && (inB _ && (inB _ && true))) = true
      rw [inB_of b1 b2, inB_of b3 b4]
      rfl
    rw [e] at z
    exact z
theorem Pls.rows {K : PySem.W.Frag} {H : Hp} {v : V} {ps : List (Int × Int)} (h : Pls H v ps) (ok : OkP ps) : RowsV K H v (some (ps.map fun _ => true)) ∧ plB (some (ps.map fun _ => true)) = true := by
  obtain ⟨b, xs, rfl, q, k⟩ := h
  refine ⟨.seq q (pl_rows k ok.2.2) ?_, ?_⟩
  · rw [Paired.length k]
    exact Nat.le_trans ok.2.1 (by decide)
  · have h1 := ok.1
    have h2 := ok.2.1
    have e : (ps.map fun _ => true).all id = true := by
      rw [List.all_map]
      exact List.all_eq_true.mpr fun _ _ => rfl
    show (_ && decide _ && decide _) = true
    rw [e, List.length_map, decide_eq_true h1, decide_eq_true h2]
    rfl
/-! ### pictures -/
structure PicT (K : PySem.W.Frag) (C : Addr) : Prop where
  pc : PicC K C
  n1 : NoAttr K C "places"
  n2 : NoAttr K C "pins"
  n3 : NoAttr K C "rows"
/-- at a: the picture with these places -/
def PicF (H : Hp) (C a : Addr) (ps : List (Int × Int)) : Prop := ∃ dx t u, H a = some (.ins C dx [("places", .ref t), ("pins", .int ps.length), ("rows", .ref u)]) ∧ PT H t ps ∧ Two H u (sk 0 ps) (sk 1 ps)
theorem PT.same {H H' : Hp} {t : Addr} {ps : List (Int × Int)} (h : PT H t ps) (s : Same H H') : PT H' t ps := let ⟨ts, a, b⟩ := h; ⟨ts, s _ _ a, paired_mono b fun _ _ z => s _ _ z⟩
theorem PicF.same {H H' : Hp} {C a : Addr} {ps : List (Int × Int)} (h : PicF H C a ps) (s : Same H H') : PicF H' C a ps := let ⟨dx, t, u, e, p, q⟩ := h; ⟨dx, t, u, s _ _ e, p.same s, q.same s⟩
theorem PT.kp {H H' : Hp} {t a C dx : Addr} {fs : List (Str × V)} {ps : List (Int × Int)} (h : PT H t ps) (ha : H a = some (.ins C dx fs)) (k : Kp a H H') : PT H' t ps := by
  obtain ⟨ts, e, b⟩ := h
  have ne : ∀ {x : Addr} {xs : List V}, H x = some (.tup xs) → x ≠ a := fun h => L2.ne_of h ha (by intro z; cases z)
  exact ⟨ts, k _ _ (ne e) e, paired_mono b fun _ _ z => k _ _ (ne z) z⟩
theorem Two.kp {H H' : Hp} {u a C dx : Addr} {fs : List (Str × V)} {xs ys : List Int} (h : Two H u xs ys) (ha : H a = some (.ins C dx fs)) (k : Kp a H H') : Two H' u xs ys := by
  obtain ⟨r0, r1, e, e0, e1⟩ := h
  have ne : ∀ {x : Addr} {xs : List V}, H x = some (.tup xs) → x ≠ a := fun h => L2.ne_of h ha (by intro z; cases z)
  exact ⟨r0, r1, k _ _ (ne e) e, k _ _ (ne e0) e0, k _ _ (ne e1) e1⟩
section
variable {P : Program} {w : World} {K : PySem.W.Frag} {mg : Str → Option Value} {base : Heap} {C CB fB : Addr}
def spBI (K : PySem.W.Frag) (C : Addr) : Sp := fun vs H Q _ => ∃ (a : Addr) (y : V), vs = [.ref a, y] ∧ OexC K C ∧ PySem.W.findIn K (.ref C) "part" = some none ∧ H a = some (exo a C none) ∧
  ∀ dx, H dx = none → dx ≠ a → Q .non (upd (upd H dx (exd dx [(("part" : Str), y)])) a (exo a C (some dx)))
abbrev sBI : Stmt := inClass (top 4) 0
theorem scBI : FnScope ["self", "part"] ["self", "part"] (defScope sBI) := ⟨rfl, rfl, rfl, by decide +kernel, rfl, by decide +kernel, by decide +kernel⟩
theorem ok_bi {f C : Addr} {fd : FuncData} (F : Fun K "__init__" "BadPicture.__init__" sBI f fd) : FnOk P w K mg base CX0 1 f fd ["self", "part"] (spBI K C) := by
  refine F.ok scBI (fun vs H Q E h => ?_) (fun cdv A outer s H vs Q E hr h => ?_)
  · obtain ⟨a, y, rfl, _⟩ := h
    rfl
  · obtain ⟨a, y, rfl, T, no, ha, q⟩ := h
    refine ⟨_, pss_one (ps_ost (pv 0) (pv 1)), ?_⟩
    exact ⟨_, rfl, _, rfl, a, C, rfl, T, no, .inl ⟨ha, q⟩⟩
/-! ### Picture.__init__ -/
def spPI (K : PySem.W.Frag) (C CB : Addr) : Sp := fun vs H Q E => ∃ (a dx : Addr) (v : V), vs = [.ref a, v] ∧ H a = some (.ins C dx []) ∧
  ((∃ ps, Pls H v ps ∧ OkP ps ∧ ∀ H', Kp a H H' → PicF H' C a ps → Q .non H') ∨ (∃ o, RowsV K H v o ∧ plB o = false ∧ Rz CB "places" H E))
abbrev sPI : Stmt := inClass (top 45) 0
abbrev nPI : List Str := ["self", "places", "place"]
theorem scPI : FnScope nPI ["self", "places"] (defScope sPI) := ⟨rfl, rfl, rfl, by decide +kernel, rfl, by decide +kernel, by decide +kernel⟩
theorem ok_pi {f : Addr} {fd fdB : FuncData} (F : Fun K "__init__" "Picture.__init__" sPI f fd) (B : Bn mg) (T : PicT K C) (TB : BrTxt K mg CB fB) (FB : Fun K "__init__" "BadPicture.__init__" sBI fB fdB) (C1 : Callee P w K mg base CX0 5 "are_places" ["value", "size"] (spPlaces K)) (C2 : Callee P w K mg base CX0 1 "steps_along" ["places"] spSteps) :
    FnOk P w K mg base (L2.CX P w) 6 f fd ["self", "places"] (spPI K C CB) := by
  obtain ⟨f1, fd1, m1, k1, b1, G1⟩ := C1
  obtain ⟨f2, fd2, m2, k2, b2, G2⟩ := C2
  have GB : FnOk P w K mg base CX0 1 fB fdB ["self", "part"] (spBI K CB) := ok_bi FB
  have bB : Binds K fdB ["self", "part"] [] := FB.binds (ps := ["self", "part"]) fun _ _ _ _ _ _ us hl => match us, hl with | [_, _], _ => rfl
  have nd := scPI.nd
  refine F.okX scPI (fun vs H Q E h => ?_) (fun cdv A outer s H vs Q E hr h => ?_)
  · obtain ⟨a, dx, v, rfl, _⟩ := h
    rfl
  · obtain ⟨a, dx, v, rfl, ha, h⟩ := h
    rcases h with ⟨ps, pls, ok, q⟩ | ⟨o, ro, po, r⟩
    · obtain ⟨ro, po⟩ := pls.rows (K := K) ok
      obtain ⟨b, xs, rfl, hs, hk⟩ := pls
      have lx : xs.length = ps.length := Paired.length hk
      have step : ∀ {H1 H' : Hp} {D : Addr} {i : Nat} {x : V} {ts : List Addr}, Same H H1 → H1 D = none → Same H1 H' → xs[i]? = some x → ts.length = i → H' D = some (.lst (ts.map V.ref)) → (∀ (j : Nat) t p, ts[j]? = some t → ps[j]? = some p → Pr H' t p) →
          ∃ g, x = .ref g ∧ ((∃ zs, H' g = some (.lst zs) ∧ (∃ p, ps[i]? = some p ∧ zs = [.int p.1, .int p.2])) ∨ (∃ p, ps[i]? = some p ∧ H' g = some (.tup [.int p.1, .int p.2]))) := fun s1 _ s2 hx _ _ _ => by
        obtain ⟨p, hp, g, rfl, e⟩ := paired_get hk hx
        refine ⟨g, rfl, ?_⟩
        rcases e with e | e
        · exact .inl ⟨_, s2 _ _ (s1 _ _ e), p, hp, rfl⟩
        · exact .inr ⟨p, hp, s2 _ _ (s1 _ _ e)⟩
      have grow : ∀ {H1 H' H2 : Hp} {D g : Addr} {i : Nat} {ts : List Addr} {p : Int × Int}, H1 D = none → Same H1 H' → Same H' H2 → ts.length = i → H' D = some (.lst (ts.map V.ref)) → (∀ (j : Nat) t p, ts[j]? = some t → ps[j]? = some p → Pr H' t p) → ps[i]? = some p → Pr H2 g p →
          ∃ acc, H2 D = some (.lst acc) ∧ acc.length < sizeLine ∧ (Same H1 (upd H2 D (.lst (acc ++ [V.ref g]))) ∧ ∃ ts' : List Addr, ts'.length = i + 1 ∧ (upd H2 D (.lst (acc ++ [V.ref g]))) D = some (.lst (ts'.map V.ref)) ∧ ∀ (j : Nat) t p, ts'[j]? = some t → ps[j]? = some p → Pr (upd H2 D (.lst (acc ++ [V.ref g]))) t p) := fun {H1 H' H2 D g i ts p} hD s2 s3 lt hd ht hp hg => by
        have hd2 := s3 _ _ hd
        have hi : i < ps.length := by
          rcases Nat.lt_or_ge i ps.length with h | h
          · exact h
          · rw [List.getElem?_eq_none h] at hp
            cases hp
        have ok7 := ok.2.1
        refine ⟨_, hd2, by rw [List.length_map]; exact small1000 (by omega), fun c o e => ?_, ts ++ [g], by simp [lt], ?_, fun j t p' et ep => ?_⟩
        · rw [upd_ne (ne_of_none e hD)]
          exact s3 _ _ (s2 _ _ e)
        · rw [upd_same, List.map_append]
          rfl
        · have nD : ∀ {t : Addr} {zs : List V}, H2 t = some (.tup zs) → t ≠ D := fun h => L2.ne_of h hd2 (by intro z; cases z)
          unfold Pr
          by_cases hj : j < ts.length
          · rw [List.getElem?_append_left hj] at et
            have e2 : H2 t = some (.tup [.int p'.1, .int p'.2]) := s3 _ _ (ht j t p' et ep)
            rw [upd_ne (nD e2)]
            exact e2
          · have hj2 : j = ts.length := by
              rcases Nat.lt_or_ge j (ts ++ [g]).length with h | h
              · simp at h
                omega
              · rw [List.getElem?_eq_none h] at et
                cases et
            subst hj2
            rw [List.getElem?_append_right (Nat.le_refl _), Nat.sub_self] at et
            have eu : g = t := Option.some.inj et
            subst eu
            rw [lt] at ep
            rw [hp] at ep
            have e3 : p = p' := Option.some.inj ep
            subst e3
            have hg : H2 g = some (.tup [.int p.1, .int p.2]) := hg
            rw [upd_ne (nD hg)]
            exact hg
      have fin : ∀ {H1 H' : Hp} {D : Addr} {ts : List Addr}, Same H H1 → Same H1 H' → ts.length = ps.length → H' D = some (.lst (ts.map V.ref)) → (∀ (j : Nat) t p, ts[j]? = some t → ps[j]? = some p → Pr H' t p) → ∀ t H2, H' t = none → H2 = upd H' t (.tup (ts.map V.ref)) → (PT H2 t ps ∧ Same H H2) := fun {H1 H' D ts} s1 s2 lt hd ht t H2 nt e2 => by
        subst e2
        have s3 := same_new (o := .tup (ts.map V.ref)) nt
        refine ⟨⟨ts, upd_same, ?_⟩, (s1.trans s2).trans s3⟩
        have : ∀ (as : List Addr) (qs : List (Int × Int)), as.length = qs.length → (∀ (j : Nat) t p, as[j]? = some t → qs[j]? = some p → Pr H' t p) → Paired (Pr (upd H' t (.tup (ts.map V.ref)))) as qs := by
          intro as
          induction as with
          | nil =>
            intro qs l _
            cases qs with
            | nil => exact .nil
            | cons _ _ => cases l
          | cons c as ih =>
            intro qs l h
            cases qs with
            | nil => cases l
            | cons p qs => exact .cons (s3 _ _ (h 0 c p rfl rfl)) (ih qs (by simpa using l) fun j t p e1 e2 => h (j + 1) t p (by simpa using e1) (by simpa using e2))
        exact this ts ps lt ht
      rcases hs with hs | hs
      · refine ⟨_, (pss_cons (ps_if (pt_not (pt_val (pe_call G1 (hr.mono (by decide)) rfl m1 k1 b1 .nil pass0 (pa_cons (pv 1) (pa_cons (pe_int) pa_nil))))) (pss_one (ps_raise rfl (takes_of rfl rfl rfl rfl) (pmk_oex TB.oex TB.iC TB.tI GB (hr.mono (by decide)) bB .nil pass0 rfl TB.mgC (pa_cons pe_str pa_nil)))) pss_nil) (pss_cons (ps_fld (pv 0) (pe_callTy (T := "tuple") (r := rTu K) call_tuK (by rfl) B.tuple (by decide +kernel) (pa_cons (pe_lc (own := [("place", 2)]) (g := gName 2) (tt := tYes) rfl nd (pi_list (pv 1)) (blkOk_by (N := nPI) (sc := defScope sPI) (by decide +kernel)) (fun _ _ _ _ _ => pg_name (i := 2) nd rfl (Or.inl rfl)) (fun _ _ _ _ _ => pts_nil) (fun _ _ _ _ _ => (pe_callTy (T := "tuple") (r := rTu K) call_tuK (by rfl) B.tuple (by decide +kernel) (pa_cons (pv 2) pa_nil)))) pa_nil)) rfl) (pss_cons (ps_fld (pv 0) (pe_callB call_len_seq (by rfl) B.len PySem.boot_len (pa_cons (pe_fld (pv 0) rfl) pa_nil)) rfl) (pss_one (ps_fld (pv 0) (pe_call G2 (hr.mono (by decide)) rfl m2 k2 b2 .nil pass0 (pa_cons (pe_fld (pv 0) rfl) pa_nil)) rfl))))), ?_⟩
        refine ⟨_, rfl, _, _, rfl, ro, fun H1 s1 => ⟨_, rfl, ?_⟩⟩
        rw [po]
        refine iteF ?_
        refine ⟨_, rfl, b, rfl, ⟨_, SqL.of (s1 _ _ hs)⟩, fun D hD => ?_⟩
        refine lc_list (K := K) (a := b) (xs := xs) (fun i H' => Same H1 H' ∧ ∃ ts : List Addr, ts.length = i ∧ H' D = some (.lst (ts.map V.ref)) ∧ ∀ (j : Nat) t p, ts[j]? = some t → ps[j]? = some p → Pr H' t p) ⟨same_new hD, [], rfl, upd_same, fun j t p e => by simp at e⟩ (fun i H' _ p => SqL.of (p.1 _ _ (s1 _ _ hs))) (fun i x H' hx p => ?_) (fun H' p => ?_)
        · obtain ⟨s2, ts, lt, hd, ht⟩ := p
          refine ⟨rfl, ?_⟩
          obtain ⟨g, rfl, ⟨zs, hg, p, hp, rfl⟩ | ⟨p, hp, hg⟩⟩ := step s1 hD s2 hx lt hd ht
          · exact ⟨_, rfl, g, _, rfl, .inl ⟨SqL.of hg, fun r nr => grow hD s2 (same_new nr) lt hd ht hp upd_same⟩⟩
          · exact ⟨_, rfl, g, _, rfl, .inr ⟨SqT.of hg, grow hD s2 Same.me lt hd ht hp hg⟩⟩
        · obtain ⟨s2, ts, lt, hd, ht⟩ := p
          rw [lx] at lt
          refine ⟨D, _, rfl, .inl ⟨SqL.of hd, fun t nt => ?_⟩⟩
          obtain ⟨ptn, s3⟩ := fin s1 s2 lt hd ht t _ nt rfl
          generalize upd H' t (.tup (ts.map V.ref)) = H3 at ptn s3 ⊢
          have ha3 := s3 _ _ ha
          refine ⟨_, rfl, a, C, dx, [], rfl, ha3, T.pc.cls, T.n1, by show 0 < 1000; decide, ?_⟩
          have pt4 := ptn.kp ha3 (Kp.set (o := .ins C dx (putF "places" (.ref t) [])))
          have ha4 : upd H3 a (.ins C dx (putF "places" (.ref t) [])) a = some (.ins C dx [("places", .ref t)]) := upd_same
          have k4 : Kp a H (upd H3 a (.ins C dx (putF "places" (.ref t) []))) := (Kp.of s3).trans Kp.set
          generalize upd H3 a (.ins C dx (putF "places" (.ref t) [])) = H4 at pt4 ha4 k4 ⊢
          obtain ⟨ts2, e2, pr2⟩ := pt4
          have l2 : (ts2.map V.ref).length = ps.length := by
            rw [List.length_map]
            exact Paired.length pr2
          refine ⟨_, rfl, a, C, dx, _, .ref t, rfl, ha4, T.pc.cls, T.n1, rfl, t, _, rfl, .inr (SqT.of e2), ?_⟩
          rw [l2]
          refine ⟨_, rfl, a, C, dx, _, rfl, ha4, T.pc.cls, T.n2, by show 1 < 1000; decide, ?_⟩
          have pt5 := PT.kp ⟨ts2, e2, pr2⟩ ha4 (Kp.set (o := .ins C dx (putF "pins" (.int ps.length) [("places", .ref t)])))
          have ha5 : upd H4 a (.ins C dx (putF "pins" (.int ps.length) [("places", .ref t)])) a = some (.ins C dx [("places", .ref t), ("pins", .int ps.length)]) := upd_same
          have k5 : Kp a H (upd H4 a (.ins C dx (putF "pins" (.int ps.length) [("places", .ref t)]))) := k4.trans Kp.set
          generalize upd H4 a (.ins C dx (putF "pins" (.int ps.length) [("places", .ref t)])) = H5 at pt5 ha5 k5 ⊢
          refine ⟨_, rfl, a, C, dx, _, .ref t, rfl, ha5, T.pc.cls, T.n1, rfl, t, ps, rfl, pt5, ok.1, ok.2.1, fun H6 u r0 r1 s6 hu h0 h1 => ?_⟩
          have ha6 := s6 _ _ ha5
          refine ⟨_, rfl, a, C, dx, _, rfl, ha6, T.pc.cls, T.n3, by show 2 < 1000; decide, ?_⟩
          refine q _ ((k5.trans (Kp.of s6)).trans Kp.set) ⟨dx, t, u, upd_same, (pt5.same s6).kp ha6 Kp.set, Two.kp ⟨r0, r1, hu, h0, h1⟩ ha6 Kp.set⟩
      · refine ⟨_, (pss_cons (ps_if (pt_not (pt_val (pe_call G1 (hr.mono (by decide)) rfl m1 k1 b1 .nil pass0 (pa_cons (pv 1) (pa_cons (pe_int) pa_nil))))) (pss_one (ps_raise rfl (takes_of rfl rfl rfl rfl) (pmk_oex TB.oex TB.iC TB.tI GB (hr.mono (by decide)) bB .nil pass0 rfl TB.mgC (pa_cons pe_str pa_nil)))) pss_nil) (pss_cons (ps_fld (pv 0) (pe_callTy (T := "tuple") (r := rTu K) call_tuK (by rfl) B.tuple (by decide +kernel) (pa_cons (pe_lc (own := [("place", 2)]) (g := gName 2) (tt := tYes) rfl nd (pi_tup (pv 1)) (blkOk_by (N := nPI) (sc := defScope sPI) (by decide +kernel)) (fun _ _ _ _ _ => pg_name (i := 2) nd rfl (Or.inl rfl)) (fun _ _ _ _ _ => pts_nil) (fun _ _ _ _ _ => (pe_callTy (T := "tuple") (r := rTu K) call_tuK (by rfl) B.tuple (by decide +kernel) (pa_cons (pv 2) pa_nil)))) pa_nil)) rfl) (pss_cons (ps_fld (pv 0) (pe_callB call_len_seq (by rfl) B.len PySem.boot_len (pa_cons (pe_fld (pv 0) rfl) pa_nil)) rfl) (pss_one (ps_fld (pv 0) (pe_call G2 (hr.mono (by decide)) rfl m2 k2 b2 .nil pass0 (pa_cons (pe_fld (pv 0) rfl) pa_nil)) rfl))))), ?_⟩
        refine ⟨_, rfl, _, _, rfl, ro, fun H1 s1 => ⟨_, rfl, ?_⟩⟩
        rw [po]
        refine iteF ?_
        refine ⟨_, rfl, b, rfl, ⟨_, SqT.of (s1 _ _ hs)⟩, fun D hD => ?_⟩
        refine lc_tup (K := K) (a := b) (xs := xs) (fun i H' => Same H1 H' ∧ ∃ ts : List Addr, ts.length = i ∧ H' D = some (.lst (ts.map V.ref)) ∧ ∀ (j : Nat) t p, ts[j]? = some t → ps[j]? = some p → Pr H' t p) ⟨same_new hD, [], rfl, upd_same, fun j t p e => by simp at e⟩ (fun i H' _ p => SqT.of (p.1 _ _ (s1 _ _ hs))) (fun i x H' hx p => ?_) (fun H' p => ?_)
        · obtain ⟨s2, ts, lt, hd, ht⟩ := p
          refine ⟨rfl, ?_⟩
          obtain ⟨g, rfl, ⟨zs, hg, p, hp, rfl⟩ | ⟨p, hp, hg⟩⟩ := step s1 hD s2 hx lt hd ht
          · exact ⟨_, rfl, g, _, rfl, .inl ⟨SqL.of hg, fun r nr => grow hD s2 (same_new nr) lt hd ht hp upd_same⟩⟩
          · exact ⟨_, rfl, g, _, rfl, .inr ⟨SqT.of hg, grow hD s2 Same.me lt hd ht hp hg⟩⟩
        · obtain ⟨s2, ts, lt, hd, ht⟩ := p
          rw [lx] at lt
          refine ⟨D, _, rfl, .inl ⟨SqL.of hd, fun t nt => ?_⟩⟩
          obtain ⟨ptn, s3⟩ := fin s1 s2 lt hd ht t _ nt rfl
          generalize upd H' t (.tup (ts.map V.ref)) = H3 at ptn s3 ⊢
          have ha3 := s3 _ _ ha
          refine ⟨_, rfl, a, C, dx, [], rfl, ha3, T.pc.cls, T.n1, by show 0 < 1000; decide, ?_⟩
          have pt4 := ptn.kp ha3 (Kp.set (o := .ins C dx (putF "places" (.ref t) [])))
          have ha4 : upd H3 a (.ins C dx (putF "places" (.ref t) [])) a = some (.ins C dx [("places", .ref t)]) := upd_same
          have k4 : Kp a H (upd H3 a (.ins C dx (putF "places" (.ref t) []))) := (Kp.of s3).trans Kp.set
          generalize upd H3 a (.ins C dx (putF "places" (.ref t) [])) = H4 at pt4 ha4 k4 ⊢
          obtain ⟨ts2, e2, pr2⟩ := pt4
          have l2 : (ts2.map V.ref).length = ps.length := by
            rw [List.length_map]
            exact Paired.length pr2
          refine ⟨_, rfl, a, C, dx, _, .ref t, rfl, ha4, T.pc.cls, T.n1, rfl, t, _, rfl, .inr (SqT.of e2), ?_⟩
          rw [l2]
          refine ⟨_, rfl, a, C, dx, _, rfl, ha4, T.pc.cls, T.n2, by show 1 < 1000; decide, ?_⟩
          have pt5 := PT.kp ⟨ts2, e2, pr2⟩ ha4 (Kp.set (o := .ins C dx (putF "pins" (.int ps.length) [("places", .ref t)])))
          have ha5 : upd H4 a (.ins C dx (putF "pins" (.int ps.length) [("places", .ref t)])) a = some (.ins C dx [("places", .ref t), ("pins", .int ps.length)]) := upd_same
          have k5 : Kp a H (upd H4 a (.ins C dx (putF "pins" (.int ps.length) [("places", .ref t)]))) := k4.trans Kp.set
          generalize upd H4 a (.ins C dx (putF "pins" (.int ps.length) [("places", .ref t)])) = H5 at pt5 ha5 k5 ⊢
          refine ⟨_, rfl, a, C, dx, _, .ref t, rfl, ha5, T.pc.cls, T.n1, rfl, t, ps, rfl, pt5, ok.1, ok.2.1, fun H6 u r0 r1 s6 hu h0 h1 => ?_⟩
          have ha6 := s6 _ _ ha5
          refine ⟨_, rfl, a, C, dx, _, rfl, ha6, T.pc.cls, T.n3, by show 2 < 1000; decide, ?_⟩
          refine q _ ((k5.trans (Kp.of s6)).trans Kp.set) ⟨dx, t, u, upd_same, (pt5.same s6).kp ha6 Kp.set, Two.kp ⟨r0, r1, hu, h0, h1⟩ ha6 Kp.set⟩
    · refine ⟨_, (pss_cons (ps_if (pt_not (pt_val (pe_call G1 (hr.mono (by decide)) rfl m1 k1 b1 .nil pass0 (pa_cons (pv 1) (pa_cons (pe_int) pa_nil))))) (pss_one (ps_raise rfl (takes_of rfl rfl rfl rfl) (pmk_oex TB.oex TB.iC TB.tI GB (hr.mono (by decide)) bB .nil pass0 rfl TB.mgC (pa_cons pe_str pa_nil)))) pss_nil) (pss_cons (ps_fld (pv 0) (pe_callTy (T := "tuple") (r := rTu K) call_tuK (by rfl) B.tuple (by decide +kernel) (pa_cons (pe_lc (own := [("place", 2)]) (g := gName 2) (tt := tYes) rfl nd (pi_list (pv 1)) (blkOk_by (N := nPI) (sc := defScope sPI) (by decide +kernel)) (fun _ _ _ _ _ => pg_name (i := 2) nd rfl (Or.inl rfl)) (fun _ _ _ _ _ => pts_nil) (fun _ _ _ _ _ => (pe_callTy (T := "tuple") (r := rTu K) call_tuK (by rfl) B.tuple (by decide +kernel) (pa_cons (pv 2) pa_nil)))) pa_nil)) rfl) (pss_cons (ps_fld (pv 0) (pe_callB call_len_seq (by rfl) B.len PySem.boot_len (pa_cons (pe_fld (pv 0) rfl) pa_nil)) rfl) (pss_one (ps_fld (pv 0) (pe_call G2 (hr.mono (by decide)) rfl m2 k2 b2 .nil pass0 (pa_cons (pe_fld (pv 0) rfl) pa_nil)) rfl))))), ?_⟩
      refine ⟨_, rfl, _, _, rfl, ro, fun H1 s1 => ⟨_, rfl, ?_⟩⟩
      rw [po]
      refine iteT ⟨by show 1 ≤ 1000; decide, fun e he => ?_⟩
      exact ⟨e, _, rfl, TB.oex, TB.noP, upd_same, fun dx hdx ne => ⟨rfl, dx, _, upd_same, by rw [upd_ne ne]; exact upd_same, by rw [upd_ne ne] at hdx; exact hdx, raised r s1 he hdx ne⟩⟩
end
end K13

namespace K13
open PySem PySem.Spec PyProof.Rows L2
/-! ### places as data -/
def en (p : Int × Int) : PyData := .tuple [.int p.1, .int p.2]
def enc (ps : List (Int × Int)) : PyData := .tuple (ps.map en)
theorem enc_lay : ∀ ps : List (Int × Int), PyData.canLayAll0 (ps.map en) = true
  | [] => rfl
  | p :: ps => by
    show (PyData.canLay0 (en p) && PyData.canLayAll0 (ps.map en)) = true
    rw [enc_lay ps]
    rfl
theorem enc_depth : ∀ ps : List (Int × Int), PyData.depthAll (ps.map en) ≤ 1
  | [] => by decide
  | p :: ps => by
    show max (PyData.depth (en p)) (PyData.depthAll (ps.map en)) ≤ 1
    have h := enc_depth ps
    have e : PyData.depth (en p) = 1 := rfl
    omega
theorem enc_shaped (ps : List (Int × Int)) : SeqAt.shaped (enc ps) = true := by
  show (PyData.canLayAll0 (ps.map en) && decide (PyData.depthAll (ps.map en) + 1 ≤ 64)) = true
  rw [enc_lay, Bool.true_and, decide_eq_true_iff]
  have := enc_depth ps
  omega
theorem en_eqv (p q : Int × Int) : PyData.eqv (en p) (en q) = decide (p = q) := by
  show (p.1 == q.1 && (p.2 == q.2 && true)) = _
  obtain ⟨a, b⟩ := p
  obtain ⟨c, d⟩ := q
  rw [Bool.and_true, Bool.eq_iff_iff, decide_eq_true_iff, Bool.and_eq_true, beq_iff_eq, beq_iff_eq, Prod.mk.injEq]
theorem enc_eqv : ∀ ps qs : List (Int × Int), PyData.eqvAll (ps.map en) (qs.map en) = decide (ps = qs)
  | [], [] => rfl
  | [], _ :: _ => rfl
  | _ :: _, [] => rfl
  | p :: ps, q :: qs => by
    show (PyData.eqv (en p) (en q) && PyData.eqvAll (ps.map en) (qs.map en)) = _
    rw [en_eqv, enc_eqv ps qs, Bool.eq_iff_iff, Bool.and_eq_true, decide_eq_true_iff, decide_eq_true_iff, decide_eq_true_iff, List.cons.injEq]
theorem dp_pairs {K : PySem.W.Frag} {H : Hp} {ts : List Addr} {ps : List (Int × Int)} (h : Paired (Pr H) ts ps) : DpAll K H (ts.map V.ref) (ps.map en) := by
  induction h with
  | nil => exact .nil
  | cons a _ ih => exact .cons (.tup (SqT.of a) (.cons (.int _) (.cons (.int _) .nil))) ih
theorem PT.dp {K : PySem.W.Frag} {H : Hp} {t : Addr} {ps : List (Int × Int)} (h : PT H t ps) : Dp K H (.ref t) (enc ps) := let ⟨_, e, p⟩ := h; .tup (SqT.of e) (dp_pairs p)
theorem sk_bd {ps : List (Int × Int)} (ok : OkP ps) (k : Nat) : Bd (sk k ps) := fun n hn => by
  unfold sk at hn
  obtain ⟨p, hp, rfl⟩ := List.mem_map.mp hn
  have b1 := ok.2.2 p (List.mem_of_mem_drop hp)
  have b2 : -G9 ≤ (ps.headD (0, 0)).1 ∧ (ps.headD (0, 0)).1 ≤ G9 ∧ -G9 ≤ (ps.headD (0, 0)).2 ∧ (ps.headD (0, 0)).2 ≤ G9 := by
    cases ps with
    | nil => exact absurd ok.1 (by decide)
    | cons q qs => exact ok.2.2 q List.mem_cons_self
  unfold it
  have e : G9 = 1000000000 := rfl
  split <;> constructor <;> omega
theorem sk_len (k : Nat) (ps : List (Int × Int)) : (sk k ps).length = ps.length - 1 := by
  unfold sk
  rw [List.length_map, List.length_drop]
/-! ### values that are no pictures -/
inductive Np (H : Hp) : V → String → Prop
  | non : Np H .non "NoneType"
  | str (z : Str) : Np H (.str z) "str"
  | lst {a : Addr} {xs : List V} (e : H a = some (.lst xs)) : Np H (.ref a) "list"
  | tup {a : Addr} {xs : List V} (e : H a = some (.tup xs)) : Np H (.ref a) "tuple"
theorem Np.ty {K : PySem.W.Frag} {H : Hp} {v : V} {t : String} (k : Np H v t) : TyX K H v (.type t) := by
  cases k with
  | non => exact .base .non
  | str z => exact .base (.str z)
  | lst e => exact .base (.lst e)
  | tup e => exact .base (.tup e)
theorem Np.same {H H' : Hp} {v : V} {t : String} (k : Np H v t) (s : Same H H') : Np H' v t := by
  cases k with
  | non => exact .non
  | str z => exact .str z
  | lst e => exact .lst (s _ _ e)
  | tup e => exact .tup (s _ _ e)
/-- what the class tells of other kinds -/
structure PicN (K : PySem.W.Frag) (C : Addr) : Prop where
  k : ∀ t ∈ ["NoneType", "str", "list", "tuple"], PySem.W.kitOne K (.type t) (.ref C) = some false ∧ PySem.W.notFirst K C (.type t) = true
  ne : PySem.W.findIn K (.ref C) "__ne__" = some (some (.builtin "object.__ne__"))
theorem PicN.of {K : PySem.W.Frag} {C : Addr} {H : Hp} {v : V} {t : String} (N : PicN K C) (k : Np H v t) : PySem.W.kitOne K (.type t) (.ref C) = some false ∧ PySem.W.notFirst K C (.type t) = true := by
  cases k with
  | non => exact N.k _ (by decide)
  | str z => exact N.k _ (by decide)
  | lst e => exact N.k _ (by decide)
  | tup e => exact N.k _ (by decide)
/-- whether a picture equals it -/
def Eqs (H : Hp) (C : Addr) (ps : List (Int × Int)) (y : V) (b : Bool) : Prop := (∃ t, Np H y t ∧ b = false) ∨ (∃ q qs, y = .ref q ∧ PicF H C q qs ∧ b = decide (ps = qs))
theorem kit_self {K : PySem.W.Frag} {C : Addr} : PySem.W.kitOne K (.ref C) (.ref C) = some true := by
  unfold PySem.W.kitOne
  rw [if_pos (beq_self_eq_true _)]
theorem PicF.ty {K : PySem.W.Frag} {H : Hp} {C a : Addr} {ps : List (Int × Int)} (h : PicF H C a ps) (T : PicT K C) : TyX K H (.ref a) (.ref C) := let ⟨_, _, _, e, _⟩ := h; .base (.ins e T.pc.cls T.pc.ha T.pc.hn T.pc.ht T.pc.hm)
section
variable {P : Program} {w : World} {K : PySem.W.Frag} {mg : Str → Option Value} {base : Heap} {C : Addr}
/-! ### Picture.__eq__ -/
def spEqP (C : Addr) : Sp := fun vs H Q _ => ∃ (a : Addr) (y : V) (ps : List (Int × Int)) (b : Bool), vs = [.ref a, y] ∧ PicF H C a ps ∧ Eqs H C ps y b ∧ Q (.bl b) H
abbrev sEqP : Stmt := inClass (top 45) 1
theorem scEqP : FnScope ["self", "other"] ["self", "other"] (defScope sEqP) := ⟨rfl, rfl, rfl, by decide +kernel, rfl, by decide +kernel, by decide +kernel⟩
theorem ok_eqP {f : Addr} {fd : FuncData} (F : Fun K "__eq__" "Picture.__eq__" sEqP f fd) (B : Bn mg) (T : PicT K C) (N : PicN K C) (mC : mg "Picture" = some (.ref C)) : FnOk P w K mg base CX0 1 f fd ["self", "other"] (spEqP C) := by
  refine F.ok scEqP (fun vs H Q E h => ?_) (fun cdv A outer s H vs Q E hr h => ?_)
  · obtain ⟨a, y, ps, b, rfl, _⟩ := h
    rfl
  · obtain ⟨a, y, ps, b, rfl, hp, he, q⟩ := h
    refine ⟨_, pss_one (ps_ret (pe_and (pe_callB (r := rIsi K) call_isi (by rfl) B.isinstance boot_isinstance (pa_cons (pv 1) (pa_cons (pe_glob (v := .ref C) rfl mC rfl) pa_nil))) (pe_one (pe_cmpR (op_eqD hr.units) (pe_fld (pv 0) rfl) (pe_fld (pv 1) rfl) (nomark _))))), ?_⟩
    rcases he with ⟨t, np, rfl⟩ | ⟨c, qs, rfl, hq, rfl⟩
    · exact ⟨_, rfl, _, _, _, _, false, rfl, .own _, np.ty, (N.of np).1, _, rfl, iteF q⟩
    · refine ⟨_, rfl, _, _, _, _, true, rfl, .own _, hq.ty T, kit_self, _, rfl, iteT ?_⟩
      obtain ⟨dx, t, u, ha, ht, _⟩ := hp
      obtain ⟨dx2, t2, u2, hc, ht2, _⟩ := hq
      refine ⟨_, rfl, a, C, dx, _, .ref t, rfl, ha, T.pc.cls, T.n1, rfl, _, rfl, c, C, dx2, _, .ref t2, rfl, hc, T.pc.cls, T.n1, rfl, _, _, ht.dp, ht2.dp, enc_shaped _, enc_shaped _, ?_⟩
      have e : PyData.eqv (enc ps) (enc qs) = decide (ps = qs) := enc_eqv ps qs
      rw [e]
      exact q
/-! ### Picture.products, Picture.is_thin -/
def spPP (C : Addr) : Sp := fun vs H Q _ => ∃ (a : Addr) (ps : List (Int × Int)), vs = [.ref a] ∧ PicF H C a ps ∧ OkP ps ∧ ∀ H' t, Same H H' → MatT H' t (pg (sk 0 ps) (sk 1 ps)) (ps.length - 1) → Q (.ref t) H'
abbrev sPP : Stmt := inClass (top 45) 4
theorem scPP : FnScope ["self"] ["self"] (defScope sPP) := ⟨rfl, rfl, rfl, by decide +kernel, rfl, by decide +kernel, by decide +kernel⟩
theorem ok_pp {f : Addr} {fd : FuncData} (F : Fun K "products" "Picture.products" sPP f fd) (T : PicT K C) (C1 : Callee P w K mg base CX0 1 "products_of" ["rows"] spProd) : FnOk P w K mg base CX0 2 f fd ["self"] (spPP C) := by
  obtain ⟨f1, fd1, m1, k1, b1, G1⟩ := C1
  refine F.ok scPP (fun vs H Q E h => ?_) (fun cdv A outer s H vs Q E hr h => ?_)
  · obtain ⟨a, ps, rfl, _⟩ := h
    rfl
  · obtain ⟨a, ps, rfl, hp, ok, q⟩ := h
    refine ⟨_, pss_one (ps_ret (pe_call G1 (hr.mono (by decide)) rfl m1 k1 b1 .nil pass0 (pa_cons (pe_fld (pv 0) rfl) pa_nil))), ?_⟩
    obtain ⟨dx, t, u, ha, ht, hu⟩ := hp
    have l4 := ok.1
    have l7 := ok.2.1
    have e0 := sk_len 0 ps
    refine ⟨_, rfl, a, C, dx, _, .ref u, rfl, ha, T.pc.cls, T.n3, rfl, u, _, _, rfl, hu, by rw [sk_len, sk_len], by omega, by omega, sk_bd ok 0, sk_bd ok 1, fun H' t s m => q H' t s ?_⟩
    rw [e0] at m
    exact m
def spPh (C : Addr) : Sp := fun vs H Q _ => ∃ (a : Addr) (ps : List (Int × Int)), vs = [.ref a] ∧ PicF H C a ps ∧ OkP ps ∧ (thin (sk 0 ps) (sk 1 ps) → ∀ H', Same H H' → Q (.bl true) H') ∧ (¬ thin (sk 0 ps) (sk 1 ps) → ∀ H', Same H H' → Q (.bl false) H')
abbrev sPh : Stmt := inClass (top 45) 5
theorem scPh : FnScope ["self"] ["self"] (defScope sPh) := ⟨rfl, rfl, rfl, by decide +kernel, rfl, by decide +kernel, by decide +kernel⟩
theorem ok_ph {f : Addr} {fd : FuncData} (F : Fun K "is_thin" "Picture.is_thin" sPh f fd) (T : PicT K C) (C1 : Callee P w K mg base CX0 1 "first_minor" ["one", "other"] spMinor) : FnOk P w K mg base CX0 2 f fd ["self"] (spPh C) := by
  obtain ⟨f1, fd1, m1, k1, b1, G1⟩ := C1
  refine F.ok scPh (fun vs H Q E h => ?_) (fun cdv A outer s H vs Q E hr h => ?_)
  · obtain ⟨a, ps, rfl, _⟩ := h
    rfl
  · obtain ⟨a, ps, rfl, hp, ok, qy, qn⟩ := h
    refine ⟨_, pss_one (ps_ret (pe_cmpR op_isN (pe_call G1 (hr.mono (by decide)) rfl m1 k1 b1 .nil pass0 (pa_cons ((pe_ix ix_tup (pe_fld (pv 0) rfl) (pe_int) (fun _ _ => rfl))) (pa_cons ((pe_ix ix_tup (pe_fld (pv 0) rfl) (pe_int) (fun _ _ => rfl))) pa_nil))) pe_non (nomark _))), ?_⟩
    obtain ⟨dx, t, u, ha, ht, r0, r1, hu, h0, h1⟩ := hp
    have l4 := ok.1
    have l7 := ok.2.1
    have e0 := sk_len 0 ps
    refine ⟨_, rfl, a, C, dx, _, .ref u, rfl, ha, T.pc.cls, T.n3, rfl, u, _, 0, .ref r0, rfl, rfl, SqT.of hu, rfl, _, rfl, a, C, dx, _, .ref u, rfl, ha, T.pc.cls, T.n3, rfl, u, _, 1, .ref r1, rfl, rfl, SqT.of hu, rfl,
      r0, r1, _, _, rfl, h0, h1, by rw [sk_len, sk_len], by omega, sk_bd ok 0, sk_bd ok 1, fun th H' s => ⟨rfl, qy th H' s⟩, fun nt H' t zs s e => ⟨rfl, qn nt H' s⟩⟩
end
end K13

namespace K13
open PySem PySem.Spec PyProof.Rows L2
theorem str_len (a b : Str) : (a ++ b).length = a.length + b.length := by
  show (a.cps ++ b.cps).size = a.cps.size + b.cps.size
  exact Array.size_append
def tJoined (ts : List TE) : TE := fun σ H Q => tJs ts Str.empty σ H fun out H1 => Q (.str out) H1
theorem pe_joinedN {X : Cx} {v1 v2 : Expr} {rest : List Expr} {ts : List TE} {pos : Pos} (h : PJ X (v1 :: v2 :: rest) ts) : PE X (.JoinedStr (v1 :: v2 :: rest) pos) (tJoined ts) := pe_joined h
def rJn (K : PySem.W.Frag) : V → List V → Hp → VK → Prop := fun x xs H Q => ∃ a p, ∃ ys : List Str, x = .str a ∧ xs = [.ref p] ∧ (SqL K H p (ys.map V.str) ∨ SqT K H p (ys.map V.str)) ∧ (ys.map (·.length)).sum + ys.length * a.length ≤ 16777216 ∧ Q (.str (Txt.join a ys)) H
theorem pe_joinN {X : Cx} {o e : Expr} {to te : TE} {apos pos : Pos} (ho : PE X o to) (he : PE X e te) (hs : starEach [e] X.env = [(false, eval e X.env)] := by rfl) (hbase : attributeBase o "join" X.env (eval o X.env) = eval o X.env := by rfl) (hline : (apos.endLine == pos.line) = true := by rfl) :
    PE X (.Call (.Attribute o "join" apos) [e] [] pos) (tM1 (rJn X.K) to te) := pe_join ho he hs hbase hline
section
variable {P : Program} {w : World} {K : PySem.W.Frag} {mg : Str → Option Value} {base : Heap} {C : Addr}
/-! ### Picture.__str__ -/
def spStrP (C : Addr) : Sp := fun vs H Q _ => ∃ (a : Addr) (ps : List (Int × Int)), vs = [.ref a] ∧ PicF H C a ps ∧ OkP ps ∧ ∀ z H', Same H H' → Q (.str z) H'
abbrev sStrP : Stmt := inClass (top 45) 2
abbrev nStrP : List Str := ["self", "x", "y"]
theorem scStrP : FnScope nStrP ["self"] (defScope sStrP) := ⟨rfl, rfl, rfl, by decide +kernel, rfl, by decide +kernel, by decide +kernel⟩
theorem log_small {n : Int} (h : -G9 ≤ n) (h2 : n ≤ G9) : n.natAbs.log2 < 1920 := Nat.lt_trans (PySem.Flt.log2_lt_of (k := 31) (by decide) (by have : G9 = 1000000000 := rfl; omega)) (by decide)
theorem ok_strP {f : Addr} {fd : FuncData} (F : Fun K "__str__" "Picture.__str__" sStrP f fd) (T : PicT K C) : FnOk P w K mg base CX0 1 f fd ["self"] (spStrP C) := by
  have nd := scStrP.nd
  refine F.ok scStrP (fun vs H Q E h => ?_) (fun cdv A outer s H vs Q E hr h => ?_)
  · obtain ⟨a, ps, rfl, _⟩ := h
    rfl
  · obtain ⟨a, ps, rfl, hp, ok, q⟩ := h
    refine ⟨_, pss_one (ps_ret (pe_joinN pe_str (pe_lc (own := [("x", 1), ("y", 2)]) (g := gTup K 2 (gCons (gName 1) (gCons (gName 2) gNil))) (tt := tYes) rfl nd (pi_tup (pe_fld (pv 0) rfl)) (blkOk_by (N := nStrP) (sc := defScope sStrP) (by decide +kernel)) (fun _ _ _ _ _ => pg_tup rfl (pgs_cons (pg_name (i := 1) nd rfl (Or.inl rfl)) (pgs_cons (pg_name (i := 2) nd rfl (Or.inl rfl)) pgs_nil))) (fun _ _ _ _ _ => pts_nil)
      (fun _ _ _ _ _ => pe_joinedN (.cons (pe_fmt (pv 1)) (.cons pe_str (.cons (pe_fmt (pv 2)) .nil))))))), ?_⟩
    obtain ⟨dx, t, u, ha, ⟨ts, ht, hk⟩, hu⟩ := hp
    have lt : ts.length = ps.length := Paired.length hk
    have l7 := ok.2.1
    refine ⟨⟨_, rfl⟩, ?_⟩
    refine ⟨_, rfl, a, C, dx, _, .ref t, rfl, ha, T.pc.cls, T.n1, rfl, t, rfl, ⟨_, SqT.of ht⟩, fun D hD => ?_⟩
    refine lc_tup (K := K) (a := t) (xs := ts.map V.ref) (fun i H' => Same H H' ∧ ∃ ys : List Str, ys.length = i ∧ H' D = some (.lst (ys.map V.str)) ∧ ∀ y ∈ ys, y.length ≤ 4000) ⟨same_new hD, [], rfl, upd_same, fun y h => absurd h List.not_mem_nil⟩ (fun i H' _ p => SqT.of (p.1 _ _ ht)) (fun i x H' hx p => ?_) (fun H' p => ?_)
    · obtain ⟨s1, ys, ly, hd, hb⟩ := p
      have hi : i < ts.length := by
        rcases Nat.lt_or_ge i ts.length with h | h
        · exact h
        · rw [List.getElem?_eq_none (by rw [List.length_map]; exact h)] at hx
          cases hx
      obtain ⟨pp, hpp, hpr⟩ := paired_get hk (i := i) (x := ts[i]) (List.getElem?_eq_getElem hi)
      have hpr : H ts[i] = some (.tup [.int pp.1, .int pp.2]) := hpr
      have ex : x = .ref ts[i] := by
        rw [List.getElem?_map, List.getElem?_eq_getElem hi] at hx
        exact (Option.some.inj hx).symm
      subst ex
      obtain ⟨g1, g2, g3, g4⟩ := ok.2.2 pp (List.mem_of_getElem? hpp)
      have lx := log_small g1 g2
      have ly2 := log_small g3 g4
      have tx := int_text_len_1921 lx
      have ty := int_text_len_1921 ly2
      refine ⟨ts[i], _, rfl, SqT.of (s1 _ _ hpr), rfl, _, _, rfl, _, _, rfl, rfl, ?_⟩
      refine ⟨rfl, ?_⟩
      have e0 : (Str.empty).length = 0 := rfl
      have e1 : (Str.ofString " ").length = 1 := by decide +kernel
      have big : ∀ n, n ≤ 4000 → n ≤ sizeLine := fun n h => Nat.le_of_lt (Nat.lt_of_le_of_lt h (by decide))
      refine ⟨_, rfl, .inr ⟨_, rfl, lx, _, rfl, ?_, _, rfl, ?_, _, rfl, .inr ⟨_, rfl, ly2, _, rfl, ?_, _, hd, by rw [List.length_map]; exact small1000 (by omega), fun b o e => ?_, ys ++ [_], by simp [ly], by rw [upd_same, List.map_append]; rfl, fun y hy => ?_⟩⟩⟩
      · rw [str_len]
        exact big _ (by omega)
      · rw [str_len, str_len]
        exact big _ (by omega)
      · rw [str_len, str_len, str_len]
        exact big _ (by omega)
      · rw [upd_ne (ne_of_none e hD)]
        exact s1 _ _ e
      · rcases List.mem_append.mp hy with h | h
        · exact hb y h
        · rw [List.mem_singleton.mp h, str_len, str_len, str_len]
          omega
    · obtain ⟨s1, ys, ly, hd, hb⟩ := p
      refine ⟨_, D, ys, rfl, rfl, .inl (SqL.of hd), ?_, q _ _ s1⟩
      rw [List.length_map, lt] at ly
      have e3 : (Str.ofString " / ").length = 3 := by decide +kernel
      have sm : ∀ ys : List Str, (∀ y ∈ ys, y.length ≤ 4000) → (ys.map (·.length)).sum ≤ 4000 * ys.length := fun ys => by
        induction ys with
        | nil => exact fun _ => Nat.le_refl _
        | cons y ys ih =>
          intro h
          have h1 := h y List.mem_cons_self
          have h2 := ih fun z hz => h z (List.mem_cons_of_mem _ hz)
          rw [List.map_cons, List.sum_cons, List.length_cons]
          omega
      have h1 := sm ys hb
      rw [e3]
      omega
end
end K13

namespace K13
open PySem PySem.Spec PyProof.Rows L2
/-! ### a call of a def in places where no expression stands -/
section
variable {X : Cx} {k : Nat} {f : Addr} {fd : FuncData} {ps : List Str} {sp : Sp}
theorem Env0.around {P : Program} {w : World} {K : PySem.W.Frag} {mg : Str → Option Value} {base : Heap} {A A' : Around} {st : List Env} {s : Shared} {H : Hp} (e : Env0 P w K mg base A st s H) (h : A'.frames = A.frames) : Env0 P w K mg base A' st s H := ⟨by rw [h]; exact e.frames, e.mod, e.bs, e.bsz, e.funs, e.frf, e.hok, e.bare⟩
theorem run_at {A : Around} {pins : List (Addr × Obj)} {σ : L2.St} {H : Hp} {s : Shared} {Q : VK} {us : List Value} {vs : List V} (F : FnOk X.prog X.w X.K X.mg X.base CX0 k f fd ps sp) (hr : Room k A) (hf : A.frames = X.A.frames) (hb : Binds X.K fd ps [])
    (I : Inv X pins σ H s) (r : Vals vs us) (h : sp vs H Q (fun _ _ _ => False)) : wpAny (model X.prog X.w) A (call (.ref f) us) (EP X pins σ Q) X.xe s := by
  have hl := F.len _ _ _ _ h
  refine wpAny_call (codeAny_mono (F.run A X.stack s H ⟨us, []⟩ us vs Q _ hr (Env0.around I.env0 hf) (by
    have := hb s us I.kIn (by rw [List.append_nil, ← r.length]; exact hl)
    rw [List.append_nil] at this
    exact this) r h) fun r s' hq => ?_)
  cases r with
  | error e => exact False.elim hq
  | ok fl =>
    cases fl with
    | ret u => exact I.after hq
    | next => exact False.elim hq
    | brk => exact False.elim hq
    | cont => exact False.elim hq
end
section
variable {prog : Program} {w : World} {A : Around} {E : Value → Shared → Prop} {h : Heap} {g : Array GenState} {d : Drawn} {t : Nat} {os : OsState} {K : PySem.W.Frag} {x C : Addr} {ob : Obj} {od : Option Obj}
theorem special_in {name : Str} {id : String} {args : List Value} {Q : Option Value → Shared → Prop} (Y : K.In h) (J : PySem.W.InstAt h x ob C od) (ha : PySem.W.findIn K (.ref C) name = some (some (.builtin id))) (S : Slot "object" name id)
    (go : wpAny (model prog w) A (call (.builtin id) (.ref x :: args)) (fun v => Q (some v)) E ⟨h, g, d, t, os⟩) : wpAny (model prog w) A (callSpecialIfBound? (.ref x) name args) Q E ⟨h, g, d, t, os⟩ := by
  simp only [callSpecialIfBound?, bindSpecialIfBound?]
  refine wpAny_holding (wpAny_bind (wpAny_bind ?_))
  unfold specialOf
  refine wpAny_bind (J.type.at ((PySem.W.looks_findIn Y ha).at ?_))
  simp only [S.bind]
  refine wpAny_bind (wpAny_askSetting (wpAny_ite ?_))
  have fin : wpAny (model prog w) A (call (.builtin id) ([.ref x] ++ args) >>= fun v => pure (some v)) Q E ⟨h, g, d, t, os⟩ :=
    wpAny_bind (wpAny_mono go (fun v z hz => wpAny_pure hz) fun _ _ hz => hz)
  split
  · exact wpAny_bind (wpAny_pure (wpAny_pure fin))
  · exact wpAny_tryCatch (wpAny_bind (wpAny_pure (wpAny_pure fin)))
end
/-! ### == and != of pictures -/
def rEqP (K : PySem.W.Frag) (C : Addr) : R2 := fun x y H Q => ∃ (a : Addr) (ps : List (Int × Int)) (b : Bool), x = .ref a ∧ PicF H C a ps ∧ Eqs H C ps y b ∧ Q (.bl b) H
def rNeP (K : PySem.W.Frag) (C : Addr) : R2 := fun x y H Q => ∃ (a : Addr) (ps : List (Int × Int)) (b : Bool), x = .ref a ∧ PicF H C a ps ∧ Eqs H C ps y b ∧ Q (.bl (!b)) H
section
variable {X : Cx} {C fE : Addr} {fd : FuncData}
theorem pic_inst {pins : List (Addr × Obj)} {σ : L2.St} {H : Hp} {s : Shared} {a : Addr} {ps : List (Int × Int)} (I : Inv X pins σ H s) (h : PicF H C a ps) : ∃ (ob : Obj) (od : Obj), PySem.W.InstAt s.heap a ob C (some od) := by
  obtain ⟨dx, t, u, e, _⟩ := h
  obtain ⟨mA, J, _⟩ := ins_get I.hok e
  obtain ⟨od, J, _⟩ := J.look
  exact ⟨_, od, J⟩
theorem eqs_type {pins : List (Addr × Obj)} {σ : L2.St} {H : Hp} {s : Shared} {y : V} {u : Value} {b : Bool} {ps : List (Int × Int)} (I : Inv X pins σ H s) (N : PicN X.K C) (ry : RelV y u) (h : Eqs H C ps y b) :
    ∃ tb, PySem.W.Looks (model X.prog X.w) s.heap (typeOf u) tb ∧ PySem.W.notFirst X.K C tb = true := by
  rcases h with ⟨t, np, _⟩ | ⟨q, qs, rfl, hq, _⟩
  · obtain ⟨P, Z, p, _⟩ := kit_of I ry np.ty
    exact ⟨_, Z.ty _ _ I.kIn p, (N.of np).2⟩
  · obtain rfl : u = Value.ref q := ry
    obtain ⟨ob, od, J⟩ := pic_inst I hq
    exact ⟨_, J.type, by simp [PySem.W.notFirst]⟩
theorem op_eqP (G : FnOk X.prog X.w X.K X.mg X.base CX0 1 fE fd ["self", "other"] (spEqP C)) (hs : PySem.W.findIn X.K (.ref C) "__eq__" = some (some (.ref fE))) (hf : PySem.W.isFn X.K (.ref fE) = true) (hb : Binds X.K fd ["self", "other"] []) (N : PicN X.K C) (hr : Room 2 X.A) :
    OpR X (compareOp .Eq) (rEqP X.K C) := by
  intro pins s σ H x y v u Q I rx ry h
  obtain ⟨a, ps, b, rfl, hp, he, q⟩ := h
  obtain rfl : v = Value.ref a := rx
  obtain ⟨ob, od, J⟩ := pic_inst I hp
  obtain ⟨tb, L, nf⟩ := eqs_type I N ry he
  obtain ⟨m, hF⟩ := I.fr
  refine PySem.W.cmp_K (op := .Eq) (tb := tb) hr.units0 hF I.ok.mod.kin J L nf hs hf ?_
  refine wpAny_mono (run_at (vs := [.ref a, y]) (us := [.ref a, u]) (Q := fun r H' => r = .bl b ∧ Q (.bl b) H') G (hr.mono (by decide)) rfl hb I (.cons rfl (.cons ry .nil)) ⟨a, y, ps, b, rfl, hp, he, rfl, q⟩) (fun r s' hq => ?_) fun _ _ z => z
  obtain ⟨v, H', I', rv, ev, q'⟩ := hq
  subst ev
  obtain rfl : r = Value.bool b := rv
  exact ⟨.bl b, H', I', rfl, q'⟩
theorem op_neP (G : FnOk X.prog X.w X.K X.mg X.base CX0 1 fE fd ["self", "other"] (spEqP C)) (hs : PySem.W.findIn X.K (.ref C) "__eq__" = some (some (.ref fE))) (hf : PySem.W.isFn X.K (.ref fE) = true) (hb : Binds X.K fd ["self", "other"] []) (N : PicN X.K C) (T : PicT X.K C) (hr : Room 3 X.A) :
    OpR X (compareOp .NotEq) (rNeP X.K C) := by
  intro pins s σ H x y v u Q I rx ry h
  obtain ⟨a, ps, b, rfl, hp, he, q⟩ := h
  obtain rfl : v = Value.ref a := rx
  obtain ⟨ob, od, J⟩ := pic_inst I hp
  obtain ⟨tb, L, nf⟩ := eqs_type I N ry he
  have hu : X.A.units + 1 < cLine := hu_of hr
  have isO : PySem.W.Looks (model X.prog X.w) s.heap (isInstance (.ref a) (.type "object")) true := J.type.andThen (PySem.W.looks_mroIn I.kIn T.pc.hm)
  have neDone : ∀ {Q' : Fin → Shared → Prop}, (∀ s', (∃ H', Inv X pins σ H' s' ∧ Q (.bl (!b)) H') → Q' (.done (.ret (.bool (!b)))) s') → wpAny (model X.prog X.w) X.A.in1 (Builtin.«object.__ne__» ⟨[.ref a, u], []⟩) Q' X.xe s := fun {Q'} k => by
    unfold Builtin.«object.__ne__»
    have go : wpAny (model X.prog X.w) X.A.in1 (callSpecialIfBound? (.ref a) (Str.ofString "__eq__") [u]) (fun r s' => r = some (.bool b) ∧ ∃ H', Inv X pins σ H' s' ∧ Q (.bl (!b)) H') X.xe s :=
      PySem.W.ifBound_K I.kIn J hs hf (wpAny_mono (run_at (A := X.A.in1) (vs := [.ref a, y]) (us := [.ref a, u]) (Q := fun r H' => r = .bl b ∧ Q (.bl (!b)) H') G (hr.mono (by decide : 2 ≤ 3)).in1 rfl hb I (.cons rfl (.cons ry .nil)) ⟨a, y, ps, b, rfl, hp, he, rfl, q⟩) (fun r s' hq => by
        obtain ⟨v, H', I', rv, ev, q'⟩ := hq
        subst ev
        obtain rfl : r = Value.bool b := rv
        exact ⟨rfl, H', I', q'⟩) fun _ _ z => z)
    repeat (first
      | with_reducible refine wpAny_cRoomFor (show X.A.in1.units < cLine from hu) ?_
      | (refine wpAny_bind (m := callSpecialIfBound? (.ref a) (Str.ofString "__eq__") [u]) (wpAny_mono go (fun r s' hr => by
          obtain ⟨rfl, hq⟩ := hr
          have z := k s' hq
          repeat (first | exact z | exact wpAny_pure z | exact wpAny_truthy_bool z | (refine wpAny_bind (m := truthy (.bool _)) (wpAny_truthy_bool ?_)) | wp_step)) fun _ _ e => e))
      | wp_step)
  have tryDone : wpAny (model X.prog X.w) X.A (tryCompare (.ref a) "__ne__" u) (fun r s' => r = some (.bool (!b)) ∧ ∃ H', Inv X pins σ H' s' ∧ Q (.bl (!b)) H') X.xe s := by
    simp only [tryCompare]
    obtain ⟨hp', g, d, t, os⟩ := s
    refine wpAny_bind (special_in I.kIn J N.ne F.cmp_object.ne (wpAny_call (codeAny_call_builtin F.cmp_object.ne.plain F.cmpEntry_ne (PySem.W.check_slot F.cmpKind_ne F.cmpSplit_ne isO (F.cmpArgs_ne _ _) (neDone (fun s' hq => ?_))))))
    exact wpAny_pure ⟨rfl, hq⟩
  show wpAny _ _ (richCompare .NotEq (.ref a) u) _ _ s
  unfold richCompare
  simp only [oneThing_ref, cmpInfo_NotEq]
  refine wpAny_holding (wpAny_bind (wpAny_cRoomFor (Nat.lt_of_succ_lt hu) ?_))
  refine wpAny_bind (J.type.here (wpAny_bind (L.here ?_)))
  split
  · rename_i q'
    have e : PySem.W.subIn X.K tb (.ref C) = some false := by
      unfold PySem.W.notFirst at nf
      rcases Bool.or_eq_true_iff.mp nf with e | e
      · rw [beq_iff_eq.mp e] at q'; simp at q'
      · exact beq_iff_eq.mp e
    refine wpAny_bind ((PySem.W.looks_subIn I.kIn e).here ?_)
    simp only [Bool.false_eq_true, if_false]
    refine wpAny_bind (wpAny_mono tryDone (fun r s' z => ?_) fun _ _ e => e)
    obtain ⟨rfl, H', I', hq⟩ := z
    exact wpAny_pure ⟨.bl (!b), H', I', rfl, hq⟩
  · refine wpAny_bind (wpAny_pure ?_)
    simp only [Bool.false_eq_true, if_false]
    refine wpAny_bind (wpAny_mono tryDone (fun r s' z => ?_) fun _ _ e => e)
    obtain ⟨rfl, H', I', hq⟩ := z
    exact wpAny_pure ⟨.bl (!b), H', I', rfl, hq⟩
end
end K13

namespace K13
open PySem PySem.Spec PyProof.Rows L2
/-! ### str(picture) -/
def rStrP (C : Addr) : List V → Hp → VK → Prop := fun xs H Q => ∃ (a : Addr) (ps : List (Int × Int)), xs = [.ref a] ∧ PicF H C a ps ∧ OkP ps ∧ ∀ z H', Same H H' → Q (.str z) H'
section
variable {X : Cx} {C fS : Addr} {fd : FuncData}
theorem call_strP (G : FnOk X.prog X.w X.K X.mg X.base CX0 1 fS fd ["self"] (spStrP C)) (hs : PySem.W.findIn X.K (.ref C) "__str__" = some (some (.ref fS))) (hf : PySem.W.isFn X.K (.ref fS) = true) (hb : Binds X.K fd ["self"] []) (hr : Room 3 X.A) : CallR X (.type "str") (rStrP C) := by
  intro pins s σ H xs us Q I r h
  obtain ⟨a, ps, rfl, hp, ok, q⟩ := h
  obtain ⟨u, rfl, ru⟩ := vals1 r
  obtain rfl : u = Value.ref a := ru
  obtain ⟨ob, od, J⟩ := pic_inst I hp
  have hu : X.A.in1.in1.units < cLine := by
    have := hr.un
    show X.A.units + 1 + 1 < cLine
    omega
  refine PySem.W.kso_call hu I.kIn J hs hf (wpAny_mono (run_at (A := X.A.in1.in1) (vs := [.ref a]) (us := [.ref a]) (Q := fun r H' => ∃ z, r = .str z ∧ Q (.str z) H') G (hr.in1.in1) rfl hb I (.cons rfl .nil) ⟨a, ps, rfl, hp, ok, fun z H' s' => ⟨z, rfl, q z H' s'⟩⟩) (fun r s' hq => ?_) fun _ _ z => z)
  obtain ⟨v, H', I', rv, z, ev, q'⟩ := hq
  subst ev
  obtain ⟨t, rfl⟩ := rv
  exact ⟨.str z, H', I', ⟨t, rfl⟩, q'⟩
end
/-! ### a picture is made -/
/-- a new picture with these places -/
def NewP (C : Addr) (ps : List (Int × Int)) (H : Hp) (Q : VK) : Prop := ∀ a H', Same H H' → H a = none → PicF H' C a ps → Q (.ref a) H'
/-- how a picture is made of a value: of places, or refused -/
def MkP (K : PySem.W.Frag) (C CB : Addr) (v : V) (H : Hp) (Q : VK) (E : XK) : Prop := (∃ ps, Pls H v ps ∧ OkP ps ∧ NewP C ps H Q) ∨ (∃ o, RowsV K H v o ∧ plB o = false ∧ Rz CB "places" H E)
theorem rz_same {C : Addr} {z : Str} {H H1 : Hp} {E : XK} (h : Rz C z H E) (s : Same H H1) : Rz C z H1 E := fun d H' s' n e => h d H' (s.trans s') (s.free n) e
theorem mk_in {K : PySem.W.Frag} {C CB : Addr} {v : V} {H : Hp} {Q : VK} {E : XK} (m : MkP K C CB v H Q E) : ∀ x dx, H x = none → H dx = none → dx ≠ x → spPI K C CB [.ref x, v] (upd (upd H dx (.own x)) x (.ins C dx [])) (fun r H2 => r = .non ∧ Q (.ref x) H2) E := fun x dx hx hdx ne => by
  have s0 : Same H (upd (upd H dx (.own x)) x (.ins C dx [])) := fun b o e => by
    rw [upd_ne (ne_of_none e hx), upd_ne (ne_of_none e hdx)]
    exact e
  refine ⟨x, dx, v, rfl, upd_same, ?_⟩
  rcases m with ⟨ps, pls, ok, n⟩ | ⟨o, ro, po, r⟩
  · exact .inl ⟨ps, pls.same s0, ok, fun H' k p => ⟨rfl, n x H' (fun b o e => k b o (ne_of_none e hx) (s0 _ _ e)) hx p⟩⟩
  · exact .inr ⟨o, ro.same s0, po, rz_same r s0⟩
/-- the class of pictures, as its callers see it -/
structure Pc (P : Program) (w : World) (K : PySem.W.Frag) (mg : Str → Option Value) (base : Heap) (C CB : Addr) : Prop where
  mgC : mg "Picture" = some (.ref C)
  t : PicT K C
  n : PicN K C
  ini : ∃ (fI : Addr) (fd : FuncData), Mk K C fI ∧ FnOk P w K mg base (L2.CX P w) 6 fI fd ["self", "places"] (spPI K C CB) ∧ Binds K fd ["self", "places"] [] ∧ KBn K fd ["self", "places"] 1 ["places"] (fun us ws => us ++ ws) (fun vs zs => vs ++ zs)
  eq : ∃ (fE : Addr) (fd : FuncData), FnOk P w K mg base CX0 1 fE fd ["self", "other"] (spEqP C) ∧ PySem.W.findIn K (.ref C) "__eq__" = some (some (.ref fE)) ∧ PySem.W.isFn K (.ref fE) = true ∧ Binds K fd ["self", "other"] []
  st : ∃ (fS : Addr) (fd : FuncData), FnOk P w K mg base CX0 1 fS fd ["self"] (spStrP C) ∧ PySem.W.findIn K (.ref C) "__str__" = some (some (.ref fS)) ∧ PySem.W.isFn K (.ref fS) = true ∧ Binds K fd ["self"] []
  pp : ∃ (f : Addr) (fd : FuncData), Meth K C "products" f ∧ FnOk P w K mg base CX0 2 f fd ["self"] (spPP C) ∧ Binds K fd ["self"] []
  ph : ∃ (f : Addr) (fd : FuncData), Meth K C "is_thin" f ∧ FnOk P w K mg base CX0 2 f fd ["self"] (spPh C) ∧ Binds K fd ["self"] []
section
variable {X : Cx} {C CB : Addr} {x : Str} {e : Expr} {es : List Expr} {kws : List Keyword} {t tk : TA} {p pos : Pos}
/-- Picture(e), which is not refused -/
def tMkP (K : PySem.W.Frag) (C CB : Addr) (E : XK) (t : TA) : TE := fun σ H Q => t σ H fun vs H1 => ∃ v, vs = [v] ∧ MkP K C CB v H1 Q E
theorem pe_mkP {E : XK} (T : Pc X.prog X.w X.K X.mg X.base C CB) (hr : Room 7 X.A) (hx : Passes (L2.CX X.prog X.w) X E) (hg : Gl X "Picture") (ha : PA X (e :: es) t) (he : starEach (e :: es) X.env = (false, eval e X.env) :: starEach es X.env := by rfl) (hpl : (backTo pos (starEach es X.env)).any (·.1) = false := by rfl) :
    PE X (.Call (.Name "Picture" p) (e :: es) [] pos) (tMkP X.K C CB E t) := by
  obtain ⟨fI, fd, M, G, b, _⟩ := T.ini
  refine ⟨fun pins s σ H Q I h => ?_⟩
  refine wpAny_Call_Name_kw (ld_glob I hg T.mgC ?_ (by decide))
  refine PySem.W.callWith_K (h₀ := X.base) I.ok.mod.kin M.kp (thn (ha.run pos pins s σ H _ I h) fun us s1 ⟨vs, H1, I1, r, v, ev, m⟩ => ⟨I1.kIn, ?_⟩) he hpl
  subst ev
  exact run_make (dvs := []) (ds := []) M G hr b .nil hx I1 r (mk_in m)
/-- Picture(places=e) -/
theorem pe_mkPK {E : XK} (T : Pc X.prog X.w X.K X.mg X.base C CB) (hr : Room 7 X.A) (hx : Passes (L2.CX X.prog X.w) X E) (hg : Gl X "Picture") (hkw : PK X kws tk)
    (hall : (backToKw pos (keywordEach kws X.env)).all (·.1.isSome) = true := by rfl) (hks : (backToKw pos (keywordEach kws X.env)).filterMap (·.1) = (["places"] : List Str) := by rfl)
    (hpl : ((backTo pos (starEach [] X.env)).any (·.1) || (backToKw pos (keywordEach kws X.env)).any (·.1.isNone)) = false := by rfl) :
    PE X (.Call (.Name "Picture" p) [] kws pos) (tMkP X.K C CB E tk) := by
  obtain ⟨fI, fd, M, G, _, b⟩ := T.ini
  refine ⟨fun pins s σ H Q I h => ?_⟩
  refine wpAny_Call_Name_kw (ld_glob I hg T.mgC ?_ (by decide))
  refine PySem.W.callWith_KW0 (h₀ := X.base) I.ok.mod.kin M.kp hall ?_ hpl
  refine thn (hkw.run pos pins s σ H _ I h) fun ws s2 ⟨zs, H2, I2, rz, v, ev, m⟩ => ⟨I2.kIn, ?_⟩
  subst ev
  rw [hks]
  exact run_makeN (n := 0) (us := []) (vs := []) M G hr b hx I2 .nil rz rfl rfl (mk_in m)
/-- as run_make, what is raised being wished for at the caller's slots -/
def tMkPS (K : PySem.W.Frag) (C CB : Addr) (E : L2.St → XK) (t : TA) : TE := fun σ H Q => t σ H fun vs H1 => ∃ v, vs = [v] ∧ MkP K C CB v H1 Q (E σ)
theorem pe_mkPS {E : L2.St → XK} (T : Pc X.prog X.w X.K X.mg X.base C CB) (hr : Room 7 X.A) (hx : ∀ σ, PassesAt (L2.CX X.prog X.w) X σ (E σ)) (hg : Gl X "Picture") (ha : PA X (e :: es) t) (he : starEach (e :: es) X.env = (false, eval e X.env) :: starEach es X.env := by rfl) (hpl : (backTo pos (starEach es X.env)).any (·.1) = false := by rfl) :
    PE X (.Call (.Name "Picture" p) (e :: es) [] pos) (tMkPS X.K C CB E t) := by
  obtain ⟨fI, fd, M, G, b, _⟩ := T.ini
  refine ⟨fun pins s σ H Q I h => ?_⟩
  refine wpAny_Call_Name_kw (ld_glob I hg T.mgC ?_ (by decide))
  refine PySem.W.callWith_K (h₀ := X.base) I.ok.mod.kin M.kp (thn (ha.run pos pins s σ H _ I h) fun us s1 ⟨vs, H1, I1, r, v, ev, m⟩ => ⟨I1.kIn, ?_⟩) he hpl
  subst ev
  have hq := mk_in m (s1.heap.objs.size + 1) s1.heap.objs.size (I1.hok.fresh (Nat.le_succ _)) (I1.hok.fresh (Nat.le_refl _)) (Nat.ne_of_lt (Nat.lt_succ_self _))
  have I2 := Inv.made (C := C) I1
  have r2 : Vals [V.ref (s1.heap.objs.size + 1), v] (Value.ref (s1.heap.objs.size + 1) :: us) := .cons rfl r
  have hl : (Value.ref (s1.heap.objs.size + 1) :: us ++ []).length = (["self", "places"] : List Str).length := by
    rw [List.append_nil, ← r2.length]
    rfl
  have bb := b _ (Value.ref (s1.heap.objs.size + 1) :: us) I2.kIn hl
  rw [List.append_nil] at bb
  refine wpAny_call (make_map (f := fI) I1.kIn M.makes M.init (beq_iff_eq.mp M.fn) (codeAny_mono (G.run _ X.stack _ _ ⟨Value.ref (s1.heap.objs.size + 1) :: us, []⟩ (Value.ref (s1.heap.objs.size + 1) :: us) _ _ (E σ) (hr.make C us [])
    (I2.env0.make C us []) bb r2 hq) fun r s' hq' => ?_))
  cases r with
  | error e => exact hx σ pins _ _ e s' I2 hq'
  | ok fl =>
    cases fl with
    | ret u =>
      obtain ⟨v, H', I3, rv, ev, q3⟩ := I2.after hq'
      subst ev
      exact ⟨rv, ⟨V.ref (s1.heap.objs.size + 1), H', I3, rfl, q3⟩⟩
    | next => exact False.elim hq'
    | brk => exact False.elim hq'
    | cont => exact False.elim hq'
end
end K13

namespace K13
open PySem PySem.Spec PyProof.Rows L2
/-! ### floor division by any divisor but 0 -/
def CDivWN (_ j : Int) : Prop := j ≠ 0 ∧ j.natAbs.log2 < 9000
theorem op_fdivWN {X : Cx} : OpR X (binaryOp .FloorDiv) (rI CDivWN fun i j => .int (i.fdiv j)) := opI fun _ _ _ _ _ _ _ hc q => floordiv_int hc.1 q (.inl (PyProof.noPylong_of_log2 hc.2))
theorem cdiv_of {i j : Int} {b : Nat} (h : j ≠ 0) (hb : j.natAbs < 2 ^ b) (h0 : 0 < b) (h9 : b ≤ 9000) : CDivWN i j := ⟨h, Nat.lt_of_lt_of_le (PySem.Flt.log2_lt_of h0 hb) h9⟩
/-! ### the lens -/
/-- but at p all stands as it stood, and what draws keeps its cells -/
def SB (p : Addr) (H H' : Hp) : Prop := (∀ b o, b ≠ p → H b = some o → H' b = some o) ∧ ∀ c x y, H p = some (.lst [.ref c, x, y]) → ∃ x' y', H' p = some (.lst [.ref c, x', y'])
theorem SB.refl (p : Addr) (H : Hp) : SB p H H := ⟨fun _ _ _ h => h, fun _ _ _ h => ⟨_, _, h⟩⟩
theorem SB.trans {p : Addr} {H H1 H2 : Hp} (a : SB p H H1) (b : SB p H1 H2) : SB p H H2 := ⟨fun c o n h => b.1 c o n (a.1 c o n h), fun c x y h => let ⟨_, _, h1⟩ := a.2 c x y h; b.2 _ _ _ h1⟩
theorem SB.of {p : Addr} {H H' : Hp} (s : Same H H') : SB p H H' := ⟨fun b o _ h => s b o h, fun _ _ _ h => ⟨_, _, s _ _ h⟩⟩
theorem SB.set {p c : Addr} {x y x' y' : V} {H : Hp} (e : H p = some (.lst [.ref c, x, y])) : SB p H (upd H p (.lst [.ref c, x', y'])) := ⟨fun b o n h => by
  rw [upd_ne n]
  exact h, fun d _ _ h => by
  rw [e] at h
  have z := V.ref.inj (List.cons.inj (HO.lst.inj (Option.some.inj h))).1
  exact ⟨x', y', by rw [upd_same, z]⟩⟩
/-- the lens at p, of n turns at most -/
def Lens (H : Hp) (p : Addr) (n : Nat) : Prop := ∃ (c : Addr) (ns : List Int) (spot store : Int), H p = some (.lst [.ref c, .int spot, .int store]) ∧ H c = some (.lst (ns.map V.int)) ∧ c ≠ p ∧ 0 ≤ spot ∧ spot ≤ n
theorem Lens.same {H H' : Hp} {p : Addr} {n : Nat} (v : Lens H p n) (s : Same H H') : Lens H' p n := by
  obtain ⟨c, ns, a, b, h1, h2, h⟩ := v
  exact ⟨c, ns, a, b, s _ _ h1, s _ _ h2, h⟩
theorem Lens.le {H : Hp} {p : Addr} {n m : Nat} (v : Lens H p n) (h : n ≤ m) : Lens H p m := by
  obtain ⟨c, ns, a, b, h1, h2, h3, h4, h5⟩ := v
  exact ⟨c, ns, a, b, h1, h2, h3, h4, by omega⟩
theorem Lens.at {H : Hp} {p : Addr} {n : Nat} (v : Lens H p n) : ∃ (c : Addr) (a b : Int), H p = some (.lst [.ref c, .int a, .int b]) := by
  obtain ⟨c, ns, a, b, h1, _⟩ := v
  exact ⟨c, a, b, h1⟩
/-- a thing made later is no part of what draws -/
theorem Lens.upd {H4 H : Hp} {p D : Addr} {n n4 : Nat} {o : HO} (v : Lens H p n) (v4 : Lens H4 p n4) (s : SB p H4 H) (hD : H4 D = none) : Lens (upd H D o) p n := by
  obtain ⟨c, ns, x, y, h1, h2, h3, h4, h5⟩ := v
  obtain ⟨c4, ms, x4, y4, g1, g2, g3, _⟩ := v4
  obtain ⟨x', y', e⟩ := s.2 _ _ _ g1
  rw [h1] at e
  have z : c = c4 := V.ref.inj (List.cons.inj (HO.lst.inj (Option.some.inj e))).1
  subst z
  exact ⟨c, ns, x, y, by rw [upd_ne (ne_of_none g1 hD)]; exact h1, by rw [upd_ne (ne_of_none g2 hD)]; exact h2, h3, h4, h5⟩
/-- a comprehension without a test keeps every item -/
theorem yes_of {T N : Hp → Prop} {σ : L2.St} {H : Hp} (h : T H) : tYes σ H fun b H3 => if b = true then T H3 else N H3 := by
  show if true = true then T H else N H
  rw [if_pos rfl]
  exact h
theorem cut_ints (ns : List Int) (lo hi : Option Int) : ∃ ms : List Int, cutV (ns.map V.int) lo hi = ms.map V.int ∧ ms.length ≤ ns.length := by
  refine ⟨(ns.drop (HT.sIx (ns.map V.int).length 0 lo)).take (HT.sIx (ns.map V.int).length (ns.map V.int).length hi - HT.sIx (ns.map V.int).length 0 lo), ?_, ?_⟩
  · unfold cutV
    rw [List.map_take, List.map_drop]
  · rw [List.length_take, List.length_drop]
    omega
theorem get_ints {ns : List Int} {i : Nat} {x : V} (h : (ns.map V.int)[i]? = some x) : ∃ z, ns[i]? = some z ∧ x = .int z := by
  rw [List.getElem?_map] at h
  cases e : ns[i]? with
  | none =>
    rw [e] at h
    cases h
  | some z =>
    rw [e] at h
    exact ⟨z, rfl, (Option.some.inj h).symm⟩
theorem dp_ints {K : PySem.W.Frag} {H : Hp} : ∀ ns : List Int, DpAll K H (ns.map V.int) (ns.map PyData.int)
  | [] => .nil
  | n :: ns => .cons (.int n) (dp_ints ns)
theorem ix_cells {ns : List Int} {spot : Int} (h0 : 0 ≤ spot) (hn : ns ≠ []) : ∃ z, atI (ns.map V.int) (spot % (ns.map V.int).length) = some (.int z) := by
  have hl : 0 < ns.length := List.length_pos_iff.mpr hn
  have e1 := Int.emod_nonneg spot (show ((ns.map V.int).length : Int) ≠ 0 by rw [List.length_map]; omega)
  have e2 := Int.emod_lt_of_pos spot (show (0 : Int) < ((ns.map V.int).length : Int) by rw [List.length_map]; omega)
  obtain ⟨j, hj⟩ := Int.eq_ofNat_of_zero_le e1
  have hj2 : j < ns.length := by
    rw [List.length_map] at hj e2
    omega
  refine ⟨ns[j], ?_⟩
  rw [hj]
  refine atI_nat ?_
  rw [List.getElem?_map, List.getElem?_eq_getElem hj2]
  rfl
section
variable {P : Program} {w : World} {K : PySem.W.Frag} {mg : Str → Option Value} {base : Heap}
def spLens (K : PySem.W.Frag) : Sp := fun vs H Q _ => ∃ (a : Addr) (ns : List Int), vs = [.ref a] ∧ SqL K H a (ns.map V.int) ∧ ns.length ≤ 63 ∧ ∀ H' p, Same H H' → H p = none → Lens H' p 0 → Q (.ref p) H'
abbrev sLens : Stmt := top 49
theorem scLens : FnScope ["_law_script", "_law_cell"] ["_law_script"] (defScope sLens) := ⟨rfl, rfl, rfl, by decide +kernel, rfl, by decide +kernel, by decide +kernel⟩
theorem ok_lens {f : Addr} {fd : FuncData} (F : Fun K "_law_lens" "_law_lens" sLens f fd) (B : Bn mg) : FnOk P w K mg base CX0 1 f fd ["_law_script"] (spLens K) := by
  refine F.ok scLens (fun vs H Q E h => ?_) (fun cdv A outer s H vs Q E hr h => ?_)
  · obtain ⟨a, ns, rfl, _⟩ := h
    rfl
  · obtain ⟨a, ns, rfl, hS, hl, q⟩ := h
    refine ⟨_, pss_one (ps_ret (pe_lst (pa_cons (pe_lc (own := [("_law_cell", 1)]) (g := gName 1) (tt := tYes) rfl scLens.nd (pi_list (pe_slice sl_list (pv 0) po_none (po_some pe_int))) (blkOk_by (N := ["_law_script", "_law_cell"]) (sc := defScope sLens) (by decide +kernel)) (fun _ _ _ _ _ => pg_name (i := 1) scLens.nd rfl (Or.inl rfl)) (fun _ _ _ _ _ => pts_nil)
      (fun _ _ _ _ _ => pe_callTy call_int1 (by rfl) B.int boot_int (pa_cons (pv 1) pa_nil))) (pa_cons pe_int (pa_cons pe_int pa_nil))))), ?_⟩
    obtain ⟨ms, em, hm⟩ := cut_ints ns none (some 61)
    refine ⟨_, rfl, 61, rfl, a, _, rfl, hS, fun p hp => ?_⟩
    rw [em]
    refine ⟨p, rfl, ⟨_, SqL.of upd_same⟩, fun D hD => ?_⟩
    refine lc_list (K := K) (a := p) (xs := ms.map V.int) (fun i H' => Same (upd H p (.lst (ms.map V.int))) H' ∧ H' D = some (.lst ((ms.map V.int).take i))) ⟨same_new hD, upd_same⟩ (fun i H' _ p' => SqL.of (p'.1 _ _ upd_same)) (fun i x H' hx p' => ?_) (fun H' p' => ?_)
    · obtain ⟨z, _, rfl⟩ := get_ints hx
      refine ⟨rfl, yes_of ?_⟩
      refine ⟨_, rfl, .inl ⟨z, rfl, _, p'.2, ?_, ?_, ?_⟩⟩
      · rw [List.length_take, List.length_map]
        exact small1000 (by omega)
      · intro b o e
        rw [upd_ne (ne_of_none e hD)]
        exact p'.1 b o e
      · rw [upd_same, take_more hx]
    · have e := p'.2
      rw [List.take_length] at e
      refine ⟨by show 3 ≤ sizeLine; decide, fun t ht => ?_⟩
      have s0 : Same H (upd H p (.lst (ms.map V.int))) := same_new hp
      refine q _ t ((s0.trans p'.1).trans (same_new ht)) (s0.free (p'.1.free ht)) ⟨D, ms, 0, 0, upd_same, ?_, ne_of_none e ht, by decide, by decide⟩
      rw [upd_ne (ne_of_none e ht)]
      exact e
theorem mix_lt (x : Int) : 0 ≤ x % 2147483629 ∧ x % 2147483629 < 2147483629 := ⟨Int.emod_nonneg _ (by decide), Int.emod_lt_of_pos _ (by decide)⟩
theorem mixmul (x j : Int) : CMul (x % 2147483629) j := .inl ⟨by have := mix_lt x; omega, by have := mix_lt x; omega⟩
theorem pw5 (x : Int) {spot : Int} (h0 : 0 ≤ spot) (h1 : spot < 60000) : CPow (x % 2147483579 + 81017 * spot + 3137) 5 := by
  have a := Int.emod_nonneg x (show (2147483579 : Int) ≠ 0 by decide)
  have b := Int.emod_lt_of_pos x (show (0 : Int) < 2147483579 by decide)
  exact ⟨by decide, by decide, by omega⟩
theorem pw3 (y spot : Int) (a : 0 ≤ y) (b : y < 2147483629) (h0 : 0 ≤ spot) (h1 : spot < 60000) : CPow (y * (2 * spot + 1931) + 40163 * spot * spot + 81017) 3 := by
  have c1 : y * (2 * spot + 1931) ≤ 2147483629 * 121931 := Int.mul_le_mul (by omega) (by omega) (by omega) (by omega)
  have c0 : 0 ≤ y * (2 * spot + 1931) := Int.mul_nonneg a (by omega)
  have d1 : 40163 * spot * spot ≤ 40163 * 60000 * 60000 := Int.mul_le_mul (by omega) (by omega) (by omega) (by omega)
  have d0 : 0 ≤ 40163 * spot * spot := Int.mul_nonneg (by omega) h0
  exact ⟨by decide, by decide, by omega⟩
def spShot : Sp := fun vs H Q _ => ∃ (p : Addr) (m : Int) (n : Nat), vs = [.ref p, .int m] ∧ Lens H p n ∧ n < 60000 ∧ 0 < m ∧ m.natAbs < 2 ^ 64 ∧ ∀ H' d, SB p H H' → Lens H' p (n + 1) → 0 ≤ d → d < m → Q (.int d) H'
abbrev sShot : Stmt := top 50
abbrev nShot : List Str := ["_law_lens_here", "_law_many", "_law_rest", "_law_turn", "_law_cell", "_law_mixed"]
theorem scShot : FnScope nShot ["_law_lens_here", "_law_many"] (defScope sShot) := ⟨rfl, rfl, rfl, by decide +kernel, rfl, by decide +kernel, by decide +kernel⟩
theorem ok_shot {f : Addr} {fd : FuncData} (F : Fun K "_law_shot" "_law_shot" sShot f fd) (B : Bn mg) : FnOk P w K mg base CX0 1 f fd ["_law_lens_here", "_law_many"] spShot := by
  refine F.ok scShot (fun vs H Q E h => ?_) (fun cdv A outer s H vs Q E hr h => ?_)
  · obtain ⟨p, m, n, rfl, _⟩ := h
    rfl
  · obtain ⟨p, m, n, rfl, ⟨c, ns, spot, store, hp, hc, npc, h0, h1⟩, hn, hm0, hm, q⟩ := h
    have nd := scShot.nd
    refine ⟨_, (pss_cons (ps_if (pt_cmpR op_gt (pe_ix ix_list (pv 0) (pe_int) (fun _ _ => rfl)) pe_int (nomark _))
        (pss_cons ((ps_set (i := 2) nd rfl (Or.inl rfl) ((pe_ix ix_list (pv 0) (pe_int) (fun _ _ => rfl))))) (pss_cons (ps_asg (pe_op op_fdivWN (pe_callTy call_int1 (by rfl) B.int boot_int (pa_cons (pv 2) pa_nil)) (pv 1)) (pg_sub (pv 0) pe_int set_list)) (pss_one (ps_ret (pe_op op_mod (pe_callTy call_int1 (by rfl) B.int boot_int (pa_cons (pv 2) pa_nil)) (pv 1)))))) pss_nil) (pss_cons ((ps_set (i := 3) nd rfl (Or.inl rfl) ((pe_ix ix_list (pv 0) (pe_int) (fun _ _ => rfl))))) (pss_cons (ps_asg (pe_op op_add (pv 3) pe_int) (pg_sub (pv 0) pe_int set_list)) (pss_cons ((ps_set (i := 4) nd rfl (Or.inl rfl) (pe_op op_add (pe_op op_mul pe_int (pv 3)) pe_int))) (pss_cons (ps_if (pt_cmpR (op_neD hr.units) (pe_ix ix_list (pv 0) (pe_int) (fun _ _ => rfl)) (pe_lst pa_nil) (nomark _))
        (pss_one ((ps_set (i := 4) nd rfl (Or.inl rfl) ((pe_ix ix_list ((pe_ix ix_list (pv 0) (pe_int) (fun _ _ => rfl))) (pe_op op_mod (pe_callTy call_int1 (by rfl) B.int boot_int (pa_cons (pv 3) pa_nil)) (pe_callB call_len_seq (by rfl) B.len PySem.boot_len (pa_cons ((pe_ix ix_list (pv 0) (pe_int) (fun _ _ => rfl))) pa_nil))) (fun _ _ => rfl)))))) pss_nil) (pss_cons (ps_if (PW.pt (pw_and (pt_cmpR op_lt (pv 3) (pe_callB call_len_seq (by rfl) B.len PySem.boot_len (pa_cons ((pe_ix ix_list (pv 0) (pe_int) (fun _ _ => rfl))) pa_nil)) (nomark _)) (pw_and1 (pt_cmpR op_ge (pe_callB call_abs (by rfl) B.abs (by decide +kernel) (pa_cons (pv 4) pa_nil)) (pe_op op_pow pe_int pe_int) (nomark _)))))
        (pss_cons ((ps_set (i := 2) nd rfl (Or.inl rfl) (pe_op op_add (pe_op op_mul pe_int (pe_op op_sub (pe_callB call_abs (by rfl) B.abs (by decide +kernel) (pa_cons (pv 4) pa_nil)) (pe_op op_pow pe_int pe_int))) (pe_callTy call_int1 (by rfl) B.int boot_int (pa_cons (pe_cmpR op_lt (pv 4) pe_int (nomark _)) pa_nil))))) (pss_cons (ps_asg (pe_op op_fdivWN (pe_callTy call_int1 (by rfl) B.int boot_int (pa_cons (pv 2) pa_nil)) (pv 1)) (pg_sub (pv 0) pe_int set_list)) (pss_one (ps_ret (pe_op op_mod (pe_callTy call_int1 (by rfl) B.int boot_int (pa_cons (pv 2) pa_nil)) (pv 1)))))) pss_nil) (pss_cons ((ps_set (i := 5) nd rfl (Or.inl rfl) (pe_op op_mod (pe_callTy call_int1 (by rfl) B.int boot_int (pa_cons (pe_op op_pow (pe_op op_add (pe_op op_add (pe_op op_mod (pe_callTy call_int1 (by rfl) B.int boot_int (pa_cons (pv 4) pa_nil)) pe_int) (pe_op op_mul pe_int (pv 3))) pe_int) pe_int) pa_nil)) pe_int))) (pss_cons ((ps_set (i := 5) nd rfl (Or.inl rfl) (pe_op op_mod (pe_callTy call_int1 (by rfl) B.int boot_int (pa_cons (pe_op op_pow (pe_op op_add (pe_op op_add (pe_op op_mul (pv 5) (pe_op op_add (pe_op op_mul pe_int (pv 3)) pe_int)) (pe_op op_mul (pe_op op_mul pe_int (pv 3)) (pv 3))) pe_int) pe_int) pa_nil)) pe_int))) (pss_one (ps_ret (pe_op op_mod (pe_callTy call_int1 (by rfl) B.int boot_int (pa_cons (pe_op op_fdiv (pv 5) pe_int) pa_nil)) (pv 1)))))))))))), ?_⟩
    have hdm : ∀ x : Int, CDivWN x m := fun x => cdiv_of (by omega) hm (by decide) (by decide)
    refine ⟨_, rfl, p, _, 2, _, rfl, rfl, SqL.of hp, rfl, _, _, rfl, rfl, _, rfl, ?_⟩
    have fin : ∀ (x st sp : Int) (H1 : Hp), H1 p = some (.lst [.ref c, .int sp, .int st]) → SB p H H1 → 0 ≤ sp → sp ≤ (n + 1 : Nat) → Q (.int (x % m)) H1 := fun x st sp H1 e s1 h0 h1 =>
      q _ _ s1 ⟨c, ns, sp, st, e, s1.1 _ _ npc hc, npc, h0, h1⟩ (Int.emod_nonneg _ (by omega)) (Int.emod_lt_of_pos _ hm0)
    by_cases hpos : 0 < store
    · rw [decide_eq_true hpos]
      refine iteT ⟨_, rfl, p, _, 2, _, rfl, rfl, SqL.of hp, rfl, ?_⟩
      refine ⟨_, rfl, .inl ⟨_, rfl, _, rfl, _, _, rfl, rfl, hdm _, ?_⟩⟩
      refine ⟨_, rfl, p, _, 2, 2, rfl, rfl, hp, rfl, ?_⟩
      refine ⟨_, rfl, .inl ⟨_, rfl, _, rfl, _, _, rfl, rfl, hm0, ?_⟩⟩
      exact fin store _ spot _ upd_same (SB.set hp) h0 (by omega)
    · rw [decide_eq_false hpos]
      refine iteF ⟨_, rfl, p, _, 1, _, rfl, rfl, SqL.of hp, rfl, ?_⟩
      refine ⟨_, rfl, _, _, rfl, rfl, _, rfl, p, _, 1, 1, rfl, rfl, hp, rfl, ?_⟩
      have hp1 : (upd H p (.lst [.ref c, .int (spot + 1), .int store])) p = some (.lst [.ref c, .int (spot + 1), .int store]) := upd_same
      have s1 : SB p H (upd H p (.lst [.ref c, .int (spot + 1), .int store])) := SB.set hp
      have e1 : upd H p (.lst (List.set [V.ref c, V.int spot, V.int store] 1 (V.int (spot + 1)))) = upd H p (.lst [.ref c, .int (spot + 1), .int store]) := rfl
      generalize hH1 : upd H p (.lst [.ref c, .int (spot + 1), .int store]) = H1 at hp1 s1 e1
      rw [e1]
      refine ⟨_, rfl, _, _, rfl, rfl, .inl ⟨by decide, by decide⟩, _, _, rfl, rfl, ?_⟩
      have hc1 := s1.1 _ _ npc hc
      refine ⟨_, rfl, p, _, 0, _, rfl, rfl, SqL.of hp1, rfl, Nat.zero_le _, fun l hl' => ?_⟩
      have hp2 : upd H1 l (.lst []) p = some (.lst [.ref c, .int (spot + 1), .int store]) := same_new hl' _ _ hp1
      have hc2 : upd H1 l (.lst []) c = some (.lst (ns.map V.int)) := same_new hl' _ _ hc1
      have s2 : SB p H (upd H1 l (.lst [])) := s1.trans (SB.of (same_new hl'))
      have hl2 : upd H1 l (.lst []) l = some (.lst []) := upd_same
      have hsn : spot < 60000 := by omega
      clear hl'
      generalize upd H1 l (.lst []) = H2 at hp2 hc2 s2 hl2
      refine ⟨.list (ns.map PyData.int), .list [], .lst (SqL.of hc2) (dp_ints ns), .lst (SqL.of hl2) .nil, PySem.W.ke_shaped_ints ns, by decide, _, rfl, ?_⟩
      by_cases hnn : ns = []
      · have e : (!PyData.eqv (.list (ns.map PyData.int)) (.list [])) = false := by subst hnn; rfl
        rw [e]
        refine iteF ?_
        generalize 40163 * spot + 3137 = x
        refine ⟨_, rfl, _, rfl, p, _, 0, _, rfl, rfl, SqL.of hp2, rfl, c, _, rfl, .inl (SqL.of hc2), _, _, rfl, rfl, _, rfl, ?_⟩
        refine ite2 (fun ha => ?_) (fun ha => ?_)
        · refine ⟨_, rfl, _, rfl, _, _, rfl, rfl, ⟨by decide, by decide, by decide⟩, _, _, rfl, rfl, _, rfl, ?_⟩
          refine ite2 (fun hb => ?_) (fun hb => ?_)
          · refine ⟨_, rfl, _, rfl, _, _, rfl, rfl, ⟨by decide, by decide, by decide⟩, _, _, rfl, rfl, _, _, rfl, rfl, .inl ⟨by decide, by decide⟩, _, rfl, _, _, rfl, rfl, .inr ⟨_, rfl, _, _, rfl, rfl, ?_⟩⟩
            refine ⟨_, rfl, .inl ⟨_, rfl, _, rfl, _, _, rfl, rfl, hdm _, ?_⟩⟩
            refine ⟨_, rfl, p, _, 2, 2, rfl, rfl, hp2, rfl, ?_⟩
            refine ⟨_, rfl, .inl ⟨_, rfl, _, rfl, _, _, rfl, rfl, hm0, ?_⟩⟩
            exact fin _ _ (spot + 1) _ upd_same (s2.trans (SB.set hp2)) (by omega) (by omega)
          · refine ⟨_, rfl, .inl ⟨_, rfl, _, _, rfl, rfl, (by show (0 : Int) < 2147483579; decide), _, rfl, _, _, rfl, rfl, .inl ⟨by decide, by decide⟩, _, _, rfl, rfl, _, _, rfl, rfl, _, _, rfl, rfl, pw5 _ h0 hsn, .inl ⟨_, rfl, _, _, rfl, rfl, (by show (0 : Int) < 2147483629; decide), ?_⟩⟩⟩
            refine ⟨_, rfl, _, rfl, _, _, rfl, rfl, .inl ⟨by decide, by decide⟩, _, _, rfl, rfl, _, _, rfl, rfl, mixmul _ _, _, rfl, _, _, rfl, rfl, .inl ⟨by decide, by decide⟩, _, rfl, _, _, rfl, rfl, .inr ⟨by omega, by omega⟩, _, _, rfl, rfl, _, _, rfl, rfl, _, _, rfl, rfl, pw3 _ spot (mix_lt _).1 (mix_lt _).2 h0 hsn, .inl ⟨_, rfl, _, _, rfl, rfl, (by show (0 : Int) < 2147483563; decide), ?_⟩⟩
            refine ⟨_, rfl, _, _, rfl, rfl, ⟨by decide, by decide⟩, .inl ⟨_, rfl, _, rfl, _, _, rfl, rfl, hm0, ?_⟩⟩
            exact fin _ _ _ _ hp2 s2 (by omega) (by omega)
        · refine iteF ?_
          refine ⟨_, rfl, .inl ⟨_, rfl, _, _, rfl, rfl, (by show (0 : Int) < 2147483579; decide), _, rfl, _, _, rfl, rfl, .inl ⟨by decide, by decide⟩, _, _, rfl, rfl, _, _, rfl, rfl, _, _, rfl, rfl, pw5 _ h0 hsn, .inl ⟨_, rfl, _, _, rfl, rfl, (by show (0 : Int) < 2147483629; decide), ?_⟩⟩⟩
          refine ⟨_, rfl, _, rfl, _, _, rfl, rfl, .inl ⟨by decide, by decide⟩, _, _, rfl, rfl, _, _, rfl, rfl, mixmul _ _, _, rfl, _, _, rfl, rfl, .inl ⟨by decide, by decide⟩, _, rfl, _, _, rfl, rfl, .inr ⟨by omega, by omega⟩, _, _, rfl, rfl, _, _, rfl, rfl, _, _, rfl, rfl, pw3 _ spot (mix_lt _).1 (mix_lt _).2 h0 hsn, .inl ⟨_, rfl, _, _, rfl, rfl, (by show (0 : Int) < 2147483563; decide), ?_⟩⟩
          refine ⟨_, rfl, _, _, rfl, rfl, ⟨by decide, by decide⟩, .inl ⟨_, rfl, _, rfl, _, _, rfl, rfl, hm0, ?_⟩⟩
          exact fin _ _ _ _ hp2 s2 (by omega) (by omega)
      · have e : (!PyData.eqv (.list (ns.map PyData.int)) (.list [])) = true := by
          cases ns with
          | nil => exact absurd rfl hnn
          | cons => rfl
        rw [e]
        obtain ⟨z, hz⟩ := ix_cells (ns := ns) h0 hnn
        refine iteT ⟨_, rfl, p, _, 0, _, rfl, rfl, SqL.of hp2, rfl, _, rfl, .inl ⟨_, rfl, _, rfl, p, _, 0, _, rfl, rfl, SqL.of hp2, rfl, c, _, rfl, .inl (SqL.of hc2), _, _, rfl, rfl, ?_, c, _, _, _, rfl, rfl, SqL.of hc2, hz, ?_⟩⟩
        · rw [List.length_map]
          have := List.length_pos_iff.mpr hnn
          omega
        generalize z = x
        refine ⟨_, rfl, _, rfl, p, _, 0, _, rfl, rfl, SqL.of hp2, rfl, c, _, rfl, .inl (SqL.of hc2), _, _, rfl, rfl, _, rfl, ?_⟩
        refine ite2 (fun ha => ?_) (fun ha => ?_)
        · refine ⟨_, rfl, _, rfl, _, _, rfl, rfl, ⟨by decide, by decide, by decide⟩, _, _, rfl, rfl, _, rfl, ?_⟩
          refine ite2 (fun hb => ?_) (fun hb => ?_)
          · refine ⟨_, rfl, _, rfl, _, _, rfl, rfl, ⟨by decide, by decide, by decide⟩, _, _, rfl, rfl, _, _, rfl, rfl, .inl ⟨by decide, by decide⟩, _, rfl, _, _, rfl, rfl, .inr ⟨_, rfl, _, _, rfl, rfl, ?_⟩⟩
            refine ⟨_, rfl, .inl ⟨_, rfl, _, rfl, _, _, rfl, rfl, hdm _, ?_⟩⟩
            refine ⟨_, rfl, p, _, 2, 2, rfl, rfl, hp2, rfl, ?_⟩
            refine ⟨_, rfl, .inl ⟨_, rfl, _, rfl, _, _, rfl, rfl, hm0, ?_⟩⟩
            exact fin _ _ (spot + 1) _ upd_same (s2.trans (SB.set hp2)) (by omega) (by omega)
          · refine ⟨_, rfl, .inl ⟨_, rfl, _, _, rfl, rfl, (by show (0 : Int) < 2147483579; decide), _, rfl, _, _, rfl, rfl, .inl ⟨by decide, by decide⟩, _, _, rfl, rfl, _, _, rfl, rfl, _, _, rfl, rfl, pw5 _ h0 hsn, .inl ⟨_, rfl, _, _, rfl, rfl, (by show (0 : Int) < 2147483629; decide), ?_⟩⟩⟩
            refine ⟨_, rfl, _, rfl, _, _, rfl, rfl, .inl ⟨by decide, by decide⟩, _, _, rfl, rfl, _, _, rfl, rfl, mixmul _ _, _, rfl, _, _, rfl, rfl, .inl ⟨by decide, by decide⟩, _, rfl, _, _, rfl, rfl, .inr ⟨by omega, by omega⟩, _, _, rfl, rfl, _, _, rfl, rfl, _, _, rfl, rfl, pw3 _ spot (mix_lt _).1 (mix_lt _).2 h0 hsn, .inl ⟨_, rfl, _, _, rfl, rfl, (by show (0 : Int) < 2147483563; decide), ?_⟩⟩
            refine ⟨_, rfl, _, _, rfl, rfl, ⟨by decide, by decide⟩, .inl ⟨_, rfl, _, rfl, _, _, rfl, rfl, hm0, ?_⟩⟩
            exact fin _ _ _ _ hp2 s2 (by omega) (by omega)
        · refine iteF ?_
          refine ⟨_, rfl, .inl ⟨_, rfl, _, _, rfl, rfl, (by show (0 : Int) < 2147483579; decide), _, rfl, _, _, rfl, rfl, .inl ⟨by decide, by decide⟩, _, _, rfl, rfl, _, _, rfl, rfl, _, _, rfl, rfl, pw5 _ h0 hsn, .inl ⟨_, rfl, _, _, rfl, rfl, (by show (0 : Int) < 2147483629; decide), ?_⟩⟩⟩
          refine ⟨_, rfl, _, rfl, _, _, rfl, rfl, .inl ⟨by decide, by decide⟩, _, _, rfl, rfl, _, _, rfl, rfl, mixmul _ _, _, rfl, _, _, rfl, rfl, .inl ⟨by decide, by decide⟩, _, rfl, _, _, rfl, rfl, .inr ⟨by omega, by omega⟩, _, _, rfl, rfl, _, _, rfl, rfl, _, _, rfl, rfl, pw3 _ spot (mix_lt _).1 (mix_lt _).2 h0 hsn, .inl ⟨_, rfl, _, _, rfl, rfl, (by show (0 : Int) < 2147483563; decide), ?_⟩⟩
          refine ⟨_, rfl, _, _, rfl, rfl, ⟨by decide, by decide⟩, .inl ⟨_, rfl, _, rfl, _, _, rfl, rfl, hm0, ?_⟩⟩
          exact fin _ _ _ _ hp2 s2 (by omega) (by omega)
/-! ### _law_pick -/
def spPick : Sp := fun vs H Q _ => ∃ (p a : Addr) (n : Nat) (xs : List V), vs = [.ref p, .ref a] ∧ Lens H p n ∧ n < 60000 ∧ H a = some (.lst xs) ∧ a ≠ p ∧ 0 < xs.length ∧ xs.length ≤ 1000 ∧ ∀ H' x, SB p H H' → Lens H' p (n + 1) → x ∈ xs → Q x H'
abbrev sPick : Stmt := top 51
theorem scPick : FnScope ["_law_lens_here", "_law_some"] ["_law_lens_here", "_law_some"] (defScope sPick) := ⟨rfl, rfl, rfl, by decide +kernel, rfl, by decide +kernel, by decide +kernel⟩
theorem ok_pick {f : Addr} {fd : FuncData} (F : Fun K "_law_pick" "_law_pick" sPick f fd) (B : Bn mg) (C1 : Callee P w K mg base CX0 1 "_law_shot" ["_law_lens_here", "_law_many"] spShot) : FnOk P w K mg base CX0 2 f fd ["_law_lens_here", "_law_some"] spPick := by
  obtain ⟨f1, fd1, m1, k1, b1, G1⟩ := C1
  refine F.ok scPick (fun vs H Q E h => ?_) (fun cdv A outer s H vs Q E hr h => ?_)
  · obtain ⟨p, a, n, xs, rfl, _⟩ := h
    rfl
  · obtain ⟨p, a, n, xs, rfl, hv, hn, ha, nap, h0, h1, q⟩ := h
    refine ⟨_, pss_one (ps_ret (pe_ix ix_list (pv 1) ((pe_call G1 (hr.mono (by decide)) rfl m1 k1 b1 .nil pass0 (pa_cons (pv 0) (pa_cons ((pe_callB call_len_seq (by rfl) B.len PySem.boot_len (pa_cons (pv 1) pa_nil))) pa_nil)))) (fun _ _ => rfl))), ?_⟩
    refine ⟨_, rfl, _, rfl, _, rfl, a, xs, rfl, .inl (SqL.of ha), p, _, n, rfl, hv, hn, by omega, by rw [Int.natAbs_natCast]; exact Nat.lt_of_le_of_lt h1 (by decide), fun H' d s1 v1 d0 d1 => ?_⟩
    obtain ⟨j, rfl⟩ := Int.eq_ofNat_of_zero_le d0
    have hj : j < xs.length := by omega
    exact ⟨a, xs, _, xs[j], rfl, rfl, SqL.of (s1.1 _ _ nap ha), atI_nat (List.getElem?_eq_getElem hj), q _ _ s1 v1 (List.getElem_mem hj)⟩
end
end K13

namespace K13
open PySem PySem.Spec PyProof.Rows L2
/-! ### a list of pairs -/
def LP (H : Hp) (a : Addr) (ts : List Addr) (ps : List (Int × Int)) : Prop := H a = some (.lst (ts.map V.ref)) ∧ Paired (Pr H) ts ps
theorem Lens.not_tup {H : Hp} {p a : Addr} {n : Nat} {xs : List V} (v : Lens H p n) (h : H a = some (.tup xs)) : a ≠ p := by
  obtain ⟨c, x, y, e⟩ := v.at
  exact L2.ne_of h e (by intro z; cases z)
theorem Lens.not_none {H : Hp} {p a : Addr} {n : Nat} (v : Lens H p n) (h : H a = none) : a ≠ p := by
  obtain ⟨c, x, y, e⟩ := v.at
  exact (ne_of_none e h).symm
theorem Pr.sb {H H' : Hp} {p a : Addr} {n : Nat} {q : Int × Int} (h : Pr H a q) (v : Lens H p n) (s : SB p H H') : Pr H' a q := s.1 _ _ (v.not_tup h) h
theorem prs_sb {H H' : Hp} {p : Addr} {n : Nat} {ts : List Addr} {ps : List (Int × Int)} (h : Paired (Pr H) ts ps) (v : Lens H p n) (s : SB p H H') : Paired (Pr H') ts ps := paired_mono h fun _ _ z => z.sb v s
theorem LP.sb {H H' : Hp} {p a : Addr} {n : Nat} {ts : List Addr} {ps : List (Int × Int)} (h : LP H a ts ps) (v : Lens H p n) (na : a ≠ p) (s : SB p H H') : LP H' a ts ps := ⟨s.1 _ _ na h.1, prs_sb h.2 v s⟩
theorem LP.same {H H' : Hp} {a : Addr} {ts : List Addr} {ps : List (Int × Int)} (h : LP H a ts ps) (s : Same H H') : LP H' a ts ps := ⟨s _ _ h.1, paired_mono h.2 fun _ _ z => s _ _ z⟩
theorem paired_snoc {α β : Type} {R : α → β → Prop} {xs : List α} {ys : List β} {x : α} {y : β} (h : Paired R xs ys) (r : R x y) : Paired R (xs ++ [x]) (ys ++ [y]) := by
  induction h with
  | nil => exact .cons r .nil
  | cons a _ ih => exact .cons a ih
theorem prs_upd {H : Hp} {D : Addr} {xs zs : List V} {ts : List Addr} {ps : List (Int × Int)} (hd : H D = some (.lst xs)) (h : Paired (Pr H) ts ps) : Paired (Pr (upd H D (.lst zs))) ts ps := paired_mono h fun t q z => by
  have z : H t = some (.tup [.int q.1, .int q.2]) := z
  show upd H D (.lst zs) t = _
  rw [upd_ne (L2.ne_of z hd (by intro z; cases z))]
  exact z
theorem LP.snoc {H : Hp} {D g : Addr} {ts : List Addr} {ps : List (Int × Int)} {q : Int × Int} (h : LP H D ts ps) (r : Pr H g q) : LP (upd H D (.lst (ts.map V.ref ++ [V.ref g]))) D (ts ++ [g]) (ps ++ [q]) :=
  ⟨by rw [upd_same, List.map_append]; rfl, prs_upd h.1 (paired_snoc h.2 r)⟩
theorem LP.len {H : Hp} {D : Addr} {ts : List Addr} {ps : List (Int × Int)} (h : LP H D ts ps) : ts.length = ps.length := Paired.length h.2
theorem SB.upd {H4 H : Hp} {p D : Addr} {o : HO} {n : Nat} (v4 : Lens H4 p n) (s : SB p H4 H) (hD : H4 D = none) : SB p H4 (upd H D o) := ⟨fun b o n h => by
  rw [upd_ne (ne_of_none h hD)]
  exact s.1 _ _ n h, fun c x y h => by
  obtain ⟨x', y', e⟩ := s.2 c x y h
  exact ⟨x', y', by rw [upd_ne (ne_of_none h hD)]; exact e⟩⟩
/-- all in reach -/
def InB (B : Int) (ps : List (Int × Int)) : Prop := ∀ p ∈ ps, -B ≤ p.1 ∧ p.1 ≤ B ∧ -B ≤ p.2 ∧ p.2 ≤ B
theorem InB.snoc {B : Int} {ps : List (Int × Int)} {a b : Int} (h : InB B ps) (h1 : -B ≤ a) (h2 : a ≤ B) (h3 : -B ≤ b) (h4 : b ≤ B) : InB B (ps ++ [(a, b)]) := fun p hp => by
  rcases List.mem_append.mp hp with e | e
  · exact h p e
  · rw [List.mem_singleton.mp e]
    exact ⟨h1, h2, h3, h4⟩
theorem InB.nil {B : Int} : InB B [] := fun p h => by cases h
theorem InB.le {B C : Int} {ps : List (Int × Int)} (h : InB B ps) (l : B ≤ C) : InB C ps := fun p hp => by
  have := h p hp
  exact ⟨by omega, by omega, by omega, by omega⟩
theorem InB.set {B : Int} {ps : List (Int × Int)} {j : Nat} {a b : Int} (h : InB B ps) (h1 : -B ≤ a) (h2 : a ≤ B) (h3 : -B ≤ b) (h4 : b ≤ B) : InB B (ps.set j (a, b)) := fun p hp => by
  rcases List.mem_or_eq_of_mem_set hp with e | e
  · exact h p e
  · rw [e]
    exact ⟨h1, h2, h3, h4⟩
theorem paired_set {α β : Type} {R : α → β → Prop} {xs : List α} {ys : List β} {x : α} {y : β} (h : Paired R xs ys) (r : R x y) : ∀ j, Paired R (xs.set j x) (ys.set j y) := by
  induction h with
  | nil => exact fun _ => .nil
  | cons a t ih => exact fun j => match j with
    | 0 => .cons r t
    | j + 1 => .cons a (ih j)
theorem LP.set {H : Hp} {D g : Addr} {ts : List Addr} {ps : List (Int × Int)} {q : Int × Int} (h : LP H D ts ps) (r : Pr H g q) (j : Nat) : LP (upd H D (.lst ((ts.map V.ref).set j (V.ref g)))) D (ts.set j g) (ps.set j q) :=
  ⟨by rw [upd_same, List.map_set], prs_upd h.1 (paired_set h.2 r j)⟩
theorem LP.mem {H : Hp} {D : Addr} {ts : List Addr} {ps : List (Int × Int)} {x : V} (h : LP H D ts ps) (hx : x ∈ ts.map V.ref) : ∃ g q, x = .ref g ∧ q ∈ ps ∧ Pr H g q := by
  obtain ⟨g, hg, rfl⟩ := List.mem_map.mp hx
  obtain ⟨i, hi⟩ := List.mem_iff_getElem?.mp hg
  obtain ⟨q, hq, r⟩ := paired_get h.2 hi
  exact ⟨g, q, rfl, List.mem_of_getElem? hq, r⟩
theorem LP.at {H : Hp} {D : Addr} {ts : List Addr} {ps : List (Int × Int)} {i : Nat} (h : LP H D ts ps) (hi : i < ps.length) : ∃ g q, (ts.map V.ref)[i]? = some (.ref g) ∧ ps[i]? = some q ∧ Pr H g q := by
  obtain ⟨g, hg, r⟩ := paired_of h.2 (List.getElem?_eq_getElem hi)
  exact ⟨g, _, by rw [List.getElem?_map, hg]; rfl, List.getElem?_eq_getElem hi, r⟩
theorem mul_small {a b : Int} (h1 : -4 ≤ a) (h2 : a ≤ 4) (h3 : -3 ≤ b) (h4 : b ≤ 3) : -12 ≤ a * b ∧ a * b ≤ 12 := by
  have : a = -4 ∨ a = -3 ∨ a = -2 ∨ a = -1 ∨ a = 0 ∨ a = 1 ∨ a = 2 ∨ a = 3 ∨ a = 4 := by omega
  rcases this with rfl | rfl | rfl | rfl | rfl | rfl | rfl | rfl | rfl <;> omega
/-- what a comprehension of pairs keeps: m shots a turn -/
def Gw (B : Int) (p D : Addr) (H0 : Hp) (n m i : Nat) (H : Hp) : Prop := SB p H0 H ∧ Lens H p (n + m * i) ∧ ∃ ts ps, ps.length = i ∧ LP H D ts ps ∧ InB B ps
theorem gw_nil {B : Int} {p D : Addr} {H0 : Hp} {n m : Nat} (v : Lens H0 p n) (hD : H0 D = none) : Gw B p D H0 n m 0 (upd H0 D (.lst [])) := ⟨SB.of (same_new hD), (v.same (same_new hD)).le (Nat.le_add_right _ _), [], [], rfl, ⟨upd_same, .nil⟩, InB.nil⟩
theorem gw_step {B : Int} {p D g : Addr} {H0 H' H2 : Hp} {n m i k : Nat} {a b : Int} {ts : List Addr} {ps : List (Int × Int)} (v0 : Lens H0 p k) (hD : H0 D = none) (s : SB p H0 H') (v' : Lens H' p (n + m * i)) (l : ps.length = i) (lp : LP H' D ts ps) (b9 : InB B ps) (hi : i < 7)
    (s2 : SB p H' H2) (v2 : Lens H2 p (n + m * i + m)) (hg : Pr H2 g (a, b)) (h1 : -B ≤ a) (h2 : a ≤ B) (h3 : -B ≤ b) (h4 : b ≤ B) :
    ∃ acc, H2 D = some (.lst acc) ∧ acc.length < sizeLine ∧ Gw B p D H0 n m (i + 1) (upd H2 D (.lst (acc ++ [V.ref g]))) := by
  have nD : D ≠ p := v0.not_none hD
  have lp2 := lp.sb v' nD s2
  exact ⟨_, lp2.1, by rw [List.length_map, lp.len, l]; exact small1000 (by omega), (s.trans s2).upd v0 hD, (v2.upd v0 (s.trans s2) hD).le (by rw [Nat.mul_add]; omega), _, _, by rw [List.length_append, l]; rfl, lp2.snoc hg, b9.snoc h1 h2 h3 h4⟩
section
variable {P : Program} {w : World} {K : PySem.W.Frag} {mg : Str → Option Value} {base : Heap}
/-! ### _law_places -/
def spPlc : Sp := fun vs H Q _ => ∃ (p : Addr) (n : Nat), vs = [.ref p] ∧ Lens H p n ∧ n + 60 < 60000 ∧ ∀ H' a ts ps, SB p H H' → Lens H' p (n + 30) → a ≠ p → LP H' a ts ps → OkP ps → Q (.ref a) H'
abbrev sPlc : Stmt := top 52
abbrev nPlc : List Str := ["_law_lens_here", "_law_pins", "_law_most", "_law_found", "_law_pin"]
theorem scPlc : FnScope nPlc ["_law_lens_here"] (defScope sPlc) := ⟨rfl, rfl, rfl, by decide +kernel, rfl, by decide +kernel, by decide +kernel⟩
theorem ok_plc {f : Addr} {fd : FuncData} (F : Fun K "_law_places" "_law_places" sPlc f fd) (B : Bn mg) (C1 : Callee P w K mg base CX0 1 "_law_shot" ["_law_lens_here", "_law_many"] spShot) (C2 : Callee P w K mg base CX0 2 "_law_pick" ["_law_lens_here", "_law_some"] spPick) :
    FnOk P w K mg base CX0 3 f fd ["_law_lens_here"] spPlc := by
  obtain ⟨f1, fd1, m1, k1, b1, G1⟩ := C1
  obtain ⟨f2, fd2, m2, k2, b2, G2⟩ := C2
  have nd := scPlc.nd
  have eG : G9 = 1000000000 := rfl
  refine F.ok scPlc (fun vs H Q E h => ?_) (fun cdv A outer s H vs Q E hr h => ?_)
  · obtain ⟨p, n, rfl, _⟩ := h
    rfl
  · obtain ⟨p, n, rfl, hv, hn, q⟩ := h
    refine ⟨_, (pss_cons (ps_asg (pe_tup (pa_cons ((pe_call G2 (hr.mono (by decide)) rfl m2 k2 b2 .nil pass0 (pa_cons (pv 0) (pa_cons (pe_lst (pa_cons (pe_int) (pa_cons (pe_int) (pa_cons (pe_int) (pa_cons (pe_int) pa_nil))))) pa_nil)))) (pa_cons ((pe_call G2 (hr.mono (by decide)) rfl m2 k2 b2 .nil pass0 (pa_cons (pv 0) (pa_cons (pe_lst (pa_cons (pe_int) (pa_cons (pe_int) (pa_cons (pe_int) (pa_cons (pe_op op_pow pe_int pe_int) pa_nil))))) pa_nil)))) pa_nil))) (pg_tup rfl (pgs_cons ((pg_name (i := 1) nd rfl (Or.inl rfl))) (pgs_cons (pg_name (i := 2) nd rfl (Or.inr rfl)) pgs_nil)))) (pss_cons (ps_setLc (i := 3) (own := [("_law_pin", 4)]) (g := gName 4) (tt := tYes) rfl nd rfl rfl (sw_true rfl rfl rfl (by decide +kernel)) (pi_range1 rfl B.range (pa_cons (pv 1) pa_nil)) (blkOk_by (N := nPlc) (sc := defScope sPlc) (by decide +kernel)) (fun _ _ _ _ _ => (pg_name (i := 4) nd rfl (Or.inl rfl))) (fun _ _ _ _ _ => pts_nil)
        (fun _ _ _ _ _ => pe_tup (pa_cons (pe_op op_sub (pe_call G1 (hr.mono (by decide)) rfl m1 k1 b1 .nil pass0 (pa_cons (pv 0) (pa_cons (pe_op op_add (pe_op op_mul pe_int (pv 2)) pe_int) pa_nil))) (pv 2)) (pa_cons (pe_op op_sub (pe_call G1 (hr.mono (by decide)) rfl m1 k1 b1 .nil pass0 (pa_cons (pv 0) (pa_cons (pe_op op_add (pe_op op_mul pe_int (pv 2)) pe_int) pa_nil))) (pv 2)) pa_nil)))) (pss_cons (ps_if (pt_cmpR op_eq ((pe_call G1 (hr.mono (by decide)) rfl m1 k1 b1 .nil pass0 (pa_cons (pv 0) (pa_cons (pe_int) pa_nil)))) (pe_int) (nomark _)) (pss_one (ps_asg (pe_ix ix_list (pv 3) ((pe_call G1 (hr.mono (by decide)) rfl m1 k1 b1 .nil pass0 (pa_cons (pv 0) (pa_cons (pv 1) pa_nil)))) (fun _ _ => rfl)) (pg_sub (pv 3) (pe_call G1 (hr.mono (by decide)) rfl m1 k1 b1 .nil pass0 (pa_cons (pv 0) (pa_cons (pv 1) pa_nil))) set_list))) pss_nil) (pss_one (ps_ret (pv 3)))))), ?_⟩
    have fromL : ∀ {H0 H1 : Hp} {l : Addr} {o : HO} {m : Nat}, Lens H0 p m → SB p H H0 → H0 l = none → H1 = upd H0 l o → Lens H1 p m ∧ SB p H H1 ∧ l ≠ p := fun {H0 H1 l o m} v s nl e => by
      subst e
      have sl := same_new (o := o) nl
      exact ⟨v.same sl, s.trans (SB.of sl), v.not_none nl⟩
    refine ⟨_, rfl, by show 4 ≤ sizeLine; decide, fun l1 nl1 => ?_⟩
    obtain ⟨v1, s1, np1⟩ := fromL (o := .lst [V.int 4, V.int 7, V.int 5, V.int 6]) hv (SB.refl p H) nl1 rfl
    refine ⟨p, l1, _, _, rfl, v1, by omega, upd_same, np1, by show 0 < 4; decide, by show 4 ≤ 1000; decide, fun H2 x s2 v2 hx => ?_⟩
    obtain ⟨k, rfl, k4, k7⟩ : ∃ k : Nat, x = .int k ∧ 4 ≤ k ∧ k ≤ 7 := by
      simp only [List.mem_cons, List.not_mem_nil, or_false] at hx
      rcases hx with rfl | rfl | rfl | rfl
      · exact ⟨4, rfl, by decide, by decide⟩
      · exact ⟨7, rfl, by decide, by decide⟩
      · exact ⟨5, rfl, by decide, by decide⟩
      · exact ⟨6, rfl, by decide, by decide⟩
    have s02 := s1.trans s2
    refine ⟨_, rfl, _, _, rfl, rfl, ⟨by decide, by decide, by decide⟩, by show 4 ≤ sizeLine; decide, fun l3 nl3 => ?_⟩
    have e9 : (10 : Int) ^ (Int.toNat 9) = 1000000000 := by decide
    obtain ⟨v3, s3, np3⟩ := fromL (o := .lst [V.int 2, V.int 4, V.int 50, V.int ((10 : Int) ^ (Int.toNat 9))]) v2 s02 nl3 rfl
    refine ⟨p, l3, _, _, rfl, v3, by omega, upd_same, np3, by show 0 < 4; decide, by show 4 ≤ 1000; decide, fun H4 y s4 v4 hy => ?_⟩
    obtain ⟨m, rfl, m0, m9⟩ : ∃ m : Int, y = .int m ∧ 2 ≤ m ∧ m ≤ 1000000000 := by
      simp only [List.mem_cons, List.not_mem_nil, or_false] at hy
      rcases hy with rfl | rfl | rfl | rfl
      · exact ⟨2, rfl, by decide, by decide⟩
      · exact ⟨4, rfl, by decide, by decide⟩
      · exact ⟨50, rfl, by decide, by decide⟩
      · exact ⟨_, rfl, by rw [e9]; decide, by rw [e9]; decide⟩
    have s04 := s3.trans s4
    refine ⟨by show 2 ≤ sizeLine; decide, fun t5 nt5 => ?_⟩
    obtain ⟨v5, s5, _⟩ := fromL (o := .tup [V.int k, V.int m]) v4 s04 nt5 rfl
    refine ⟨t5, _, rfl, SqT.of upd_same, rfl, _, _, rfl, _, _, rfl, rfl, ?_⟩
    generalize upd H4 t5 (.tup [V.int k, V.int m]) = H5 at v5 s5 ⊢
    refine ⟨_, rfl, (k : Int), rfl, by omega, by omega, fun D hD => ?_⟩
    rw [Int.toNat_natCast]
    refine lc_range (lo := 0) (n := k) (Gw G9 p D H5 (n + 2) 2) (gw_nil v5 hD) (fun i H' hi pv => ?_) (fun H6 pv => ?_)
    · obtain ⟨s, v, ts, ps, l, lp, b9⟩ := pv
      refine ⟨rfl, ?_⟩
      refine ⟨_, rfl, _, rfl, _, _, rfl, rfl, .inl ⟨by decide, by decide⟩, _, _, rfl, rfl, p, _, _, rfl, v, by omega, by omega, by omega, fun Ha x sa va xa xb => ⟨_, rfl, _, _, rfl, rfl, ?_⟩⟩
      refine ⟨_, rfl, _, rfl, _, _, rfl, rfl, .inl ⟨by decide, by decide⟩, _, _, rfl, rfl, p, _, _, rfl, va, by omega, by omega, by omega, fun Hb y sb vb ya yb => ⟨_, rfl, _, _, rfl, rfl, ?_⟩⟩
      refine ⟨by show 2 ≤ sizeLine; decide, fun g hg => ?_⟩
      have sg := same_new (o := .tup [V.int (x - m), V.int (y - m)]) hg
      exact gw_step v5 hD s v l lp b9 (by omega) ((sa.trans sb).trans (SB.of sg)) ((vb.same sg).le (by omega)) upd_same (by omega) (by omega) (by omega) (by omega)
    obtain ⟨s, v, ts, ps, l, lp, b9⟩ := pv
    have nD := v5.not_none hD
    refine ⟨_, rfl, p, 3, _, rfl, v, by omega, by decide, by decide, fun H7 d s7 v7 d0 d3 => ⟨rfl, _, rfl, ?_⟩⟩
    have lp7 := lp.sb v nD s7
    have s57 := s.trans s7
    by_cases h0 : d = 0
    · rw [decide_eq_true (show V.int d = V.int 0 by rw [h0])]
      refine iteT ?_
      refine ⟨_, rfl, _, rfl, _, rfl, p, k, _, rfl, v7, by omega, by omega, by omega, fun H8 a1 s8 v8 a10 a11 => ?_⟩
      obtain ⟨i, rfl⟩ := Int.eq_ofNat_of_zero_le a10
      have lp8 := lp7.sb v7 nD s8
      obtain ⟨g, ⟨qa, qb⟩, eg, eq, hg⟩ := lp8.at (i := i) (by omega)
      refine ⟨D, _, _, .ref g, rfl, rfl, SqL.of lp8.1, atI_nat eg, ?_⟩
      refine ⟨_, rfl, _, rfl, _, rfl, p, k, _, rfl, v8, by omega, by omega, by omega, fun H9 a2 s9 v9 a20 a21 => ?_⟩
      obtain ⟨j, rfl⟩ := Int.eq_ofNat_of_zero_le a20
      have lp9 := lp8.sb v8 nD s9
      refine ⟨D, _, _, j, rfl, rfl, lp9.1, ixN_nat (by rw [List.length_map, lp9.len]; omega), ?_⟩
      have lps := lp9.set (g := g) (q := (qa, qb)) (hg.sb v8 s9) j
      obtain ⟨q1, q2, q3, q4⟩ := b9 _ (List.mem_of_getElem? eq)
      have s59 := s57.trans (s8.trans s9)
      exact ⟨_, rfl, q _ _ _ _ (s5.trans (SB.upd v5 s59 hD)) ((v9.upd v5 s59 hD).le (by omega)) nD lps ⟨by rw [List.length_set]; omega, by rw [List.length_set]; omega, InB.set b9 q1 q2 q3 q4⟩⟩
    · rw [decide_eq_false (fun z => h0 (V.int.inj z))]
      exact iteF ⟨_, rfl, q _ _ _ _ (s5.trans s57) (v7.le (by omega)) nD lp7 ⟨by omega, by omega, b9⟩⟩
end
end K13

namespace K13
open PySem PySem.Spec PyProof.Rows L2
/-- numbers of pins as values -/
def nV (ns : List Nat) : List V := (ns.map fun n => ((n : Nat) : Int)).map V.int
theorem nV_len (ns : List Nat) : (nV ns).length = ns.length := by
  unfold nV
  rw [List.length_map, List.length_map]
theorem rg_nV (k : Nat) : rgV 0 (k : Int) = nV (List.range k) := by
  unfold rgV nV
  rw [show ((k : Int) - 0).toNat = k by omega, List.map_map]
  refine List.map_congr_left fun i _ => ?_
  show V.int (0 + (i : Int)) = V.int (i : Int)
  rw [Int.zero_add]
theorem erase_map {α β : Type} (f : α → β) : ∀ (l : List α) (i : Nat), (l.map f).eraseIdx i = (l.eraseIdx i).map f
  | [], _ => rfl
  | _ :: _, 0 => rfl
  | a :: l, i + 1 => by
    show f a :: (l.map f).eraseIdx i = f a :: (l.eraseIdx i).map f
    rw [erase_map f l i]
theorem erase_nV (ns : List Nat) (i : Nat) : (nV ns).eraseIdx i = nV (ns.eraseIdx i) := by
  unfold nV
  rw [erase_map, erase_map]
theorem nV_at {ns : List Nat} {i : Nat} (h : i < ns.length) : (nV ns)[i]? = some (.int (ns[i] : Nat)) := by
  unfold nV
  rw [List.getElem?_map, List.getElem?_map, List.getElem?_eq_getElem h]
  rfl
theorem nV_snoc (ns : List Nat) (x : Nat) : nV (ns ++ [x]) = nV ns ++ [V.int (x : Nat)] := by
  unfold nV
  rw [List.map_append, List.map_append]
  rfl
theorem erase_perm {α : Type} : ∀ {l : List α} {i : Nat} (h : i < l.length), (l[i] :: l.eraseIdx i).Perm l
  | [], _, h => absurd h (Nat.not_lt_zero _)
  | _ :: _, 0, _ => List.Perm.refl _
  | a :: l, i + 1, h => by
    have h' : i < l.length := by simpa using h
    have ih := erase_perm (l := l) (i := i) h'
    show (l[i] :: a :: l.eraseIdx i).Perm (a :: l)
    exact (List.Perm.swap a l[i] (l.eraseIdx i)).trans (List.Perm.cons a ih)
theorem perm_pop {ns fs : List Nat} {i : Nat} (h : i < ns.length) : (ns.eraseIdx i ++ (fs ++ [ns[i]])).Perm (ns ++ fs) := by
  have b : (ns.eraseIdx i ++ (fs ++ [ns[i]])).Perm (ns[i] :: (ns.eraseIdx i ++ fs)) := by
    rw [← List.append_assoc]
    exact List.perm_append_singleton _ _
  exact b.trans (List.Perm.append_right fs (erase_perm h))
section
variable {P : Program} {w : World} {K : PySem.W.Frag} {mg : Str → Option Value} {base : Heap}
/-! ### _law_order -/
def spOrd : Sp := fun vs H Q _ => ∃ (p : Addr) (n k : Nat), vs = [.ref p, .int k] ∧ Lens H p n ∧ n + 10 < 60000 ∧ k ≤ 7 ∧ ∀ H' a ns, SB p H H' → Lens H' p (n + k) → a ≠ p → H a = none → H' a = some (.lst (nV ns)) → ns.Perm (List.range k) → Q (.ref a) H'
abbrev sOrd : Stmt := top 53
abbrev nOrd : List Str := ["_law_lens_here", "_law_pins", "_law_left", "_law_found"]
theorem scOrd : FnScope nOrd ["_law_lens_here", "_law_pins"] (defScope sOrd) := ⟨rfl, rfl, rfl, by decide +kernel, rfl, by decide +kernel, by decide +kernel⟩
theorem ok_ord {f : Addr} {fd : FuncData} (F : Fun K "_law_order" "_law_order" sOrd f fd) (B : Bn mg) (C1 : Callee P w K mg base CX0 1 "_law_shot" ["_law_lens_here", "_law_many"] spShot) : FnOk P w K mg base CX0 2 f fd ["_law_lens_here", "_law_pins"] spOrd := by
  obtain ⟨f1, fd1, m1, k1, b1, G1⟩ := C1
  have nd := scOrd.nd
  refine F.ok scOrd (fun vs H Q E h => ?_) (fun cdv A outer s H vs Q E hr h => ?_)
  · obtain ⟨p, n, k, rfl, _⟩ := h
    rfl
  · obtain ⟨p, n, k, rfl, hv, hn, k7, q⟩ := h
    refine ⟨_, (pss_cons (ps_par (i := 2) (j := 3) rfl nd rfl rfl (by decide) rfl rfl (pa_cons (pe_listRg rfl (by rfl) B.list (prg_1 rfl B.range (pv 1))) (pa_cons (pe_lst pa_nil) pa_nil)) (by rfl)) (pss_cons (ps_while PassesOwn.never (pt_cmpR (op_neD hr.units) (pv 2) (pe_lst pa_nil) (nomark _)) (pss_one (ps_expr (pe_bm PySem.F.plainAttrs_list PySem.F.slot_list_append PySem.F.type_list_append mt_append (pv 3) (pa_cons (pe_bm PySem.F.plainAttrs_list PySem.F.slot_list_pop PySem.F.type_list_pop mt_popAt (pv 2) (pa_cons ((pe_call G1 (hr.mono (by decide)) rfl m1 k1 b1 .nil pass0 (pa_cons (pv 0) (pa_cons ((pe_callB call_len_seq (by rfl) B.len PySem.boot_len (pa_cons (pv 2) pa_nil))) pa_nil)))) pa_nil)) pa_nil))))) (pss_one (ps_ret (pv 3))))), ?_⟩
    refine ⟨_, rfl, (k : Int), rfl, RgOk.of_le (by decide) (by omega) (by decide) (by omega), fun L hL => ?_⟩
    rw [rg_nV]
    have sL := same_new (o := .lst (nV (List.range k))) hL
    have gL : upd H L (.lst (nV (List.range k))) L = some (.lst (nV (List.range k))) := upd_same
    have nLp := hv.not_none hL
    have v1 := hv.same sL
    generalize upd H L (.lst (nV (List.range k))) = H1 at sL gL v1 ⊢
    refine ⟨Nat.zero_le _, fun R hR => ?_⟩
    have sR := same_new (o := .lst []) hR
    have gR : upd H1 R (.lst []) R = some (.lst (nV [])) := upd_same
    have nRp := v1.not_none hR
    have nRL : R ≠ L := (ne_of_none gL hR).symm
    have hR0 := sL.free hR
    have gL2 := sR _ _ gL
    have v2 := v1.same sR
    have s2 : SB p H (upd H1 R (.lst [])) := SB.of (sL.trans sR)
    generalize upd H1 R (.lst []) = H2 at sR gR gL2 v2 s2 ⊢
    refine ⟨_, _, rfl, ?_⟩
    refine ⟨fun m σ H' => ∃ ls fs : List Nat, m = ls.length ∧ σ = [some (.ref p), some (.int k), some (.ref L), some (.ref R)] ∧ SB p H H' ∧ Lens H' p (n + fs.length) ∧ H' L = some (.lst (nV ls)) ∧ H' R = some (.lst (nV fs)) ∧ (ls ++ fs).Perm (List.range k), ⟨_, List.range k, [], rfl, rfl, s2, v2, gL2, gR, by rw [List.append_nil]⟩, fun m σ H' inv => ?_⟩
    obtain ⟨ls, fs, rfl, rfl, s, v, gl, gr, pm⟩ := inv
    have lk : ls.length + fs.length = k := by
      have := pm.length_eq
      rw [List.length_append, List.length_range] at this
      exact this
    refine ⟨_, rfl, Nat.zero_le _, fun e ne => ?_⟩
    have se := same_new (o := .lst []) ne
    have ge : upd H' e (.lst []) e = some (.lst []) := upd_same
    have gl := se _ _ gl
    have gr := se _ _ gr
    have v := v.same se
    have s := s.trans (SB.of se)
    generalize upd H' e (.lst []) = H3 at ge gl gr v s ⊢
    refine ⟨.list ((ls.map fun n => ((n : Nat) : Int)).map PyData.int), .list [], .lst (SqL.of gl) (dp_ints _), .lst (SqL.of ge) .nil, PySem.W.ke_shaped_ints _, by decide, _, rfl, ?_⟩
    by_cases hz : ls = []
    · subst hz
      refine iteF ⟨_, rfl, ?_⟩
      exact q _ _ fs s (v.le (by omega)) nRp hR0 gr pm
    · have e : (!PyData.eqv (.list ((ls.map fun n => ((n : Nat) : Int)).map PyData.int)) (.list [])) = true := by
        cases ls with
        | nil => exact absurd rfl hz
        | cons => rfl
      rw [e]
      have l0 : 0 < ls.length := List.length_pos_iff.mpr hz
      refine iteT ⟨fun σ' H' => ∃ m', m' < ls.length ∧ ∃ ls fs : List Nat, m' = ls.length ∧ σ' = [some (.ref p), some (.int k), some (.ref L), some (.ref R)] ∧ SB p H H' ∧ Lens H' p (n + fs.length) ∧ H' L = some (.lst (nV ls)) ∧ H' R = some (.lst (nV fs)) ∧ (ls ++ fs).Perm (List.range k), fun σ' H' h => h, ?_⟩
      refine ⟨_, rfl, .inl ⟨rfl, _, SqL.of gr⟩, _, rfl, .inl ⟨rfl, _, SqL.of gl⟩, _, rfl, _, rfl, L, _, rfl, .inl (SqL.of gl), p, _, _, rfl, v, by omega, by rw [nV_len]; omega, by rw [Int.natAbs_natCast, nV_len]; exact Nat.lt_of_le_of_lt (show ls.length ≤ 7 by omega) (by decide), fun H4 d s4 v4 d0 d1 => ?_⟩
      rw [nV_len] at d1
      obtain ⟨i, rfl⟩ := Int.eq_ofNat_of_zero_le d0
      have hi : i < ls.length := by omega
      have gl4 := s4.1 _ _ nLp gl
      have gr4 := s4.1 _ _ nRp gr
      refine ⟨L, _, _, i, _, rfl, rfl, gl4, by omega, by omega, (ixN_seq (ixN_nat (by rw [nV_len]; exact hi))).1, nV_at hi, ?_⟩
      rw [erase_nV]
      have hLn := sL
      have sb5 : SB p H (upd H4 L (.lst (nV (ls.eraseIdx i)))) := SB.upd hv (s.trans s4) hL
      have v5 : Lens (upd H4 L (.lst (nV (ls.eraseIdx i)))) p (n + fs.length + 1) := v4.upd hv (s.trans s4) hL
      have gr5 : upd H4 L (.lst (nV (ls.eraseIdx i))) R = some (.lst (nV fs)) := by rw [upd_ne nRL]; exact gr4
      have gl5 : upd H4 L (.lst (nV (ls.eraseIdx i))) L = some (.lst (nV (ls.eraseIdx i))) := upd_same
      generalize upd H4 L (.lst (nV (ls.eraseIdx i))) = H5 at sb5 v5 gr5 gl5 ⊢
      refine ⟨R, _, _, rfl, rfl, gr5, by rw [nV_len]; exact small1000 (by omega), ?_⟩
      have pp := perm_pop (fs := fs) hi
      refine ⟨(ls.eraseIdx i).length, ?_, ls.eraseIdx i, fs ++ [ls[i]], rfl, rfl, SB.upd hv sb5 hR0, (v5.upd hv sb5 hR0).le (by rw [List.length_append]; show n + fs.length + 1 ≤ n + (fs.length + 1); omega), by rw [upd_ne nRL.symm]; exact gl5, by rw [upd_same, nV_snoc], pp.trans pm⟩
      have := pp.length_eq
      rw [List.length_append, List.length_append, List.length_append] at this
      have z : [ls[i]].length = 1 := rfl
      omega
end
end K13

namespace K13
open PySem PySem.Spec PyProof.Rows L2
theorem encL_shaped (ps : List (Int × Int)) : SeqAt.shaped (.list (ps.map en)) = true := by
  show (PyData.canLayAll0 (ps.map en) && decide (PyData.depthAll (ps.map en) + 1 ≤ 64)) = true
  rw [enc_lay, Bool.true_and, decide_eq_true_iff]
  have := enc_depth ps
  omega
theorem LP.dp {K : PySem.W.Frag} {H : Hp} {a : Addr} {ts : List Addr} {ps : List (Int × Int)} (h : LP H a ts ps) : Dp K H (.ref a) (.list (ps.map en)) := .lst (SqL.of h.1) (dp_pairs h.2)
section
variable {P : Program} {w : World} {K : PySem.W.Frag} {mg : Str → Option Value} {base : Heap} {C CB : Addr}
/-! ### _law_stands -/
def spSta (C : Addr) : Sp := fun vs H Q _ => ∃ (a b : Addr) (ts : List Addr) (ps : List (Int × Int)), vs = [.ref a, .ref b] ∧ PicF H C a ps ∧ LP H b ts ps ∧ ps.length ≤ 7 ∧ RB true H Q
abbrev sSta : Stmt := top 54
abbrev nSta : List Str := ["_law_picture", "_law_places_here", "_law_place"]
theorem scSta : FnScope nSta ["_law_picture", "_law_places_here"] (defScope sSta) := ⟨rfl, rfl, rfl, by decide +kernel, rfl, by decide +kernel, by decide +kernel⟩
theorem ok_sta {f : Addr} {fd : FuncData} (F : Fun K "_law_stands" "_law_stands" sSta f fd) (B : Bn mg) (T : Pc P w K mg base C CB) : FnOk P w K mg base CX0 1 f fd ["_law_picture", "_law_places_here"] (spSta C) := by
  have nd := scSta.nd
  have cl := T.t.pc.cls
  refine F.ok scSta (fun vs H Q E h => ?_) (fun cdv A outer s H vs Q E hr h => ?_)
  · obtain ⟨a, b, ts, ps, rfl, _⟩ := h
    rfl
  · obtain ⟨a, b, ts, ps, rfl, pf, lp, l7, q⟩ := h
    refine ⟨_, pss_one (ps_ret (pe_and (pe_callB (r := rIsi K) call_isi (by rfl) B.isinstance boot_isinstance (pa_cons (pv 0) (pa_cons (pe_glob (v := .ref C) rfl T.mgC rfl) pa_nil))) (pe_and ((pe_cmpR (op_eqD hr.units) (pe_lc (own := [("_law_place", 2)]) (g := gName 2) (tt := tYes) rfl nd (pi_tup (pe_fld (pv 0) rfl)) (blkOk_by (N := nSta) (sc := defScope sSta) (by decide +kernel)) (fun _ _ _ _ _ => (pg_name (i := 2) nd rfl (Or.inl rfl))) (fun _ _ _ _ _ => pts_nil) (fun _ _ _ _ _ => (pe_callTy (T := "tuple") (r := rTu K) call_tuK (by rfl) B.tuple (by decide +kernel) (pa_cons (pv 2) pa_nil)))) (pv 1) (nomark _))) (pe_one ((pe_cmpR op_eq (pe_fld (pv 0) rfl) ((pe_callB call_len_seq (by rfl) B.len PySem.boot_len (pa_cons (pv 1) pa_nil))) (nomark _))))))), ?_⟩
    obtain ⟨dx, t, u, ha, ⟨us, ht, pr⟩, _⟩ := id pf
    refine ⟨_, rfl, _, _, _, _, true, rfl, .own _, pf.ty T.t, kit_self, _, rfl, iteT ?_⟩
    refine ⟨_, rfl, a, C, dx, _, .ref t, rfl, ha, cl, T.t.n1, rfl, t, rfl, ⟨_, SqT.of ht⟩, fun D nD => ?_⟩
    refine lc_tup (K := K) (a := t) (xs := us.map V.ref) (fun i => At H D ((us.take i).map V.ref)) ⟨same_new nD, upd_same⟩ (fun i H' _ p => SqT.of (p.1 _ _ ht)) (fun i x H' hx p => ?_) (fun H1 p => ?_)
    · have hi : i < us.length := by
        have := (List.getElem?_eq_some_iff.mp hx).1
        rw [List.length_map] at this
        exact this
      rw [List.getElem?_map, List.getElem?_eq_getElem hi] at hx
      have ex : V.ref us[i] = x := Option.some.inj hx
      subst ex
      obtain ⟨q1, _, hq⟩ := paired_get pr (List.getElem?_eq_getElem hi)
      have hq : H us[i] = some (.tup [.int q1.1, .int q1.2]) := hq
      refine ⟨rfl, _, rfl, us[i], _, rfl, .inr ⟨SqT.of (p.1 _ _ hq), _, p.2, by rw [List.length_map]; exact small1000 (Nat.le_trans (List.length_take_le' _ _) (by rw [Paired.length pr]; omega)), p.step nD Same.me ?_⟩⟩
      rw [take_more (List.getElem?_eq_getElem hi), List.map_append]
      rfl
    · rw [List.length_map, List.take_length] at p
      have lp1 := lp.same p.1
      have lpD : LP H1 D us ps := ⟨p.2, paired_mono pr fun _ _ z => p.1 _ _ z⟩
      refine ⟨_, rfl, _, _, lpD.dp, lp1.dp, encL_shaped _, encL_shaped _, _, rfl, ?_⟩
      have e : PyData.eqv (.list (ps.map en)) (.list (ps.map en)) = decide (ps = ps) := enc_eqv ps ps
      rw [e, decide_eq_true rfl]
      refine iteT ⟨_, rfl, a, C, dx, _, .int ps.length, rfl, p.1 _ _ ha, cl, T.t.n2, rfl, _, rfl, b, _, rfl, .inl (SqL.of lp1.1), rfl, ?_⟩
      rw [decide_eq_true (show V.int (ps.length : Int) = V.int ((ts.map V.ref).length : Int) by rw [List.length_map, lp.len])]
      exact q _ p.1
end
end K13

namespace K13
open PySem PySem.Spec PyProof.Rows L2
section
variable {P : Program} {w : World} {K : PySem.W.Frag} {mg : Str → Option Value} {base : Heap} {C : Addr}
/-! ### first_twice -/
/-- the first that stands twice -/
def TW (ks : List Key) (r : Option Key) : Prop := (r = none ∧ ks.Nodup) ∨ ∃ i k, ks[i]? = some k ∧ k ∈ ks.take i ∧ (ks.take i).Nodup ∧ r = some k
def seenS (ks : List Key) (i : Nat) : Key → Bool := fun k => (ks.take i).any fun j => decide (k = j)
theorem seenS_t {ks : List Key} {i : Nat} {k : Key} : seenS ks i k = true ↔ k ∈ ks.take i := by
  unfold seenS
  rw [List.any_eq_true]
  constructor
  · rintro ⟨j, hj, e⟩
    rw [of_decide_eq_true e]
    exact hj
  · intro h
    exact ⟨k, h, decide_eq_true rfl⟩
def rv : Option Key → V
  | none => .non
  | some k => kV k
theorem get_keys {ks : List Key} {i : Nat} {x : V} (h : (ks.map kV)[i]? = some x) : ∃ k, ks[i]? = some k ∧ x = kV k := by
  rw [List.getElem?_map] at h
  cases e : ks[i]? with
  | none =>
    rw [e] at h
    cases h
  | some z =>
    rw [e] at h
    exact ⟨z, rfl, (Option.some.inj h).symm⟩
def spFt : Sp := fun vs H Q _ => ∃ (a : Addr) (ks : List Key), vs = [.ref a] ∧ Sq H a (ks.map kV) ∧ ks.length ≤ 100 ∧ ∀ H' r, Same H H' → TW ks r → Q (rv r) H'
abbrev sFt : Stmt := top 15
abbrev nFt : List Str := ["values", "seen", "value"]
theorem scFt : FnScope nFt ["values"] (defScope sFt) := ⟨rfl, rfl, rfl, by decide +kernel, rfl, by decide +kernel, by decide +kernel⟩
theorem nodup_snoc {ks : List Key} {k : Key} (h : ks.Nodup) (hk : k ∉ ks) : (ks ++ [k]).Nodup := by
  rw [List.nodup_append]
  exact ⟨h, List.nodup_cons.mpr ⟨List.not_mem_nil, List.nodup_nil⟩, fun a ha b hb => by rw [List.mem_singleton.mp hb]; intro e; exact hk (e ▸ ha)⟩
theorem ok_ft {f : Addr} {fd : FuncData} (F : Fun K "first_twice" "first_twice" sFt f fd) (hset : mg "set" = none) : FnOk P w K mg base CX0 1 f fd ["values"] spFt := by
  have nd := scFt.nd
  refine F.ok scFt (fun vs H Q E h => ?_) (fun cdv A outer s H vs Q E hr h => ?_)
  · obtain ⟨a, ks, rfl, _⟩ := h
    rfl
  · obtain ⟨a, ks, rfl, hs, hl, q⟩ := h
    rcases hs with hs | hs
    · refine ⟨_, (pss_cons ((ps_set (i := 1) nd rfl (Or.inl rfl) (pe_callTy0 cr_set0K (by rfl) hset (by decide +kernel)))) (pss_cons (ps_for PassesOwn.never rfl (pi_list (pv 0)) (pg_name (i := 2) nd rfl (Or.inl rfl)) (pss_cons (ps_if (pt_cmpR or_sinK (pv 2) (pv 1) rfl) (pss_one (ps_ret (pv 2))) pss_nil) (pss_one (ps_expr (pe_saddK (pv 1) (pa_cons (pv 2) pa_nil)))))) (pss_one (ps_ret pe_non)))), ?_⟩
      refine ⟨rfl, fun p hp => ?_⟩
      have s0 := same_new (o := SetK P w p (fun _ => false) 0) hp
      refine ⟨_, rfl, a, rfl, ⟨_, SqL.of (s0 _ _ hs)⟩, ?_⟩
      refine for_list (xs := ks.map kV) (fun i σ H' => Same H H' ∧ (∃ v, σ = [some (.ref a), some (.ref p), v]) ∧ (ks.take i).Nodup ∧ ∃ n, n ≤ i ∧ H' p = some (SetK P w p (seenS ks i) n))
        ⟨s0, ⟨none, rfl⟩, List.nodup_nil, 0, Nat.le_refl _, upd_same⟩ (fun i σ H' _ p' => SqL.of (p'.1 _ _ hs)) ?_ ?_
      · rintro i x σ H' hx ⟨s1, ⟨v, rfl⟩, hnd, n, hn, hS⟩
        obtain ⟨k, hk, rfl⟩ := get_keys hx
        have hi : i < ks.length := by
          rcases Nat.lt_or_ge i ks.length with z | z
          · exact z
          · rw [List.getElem?_eq_none z] at hk
            cases hk
        refine ⟨_, rfl, _, rfl, k, p, _, n, rfl, rfl, hS, _, rfl, ?_⟩
        by_cases hm : k ∈ ks.take i
        · rw [seenS_t.mpr hm]
          exact iteT ⟨_, rfl, q _ (some k) s1 (.inr ⟨i, k, hk, hm, hnd, rfl⟩)⟩
        · have em : seenS ks i k = false := by
            cases e : seenS ks i k with
            | false => rfl
            | true => exact absurd (seenS_t.mp e) hm
          rw [em]
          refine iteF ⟨_, rfl, ⟨p, _, n, rfl, hS⟩, _, rfl, p, k, _, n, rfl, rfl, hS, Nat.lt_of_le_of_lt (show n + 1 ≤ 100 by omega) (by decide +kernel), ?_⟩
          refine ⟨fun b o eb => ?_, ⟨_, rfl⟩, ?_, if seenS ks i k = true then n else n + 1, ?_, ?_⟩
          · have nb : b ≠ p := ne_of_none eb hp
            rw [upd_ne nb]
            exact s1 b o eb
          · rw [take_more hk]
            exact nodup_snoc hnd hm
          · split <;> omega
          · rw [upd_same]
            have e : seenS ks (i + 1) = fun j => seenS ks i j || decide (j = k) := by
              funext j
              unfold seenS
              rw [take_more hk, List.any_append]
              simp
            rw [e]
            rfl
      · rintro σ H' ⟨s1, ⟨v, rfl⟩, hnd, n, hn, hS⟩
        rw [List.length_map, List.take_length] at hnd
        exact q _ none s1 (.inl ⟨rfl, hnd⟩)
    · refine ⟨_, (pss_cons ((ps_set (i := 1) nd rfl (Or.inl rfl) (pe_callTy0 cr_set0K (by rfl) hset (by decide +kernel)))) (pss_cons (ps_for PassesOwn.never rfl (pi_tup (pv 0)) (pg_name (i := 2) nd rfl (Or.inl rfl)) (pss_cons (ps_if (pt_cmpR or_sinK (pv 2) (pv 1) rfl) (pss_one (ps_ret (pv 2))) pss_nil) (pss_one (ps_expr (pe_saddK (pv 1) (pa_cons (pv 2) pa_nil)))))) (pss_one (ps_ret pe_non)))), ?_⟩
      refine ⟨rfl, fun p hp => ?_⟩
      have s0 := same_new (o := SetK P w p (fun _ => false) 0) hp
      refine ⟨_, rfl, a, rfl, ⟨_, SqT.of (s0 _ _ hs)⟩, ?_⟩
      refine for_tup (xs := ks.map kV) (fun i σ H' => Same H H' ∧ (∃ v, σ = [some (.ref a), some (.ref p), v]) ∧ (ks.take i).Nodup ∧ ∃ n, n ≤ i ∧ H' p = some (SetK P w p (seenS ks i) n))
        ⟨s0, ⟨none, rfl⟩, List.nodup_nil, 0, Nat.le_refl _, upd_same⟩ (fun i σ H' _ p' => SqT.of (p'.1 _ _ hs)) ?_ ?_
      · rintro i x σ H' hx ⟨s1, ⟨v, rfl⟩, hnd, n, hn, hS⟩
        obtain ⟨k, hk, rfl⟩ := get_keys hx
        have hi : i < ks.length := by
          rcases Nat.lt_or_ge i ks.length with z | z
          · exact z
          · rw [List.getElem?_eq_none z] at hk
            cases hk
        refine ⟨_, rfl, _, rfl, k, p, _, n, rfl, rfl, hS, _, rfl, ?_⟩
        by_cases hm : k ∈ ks.take i
        · rw [seenS_t.mpr hm]
          exact iteT ⟨_, rfl, q _ (some k) s1 (.inr ⟨i, k, hk, hm, hnd, rfl⟩)⟩
        · have em : seenS ks i k = false := by
            cases e : seenS ks i k with
            | false => rfl
            | true => exact absurd (seenS_t.mp e) hm
          rw [em]
          refine iteF ⟨_, rfl, ⟨p, _, n, rfl, hS⟩, _, rfl, p, k, _, n, rfl, rfl, hS, Nat.lt_of_le_of_lt (show n + 1 ≤ 100 by omega) (by decide +kernel), ?_⟩
          refine ⟨fun b o eb => ?_, ⟨_, rfl⟩, ?_, if seenS ks i k = true then n else n + 1, ?_, ?_⟩
          · have nb : b ≠ p := ne_of_none eb hp
            rw [upd_ne nb]
            exact s1 b o eb
          · rw [take_more hk]
            exact nodup_snoc hnd hm
          · split <;> omega
          · rw [upd_same]
            have e : seenS ks (i + 1) = fun j => seenS ks i j || decide (j = k) := by
              funext j
              unfold seenS
              rw [take_more hk, List.any_append]
              simp
            rw [e]
            rfl
      · rintro σ H' ⟨s1, ⟨v, rfl⟩, hnd, n, hn, hS⟩
        rw [List.length_map, List.take_length] at hnd
        exact q _ none s1 (.inl ⟨rfl, hnd⟩)
end
/-! ### TooMany -/
/-- the exception at a has these fields, its own dict is new -/
def ErN (H H' : Hp) (C : Addr) (fs : List (Str × V)) (a : Addr) : Prop := ∃ d, H d = none ∧ d ≠ a ∧ H' a = some (exo a C (some d)) ∧ H' d = some (exd d fs)
def spIn2 (K : PySem.W.Frag) (f g : Str) : Sp := fun vs H Q _ => ∃ (a C : Addr) (v u : V), vs = [.ref a, v, u] ∧ OexC K C ∧ PySem.W.findIn K (.ref C) f = some none ∧ PySem.W.findIn K (.ref C) g = some none ∧ H a = some (exo a C none) ∧
  ∀ H', (∀ b o, b ≠ a → H b = some o → H' b = some o) → ErN H H' C [(g, u), (f, v)] a → Q .non H'
theorem two_fields {H : Hp} {a C : Addr} {f g : Str} {v u : V} {Q : VK} (q : ∀ H', (∀ b o, b ≠ a → H b = some o → H' b = some o) → ErN H H' C [(g, u), (f, v)] a → Q .non H') :
    ∀ dx, H dx = none → dx ≠ a → Q .non (upd (upd (upd H dx (exd dx [(f, v)])) a (exo a C (some dx))) dx (exd dx [(g, u), (f, v)])) := fun dx n ne => by
  refine q _ (fun b o nb e => ?_) ⟨dx, n, ne, ?_, upd_same⟩
  · rw [upd_ne (ne_of_none e n), upd_ne nb, upd_ne (ne_of_none e n)]
    exact e
  · rw [upd_ne ne.symm]
    exact upd_same
/-- an error of the class at C with these fields is raised -/
def RzF (C : Addr) (fs : List (Str × V)) (H : Hp) (E : XK) : Prop := ∀ d H', Same H H' → H' d = some (.xd fs) → E (.ref C) (some d) H'
theorem rzf_of {C a d : Addr} {fs : List (Str × V)} {H H2 : Hp} {E : XK} (r : RzF C fs H E) (na : H a = none) (k : ∀ b o, b ≠ a → upd H a (exo a C none) b = some o → H2 b = some o) (nd : upd H a (exo a C none) d = none) (ne : d ≠ a) :
    E (.ref C) (some d) (upd (L2.del H2 a) d (.xd fs)) := by
  have hd : H d = none := by
    rw [upd_ne ne] at nd
    exact nd
  refine r d _ (fun b o e => ?_) upd_same
  have b1 : b ≠ d := ne_of_none e hd
  have b2 : b ≠ a := ne_of_none e na
  rw [upd_ne b1, del_ne b2]
  exact k b o b2 (by rw [upd_ne b2]; exact e)
/-- what the top has written of TooMany -/
structure TmT (K : PySem.W.Frag) (mg : Str → Option Value) (C fI : Addr) : Prop where
  oex : OexC K C
  mgC : mg "TooMany" = some (.ref C)
  no1 : PySem.W.findIn K (.ref C) "what" = some none
  no2 : PySem.W.findIn K (.ref C) "most" = some none
  iC : PySem.W.findIn K (.ref C) "__init__" = some (some (.ref fI))
  tI : PySem.W.typeIn K (.ref fI) = some (.type "function")
/-! ### classes of errors with one field -/
structure ErT (K : PySem.W.Frag) (mg : Str → Option Value) (x fld : Str) (C fI : Addr) : Prop where
  oex : OexC K C
  mgC : mg x = some (.ref C)
  noF : PySem.W.findIn K (.ref C) fld = some none
  iC : PySem.W.findIn K (.ref C) "__init__" = some (some (.ref fI))
  tI : PySem.W.typeIn K (.ref fI) = some (.type "function")
/-- an error of the class at C with this one field is raised: its own dict is new -/
def RzV (C : Addr) (fld : Str) (v : V) (H : Hp) (E : XK) : Prop := ∀ d H', Same H H' → H d = none → H' d = some (.xd [(fld, v)]) → E (.ref C) (some d) H'
theorem RzV.same {C : Addr} {fld : Str} {v : V} {H H1 : Hp} {E : XK} (h : RzV C fld v H E) (s : Same H H1) : RzV C fld v H1 E := fun d H' s' n e => h d H' (s.trans s') (s.free n) e
theorem raisedV {H H1 : Hp} {C a dx : Addr} {fld : Str} {v : V} {E : XK} (h : RzV C fld v H E) (s1 : Same H H1) (ha : H1 a = none) (hd : upd H1 a (exo a C none) dx = none) (ne : dx ≠ a) :
    E (.ref C) (some dx) (upd (L2.del (upd (upd (upd H1 a (exo a C none)) dx (exd dx [(fld, v)])) a (exo a C (some dx))) a) dx (.xd [(fld, v)])) := by
  have hd1 : H1 dx = none := by
    rw [upd_ne ne] at hd
    exact hd
  refine h dx _ (fun b o e => ?_) (s1.free hd1) upd_same
  have e1 := s1 b o e
  have nb : b ≠ dx := ne_of_none e1 hd1
  have na : b ≠ a := ne_of_none e1 ha
  rw [upd_ne nb, del_ne na, upd_ne na, upd_ne nb, upd_ne na]
  exact e1
section
variable {P : Program} {w : World} {K : PySem.W.Frag} {mg : Str → Option Value} {base : Heap}
/-- an __init__ that keeps one field -/
def spE1 (K : PySem.W.Frag) (fld : Str) (C : Addr) : Sp := fun vs H Q _ => ∃ (a : Addr) (y : V), vs = [.ref a, y] ∧ OexC K C ∧ PySem.W.findIn K (.ref C) fld = some none ∧ H a = some (exo a C none) ∧
  ∀ dx, H dx = none → dx ≠ a → Q .non (upd (upd H dx (exd dx [(fld, y)])) a (exo a C (some dx)))
abbrev sNI : Stmt := inClass (top 3) 0
theorem scNI : FnScope ["self", "part"] ["self", "part"] (defScope sNI) := ⟨rfl, rfl, rfl, by decide +kernel, rfl, by decide +kernel, by decide +kernel⟩
theorem ok_ni {f C : Addr} {fd : FuncData} (F : Fun K "__init__" "BadNumber.__init__" sNI f fd) : FnOk P w K mg base CX0 1 f fd ["self", "part"] (spE1 K "part" C) := by
  refine F.ok scNI (fun vs H Q E h => ?_) (fun cdv A outer s H vs Q E hr h => ?_)
  · obtain ⟨a, y, rfl, _⟩ := h
    rfl
  · obtain ⟨a, y, rfl, T, no, ha, q⟩ := h
    exact ⟨_, pss_one (ps_ost (pv 0) (pv 1)), _, rfl, _, rfl, a, C, rfl, T, no, .inl ⟨ha, q⟩⟩
abbrev sFI : Stmt := inClass (top 5) 0
theorem scFI : FnScope ["self", "part"] ["self", "part"] (defScope sFI) := ⟨rfl, rfl, rfl, by decide +kernel, rfl, by decide +kernel, by decide +kernel⟩
theorem ok_fi {f C : Addr} {fd : FuncData} (F : Fun K "__init__" "Misfit.__init__" sFI f fd) : FnOk P w K mg base CX0 1 f fd ["self", "part"] (spE1 K "part" C) := by
  refine F.ok scFI (fun vs H Q E h => ?_) (fun cdv A outer s H vs Q E hr h => ?_)
  · obtain ⟨a, y, rfl, _⟩ := h
    rfl
  · obtain ⟨a, y, rfl, T, no, ha, q⟩ := h
    exact ⟨_, pss_one (ps_ost (pv 0) (pv 1)), _, rfl, _, rfl, a, C, rfl, T, no, .inl ⟨ha, q⟩⟩
abbrev sVI : Stmt := inClass (top 6) 0
theorem scVI : FnScope ["self", "value"] ["self", "value"] (defScope sVI) := ⟨rfl, rfl, rfl, by decide +kernel, rfl, by decide +kernel, by decide +kernel⟩
theorem ok_vi {f C : Addr} {fd : FuncData} (F : Fun K "__init__" "Missing.__init__" sVI f fd) : FnOk P w K mg base CX0 1 f fd ["self", "value"] (spE1 K "value" C) := by
  refine F.ok scVI (fun vs H Q E h => ?_) (fun cdv A outer s H vs Q E hr h => ?_)
  · obtain ⟨a, y, rfl, _⟩ := h
    rfl
  · obtain ⟨a, y, rfl, T, no, ha, q⟩ := h
    exact ⟨_, pss_one (ps_ost (pv 0) (pv 1)), _, rfl, _, rfl, a, C, rfl, T, no, .inl ⟨ha, q⟩⟩
abbrev sWI : Stmt := inClass (top 8) 0
theorem scWI : FnScope ["self", "value"] ["self", "value"] (defScope sWI) := ⟨rfl, rfl, rfl, by decide +kernel, rfl, by decide +kernel, by decide +kernel⟩
theorem ok_wi {f C : Addr} {fd : FuncData} (F : Fun K "__init__" "Twice.__init__" sWI f fd) : FnOk P w K mg base CX0 1 f fd ["self", "value"] (spE1 K "value" C) := by
  refine F.ok scWI (fun vs H Q E h => ?_) (fun cdv A outer s H vs Q E hr h => ?_)
  · obtain ⟨a, y, rfl, _⟩ := h
    rfl
  · obtain ⟨a, y, rfl, T, no, ha, q⟩ := h
    exact ⟨_, pss_one (ps_ost (pv 0) (pv 1)), _, rfl, _, rfl, a, C, rfl, T, no, .inl ⟨ha, q⟩⟩
abbrev sTI : Stmt := inClass (top 9) 0
theorem scTI : FnScope ["self", "what", "most"] ["self", "what", "most"] (defScope sTI) := ⟨rfl, rfl, rfl, by decide +kernel, rfl, by decide +kernel, by decide +kernel⟩
theorem ok_ti {f : Addr} {fd : FuncData} (F : Fun K "__init__" "TooMany.__init__" sTI f fd) : FnOk P w K mg base CX0 1 f fd ["self", "what", "most"] (spIn2 K "what" "most") := by
  refine F.ok scTI (fun vs H Q E h => ?_) (fun cdv A outer s H vs Q E hr h => ?_)
  · obtain ⟨a, C, v, u, rfl, _⟩ := h
    rfl
  · obtain ⟨a, C, v, u, rfl, T, no1, no2, ha, q⟩ := h
    refine ⟨_, pss_cons (ps_ost (pv 0) (pv 1)) (pss_one (ps_ost (pv 0) (pv 2))), _, rfl, _, rfl, a, C, rfl, T, no1, .inl ⟨ha, fun dx n ne => ?_⟩⟩
    exact ⟨_, rfl, _, rfl, a, C, rfl, T, no2, .inr ⟨dx, _, upd_same, by rw [upd_ne ne]; exact upd_same, (by show 1 ≤ 900; decide), two_fields q dx n ne⟩⟩
end
end K13

namespace K13
open PySem PySem.Spec PyProof.Rows L2
/-! ### numbers of pins, judged -/
def pinOk (k : Nat) (x : V) : Bool := within x 0 ((k : Int) - 1)
inductive WJ (K : PySem.W.Frag) (H : Hp) (k : Nat) : V → Option V → Prop
  | no {v : V} (h : Kd K H v false) : WJ K H k v (some v)
  | seq {a : Addr} {xs : List V} (hs : Sq H a xs) (hk : ∀ x ∈ xs, ∃ t, Kd K H x t) (hl : xs.length ≤ 100) : WJ K H k (.ref a) (xs.find? fun x => !pinOk k x)
theorem WJ.same {K : PySem.W.Frag} {H H' : Hp} {k : Nat} {v : V} {r : Option V} (j : WJ K H k v r) (s : Same H H') : WJ K H' k v r := by
  cases j with
  | no h => exact .no (h.same s)
  | seq hs hk hl => exact .seq (hs.same s) (fun x hx => let ⟨t, h⟩ := hk x hx; ⟨t, h.same s⟩) hl
/-- a list or a tuple of these numbers, each of a pin -/
structure PinL (H : Hp) (a : Addr) (ns : List Nat) (k : Nat) : Prop where
  sq : Sq H a (nV ns)
  len : ns.length ≤ 100
  lt : ∀ n ∈ ns, n < k
theorem PinL.same {H H' : Hp} {a : Addr} {ns : List Nat} {k : Nat} (h : PinL H a ns k) (s : Same H H') : PinL H' a ns k := ⟨h.sq.same s, h.len, h.lt⟩
def ksN (ns : List Nat) : List Key := ns.map fun n => Sum.inl ((n : Nat) : Int)
theorem ksN_v (ns : List Nat) : (ksN ns).map kV = nV ns := by
  unfold ksN nV
  rw [List.map_map, List.map_map]
  rfl
theorem ksN_nd {ns : List Nat} : (ksN ns).Nodup ↔ ns.Nodup := by
  unfold ksN
  rw [List.Nodup, List.pairwise_map]
  constructor
  · intro h
    refine h.imp fun {a b} n e => n (by rw [e])
  · intro h
    refine h.imp fun {a b} n e => n (by have := Sum.inl.inj e; omega)
/-- the first number that stands twice -/
def TwN (ns : List Nat) (j : Nat) : Prop := ∃ i, ns[i]? = some j ∧ j ∈ ns.take i ∧ (ns.take i).Nodup
theorem tw_none {ns : List Nat} (h : TW (ksN ns) none) : ns.Nodup := by
  rcases h with ⟨_, h⟩ | ⟨_, _, _, _, _, e⟩
  · exact ksN_nd.mp h
  · cases e
theorem tw_some {ns : List Nat} {k : Key} (h : TW (ksN ns) (some k)) : ∃ j, k = Sum.inl ((j : Nat) : Int) ∧ TwN ns j := by
  rcases h with ⟨e, _⟩ | ⟨i, k', h1, h2, h3, e⟩
  · cases e
  · cases e
    unfold ksN at h1 h2 h3
    rw [List.getElem?_map] at h1
    cases q : ns[i]? with
    | none =>
      rw [q] at h1
      cases h1
    | some j =>
      rw [q] at h1
      have ek : (Sum.inl ((j : Nat) : Int) : Key) = k := Option.some.inj h1
      subst ek
      refine ⟨j, rfl, i, q, ?_, ?_⟩
      · rw [← List.map_take] at h2
        obtain ⟨m, hm, em⟩ := List.mem_map.mp h2
        have : (m : Int) = j := Sum.inl.inj em
        have : m = j := by omega
        rw [← this]
        exact hm
      · rw [← List.map_take] at h3
        exact ksN_nd.mp h3
theorem nV_pin {k : Nat} : ∀ {xs : List V}, xs.find? (fun x => !pinOk k x) = none → ∃ ns, xs = nV ns ∧ ∀ n ∈ ns, n < k := by
  intro xs
  induction xs with
  | nil => exact fun _ => ⟨[], rfl, fun n h => by cases h⟩
  | cons x xs ih =>
    intro h
    rw [List.find?_cons] at h
    cases e : pinOk k x with
    | false =>
      rw [e] at h
      cases h
    | true =>
      rw [e] at h
      obtain ⟨ns, rfl, hl⟩ := ih h
      cases x with
      | int i =>
        have e : (decide (0 ≤ i) && decide (i ≤ (k : Int) - 1)) = true := e
        rw [Bool.and_eq_true] at e
        have e1 := of_decide_eq_true e.1
        have e2 := of_decide_eq_true e.2
        obtain ⟨m, rfl⟩ := Int.eq_ofNat_of_zero_le e1
        refine ⟨m :: ns, rfl, fun n hn => ?_⟩
        rcases List.mem_cons.mp hn with z | z
        · omega
        · exact hl n z
      | _ => cases e
theorem pinOk_nat {k n : Nat} : pinOk k (.int (n : Nat)) = decide (n < k) := by
  show (decide ((0 : Int) ≤ (n : Int)) && decide ((n : Int) ≤ (k : Int) - 1)) = _
  rw [decide_eq_true (show (0 : Int) ≤ (n : Int) by omega), Bool.true_and, Bool.eq_iff_iff, decide_eq_true_iff, decide_eq_true_iff]
  omega
theorem find_pins {k : Nat} {ns : List Nat} (h : ∀ n ∈ ns, n < k) : (nV ns).find? (fun x => !pinOk k x) = none := by
  rw [List.find?_eq_none]
  intro x hx
  unfold nV at hx
  rw [List.map_map] at hx
  obtain ⟨n, hn, rfl⟩ := List.mem_map.mp hx
  show ¬ (!pinOk k (.int (n : Nat))) = true
  rw [pinOk_nat, decide_eq_true (h n hn)]
  decide
theorem find_first {α : Type} {f : α → Bool} : ∀ {xs : List α} {i : Nat} {x : α}, xs[i]? = some x → f x = true → (∀ y ∈ xs.take i, f y = false) → xs.find? f = some x
  | a :: xs, 0, x, e, h, _ => by
    have e : a = x := Option.some.inj e
    subst e
    rw [List.find?_cons, h]
  | a :: xs, i + 1, x, e, h, n => by
    rw [List.find?_cons, n a (by rw [List.take_succ_cons]; exact List.mem_cons_self)]
    exact find_first (xs := xs) (i := i) (by simpa using e) h fun y hy => n y (by rw [List.take_succ_cons]; exact List.mem_cons_of_mem _ hy)
section
variable {P : Program} {w : World} {K : PySem.W.Frag} {mg : Str → Option Value} {base : Heap}
/-! ### _first_wrong -/
def spFW (K : PySem.W.Frag) : Sp := fun vs H Q _ => ∃ (v : V) (k : Nat) (r : Option V), vs = [v, .int k] ∧ WJ K H k v r ∧ ∀ H' t, Same H H' → H' t = some (.tup r.toList) → Q (.ref t) H'
abbrev sFW : Stmt := top 18
abbrev nFW : List Str := ["values", "many", "value"]
theorem scFW : FnScope nFW ["values", "many"] (defScope sFW) := ⟨rfl, rfl, rfl, by decide +kernel, rfl, by decide +kernel, by decide +kernel⟩
theorem ok_fw {f : Addr} {fd : FuncData} (F : Fun K "_first_wrong" "_first_wrong" sFW f fd) (C1 : Callee P w K mg base CX0 1 "is_list" ["value"] (spIsList K)) (C2 : Callee P w K mg base CX0 2 "is_within" ["value", "least", "most"] (spWithin K)) : FnOk P w K mg base CX0 3 f fd ["values", "many"] (spFW K) := by
  obtain ⟨f1, fd1, m1, k1, b1, G1⟩ := C1
  obtain ⟨f2, fd2, m2, k2, b2, G2⟩ := C2
  have nd := scFW.nd
  refine F.ok scFW (fun vs H Q E h => ?_) (fun cdv A outer s H vs Q E hr h => ?_)
  · obtain ⟨v, k, r, rfl, _⟩ := h
    rfl
  · obtain ⟨v, k, r, rfl, j, q⟩ := h
    cases j with
    | no h =>
      refine ⟨_, pss_cons (ps_if (pt_not (pt_val (pe_call G1 (hr.mono (by decide)) rfl m1 k1 b1 .nil pass0 (pa_cons (pv 0) pa_nil)))) (pss_one (ps_ret (pe_tup (pa_cons (pv 0) pa_nil)))) pss_nil) pss_never, ?_⟩
      refine ⟨_, rfl, v, false, rfl, h, fun H1 s1 => ⟨_, rfl, iteT ⟨_, rfl, by show 1 ≤ sizeLine; decide, fun t ht => ?_⟩⟩⟩
      exact q _ t (s1.trans (same_new ht)) upd_same
    | @seq a xs hs hk hl =>
      have sq := hs
      have turn : ∀ {i : Nat} {x : V}, xs[i]? = some x → (∀ y ∈ xs.take i, pinOk k y = true) → (pinOk k x = true → ∀ y ∈ xs.take (i + 1), pinOk k y = true) ∧ (pinOk k x = false → xs.find? (fun x => !pinOk k x) = some x) := fun {i x} hx al => ⟨fun e y hy => by
          rw [take_more hx] at hy
          rcases List.mem_append.mp hy with z | z
          · exact al y z
          · rw [List.mem_singleton.mp z]
            exact e, fun e => find_first hx (by rw [e]; rfl) fun y hy => by rw [al y hy]; rfl⟩
      have none_of : (∀ y ∈ xs.take xs.length, pinOk k y = true) → xs.find? (fun x => !pinOk k x) = none := fun h => by
        rw [List.take_length] at h
        rw [List.find?_eq_none]
        intro x hx
        rw [h x hx]
        decide
      rcases hs with hs | hs
      · refine ⟨_, (pss_cons (ps_if (pt_not (pt_val (pe_call G1 (hr.mono (by decide)) rfl m1 k1 b1 .nil pass0 (pa_cons (pv 0) pa_nil)))) (pss_one (ps_ret (pe_tup (pa_cons (pv 0) pa_nil)))) pss_nil) (pss_cons (ps_for PassesOwn.never rfl (pi_list (pv 0)) (pg_name (i := 2) nd rfl (Or.inl rfl)) (pss_one (ps_if (pt_not (pt_val (pe_call G2 (hr.mono (by decide)) rfl m2 k2 b2 .nil pass0 (pa_cons (pv 2) (pa_cons (pe_int) (pa_cons (pe_op op_sub (pv 1) pe_int) pa_nil)))))) (pss_one (ps_ret (pe_tup (pa_cons (pv 2) pa_nil)))) pss_nil))) (pss_one (ps_ret (pe_tup pa_nil))))), ?_⟩
        refine ⟨_, rfl, _, true, rfl, sq.kd, fun H1 s1 => ⟨_, rfl, iteF ?_⟩⟩
        refine ⟨_, rfl, a, rfl, ⟨_, SqL.of (s1 _ _ hs)⟩, ?_⟩
        refine for_list (K := K) (a := a) (xs := xs) (fun i σ H' => Same H1 H' ∧ (∀ y ∈ xs.take i, pinOk k y = true) ∧ ∃ c, σ = [some (.ref a), some (.int k), c]) ⟨Same.me, (fun y h => by cases h), _, rfl⟩ (fun i σ H' _ p => SqL.of (p.1 _ _ (s1 _ _ hs))) (fun i x σ H' hx p => ?_) (fun σ H' p => ?_)
        · obtain ⟨s2, al, c, rfl⟩ := p
          obtain ⟨tx, kx⟩ := hk x (List.mem_of_getElem? hx)
          refine ⟨_, rfl, _, rfl, _, _, rfl, rfl, x, tx, 0, (k : Int) - 1, rfl, (kx.same s1).same s2, _, rfl, ?_⟩
          cases e : within x 0 ((k : Int) - 1) with
          | true => exact iteF ⟨s2, (turn hx al).1 e, _, rfl⟩
          | false =>
            refine iteT ⟨_, rfl, by show 1 ≤ sizeLine; decide, fun t ht => ?_⟩
            refine q _ t ((s1.trans s2).trans (same_new ht)) ?_
            rw [(turn hx al).2 e]
            exact upd_same
        · obtain ⟨s2, al, c, rfl⟩ := p
          refine ⟨by show 0 ≤ sizeLine; decide, fun t ht => q _ t ((s1.trans s2).trans (same_new ht)) ?_⟩
          rw [none_of al]
          exact upd_same
      · refine ⟨_, (pss_cons (ps_if (pt_not (pt_val (pe_call G1 (hr.mono (by decide)) rfl m1 k1 b1 .nil pass0 (pa_cons (pv 0) pa_nil)))) (pss_one (ps_ret (pe_tup (pa_cons (pv 0) pa_nil)))) pss_nil) (pss_cons (ps_for PassesOwn.never rfl (pi_tup (pv 0)) (pg_name (i := 2) nd rfl (Or.inl rfl)) (pss_one (ps_if (pt_not (pt_val (pe_call G2 (hr.mono (by decide)) rfl m2 k2 b2 .nil pass0 (pa_cons (pv 2) (pa_cons (pe_int) (pa_cons (pe_op op_sub (pv 1) pe_int) pa_nil)))))) (pss_one (ps_ret (pe_tup (pa_cons (pv 2) pa_nil)))) pss_nil))) (pss_one (ps_ret (pe_tup pa_nil))))), ?_⟩
        refine ⟨_, rfl, _, true, rfl, sq.kd, fun H1 s1 => ⟨_, rfl, iteF ?_⟩⟩
        refine ⟨_, rfl, a, rfl, ⟨_, SqT.of (s1 _ _ hs)⟩, ?_⟩
        refine for_tup (K := K) (a := a) (xs := xs) (fun i σ H' => Same H1 H' ∧ (∀ y ∈ xs.take i, pinOk k y = true) ∧ ∃ c, σ = [some (.ref a), some (.int k), c]) ⟨Same.me, (fun y h => by cases h), _, rfl⟩ (fun i σ H' _ p => SqT.of (p.1 _ _ (s1 _ _ hs))) (fun i x σ H' hx p => ?_) (fun σ H' p => ?_)
        · obtain ⟨s2, al, c, rfl⟩ := p
          obtain ⟨tx, kx⟩ := hk x (List.mem_of_getElem? hx)
          refine ⟨_, rfl, _, rfl, _, _, rfl, rfl, x, tx, 0, (k : Int) - 1, rfl, (kx.same s1).same s2, _, rfl, ?_⟩
          cases e : within x 0 ((k : Int) - 1) with
          | true => exact iteF ⟨s2, (turn hx al).1 e, _, rfl⟩
          | false =>
            refine iteT ⟨_, rfl, by show 1 ≤ sizeLine; decide, fun t ht => ?_⟩
            refine q _ t ((s1.trans s2).trans (same_new ht)) ?_
            rw [(turn hx al).2 e]
            exact upd_same
        · obtain ⟨s2, al, c, rfl⟩ := p
          refine ⟨by show 0 ≤ sizeLine; decide, fun t ht => q _ t ((s1.trans s2).trans (same_new ht)) ?_⟩
          rw [none_of al]
          exact upd_same
end
end K13

namespace K13
open PySem PySem.Spec PyProof.Rows L2
theorem tw_excl {ks : List Key} {k : Key} (h : TW ks (some k)) : ¬ ks.Nodup := fun nd => by
  rcases h with ⟨e, _⟩ | ⟨i, k', h1, h2, _, _⟩
  · cases e
  · have hi : i < ks.length := (List.getElem?_eq_some_iff.mp h1).1
    have hm : k' ∈ ks.drop i := List.mem_of_getElem? (i := 0) (by rw [List.getElem?_drop, Nat.add_zero]; exact h1)
    rw [← List.take_append_drop i ks, List.nodup_append] at nd
    exact nd.2.2 k' h2 k' hm rfl
/-- a class of errors with one field, as it is raised -/
def ErM (P : Program) (w : World) (K : PySem.W.Frag) (mg : Str → Option Value) (base : Heap) (x fld : Str) (C : Addr) : Prop :=
  ∃ (fI : Addr) (fd : FuncData), ErT K mg x fld C fI ∧ FnOk P w K mg base CX0 1 fI fd ["self", fld] (spE1 K fld C) ∧ Binds K fd ["self", fld] []
section
variable {P : Program} {w : World} {K : PySem.W.Frag} {mg : Str → Option Value} {base : Heap} {CP CW CF : Addr}
/-! ### _check_unlike -/
def spCU (CW : Addr) : Sp := fun vs H Q E => ∃ (a : Addr) (ks : List Key), vs = [.ref a] ∧ Sq H a (ks.map kV) ∧ ks.length ≤ 100 ∧ (TW ks none → ∀ H', Same H H' → Q .non H') ∧ ∀ k, TW ks (some k) → RzV CW "value" (kV k) H E
abbrev sCU : Stmt := top 19
theorem scCU : FnScope ["values"] ["values"] (defScope sCU) := ⟨rfl, rfl, rfl, by decide +kernel, rfl, by decide +kernel, by decide +kernel⟩
theorem kv_non (k : Key) : kV k ≠ .non := by
  cases k <;> exact fun z => nomatch z
theorem ok_cu {f : Addr} {fd : FuncData} (F : Fun K "_check_unlike" "_check_unlike" sCU f fd) (M1 : ErM P w K mg base "Twice" "value" CW) (C1 : Callee P w K mg base CX0 1 "first_twice" ["values"] spFt) : FnOk P w K mg base (L2.CX P w) 3 f fd ["values"] (spCU CW) := by
  obtain ⟨f1, fd1, m1, k1, b1, G1⟩ := C1
  obtain ⟨fI, fdI, T1, GE1, bE1⟩ := M1
  have nd := scCU.nd
  refine F.okX scCU (fun vs H Q E h => ?_) (fun cdv A outer s H vs Q E hr h => ?_)
  · obtain ⟨a, ks, rfl, _⟩ := h
    rfl
  · obtain ⟨a, ks, rfl, hs, hl, hy, hn⟩ := h
    refine ⟨_, pss_one (ps_if (pt_cmpR op_notN (pe_call G1 (hr.mono (by decide)) rfl m1 k1 b1 .nil pass0 (pa_cons (pv 0) pa_nil)) pe_non (nomark _)) (pss_one (ps_raise rfl (takes_of rfl rfl rfl rfl) (pmk_oex T1.oex T1.iC T1.tI GE1 (hr.mono (by decide)) bE1 .nil pass0 rfl T1.mgC (pa_cons ((pe_call G1 (hr.mono (by decide)) rfl m1 k1 b1 .nil pass0 (pa_cons (pv 0) pa_nil))) pa_nil)))) pss_nil), ?_⟩
    refine ⟨_, rfl, a, ks, rfl, hs, hl, fun H1 r s1 tw => ⟨rfl, _, rfl, ?_⟩⟩
    cases r with
    | none => exact iteF (hy tw _ s1)
    | some k =>
      have e : (!decide (rv (some k) = V.non)) = true := by
        rw [decide_eq_false (show ¬ rv (some k) = V.non from kv_non k)]
        rfl
      rw [e]
      refine iteT ⟨_, rfl, a, ks, rfl, hs.same s1, hl, fun H2 r2 s2 tw2 => ?_⟩
      cases r2 with
      | none =>
        rcases tw2 with ⟨_, nd2⟩ | ⟨_, _, _, _, _, z⟩
        · exact absurd nd2 (tw_excl tw)
        · cases z
      | some k2 =>
        refine ⟨by show 1 ≤ 1000; decide, fun x hx => ?_⟩
        exact ⟨x, _, rfl, T1.oex, T1.noF, upd_same, fun dx hdx ne => ⟨rfl, dx, _, upd_same, by rw [upd_ne ne]; exact upd_same, by rw [upd_ne ne] at hdx; exact hdx, raisedV (hn _ tw2) (s1.trans s2) hx hdx ne⟩⟩
/-! ### check_pin -/
def spC1 (K : PySem.W.Frag) (CP : Addr) : Sp := fun vs H Q E => ∃ (v : V) (t : Bool) (k : Nat), vs = [v, .int k] ∧ Kd K H v t ∧ (pinOk k v = true → Q .non H) ∧ (pinOk k v = false → RzV CP "value" v H E)
abbrev sC1 : Stmt := top 20
theorem scC1 : FnScope ["value", "many"] ["value", "many"] (defScope sC1) := ⟨rfl, rfl, rfl, by decide +kernel, rfl, by decide +kernel, by decide +kernel⟩
theorem ok_c1 {f : Addr} {fd : FuncData} (F : Fun K "check_pin" "check_pin" sC1 f fd) (M1 : ErM P w K mg base "NoPin" "value" CP) (C1 : Callee P w K mg base CX0 2 "is_within" ["value", "least", "most"] (spWithin K)) : FnOk P w K mg base (L2.CX P w) 3 f fd ["value", "many"] (spC1 K CP) := by
  obtain ⟨f1, fd1, m1, k1, b1, G1⟩ := C1
  obtain ⟨fI, fdI, T1, GE1, bE1⟩ := M1
  have nd := scC1.nd
  refine F.okX scC1 (fun vs H Q E h => ?_) (fun cdv A outer s H vs Q E hr h => ?_)
  · obtain ⟨v, t, k, rfl, _⟩ := h
    rfl
  · obtain ⟨v, t, k, rfl, kd, hy, hn⟩ := h
    refine ⟨_, pss_one (ps_if (pt_not (pt_val (pe_call G1 (hr.mono (by decide)) rfl m1 k1 b1 .nil pass0 (pa_cons (pv 0) (pa_cons (pe_int) (pa_cons (pe_op op_sub (pv 1) pe_int) pa_nil)))))) (pss_one (ps_raise rfl (takes_of rfl rfl rfl rfl) (pmk_oex T1.oex T1.iC T1.tI GE1 (hr.mono (by decide)) bE1 .nil pass0 rfl T1.mgC (pa_cons (pv 0) pa_nil)))) pss_nil), ?_⟩
    refine ⟨_, rfl, _, rfl, _, _, rfl, rfl, v, t, 0, (k : Int) - 1, rfl, kd, _, rfl, ?_⟩
    cases e : within v 0 ((k : Int) - 1) with
    | true => exact iteF (hy e)
    | false =>
      refine iteT ⟨_, rfl, by show 1 ≤ 1000; decide, fun x hx => ?_⟩
      exact ⟨x, _, rfl, T1.oex, T1.noF, upd_same, fun dx hdx ne => ⟨rfl, dx, _, upd_same, by rw [upd_ne ne]; exact upd_same, by rw [upd_ne ne] at hdx; exact hdx, raisedV (hn e) Same.me hx hdx ne⟩⟩
/-! ### check_pins -/
def spCP (K : PySem.W.Frag) (CP CW : Addr) : Sp := fun vs H Q E => ∃ (v : V) (k : Nat), vs = [v, .int k] ∧
  ((∃ x, WJ K H k v (some x) ∧ RzV CP "value" x H E) ∨ (∃ a ns, v = .ref a ∧ PinL H a ns k ∧ (ns.Nodup → ∀ H', Same H H' → Q .non H') ∧ ∀ j, TwN ns j → RzV CW "value" (.int (j : Nat)) H E))
abbrev sCP : Stmt := top 21
abbrev nCP : List Str := ["values", "many", "wrong"]
theorem scCP : FnScope nCP ["values", "many"] (defScope sCP) := ⟨rfl, rfl, rfl, by decide +kernel, rfl, by decide +kernel, by decide +kernel⟩
theorem PinL.wj {K : PySem.W.Frag} {H : Hp} {a : Addr} {ns : List Nat} {k : Nat} (h : PinL H a ns k) : WJ K H k (.ref a) none := by
  have z : WJ K H k (.ref a) ((nV ns).find? fun x => !pinOk k x) := .seq h.sq (fun x hx => by
    unfold nV at hx
    obtain ⟨i, _, rfl⟩ := List.mem_map.mp hx
    exact ⟨_, .int i⟩) (by rw [nV_len]; exact h.len)
  rw [find_pins h.lt] at z
  exact z
theorem ok_cp {f : Addr} {fd : FuncData} (F : Fun K "check_pins" "check_pins" sCP f fd) (M1 : ErM P w K mg base "NoPin" "value" CP) (C1 : Callee P w K mg base CX0 3 "_first_wrong" ["values", "many"] (spFW K)) (C2 : Callee P w K mg base (L2.CX P w) 3 "_check_unlike" ["values"] (spCU CW)) : FnOk P w K mg base (L2.CX P w) 4 f fd ["values", "many"] (spCP K CP CW) := by
  obtain ⟨f1, fd1, m1, k1, b1, G1⟩ := C1
  obtain ⟨f2, fd2, m2, k2, b2, G2⟩ := C2
  obtain ⟨fI, fdI, T1, GE1, bE1⟩ := M1
  have nd := scCP.nd
  refine F.okX scCP (fun vs H Q E h => ?_) (fun cdv A outer s H vs Q E hr h => ?_)
  · obtain ⟨v, k, rfl, _⟩ := h
    rfl
  · obtain ⟨v, k, rfl, h⟩ := h
    refine ⟨_, (pss_cons ((ps_set (i := 2) nd rfl (Or.inl rfl) ((pe_call G1 (hr.mono (by decide)) rfl m1 k1 b1 .nil pass0 (pa_cons (pv 0) (pa_cons (pv 1) pa_nil)))))) (pss_cons (ps_if (pt_truth (pv 2) (fun _ => rfl)) (pss_one (ps_raise rfl (takes_of rfl rfl rfl rfl) (pmk_oex T1.oex T1.iC T1.tI GE1 (hr.mono (by decide)) bE1 .nil pass0 rfl T1.mgC (pa_cons ((pe_ix ix_tup (pv 2) (pe_int) (fun _ _ => rfl))) pa_nil)))) pss_nil) (pss_one (ps_expr (pe_callS (E := fun _ => E) G2 (hr.mono (by decide)) rfl m2 k2 b2 (fun σ => passAt (takes_of rfl rfl rfl rfl) σ) (pa_cons (pv 0) pa_nil)))))), ?_⟩
    rcases h with ⟨x, j, r⟩ | ⟨a, ns, rfl, pl, hy, hn⟩
    · refine ⟨_, rfl, _, rfl, v, k, some x, rfl, j, fun H1 t s1 ht => ?_⟩
      refine ⟨_, rfl, true, .inr (.inl ⟨_, SqT.of ht, rfl⟩), iteT ⟨_, rfl, t, _, 0, x, rfl, rfl, SqT.of ht, rfl, by show 1 ≤ 1000; decide, fun e he => ?_⟩⟩
      exact ⟨e, _, rfl, T1.oex, T1.noF, upd_same, fun dx hdx ne => ⟨rfl, dx, _, upd_same, by rw [upd_ne ne]; exact upd_same, by rw [upd_ne ne] at hdx; exact hdx, raisedV r s1 he hdx ne⟩⟩
    · refine ⟨_, rfl, _, rfl, .ref a, k, none, rfl, pl.wj, fun H1 t s1 ht => ?_⟩
      refine ⟨_, rfl, false, .inr (.inl ⟨_, SqT.of ht, rfl⟩), iteF ?_⟩
      refine ⟨_, rfl, a, ksN ns, rfl, by rw [ksN_v]; exact pl.sq.same s1, by unfold ksN; rw [List.length_map]; exact pl.len, fun tw H2 s2 => hy (tw_none tw) H2 (s1.trans s2), fun k' tw => ?_⟩
      obtain ⟨j, rfl, hj⟩ := tw_some tw
      exact (hn j hj).same s1
/-! ### check_order -/
def spCO (K : PySem.W.Frag) (CP CW CF : Addr) : Sp := fun vs H Q E => ∃ (v : V) (k : Nat), vs = [v, .int k] ∧
  ((∃ x, WJ K H k v (some x) ∧ RzV CP "value" x H E) ∨ (∃ a ns, v = .ref a ∧ PinL H a ns k ∧ (ns.Nodup → k ≤ ns.length → ∀ H', Same H H' → Q .non H') ∧ (ns.Nodup → ns.length < k → RzV CF "part" (.str "pins") H E) ∧ ∀ j, TwN ns j → RzV CW "value" (.int (j : Nat)) H E))
abbrev sCO : Stmt := top 22
theorem scCO : FnScope ["values", "many"] ["values", "many"] (defScope sCO) := ⟨rfl, rfl, rfl, by decide +kernel, rfl, by decide +kernel, by decide +kernel⟩
theorem ok_co {f : Addr} {fd : FuncData} (F : Fun K "check_order" "check_order" sCO f fd) (B : Bn mg) (M1 : ErM P w K mg base "Misfit" "part" CF) (C1 : Callee P w K mg base (L2.CX P w) 4 "check_pins" ["values", "many"] (spCP K CP CW)) : FnOk P w K mg base (L2.CX P w) 5 f fd ["values", "many"] (spCO K CP CW CF) := by
  obtain ⟨f1, fd1, m1, k1, b1, G1⟩ := C1
  obtain ⟨fI, fdI, T1, GE1, bE1⟩ := M1
  have nd := scCO.nd
  refine F.okX scCO (fun vs H Q E h => ?_) (fun cdv A outer s H vs Q E hr h => ?_)
  · obtain ⟨v, k, rfl, _⟩ := h
    rfl
  · obtain ⟨v, k, rfl, h⟩ := h
    refine ⟨_, (pss_cons (ps_expr (pe_callS (E := fun _ => E) G1 (hr.mono (by decide)) rfl m1 k1 b1 (fun σ => passAt (takes_of rfl rfl rfl rfl) σ) (pa_cons (pv 0) (pa_cons (pv 1) pa_nil)))) (pss_one (ps_if (pt_cmpR op_lt ((pe_callB call_len_seq (by rfl) B.len PySem.boot_len (pa_cons (pv 0) pa_nil))) (pv 1) (nomark _)) (pss_one (ps_raise rfl (takes_of rfl rfl rfl rfl) (pmk_oex T1.oex T1.iC T1.tI GE1 (hr.mono (by decide)) bE1 .nil pass0 rfl T1.mgC (pa_cons (pe_str) pa_nil)))) pss_nil))), ?_⟩
    rcases h with ⟨x, j, r⟩ | ⟨a, ns, rfl, pl, hy, hs, hn⟩
    · exact ⟨_, rfl, _, rfl, v, k, rfl, .inl ⟨x, j, r⟩⟩
    · refine ⟨_, rfl, _, rfl, .ref a, k, rfl, .inr ⟨a, ns, rfl, pl, fun ndp H1 s1 => ?_, hn⟩⟩
      refine ⟨_, rfl, a, _, rfl, (pl.sq.same s1).elim (fun z => .inl (SqL.of z)) (fun z => .inr (SqT.of z)), _, rfl, _, _, rfl, rfl, _, rfl, ?_⟩
      rw [nV_len]
      by_cases hlt : ns.length < k
      · rw [decide_eq_true (show ((ns.length : Nat) : Int) < (k : Int) by omega)]
        refine iteT ⟨by show 1 ≤ 1000; decide, fun e he => ?_⟩
        exact ⟨e, _, rfl, T1.oex, T1.noF, upd_same, fun dx hdx ne => ⟨rfl, dx, _, upd_same, by rw [upd_ne ne]; exact upd_same, by rw [upd_ne ne] at hdx; exact hdx, raisedV (hs ndp hlt) s1 he hdx ne⟩⟩
      · rw [decide_eq_false (show ¬ ((ns.length : Nat) : Int) < (k : Int) by omega)]
        exact iteF (hy ndp (by omega) _ s1)
end
end K13

namespace K13
open PySem PySem.Spec PyProof.Rows L2
theorem pla_prs {H : Hp} {ts : List Addr} {ps : List (Int × Int)} (h : Paired (Pr H) ts ps) : Paired (PlA H) (ts.map V.ref) ps := by
  induction h with
  | nil => exact .nil
  | cons a _ ih => exact .cons ⟨_, rfl, .inr a⟩ ih
theorem LP.pls {H : Hp} {a : Addr} {ts : List Addr} {ps : List (Int × Int)} (h : LP H a ts ps) : Pls H (.ref a) ps := ⟨a, _, rfl, .inl h.1, pla_prs h.2⟩

theorem pe_fldK {X : Cx} {e : Expr} {ta : TE} {f : Str} {pos : Pos} (K : PySem.W.Frag) (he : PE X e ta) (hb : attributeBase e f X.env (eval e X.env) = eval e X.env) (h : X.K = K := by rfl) : PE X (.Attribute e f pos) (tFld K ta f) := by subst h; exact pe_fld he hb
/-! ### places in an order -/
def pick (ps : List (Int × Int)) (ns : List Nat) : List (Int × Int) := ns.map fun n => ps.getD n (0, 0)
def tsel (ts : List Addr) (ns : List Nat) : List Addr := ns.map fun n => ts.getD n 0
theorem pick_prs {H H' : Hp} {ts : List Addr} {ps : List (Int × Int)} (pr : Paired (Pr H) ts ps) : ∀ {ns : List Nat}, (∀ n ∈ ns, n < ps.length) → (∀ g q, Pr H g q → Pr H' g q) → Paired (Pr H') (tsel ts ns) (pick ps ns)
  | [], _, _ => .nil
  | n :: ns, h, s => by
    have hn := h n List.mem_cons_self
    obtain ⟨g, eg, r⟩ := paired_of pr (List.getElem?_eq_getElem hn)
    refine .cons ?_ (pick_prs pr (fun m hm => h m (List.mem_cons_of_mem _ hm)) s)
    have e1 : ts.getD n 0 = g := by rw [List.getD_eq_getElem?_getD, eg]; rfl
    have e2 : ps.getD n (0, 0) = ps[n] := by rw [List.getD_eq_getElem?_getD, List.getElem?_eq_getElem hn]; rfl
    show Pr H' (ts.getD n 0) (ps.getD n (0, 0))
    rw [e1, e2]
    exact s _ _ r
theorem pick_ok {ps : List (Int × Int)} {ns : List Nat} (ok : OkP ps) (h : ∀ n ∈ ns, n < ps.length) (l4 : 4 ≤ ns.length) (l7 : ns.length ≤ 7) : OkP (pick ps ns) := by
  refine ⟨by unfold pick; rw [List.length_map]; exact l4, by unfold pick; rw [List.length_map]; exact l7, fun q hq => ?_⟩
  unfold pick at hq
  obtain ⟨n, hn, rfl⟩ := List.mem_map.mp hq
  refine ok.2.2 _ ?_
  rw [List.getD_eq_getElem?_getD, List.getElem?_eq_getElem (h n hn)]
  exact List.getElem_mem (h n hn)
theorem nV_get {ns : List Nat} {i : Nat} {x : V} (h : (nV ns)[i]? = some x) : ∃ n, ns[i]? = some n ∧ x = .int (n : Nat) := by
  unfold nV at h
  obtain ⟨z, hz, rfl⟩ := get_ints h
  rw [List.getElem?_map] at hz
  cases e : ns[i]? with
  | none =>
    rw [e] at hz
    cases hz
  | some n =>
    rw [e] at hz
    exact ⟨n, rfl, by rw [← Option.some.inj hz]⟩
theorem cut_from {xs : List V} {k : Nat} (h : k ≤ xs.length) : cutV xs (some (k : Int)) none = xs.drop k := by
  unfold cutV
  have e : HT.sIx xs.length 0 (some (k : Int)) = k := by
    rw [HT.sIx_nat]
    omega
  rw [e]
  show (xs.drop k).take (xs.length - k) = _
  rw [List.take_of_length_le (by rw [List.length_drop]; exact Nat.le_refl _)]
theorem cut_to {xs : List V} {k : Nat} (h : k ≤ xs.length) : cutV xs none (some (k : Int)) = xs.take k := by
  unfold cutV
  have e : HT.sIx xs.length xs.length (some (k : Int)) = k := by
    rw [HT.sIx_nat]
    omega
  rw [e]
  rfl
section
variable {P : Program} {w : World} {K : PySem.W.Frag} {mg : Str → Option Value} {base : Heap} {C CB CP CW CF CN CT : Addr}
/-! ### Picture.in_order -/
def OrdP (K : PySem.W.Frag) (C CP CW CF : Addr) (v : V) (ps : List (Int × Int)) (H : Hp) (Q : VK) (E : XK) : Prop :=
  (∃ x, WJ K H ps.length v (some x) ∧ RzV CP "value" x H E) ∨ (∃ c ns, v = .ref c ∧ PinL H c ns ps.length ∧ (ns.Nodup → ps.length ≤ ns.length → ns.length ≤ 7 ∧ NewP C (pick ps ns) H Q) ∧ (ns.Nodup → ns.length < ps.length → RzV CF "part" (.str "pins") H E) ∧ ∀ j, TwN ns j → RzV CW "value" (.int (j : Nat)) H E)
def spIO (K : PySem.W.Frag) (C CP CW CF : Addr) : Sp := fun vs H Q E => ∃ (a : Addr) (v : V) (ps : List (Int × Int)), vs = [.ref a, v] ∧ PicF H C a ps ∧ OkP ps ∧ OrdP K C CP CW CF v ps H Q E
abbrev sIO : Stmt := inClass (top 45) 10
abbrev nIO : List Str := ["self", "pins", "pin"]
theorem scIO : FnScope nIO ["self", "pins"] (defScope sIO) := ⟨rfl, rfl, rfl, by decide +kernel, rfl, by decide +kernel, by decide +kernel⟩
theorem ok_io {f : Addr} {fd : FuncData} (F : Fun K "in_order" "Picture.in_order" sIO f fd) (T : PicT K C) (mC : mg "Picture" = some (.ref C)) (ini : ∃ (fI : Addr) (fd : FuncData), Mk K C fI ∧ FnOk P w K mg base (L2.CX P w) 6 fI fd ["self", "places"] (spPI K C CB) ∧ Binds K fd ["self", "places"] []) (C1 : Callee P w K mg base (L2.CX P w) 5 "check_order" ["values", "many"] (spCO K CP CW CF)) : FnOk P w K mg base (L2.CX P w) 8 f fd ["self", "pins"] (spIO K C CP CW CF) := by
  obtain ⟨f1, fd1, m1, k1, b1, G1⟩ := C1
  obtain ⟨fI, fdI, M, G, b⟩ := ini
  have cl := T.pc.cls
  have nd := scIO.nd
  refine F.okX scIO (fun vs H Q E h => ?_) (fun cdv A outer s H vs Q E hr h => ?_)
  · obtain ⟨a, v, ps, rfl, _⟩ := h
    rfl
  · obtain ⟨a, v, ps, rfl, pf, ok, h⟩ := h
    obtain ⟨dx, t, u, ha, ⟨ts, ht, pr⟩, _⟩ := id pf
    have lt : ts.length = ps.length := Paired.length pr
    rcases h with ⟨x, j, r⟩ | ⟨c, ns, rfl, pl, hok, hsh, htw⟩
    · refine ⟨_, pss_cons (ps_expr (pe_callS (E := fun _ => E) G1 (hr.mono (by decide)) rfl m1 k1 b1 (fun σ => passAt (takes_of rfl rfl rfl rfl) σ) (pa_cons (pv 1) (pa_cons (pe_fld (pv 0) rfl) pa_nil)))) pss_never, ?_⟩
      exact ⟨_, rfl, _, rfl, a, C, dx, _, .int ps.length, rfl, ha, cl, T.n2, rfl, v, ps.length, rfl, .inl ⟨x, j, r⟩⟩
    rcases pl.sq with hq | hq
    · refine ⟨_, (pss_cons (ps_expr (pe_callS (E := fun _ => E) G1 (hr.mono (by decide)) rfl m1 k1 b1 (fun σ => passAt (takes_of rfl rfl rfl rfl) σ) (pa_cons (pv 1) (pa_cons (pe_fld (pv 0) rfl) pa_nil)))) (pss_one (ps_ret (pe_make (E := E0) M G (hr.mono (by decide)) rfl mC b .nil passL (pa_cons (pe_lc (own := [("pin", 2)]) (g := gName 2) (tt := tYes) rfl nd (pi_list (pv 1)) (blkOk_by (N := nIO) (sc := defScope sIO) (by decide +kernel)) (fun _ _ _ _ _ => (pg_name (i := 2) nd rfl (Or.inl rfl))) (fun _ _ _ _ _ => pts_nil)
          (fun _ _ _ _ _ => (pe_ix (r := rIxT K) ix_tupK (pe_fldK K (pv 0) rfl) (pv 2) (fun _ _ => rfl)))) pa_nil))))), ?_⟩
      refine ⟨_, rfl, _, rfl, a, C, dx, _, .int ps.length, rfl, ha, cl, T.n2, rfl, .ref c, ps.length, rfl, .inr ⟨c, ns, rfl, pl, fun ndp hle H1 s1 => ?_, hsh, htw⟩⟩
      obtain ⟨n7, qn⟩ := hok ndp hle
      have hq1 := s1 _ _ hq
      have ha1 := s1 _ _ ha
      have ht1 := s1 _ _ ht
      refine ⟨_, rfl, c, rfl, ⟨_, SqL.of hq1⟩, fun D hD => ?_⟩
      refine lc_list (K := K) (a := c) (xs := nV ns) (fun i => At H1 D (((tsel ts ns).take i).map V.ref)) ⟨same_new hD, upd_same⟩ (fun i H' _ p => SqL.of (p.1 _ _ hq1)) (fun i x H' hx p => ?_) (fun H' p => ?_)
      · obtain ⟨n, en, rfl⟩ := nV_get hx
        have hn : n < ps.length := pl.lt n (List.mem_of_getElem? en)
        have eg : (tsel ts ns)[i]? = some (ts.getD n 0) := by
          unfold tsel
          rw [List.getElem?_map, en]
          rfl
        refine ⟨rfl, yes_of ?_⟩
        refine ⟨_, rfl, a, C, dx, _, .ref t, rfl, p.1 _ _ ha1, cl, T.n1, rfl, _, rfl, t, _, _, .ref (ts.getD n 0), rfl, rfl, SqT.of (p.1 _ _ ht1), ?_, _, p.2, ?_, p.step hD Same.me ?_⟩
        · refine atI_nat ?_
          rw [List.getElem?_map, List.getD_eq_getElem?_getD, List.getElem?_eq_getElem (by omega)]
          rfl
        · rw [List.length_map]
          exact small1000 (Nat.le_trans (List.length_take_le' _ _) (by unfold tsel; rw [List.length_map]; omega))
        · rw [take_more eg, List.map_append]
          rfl
      · have el : (nV ns).length = (tsel ts ns).length := by
          unfold tsel
          rw [nV_len, List.length_map]
        rw [el, List.take_length] at p
        have lpD : LP H' D (tsel ts ns) (pick ps ns) := ⟨p.2, pick_prs pr pl.lt fun g q z => p.1 _ _ (s1 _ _ z)⟩
        have okk : OkP (pick ps ns) := pick_ok ok pl.lt (by have := ok.1; omega) n7
        exact mk_in (.inl ⟨_, lpD.pls, okk, fun x H2 s2 n2 pf2 => qn x H2 (s1.trans (p.1.trans s2)) (s1.free (p.1.free n2)) pf2⟩)
    · refine ⟨_, (pss_cons (ps_expr (pe_callS (E := fun _ => E) G1 (hr.mono (by decide)) rfl m1 k1 b1 (fun σ => passAt (takes_of rfl rfl rfl rfl) σ) (pa_cons (pv 1) (pa_cons (pe_fld (pv 0) rfl) pa_nil)))) (pss_one (ps_ret (pe_make (E := E0) M G (hr.mono (by decide)) rfl mC b .nil passL (pa_cons (pe_lc (own := [("pin", 2)]) (g := gName 2) (tt := tYes) rfl nd (pi_tup (pv 1)) (blkOk_by (N := nIO) (sc := defScope sIO) (by decide +kernel)) (fun _ _ _ _ _ => (pg_name (i := 2) nd rfl (Or.inl rfl))) (fun _ _ _ _ _ => pts_nil)
          (fun _ _ _ _ _ => (pe_ix (r := rIxT K) ix_tupK (pe_fldK K (pv 0) rfl) (pv 2) (fun _ _ => rfl)))) pa_nil))))), ?_⟩
      refine ⟨_, rfl, _, rfl, a, C, dx, _, .int ps.length, rfl, ha, cl, T.n2, rfl, .ref c, ps.length, rfl, .inr ⟨c, ns, rfl, pl, fun ndp hle H1 s1 => ?_, hsh, htw⟩⟩
      obtain ⟨n7, qn⟩ := hok ndp hle
      have hq1 := s1 _ _ hq
      have ha1 := s1 _ _ ha
      have ht1 := s1 _ _ ht
      refine ⟨_, rfl, c, rfl, ⟨_, SqT.of hq1⟩, fun D hD => ?_⟩
      refine lc_tup (K := K) (a := c) (xs := nV ns) (fun i => At H1 D (((tsel ts ns).take i).map V.ref)) ⟨same_new hD, upd_same⟩ (fun i H' _ p => SqT.of (p.1 _ _ hq1)) (fun i x H' hx p => ?_) (fun H' p => ?_)
      · obtain ⟨n, en, rfl⟩ := nV_get hx
        have hn : n < ps.length := pl.lt n (List.mem_of_getElem? en)
        have eg : (tsel ts ns)[i]? = some (ts.getD n 0) := by
          unfold tsel
          rw [List.getElem?_map, en]
          rfl
        refine ⟨rfl, yes_of ?_⟩
        refine ⟨_, rfl, a, C, dx, _, .ref t, rfl, p.1 _ _ ha1, cl, T.n1, rfl, _, rfl, t, _, _, .ref (ts.getD n 0), rfl, rfl, SqT.of (p.1 _ _ ht1), ?_, _, p.2, ?_, p.step hD Same.me ?_⟩
        · refine atI_nat ?_
          rw [List.getElem?_map, List.getD_eq_getElem?_getD, List.getElem?_eq_getElem (by omega)]
          rfl
        · rw [List.length_map]
          exact small1000 (Nat.le_trans (List.length_take_le' _ _) (by unfold tsel; rw [List.length_map]; omega))
        · rw [take_more eg, List.map_append]
          rfl
      · have el : (nV ns).length = (tsel ts ns).length := by
          unfold tsel
          rw [nV_len, List.length_map]
        rw [el, List.take_length] at p
        have lpD : LP H' D (tsel ts ns) (pick ps ns) := ⟨p.2, pick_prs pr pl.lt fun g q z => p.1 _ _ (s1 _ _ z)⟩
        have okk : OkP (pick ps ns) := pick_ok ok pl.lt (by have := ok.1; omega) n7
        exact mk_in (.inl ⟨_, lpD.pls, okk, fun x H2 s2 n2 pf2 => qn x H2 (s1.trans (p.1.trans s2)) (s1.free (p.1.free n2)) pf2⟩)
/-! ### Picture.without -/
def spWo (K : PySem.W.Frag) (C CP CF : Addr) : Sp := fun vs H Q E => ∃ (a : Addr) (v : V) (tv : Bool) (ps : List (Int × Int)), vs = [.ref a, v] ∧ PicF H C a ps ∧ OkP ps ∧ Kd K H v tv ∧ (pinOk ps.length v = false → RzV CP "value" v H E) ∧
  ∀ n : Nat, v = .int n → n < ps.length → (ps.length = 4 → RzV CF "part" (.str "pins") H E) ∧ (4 < ps.length → NewP C (ps.take n ++ ps.drop (n + 1)) H Q)
abbrev sWo : Stmt := inClass (top 45) 11
theorem scWo : FnScope ["self", "pin"] ["self", "pin"] (defScope sWo) := ⟨rfl, rfl, rfl, by decide +kernel, rfl, by decide +kernel, by decide +kernel⟩
theorem pin_of {k : Nat} {v : V} (h : pinOk k v = true) : ∃ n : Nat, v = .int n ∧ n < k := by
  cases v with
  | int i =>
    have e : (decide (0 ≤ i) && decide (i ≤ (k : Int) - 1)) = true := h
    rw [Bool.and_eq_true] at e
    have e1 := of_decide_eq_true e.1
    have e2 := of_decide_eq_true e.2
    obtain ⟨m, rfl⟩ := Int.eq_ofNat_of_zero_le e1
    exact ⟨m, rfl, by omega⟩
  | _ => cases h
theorem paired_take {α β : Type} {R : α → β → Prop} {xs : List α} {ys : List β} (h : Paired R xs ys) : ∀ n, Paired R (xs.take n) (ys.take n) ∧ Paired R (xs.drop n) (ys.drop n) := by
  induction h with
  | nil => exact fun n => ⟨by rw [List.take_nil, List.take_nil]; exact .nil, by rw [List.drop_nil, List.drop_nil]; exact .nil⟩
  | cons a t ih => exact fun n => match n with
    | 0 => ⟨.nil, .cons a t⟩
    | n + 1 => ⟨.cons a (ih n).1, (ih n).2⟩
theorem paired_app {α β : Type} {R : α → β → Prop} {xs us : List α} {ys vs : List β} (h : Paired R xs ys) (k : Paired R us vs) : Paired R (xs ++ us) (ys ++ vs) := by
  induction h with
  | nil => exact k
  | cons a _ ih => exact .cons a ih
theorem ok_wo {f : Addr} {fd : FuncData} (F : Fun K "without" "Picture.without" sWo f fd) (T : PicT K C) (L4 : ∃ t, mg "FEWEST_PINS" = some (.int 4 t)) (M1 : ErM P w K mg base "Misfit" "part" CF) (mC : mg "Picture" = some (.ref C)) (ini : ∃ (fI : Addr) (fd : FuncData), Mk K C fI ∧ FnOk P w K mg base (L2.CX P w) 6 fI fd ["self", "places"] (spPI K C CB) ∧ Binds K fd ["self", "places"] []) (C1 : Callee P w K mg base (L2.CX P w) 3 "check_pin" ["value", "many"] (spC1 K CP)) : FnOk P w K mg base (L2.CX P w) 8 f fd ["self", "pin"] (spWo K C CP CF) := by
  obtain ⟨f1, fd1, m1, k1, b1, G1⟩ := C1
  obtain ⟨fI, fdI, M, G, b⟩ := ini
  obtain ⟨fE, fdE, T1, GE1, bE1⟩ := M1
  obtain ⟨t4, m4⟩ := L4
  have cl := T.pc.cls
  have nd := scWo.nd
  refine F.okX scWo (fun vs H Q E h => ?_) (fun cdv A outer s H vs Q E hr h => ?_)
  · obtain ⟨a, v, tv, ps, rfl, _⟩ := h
    rfl
  · obtain ⟨a, v, tv, ps, rfl, pf, ok, kv, hbad, hgo⟩ := h
    obtain ⟨dx, t, u, ha, ⟨ts, ht, pr⟩, _⟩ := id pf
    have lt : ts.length = ps.length := Paired.length pr
    refine ⟨_, (pss_cons (ps_expr (pe_callS (E := fun _ => E) G1 (hr.mono (by decide)) rfl m1 k1 b1 (fun σ => passAt (takes_of rfl rfl rfl rfl) σ) (pa_cons (pv 1) (pa_cons (pe_fld (pv 0) rfl) pa_nil)))) (pss_cons (ps_if (pt_cmpR op_eq (pe_fld (pv 0) rfl) (pe_glob (v := .int 4) rfl m4 ⟨_, rfl⟩) (nomark _)) (pss_one (ps_raise rfl (takes_of rfl rfl rfl rfl) (pmk_oex T1.oex T1.iC T1.tI GE1 (hr.mono (by decide)) bE1 .nil pass0 rfl T1.mgC (pa_cons (pe_str) pa_nil)))) pss_nil) (pss_one (ps_ret (pe_make (E := E0) M G (hr.mono (by decide)) rfl mC b .nil passL (pa_cons (pe_op op_catA (pe_slice sl_tup (pe_fld (pv 0) rfl) po_none (po_some (pv 1))) (pe_slice sl_tup (pe_fld (pv 0) rfl) (po_some (pe_op op_add (pv 1) pe_int)) po_none)) pa_nil)))))), ?_⟩
    refine ⟨_, rfl, _, rfl, a, C, dx, _, .int ps.length, rfl, ha, cl, T.n2, rfl, v, tv, ps.length, rfl, kv, fun hp => ?_, hbad⟩
    obtain ⟨n, rfl, hn⟩ := pin_of hp
    obtain ⟨h4, h5⟩ := hgo n rfl hn
    refine ⟨_, rfl, a, C, dx, _, .int ps.length, rfl, ha, cl, T.n2, rfl, rfl, _, rfl, ?_⟩
    by_cases e4 : ps.length = 4
    · rw [decide_eq_true (show V.int (ps.length : Int) = V.int 4 by rw [e4]; rfl)]
      refine iteT ⟨by show 1 ≤ 1000; decide, fun e he => ?_⟩
      exact ⟨e, _, rfl, T1.oex, T1.noF, upd_same, fun dx hdx ne => ⟨rfl, dx, _, upd_same, by rw [upd_ne ne]; exact upd_same, by rw [upd_ne ne] at hdx; exact hdx, raisedV (h4 e4) Same.me he hdx ne⟩⟩
    · rw [decide_eq_false (show ¬ V.int (ps.length : Int) = V.int 4 from fun z => e4 (by have := V.int.inj z; omega))]
      have ok4 := ok.1
      have ok7 := ok.2.1
      refine iteF ⟨_, rfl, a, C, dx, _, .ref t, rfl, ha, cl, T.n1, rfl, _, rfl, _, rfl, t, _, rfl, SqT.of ht, ?_, fun c1 hc1 => ?_⟩
      · rw [List.length_map]
        rintro ⟨_, z⟩
        rw [HT.sIx_nat] at z
        omega
      rw [cut_to (by rw [List.length_map]; omega)]
      have s1 := same_new (o := .tup ((ts.map V.ref).take n)) hc1
      have g1 : upd H c1 (.tup ((ts.map V.ref).take n)) c1 = some (.tup ((ts.map V.ref).take n)) := upd_same
      generalize upd H c1 (.tup ((ts.map V.ref).take n)) = H1 at s1 g1 ⊢
      refine ⟨_, rfl, a, C, dx, _, .ref t, rfl, s1 _ _ ha, cl, T.n1, rfl, _, rfl, _, _, rfl, rfl, _, rfl, t, _, rfl, SqT.of (s1 _ _ ht), ?_, fun c2 hc2 => ?_⟩
      · rw [List.length_map]
        rintro ⟨z, _⟩
        have z : HT.sIx ts.length 0 (some (((n + 1 : Nat)) : Int)) = 0 := z
        rw [HT.sIx_nat] at z
        omega
      have ec : cutV (ts.map V.ref) (some ((n : Int) + 1)) none = (ts.map V.ref).drop (n + 1) := cut_from (k := n + 1) (by rw [List.length_map]; omega)
      rw [ec]
      have s2 := same_new (o := .tup ((ts.map V.ref).drop (n + 1))) hc2
      have g2 : upd H1 c2 (.tup ((ts.map V.ref).drop (n + 1))) c2 = some (.tup ((ts.map V.ref).drop (n + 1))) := upd_same
      generalize upd H1 c2 (.tup ((ts.map V.ref).drop (n + 1))) = H2 at s2 g2 ⊢
      have s12 := s1.trans s2
      have lps : ∀ {H3 : Hp} {c : Addr}, Same H H3 → H3 c = some (.tup ((ts.map V.ref).take n ++ (ts.map V.ref).drop (n + 1))) → Pls H3 (.ref c) (ps.take n ++ ps.drop (n + 1)) := fun {H3 c} s3 g => by
        refine ⟨c, _, rfl, .inr g, ?_⟩
        rw [← List.map_take, ← List.map_drop, ← List.map_append]
        exact pla_prs (paired_app (paired_take (paired_mono pr fun _ _ z => s3 _ _ z) n).1 (paired_take (paired_mono pr fun _ _ z => s3 _ _ z) (n + 1)).2)
      have okk : 4 < ps.length → OkP (ps.take n ++ ps.drop (n + 1)) := fun l5 => by
        refine ⟨?_, ?_, fun q hq => ?_⟩
        · rw [List.length_append, List.length_take, List.length_drop]
          omega
        · rw [List.length_append, List.length_take, List.length_drop]
          omega
        · rcases List.mem_append.mp hq with z | z
          · exact ok.2.2 q (List.mem_of_mem_take z)
          · exact ok.2.2 q (List.mem_of_mem_drop z)
      have l5 : 4 < ps.length := by omega
      have fin : ∀ {H3 : Hp} {c : Addr}, Same H H3 → H3 c = some (.tup ((ts.map V.ref).take n ++ (ts.map V.ref).drop (n + 1))) → MkP K C CB (.ref c) H3 Q E0 := fun {H3 c} s3 g => .inl ⟨_, lps s3 g, okk l5, fun x H4 s4 n4 pf4 => h5 l5 x H4 (s3.trans s4) (s3.free n4) pf4⟩
      refine ⟨c1, c2, _, _, rfl, rfl, SqT.of (s2 _ _ g1), SqT.of g2, ?_, fun e0 => ?_, fun ne e0 => ?_, fun ne ne2 c3 hc3 => ?_⟩
      · rw [List.length_take, List.length_drop, List.length_map]
        exact Nat.le_of_lt (small1000 (by omega))
      · exact mk_in (fin s12 (by rw [e0, List.nil_append]; exact g2))
      · exact mk_in (fin s12 (by rw [e0, List.append_nil]; exact s2 _ _ g1))
      · exact mk_in (fin (s12.trans (same_new hc3)) upd_same)
end
end K13

namespace K13
open PySem PySem.Spec PyProof.Rows L2
def full7 : List (Str × V) := [("most", .int 7), ("what", .str "pins")]
theorem RzF.same {C : Addr} {fs : List (Str × V)} {H H1 : Hp} {E : XK} (h : RzF C fs H E) (s : Same H H1) : RzF C fs H1 E := fun d H' s' e => h d H' (s.trans s') e
section
variable {P : Program} {w : World} {K : PySem.W.Frag} {mg : Str → Option Value} {base : Heap} {C CB CP CW CF CN CT fT : Addr}
/-! ### Picture.with_pin -/
def spWP (K : PySem.W.Frag) (C CN CT : Addr) : Sp := fun vs H Q E => ∃ (a : Addr) (x y : V) (tx ty : Bool) (ps : List (Int × Int)), vs = [.ref a, x, y] ∧ PicF H C a ps ∧ OkP ps ∧ Kd K H x tx ∧ Kd K H y ty ∧ (inB x = false → RzV CN "part" (.str "x") H E) ∧ (inB x = true → inB y = false → RzV CN "part" (.str "y") H E) ∧
  ∀ i j, x = .int i → y = .int j → inB x = true → inB y = true → (ps.length = 7 → RzF CT full7 H E) ∧ (ps.length < 7 → NewP C (ps ++ [(i, j)]) H Q)
abbrev sWP : Stmt := inClass (top 45) 12
abbrev nWP : List Str := ["self", "x", "y", "number", "part"]
theorem scWP : FnScope nWP ["self", "x", "y"] (defScope sWP) := ⟨rfl, rfl, rfl, by decide +kernel, rfl, by decide +kernel, by decide +kernel⟩
theorem inB_int {x : V} (h : inB x = true) : ∃ i, x = .int i ∧ -G9 ≤ i ∧ i ≤ G9 := by
  cases x with
  | int i =>
    have e : (decide (-G9 ≤ i) && decide (i ≤ G9)) = true := h
    rw [Bool.and_eq_true] at e
    exact ⟨i, rfl, of_decide_eq_true e.1, of_decide_eq_true e.2⟩
  | _ => cases h
theorem ok_wp {f : Addr} {fd fdT : FuncData} (F : Fun K "with_pin" "Picture.with_pin" sWP f fd) (T : PicT K C) (L : ∃ t, mg "LIMIT" = some (.int 1000000000 t)) (L7 : ∃ t, mg "MOST_PINS" = some (.int 7 t)) (M1 : ErM P w K mg base "BadNumber" "part" CN) (TT : TmT K mg CT fT) (FT : Fun K "__init__" "TooMany.__init__" sTI fT fdT) (mC : mg "Picture" = some (.ref C)) (ini : ∃ (fI : Addr) (fd : FuncData), Mk K C fI ∧ FnOk P w K mg base (L2.CX P w) 6 fI fd ["self", "places"] (spPI K C CB) ∧ Binds K fd ["self", "places"] []) (C1 : Callee P w K mg base CX0 2 "is_within" ["value", "least", "most"] (spWithin K)) : FnOk P w K mg base (L2.CX P w) 8 f fd ["self", "x", "y"] (spWP K C CN CT) := by
  obtain ⟨f1, fd1, m1, k1, b1, G1⟩ := C1
  obtain ⟨fI, fdI, M, G, b⟩ := ini
  obtain ⟨fE, fdE, T1, GE1, bE1⟩ := M1
  obtain ⟨tL, mL⟩ := L
  obtain ⟨t7, m7⟩ := L7
  have GT : FnOk P w K mg base CX0 1 fT fdT ["self", "what", "most"] (spIn2 K "what" "most") := ok_ti FT
  have bT : Binds K fdT ["self", "what", "most"] [] := FT.binds (ps := ["self", "what", "most"]) fun _ _ _ _ _ _ us hl => match us, hl with | [_, _, _], _ => rfl
  have cl := T.pc.cls
  have nd := scWP.nd
  refine F.okX scWP (fun vs H Q E h => ?_) (fun cdv A outer s H vs Q E hr h => ?_)
  · obtain ⟨a, x, y, tx, ty, ps, rfl, _⟩ := h
    rfl
  · obtain ⟨a, x, y, tx, ty, ps, rfl, pf, ok, kx, ky, hx, hy, hgo⟩ := h
    refine ⟨_, (pss_cons (ps_for (passes_of rfl) rfl (pi_tup (pe_tup (pa_cons (pe_tup (pa_cons (pv 1) (pa_cons (pe_str) pa_nil))) (pa_cons (pe_tup (pa_cons (pv 2) (pa_cons (pe_str) pa_nil))) pa_nil)))) (pg_tup rfl (pgs_cons ((pg_name (i := 3) nd rfl (Or.inl rfl))) (pgs_cons ((pg_name (i := 4) nd rfl (Or.inl rfl))) pgs_nil)))
        (pss_one (ps_if (pt_not (pt_val (pe_call G1 (hr.mono (by decide)) rfl m1 k1 b1 .nil pass0 (pa_cons (pv 3) (pa_cons (pe_un un_neg (pe_glob (v := .int 1000000000) rfl mL ⟨_, rfl⟩)) (pa_cons (pe_glob (v := .int 1000000000) rfl mL ⟨_, rfl⟩) pa_nil)))))) (pss_one (ps_raise rfl (takes_of rfl rfl rfl rfl) (pmk_oex T1.oex T1.iC T1.tI GE1 (hr.mono (by decide)) bE1 .nil pass0 rfl T1.mgC (pa_cons (pv 4) pa_nil)))) pss_nil))) (pss_cons (ps_if (pt_cmpR op_eq (pe_fld (pv 0) rfl) (pe_glob (v := .int 7) rfl m7 ⟨_, rfl⟩) (nomark _)) (pss_one (ps_raise rfl (takes_of rfl rfl rfl rfl) (pmk_oex TT.oex TT.iC TT.tI GT (hr.mono (by decide)) bT .nil pass0 rfl TT.mgC (pa_cons (pe_str) (pa_cons (pe_glob (v := .int 7) rfl m7 ⟨_, rfl⟩) pa_nil))))) pss_nil) (pss_one (ps_ret (pe_make (E := E0) M G (hr.mono (by decide)) rfl mC b .nil passL (pa_cons (pe_op op_catA (pe_fld (pv 0) rfl) (pe_tup (pa_cons (pe_tup (pa_cons (pv 1) (pa_cons (pv 2) pa_nil))) pa_nil))) pa_nil)))))), ?_⟩
    refine ⟨_, rfl, by show 2 ≤ sizeLine; decide, fun c1 n1 => ?_⟩
    have s1 := same_new (o := .tup [x, V.str "x"]) n1
    have g1 : upd H c1 (.tup [x, V.str "x"]) c1 = some (.tup [x, V.str "x"]) := upd_same
    generalize upd H c1 (.tup [x, V.str "x"]) = H1 at s1 g1 ⊢
    refine ⟨_, rfl, by show 2 ≤ sizeLine; decide, fun c2 n2 => ?_⟩
    have s2 := same_new (o := .tup [y, V.str "y"]) n2
    have g2 : upd H1 c2 (.tup [y, V.str "y"]) c2 = some (.tup [y, V.str "y"]) := upd_same
    generalize upd H1 c2 (.tup [y, V.str "y"]) = H2 at s2 g2 ⊢
    refine ⟨by show 2 ≤ sizeLine; decide, fun c3 n3 => ?_⟩
    have s3 := same_new (o := .tup [V.ref c1, V.ref c2]) n3
    have g3 : upd H2 c3 (.tup [V.ref c1, V.ref c2]) c3 = some (.tup [V.ref c1, V.ref c2]) := upd_same
    generalize upd H2 c3 (.tup [V.ref c1, V.ref c2]) = H3 at s3 g3 ⊢
    have g1 := s3 _ _ (s2 _ _ g1)
    have g2 := s3 _ _ g2
    have s03 := (s1.trans s2).trans s3
    refine ⟨c3, rfl, ⟨_, SqT.of g3⟩, ?_⟩
    refine for_tup (K := K) (a := c3) (xs := [V.ref c1, V.ref c2]) (fun i σ H' => H' = H3 ∧ (0 < i → inB x = true) ∧ (1 < i → inB y = true) ∧ ∃ c d, σ = [some (.ref a), some x, some y, c, d]) ⟨rfl, fun h => absurd h (Nat.lt_irrefl _), fun h => absurd h (by omega), _, _, rfl⟩ (fun i σ H' _ p => by rw [p.1]; exact SqT.of g3) (fun i v σ H' hv p => ?_) (fun σ H' p => ?_)
    · obtain ⟨rfl, p1, p2, c, d, rfl⟩ := p
      match i, hv with
      | 0, hv =>
        have ev : V.ref c1 = v := Option.some.inj hv
        subst ev
        refine ⟨c1, _, rfl, SqT.of g1, rfl, _, _, rfl, _, _, rfl, rfl, ?_⟩
        refine ⟨_, rfl, _, rfl, x, tx, -1000000000, 1000000000, rfl, kx.same s03, _, rfl, ?_⟩
        cases e : within x (-1000000000) 1000000000 with
        | true => exact iteF ⟨rfl, fun _ => e, fun h => absurd h (by omega), _, _, rfl⟩
        | false =>
          refine iteT ⟨_, rfl, by show 1 ≤ 1000; decide, fun z hz => ?_⟩
          exact ⟨z, _, rfl, T1.oex, T1.noF, upd_same, fun dx hdx ne => ⟨rfl, dx, _, upd_same, by rw [upd_ne ne]; exact upd_same, by rw [upd_ne ne] at hdx; exact hdx, raisedV (hx e) s03 hz hdx ne⟩⟩
      | 1, hv =>
        have ev : V.ref c2 = v := Option.some.inj hv
        subst ev
        refine ⟨c2, _, rfl, SqT.of g2, rfl, _, _, rfl, _, _, rfl, rfl, ?_⟩
        refine ⟨_, rfl, _, rfl, y, ty, -1000000000, 1000000000, rfl, ky.same s03, _, rfl, ?_⟩
        cases e : within y (-1000000000) 1000000000 with
        | true => exact iteF ⟨rfl, fun _ => p1 (by decide), fun _ => e, _, _, rfl⟩
        | false =>
          refine iteT ⟨_, rfl, by show 1 ≤ 1000; decide, fun z hz => ?_⟩
          exact ⟨z, _, rfl, T1.oex, T1.noF, upd_same, fun dx hdx ne => ⟨rfl, dx, _, upd_same, by rw [upd_ne ne]; exact upd_same, by rw [upd_ne ne] at hdx; exact hdx, raisedV (hy (p1 (by decide)) e) s03 hz hdx ne⟩⟩
    · obtain ⟨rfl, p1, p2, c, d, rfl⟩ := p
      have ix := p1 (by show 0 < 2; decide)
      have iy := p2 (by show 1 < 2; decide)
      obtain ⟨i, rfl, i1, i2⟩ := inB_int ix
      obtain ⟨j, rfl, j1, j2⟩ := inB_int iy
      obtain ⟨h7, hl⟩ := hgo i j rfl rfl ix iy
      obtain ⟨dx, t, u, ha, ⟨ts, ht, pr⟩, _⟩ := id (pf.same s03)
      have lt : ts.length = ps.length := Paired.length pr
      have ok4 := ok.1
      have ok7 := ok.2.1
      refine ⟨_, rfl, a, C, dx, _, .int ps.length, rfl, ha, cl, T.n2, rfl, rfl, _, rfl, ?_⟩
      by_cases e7 : ps.length = 7
      · rw [decide_eq_true (show V.int (ps.length : Int) = V.int 7 by rw [e7]; rfl)]
        refine iteT ⟨by show 2 ≤ 1000; decide, fun e na => ?_⟩
        refine ⟨e, CT, _, _, rfl, TT.oex, TT.no1, TT.no2, upd_same, fun H4 k ⟨d, nd, ne, h1, h2⟩ => ⟨rfl, d, _, h1, h2, ?_, rzf_of ((h7 e7).same s03) na k nd ne⟩⟩
        rw [upd_ne ne] at nd
        exact nd
      · rw [decide_eq_false (show ¬ V.int (ps.length : Int) = V.int 7 from fun z => e7 (by have := V.int.inj z; omega))]
        refine iteF ⟨_, rfl, a, C, dx, _, .ref t, rfl, ha, cl, T.n1, rfl, _, rfl, _, rfl, by show 2 ≤ sizeLine; decide, fun c4 n4 => ?_⟩
        have s4 := same_new (o := .tup [V.int i, V.int j]) n4
        have g4 : upd H' c4 (.tup [V.int i, V.int j]) c4 = some (.tup [V.int i, V.int j]) := upd_same
        generalize upd H' c4 (.tup [V.int i, V.int j]) = H4 at s4 g4 ⊢
        refine ⟨by show 1 ≤ sizeLine; decide, fun c5 n5 => ?_⟩
        have s5 := same_new (o := .tup [V.ref c4]) n5
        have g5 : upd H4 c5 (.tup [V.ref c4]) c5 = some (.tup [V.ref c4]) := upd_same
        generalize upd H4 c5 (.tup [V.ref c4]) = H5 at s5 g5 ⊢
        have s45 := s4.trans s5
        refine ⟨t, c5, _, _, rfl, rfl, SqT.of (s45 _ _ ht), SqT.of g5, ?_, fun e0 => ?_, fun _ e0 => ?_, fun _ _ c6 n6 => ?_⟩
        · rw [List.length_map]
          exact Nat.le_of_lt (small1000 (by show ts.length + 1 ≤ 1000; omega))
        · exact absurd (congrArg List.length e0) (by rw [List.length_map]; show ¬ ts.length = 0; omega)
        · cases e0
        · have s6 := same_new (o := .tup (ts.map V.ref ++ [V.ref c4])) n6
          have s46 := s45.trans s6
          have pls : Pls (upd H5 c6 (.tup (ts.map V.ref ++ [V.ref c4]))) (.ref c6) (ps ++ [(i, j)]) := ⟨c6, _, rfl, .inr upd_same, paired_app (pla_prs (paired_mono pr fun _ _ z => s46 _ _ z)) (.cons ⟨c4, rfl, .inr (s6 _ _ (s5 _ _ g4))⟩ .nil)⟩
          have l6 : ps.length < 7 := by omega
          have okk : OkP (ps ++ [(i, j)]) := ⟨by rw [List.length_append]; show 4 ≤ ps.length + 1; omega, by rw [List.length_append]; show ps.length + 1 ≤ 7; omega, fun q hq => by
            rcases List.mem_append.mp hq with z | z
            · exact ok.2.2 q z
            · rw [List.mem_singleton.mp z]
              exact ⟨i1, i2, j1, j2⟩⟩
          exact mk_in (.inl ⟨_, pls, okk, fun x H7 s7 n7 pf7 => hl l6 x H7 ((s03.trans s46).trans s7) ((s03.trans s46).free n7) pf7⟩)
/-! ### the class of pictures, its methods of orders -/
def rv2 {α : Type} (vs zs : List α) : List α := vs ++ zs.reverse
/-- a promise that is not looked into -/
inductive Bx (sp : Sp) : List V → Hp → VK → XK → Prop
  | mk {vs : List V} {H : Hp} {Q : VK} {E : XK} (h : sp vs H Q E) : Bx sp vs H Q E
theorem Bx.un {sp : Sp} {vs : List V} {H : Hp} {Q : VK} {E : XK} (h : Bx sp vs H Q E) : sp vs H Q E := by
  cases h with
  | mk h => exact h
structure Po (P : Program) (w : World) (K : PySem.W.Frag) (mg : Str → Option Value) (base : Heap) (C CP CW CF CN CT : Addr) : Prop where
  io : ∃ (f : Addr) (fd : FuncData), Meth K C "in_order" f ∧ FnOk P w K mg base (L2.CX P w) 8 f fd ["self", "pins"] (Bx (spIO K C CP CW CF)) ∧ Binds K fd ["self", "pins"] [] ∧ KBn K fd ["self", "pins"] 1 ["pins"] (fun us ws => us ++ ws) (fun vs zs => vs ++ zs)
  wo : ∃ (f : Addr) (fd : FuncData), Meth K C "without" f ∧ FnOk P w K mg base (L2.CX P w) 8 f fd ["self", "pin"] (Bx (spWo K C CP CF)) ∧ Binds K fd ["self", "pin"] [] ∧ KBn K fd ["self", "pin"] 1 ["pin"] (fun us ws => us ++ ws) (fun vs zs => vs ++ zs)
  wp : ∃ (f : Addr) (fd : FuncData), Meth K C "with_pin" f ∧ FnOk P w K mg base (L2.CX P w) 8 f fd ["self", "x", "y"] (Bx (spWP K C CN CT)) ∧ Binds K fd ["self", "x", "y"] [] ∧ KBn K fd ["self", "x", "y"] 1 ["y", "x"] rv2 rv2
end
end K13

namespace K13
open PySem PySem.Spec PyProof.Rows L2
/-! ### all pins on one line, whatever their order -/
def crx (p q r : Int × Int) : Int := (q.1 - p.1) * (r.2 - p.2) - (q.2 - p.2) * (r.1 - p.1)
def Col (ps : List (Int × Int)) : Prop := ∀ p ∈ ps, ∀ q ∈ ps, ∀ r ∈ ps, crx p q r = 0
theorem sk_at {p0 : Int × Int} {qs : List (Int × Int)} {i : Nat} (hi : i < qs.length) : (sk 0 (p0 :: qs)).getD i 0 = qs[i].1 - p0.1 ∧ (sk 1 (p0 :: qs)).getD i 0 = qs[i].2 - p0.2 := by
  constructor
  · show (qs.map fun p => p.1 - p0.1).getD i 0 = _
    rw [List.getD_eq_getElem?_getD, List.getElem?_map, List.getElem?_eq_getElem hi]
    rfl
  · show (qs.map fun p => p.2 - p0.2).getD i 0 = _
    rw [List.getD_eq_getElem?_getD, List.getElem?_map, List.getElem?_eq_getElem hi]
    rfl
theorem thin_pairs {p0 : Int × Int} {qs : List (Int × Int)} : thin (sk 0 (p0 :: qs)) (sk 1 (p0 :: qs)) ↔ ∀ q ∈ qs, ∀ r ∈ qs, crx p0 q r = 0 := by
  have e : ∀ i j (hi : i < qs.length) (hj : j < qs.length), crs (sk 0 (p0 :: qs)) (sk 1 (p0 :: qs)) i j = crx p0 qs[i] qs[j] := fun i j hi hj => by
    unfold crs crx
    rw [(sk_at hi).1, (sk_at hi).2, (sk_at hj).1, (sk_at hj).2]
  constructor
  · intro h q hq r hr
    obtain ⟨i, hi, rfl⟩ := List.getElem_of_mem hq
    obtain ⟨j, hj, rfl⟩ := List.getElem_of_mem hr
    have lj : (sk 0 (p0 :: qs)).length = qs.length := by
      show (qs.map _).length = _
      rw [List.length_map]
    rcases Nat.lt_trichotomy i j with l | l | l
    · rw [← e i j hi hj]
      exact h i j l (by rw [lj]; exact hj)
    · subst l
      unfold crx
      rw [Int.mul_comm]
      omega
    · have := h j i l (by rw [lj]; exact hi)
      rw [e j i hj hi] at this
      unfold crx at this ⊢
      rw [Int.mul_comm (qs[i].1 - p0.1), Int.mul_comm (qs[i].2 - p0.2)]
      omega
  · intro h i j hij hj
    have lj : (sk 0 (p0 :: qs)).length = qs.length := by
      show (qs.map _).length = _
      rw [List.length_map]
    rw [lj] at hj
    rw [e i j (by omega) hj]
    exact h _ (List.getElem_mem _) _ (List.getElem_mem _)
theorem thin_col {ps : List (Int × Int)} (h0 : ps ≠ []) : thin (sk 0 ps) (sk 1 ps) ↔ Col ps := by
  cases ps with
  | nil => exact absurd rfl h0
  | cons p0 qs =>
    rw [thin_pairs]
    constructor
    · intro h
      have h' : ∀ q ∈ p0 :: qs, ∀ r ∈ p0 :: qs, crx p0 q r = 0 := fun q hq r hr => by
        rcases List.mem_cons.mp hq with e | hq
        · unfold crx
          rw [e, Int.sub_self, Int.sub_self, Int.zero_mul, Int.zero_mul]
          rfl
        · rcases List.mem_cons.mp hr with e | hr
          · unfold crx
            rw [e, Int.sub_self, Int.sub_self, Int.mul_zero, Int.mul_zero]
            rfl
          · exact h q hq r hr
      intro p hp q hq r hr
      have a1 := h' q hq r hr
      have a2 := h' q hq p hp
      have a3 := h' p hp r hr
      unfold crx at a1 a2 a3 ⊢
      grind
    · intro h q hq r hr
      exact h p0 List.mem_cons_self q (List.mem_cons_of_mem _ hq) r (List.mem_cons_of_mem _ hr)
theorem col_of {ps qs : List (Int × Int)} (h : ∀ q, q ∈ qs → q ∈ ps) (c : Col ps) : Col qs := fun p hp q hq r hr => c p (h p hp) q (h q hq) r (h r hr)
/-! ### orders behind orders -/
theorem pick_len (ps : List (Int × Int)) (ns : List Nat) : (pick ps ns).length = ns.length := by
  unfold pick
  rw [List.length_map]
theorem pick_at {ps : List (Int × Int)} {ns : List Nat} {i : Nat} (hi : i < ns.length) : (pick ps ns).getD i (0, 0) = ps.getD ns[i] (0, 0) := by
  unfold pick
  rw [List.getD_eq_getElem?_getD, List.getElem?_map, List.getElem?_eq_getElem hi]
  rfl
theorem pick_pick {ps : List (Int × Int)} {ns ms : List Nat} (h : ∀ m ∈ ms, m < ns.length) : pick (pick ps ns) ms = pick ps (ms.map fun m => ns.getD m 0) := by
  show ms.map (fun m => (pick ps ns).getD m (0, 0)) = (ms.map fun m => ns.getD m 0).map fun n => ps.getD n (0, 0)
  rw [List.map_map]
  refine List.map_congr_left fun m hm => ?_
  rw [pick_at (h m hm)]
  show _ = ps.getD (ns.getD m 0) (0, 0)
  rw [List.getD_eq_getElem?_getD (l := ns), List.getElem?_eq_getElem (h m hm)]
  rfl
theorem pick_range (ps : List (Int × Int)) : pick ps (List.range ps.length) = ps := by
  show (List.range ps.length).map (fun n => ps.getD n (0, 0)) = ps
  refine List.ext_getElem (by rw [List.length_map, List.length_range]) fun i h1 h2 => ?_
  rw [List.getElem_map, List.getElem_range, List.getD_eq_getElem?_getD, List.getElem?_eq_getElem h2]
  rfl
/-- an order of all pins -/
structure OrdN (ns : List Nat) (k : Nat) : Prop where
  nd : ns.Nodup
  lt : ∀ n ∈ ns, n < k
  len : ns.length = k
  all : ∀ i, i < k → i ∈ ns
theorem ord_perm {ns : List Nat} {k : Nat} (h : ns.Perm (List.range k)) : OrdN ns k := ⟨h.nodup_iff.mpr List.nodup_range, fun n hn => List.mem_range.mp (h.mem_iff.mp hn), by rw [h.length_eq, List.length_range], fun i hi => h.mem_iff.mpr (List.mem_range.mpr hi)⟩
theorem ord_range (k : Nat) : OrdN (List.range k) k := ord_perm (List.Perm.refl _)
theorem nd_inj {ns : List Nat} (h : ns.Nodup) {i j : Nat} (hi : i < ns.length) (hj : j < ns.length) (e : ns[i] = ns[j]) : i = j := by
  rw [List.Nodup, List.pairwise_iff_getElem] at h
  rcases Nat.lt_trichotomy i j with l | l | l
  · exact absurd e (h i j hi hj l)
  · exact l
  · exact absurd e.symm (h j i hj hi l)
/-- bs is the contrary order of ns -/
structure Back (ns bs : List Nat) (k : Nat) : Prop where
  len : bs.length = k
  at_ : ∀ m (hm : m < bs.length), ns[bs[m]]? = some m
theorem Back.ord {ns bs : List Nat} {k : Nat} (o : OrdN ns k) (b : Back ns bs k) : OrdN bs k := by
  have lt : ∀ m (hm : m < bs.length), bs[m] < ns.length := fun m hm => (List.getElem?_eq_some_iff.mp (b.at_ m hm)).1
  refine ⟨?_, fun n hn => ?_, b.len, fun i hi => ?_⟩
  · rw [List.Nodup, List.pairwise_iff_getElem]
    intro i j hi hj hij e
    have h1 := b.at_ i hi
    rw [e, b.at_ j hj] at h1
    have := Option.some.inj h1
    omega
  · obtain ⟨m, hm, rfl⟩ := List.getElem_of_mem hn
    rw [← o.len]
    exact lt m hm
  · have hi' : i < ns.length := by rw [o.len]; exact hi
    have hn : ns[i] < bs.length := by
      rw [b.len]
      exact o.lt _ (List.getElem_mem hi')
    have h1 := b.at_ ns[i] hn
    obtain ⟨h2, h3⟩ := List.getElem?_eq_some_iff.mp h1
    have := nd_inj o.nd h2 hi' h3
    rw [← this]
    exact List.getElem_mem hn
theorem Back.to {ns bs : List Nat} {k : Nat} (b : Back ns bs k) : (bs.map fun m => ns.getD m 0) = List.range k := by
  refine List.ext_getElem (by rw [List.length_map, List.length_range, b.len]) fun i h1 h2 => ?_
  have hi : i < bs.length := by rw [List.length_map] at h1; exact h1
  rw [List.getElem_map, List.getElem_range, List.getD_eq_getElem?_getD, b.at_ i hi]
  rfl
theorem Back.from {ns bs : List Nat} {k : Nat} (o : OrdN ns k) (b : Back ns bs k) : (ns.map fun m => bs.getD m 0) = List.range k := by
  refine List.ext_getElem (by rw [List.length_map, List.length_range, o.len]) fun i h1 h2 => ?_
  have hi : i < ns.length := by rw [List.length_map] at h1; exact h1
  have hn : ns[i] < bs.length := by
    rw [b.len]
    exact o.lt _ (List.getElem_mem hi)
  have h1' := b.at_ ns[i] hn
  obtain ⟨h3, h4⟩ := List.getElem?_eq_some_iff.mp h1'
  have e := nd_inj o.nd h3 hi h4
  rw [List.getElem_map, List.getElem_range, List.getD_eq_getElem?_getD, List.getElem?_eq_getElem hn]
  exact e
theorem Back.left {ns bs : List Nat} {ps : List (Int × Int)} (o : OrdN ns ps.length) (b : Back ns bs ps.length) : pick (pick ps ns) bs = ps := by
  rw [pick_pick (fun m hm => by rw [o.len]; exact (b.ord o).lt m hm), b.to]
  exact pick_range ps
theorem Back.right {ns bs : List Nat} {ps : List (Int × Int)} (o : OrdN ns ps.length) (b : Back ns bs ps.length) : pick (pick ps bs) ns = ps := by
  rw [pick_pick (fun m hm => by rw [b.len]; exact o.lt m hm), b.from o]
  exact pick_range ps
theorem ord_mem {ns : List Nat} {ps : List (Int × Int)} (o : OrdN ns ps.length) (q : Int × Int) : q ∈ pick ps ns ↔ q ∈ ps := by
  unfold pick
  constructor
  · intro h
    obtain ⟨n, hn, rfl⟩ := List.mem_map.mp h
    rw [List.getD_eq_getElem?_getD, List.getElem?_eq_getElem (o.lt n hn)]
    exact List.getElem_mem _
  · intro h
    obtain ⟨i, hi, rfl⟩ := List.getElem_of_mem h
    refine List.mem_map.mpr ⟨i, o.all i hi, ?_⟩
    rw [List.getD_eq_getElem?_getD, List.getElem?_eq_getElem hi]
    rfl
theorem ord_thin {ns : List Nat} {ps : List (Int × Int)} (o : OrdN ns ps.length) (h4 : 4 ≤ ps.length) : thin (sk 0 (pick ps ns)) (sk 1 (pick ps ns)) ↔ thin (sk 0 ps) (sk 1 ps) := by
  have n1 : ps ≠ [] := by
    rintro rfl
    exact absurd h4 (by decide)
  have n2 : pick ps ns ≠ [] := fun e => by
    have := congrArg List.length e
    rw [pick_len, o.len] at this
    have z : ([] : List (Int × Int)).length = 0 := rfl
    omega
  rw [thin_col n1, thin_col n2]
  exact ⟨col_of fun q h => (ord_mem o q).mpr h, col_of fun q h => (ord_mem o q).mp h⟩
theorem ord_ok {ns : List Nat} {ps : List (Int × Int)} (o : OrdN ns ps.length) (ok : OkP ps) : OkP (pick ps ns) := pick_ok ok o.lt (by rw [o.len]; exact ok.1) (by rw [o.len]; exact ok.2.1)
theorem ord_comp {ns ms : List Nat} {k : Nat} (o : OrdN ns k) (u : OrdN ms k) : OrdN (ms.map fun m => ns.getD m 0) k := by
  have gt : ∀ m, m < k → ∃ h : m < ns.length, ns.getD m 0 = ns[m] := fun m hm => by
    have h : m < ns.length := by rw [o.len]; exact hm
    refine ⟨h, ?_⟩
    rw [List.getD_eq_getElem?_getD, List.getElem?_eq_getElem h]
    rfl
  refine ⟨?_, fun n hn => ?_, by rw [List.length_map, u.len], fun i hi => ?_⟩
  · rw [List.Nodup, List.pairwise_iff_getElem]
    intro i j hi hj hij e
    rw [List.length_map] at hi hj
    rw [List.getElem_map, List.getElem_map] at e
    obtain ⟨h1, e1⟩ := gt _ (u.lt _ (List.getElem_mem hi))
    obtain ⟨h2, e2⟩ := gt _ (u.lt _ (List.getElem_mem hj))
    rw [e1, e2] at e
    have := nd_inj u.nd hi hj (nd_inj o.nd h1 h2 e)
    omega
  · obtain ⟨m, hm, rfl⟩ := List.mem_map.mp hn
    obtain ⟨h1, e1⟩ := gt _ (u.lt _ hm)
    rw [e1]
    exact o.lt _ (List.getElem_mem h1)
  · obtain ⟨j, hj, e⟩ := List.getElem_of_mem (o.all i hi)
    refine List.mem_map.mpr ⟨j, u.all j (by rw [← o.len]; exact hj), ?_⟩
    rw [List.getD_eq_getElem?_getD, List.getElem?_eq_getElem hj]
    exact e
/-! ### promises, as they are used -/
section
variable {K : PySem.W.Frag} {C CP CW CF CN CT : Addr} {ps : List (Int × Int)} {H : Hp} {Q : VK} {E : XK} {a c : Addr} {ns : List Nat}
theorem OrdN.pin (o : OrdN ns ps.length) (l7 : ps.length ≤ 7) (hs : Sq H c (nV ns)) : PinL H c ns ps.length := ⟨hs, by rw [o.len]; omega, o.lt⟩
theorem ord_no (o : OrdN ns ps.length) {j : Nat} (h : TwN ns j) : False := by
  obtain ⟨i, h1, h2, _⟩ := h
  have nd := o.nd
  have hi : i < ns.length := (List.getElem?_eq_some_iff.mp h1).1
  have hm : j ∈ ns.drop i := List.mem_of_getElem? (i := 0) (by rw [List.getElem?_drop, Nat.add_zero]; exact h1)
  rw [← List.take_append_drop i ns, List.nodup_append] at nd
  exact absurd rfl (nd.2.2 j h2 j hm)
theorem io_in (pf : PicF H C a ps) (ok : OkP ps) (o : OrdN ns ps.length) (hs : Sq H c (nV ns)) (h : NewP C (pick ps ns) H Q) : Bx (spIO K C CP CW CF) [.ref a, .ref c] H Q E :=
  .mk ⟨a, .ref c, ps, rfl, pf, ok, .inr ⟨c, ns, rfl, o.pin ok.2.1 hs, fun _ _ => ⟨by rw [o.len]; exact ok.2.1, h⟩, fun _ l => absurd l (by rw [o.len]; omega), fun j t => (ord_no o t).elim⟩⟩
theorem wo_in {n : Nat} (pf : PicF H C a ps) (ok : OkP ps) (hn : n < ps.length) (h5 : 4 < ps.length) (h : NewP C (ps.take n ++ ps.drop (n + 1)) H Q) : Bx (spWo K C CP CF) [.ref a, .int n] H Q E := by
  refine .mk ⟨a, .int n, false, ps, rfl, pf, ok, .int _, fun z => ?_, fun m e _ => ?_⟩
  · rw [pinOk_nat, decide_eq_true hn] at z
    cases z
  · have e2 : n = m := by
      have := V.int.inj e
      omega
    subst e2
    exact ⟨fun z => absurd z (by omega), fun _ => h⟩
theorem wp_in {x y : Int} (pf : PicF H C a ps) (ok : OkP ps) (hx : -G9 ≤ x ∧ x ≤ G9) (hy : -G9 ≤ y ∧ y ≤ G9) (l : ps.length < 7) (h : NewP C (ps ++ [(x, y)]) H Q) : Bx (spWP K C CN CT) [.ref a, .int x, .int y] H Q E := by
  refine .mk ⟨a, .int x, .int y, false, false, ps, rfl, pf, ok, .int _, .int _, fun z => ?_, fun _ z => ?_, fun i j e1 e2 _ _ => ?_⟩
  · rw [inB_of hx.1 hx.2] at z
    cases z
  · rw [inB_of hy.1 hy.2] at z
    cases z
  · cases e1
    cases e2
    exact ⟨fun z => absurd z (by omega), fun _ => h⟩
end
theorem meth_in {H : Hp} {C a : Addr} {m : Str} {ps : List (Int × Int)} {R : Prop} (pf : PicF H C a ps) (hm : ∀ t n u : V, List.lookup m [("places", t), ("pins", n), ("rows", u)] = none) (r : R) : ∃ a' dx fs, V.ref a = .ref a' ∧ H a' = some (.ins C dx fs) ∧ fs.lookup m = none ∧ R := by
  obtain ⟨dx, t, u, ha, _⟩ := pf
  exact ⟨a, dx, _, rfl, ha, hm _ _ _, r⟩
theorem PicF.sb {H H' : Hp} {C a p : Addr} {n : Nat} {ps : List (Int × Int)} (h : PicF H C a ps) (v : Lens H p n) (s : SB p H H') : PicF H' C a ps := by
  obtain ⟨c, x, y, e⟩ := v.at
  obtain ⟨dx, t, u, ha, ⟨ts, ht, pr⟩, r0, r1, hu, h0, h1⟩ := h
  exact ⟨dx, t, u, s.1 _ _ (L2.ne_of ha e (by intro z; cases z)) ha, ⟨ts, s.1 _ _ (v.not_tup ht) ht, paired_mono pr fun _ _ z => s.1 _ _ (v.not_tup z) z⟩, r0, r1, s.1 _ _ (v.not_tup hu) hu, s.1 _ _ (v.not_tup h0) h0, s.1 _ _ (v.not_tup h1) h1⟩
theorem PicF.updl {H : Hp} {C a l : Addr} {xs : List V} {o : HO} {ps : List (Int × Int)} (h : PicF H C a ps) (hl : H l = some (.lst xs)) : PicF (upd H l o) C a ps := by
  have nt : ∀ {b : Addr} {ys : List V}, H b = some (.tup ys) → upd H l o b = some (.tup ys) := fun e => by
    rw [upd_ne (L2.ne_of e hl (by intro z; cases z))]
    exact e
  obtain ⟨dx, t, u, ha, ⟨ts, ht, pr⟩, r0, r1, hu, h0, h1⟩ := h
  exact ⟨dx, t, u, by rw [upd_ne (L2.ne_of ha hl (by intro z; cases z))]; exact ha, ⟨ts, nt ht, paired_mono pr fun _ _ z => nt z⟩, r0, r1, nt hu, nt h0, nt h1⟩
theorem tNext_eq {D : Ends} {σ : L2.St} {H : Hp} : tNext D σ H = D.nx σ H := rfl
theorem if_join {tb : TT} {t1 t2 : TS} {u : TS} {D : Ends} {σ : L2.St} {H : Hp} {P : L2.St → Hp → Prop} (rest : ∀ σ' H', P σ' H' → u D σ' H') (h : (∀ σ' H', P σ' H' → u D σ' H') → tSeq (tIfS tb t1 t2) u D σ H) : tSeq (tIfS tb t1 t2) u D σ H := h rest
end K13

namespace K13
open PySem PySem.Spec PyProof.Rows L2
/-! ### an exception that was caught and is kept by a name -/
/-- the exception object at a, of the class cls, its own dict d -/
def Held (cls : Value) (d : Option Addr) (a : Addr) : HO := .ext fun h => ∃ (ob : Obj) (fv : Array Value), h.get? a = some ob ∧ Zc cls d ob ∧ ob.data = .fields fv
section
variable {X : Cx} {pins : List (Addr × Obj)} {σ : L2.St} {H : Hp} {s : Shared} {a : Addr} {ob : Obj} {fv : Array Value} {cls : Value} {d : Option Addr}
/-- a pinned exception that is newer than the frame is tracked from here on -/
theorem track (I : Inv X ((a, ob) :: pins) σ H s) (hz : Zc cls d ob) (hd : ob.data = .fields fv) (n0 : X.s_0.heap.get? a = none) (np : ∀ p ∈ X.pn ++ pins, p.1 ≠ a) : Inv X pins σ (upd H a (Held cls d a)) s := by
  obtain ⟨ha, hn, hL, hF, _⟩ := I.pin (a, ob) (List.mem_append_right _ List.mem_cons_self)
  have ha : s.heap.get? a = some ob := ha
  have hn : H a = none := hn
  have hL : a ≠ X.env.locals := hL
  have new : ObjOk X.prog X.w (upd H a (Held cls d a)) s.heap a (Held cls d a) := ⟨⟨ob, fv, ha, hz, hd⟩, ⟨ob, ha⟩, fun _ _ ⟨o, v, e, r⟩ k => ⟨o, v, k o e, r⟩⟩
  have old : ∀ b o, X.s_0.heap.get? b = some o → b ≠ a := fun b o e z => by
    rw [z, n0] at e
    cases e
  have tr : ∀ b o, H b = some o → upd H a (Held cls d a) b = some o := fun b o e => by
    rw [upd_ne (ne_of_none e hn)]
    exact e
  have B := I.base
  refine ⟨I.ok, I.os, I.bare, ⟨B.keep, B.slot, fun b o e n x => ?_, B.there, fun b xs e => tr _ _ (B.tups b xs e), fun b o u e => tr _ _ (B.frzs b o u e), fun b ps e => ?_⟩, I.loc, I.cell, ?_, fun x c e => ?_, fun p hp => ?_, HOk.laidN I.hok (fun _ _ q => q) hn new, I.len⟩
  · rw [upd_ne (old b o e)]
    exact B.free b o e n x
  · obtain ⟨m, q⟩ := B.tbls b ps e
    exact ⟨m, tr _ _ q⟩
  · rw [upd_ne hL.symm]
    exact I.free
  · have nc : c ≠ a := fun z => by
      obtain ⟨v, o, q, q2⟩ := I.cell x c e
      rw [z, ha] at q
      cases q
      rw [hd] at q2
      cases q2
    rw [upd_ne nc]
    exact I.freeC x c e
  · have hp2 : p ∈ X.pn ++ ((a, ob) :: pins) := by
      rcases List.mem_append.mp hp with z | z
      · exact List.mem_append_left _ z
      · exact List.mem_append_right _ (List.mem_cons_of_mem _ z)
    obtain ⟨e1, e2, e3⟩ := I.pin p hp2
    exact ⟨e1, by rw [upd_ne (np p hp)]; exact e2, e3⟩
/-- isinstance(e, C) of a kept exception of just this class, and its field -/
theorem held_at (I : Inv X pins σ H s) (e : H a = some (Held cls d a)) : ∃ ob fv, s.heap.get? a = some ob ∧ Zc cls d ob ∧ ob.data = .fields fv := by
  have z : ObjOk X.prog X.w H s.heap a (.ext fun h => ∃ (ob : Obj) (fv : Array Value), h.get? a = some ob ∧ Zc cls d ob ∧ ob.data = .fields fv) := I.hok a _ e
  exact z.1
end
/-! ### try: .. except C as n: y = n -/
/-- what the clause wishes of what its body raises: it is C's, and behind it y (slot j) keeps it -/
def wKeep (K : PySem.W.Frag) (c : Value) (i j m : Nat) (D : Ends) : WX := fun cls d σ H =>
  PySem.W.exmOne K cls c = some true ∧ ∀ a, H a = none → σ.length = m → D.nx (((σ.set i (some (.ref a))).set j (some (.ref a))).set i none) (upd H a (Held cls d a))
section
variable {X : Cx} {x n y : Str} {c : Value} {i j : Nat} {body : List Stmt} {np px py ap hp tp : Pos} {tb : WX → TS}
theorem ps_try_keep (stk : X.stack = X.env :: X.outer) (fra : X.env.frame = some X.env.locals) (noex : X.ex = []) (nod : X.N.Nodup) (atI : X.N[i]? = some n) (atJ : X.N[j]? = some y) (kn : X.env.kindOf n = some .local) (ly : Loc X.env.scope y) (fy : X.fn y = true ∨ X.env.scope.names.lookup y = some .local) (nm : Names X x c)
    (hi : i < X.N.length) (d1 : (n == ("__debug__" : Str)) = false) (d2 : (n == ("__classdict__" : Str)) = false)
    (run : ∀ (W : WX) (pn : List (Addr × Obj)) (xe : Value → Shared → Prop), Takes (X.tr pn xe) W → PassesOwn (model X.prog X.w) X.A X.env xe → PSs (X.tr pn xe) body (tb W)) :
    PS X (.Try body [.ExceptHandler (some (.Name x np)) (some n) [.Assign [.Name y py] (.Name n px) ap] hp] [] [] tp) (fun D σ H => tb (wKeep X.K c i j X.N.length D) D σ H) := by
  refine ⟨fun pins s σ H D I wish => ?_⟩
  have good := I.ok
  have lone : Loc X.env.scope n := .inl kn
  have frames : X.A.frames = some (X.env :: X.outer) := by rw [good.frames, stk]
  refine wpAny_Try_except (wpAny_mono ((run (wKeep X.K c i j X.N.length D) (X.pn ++ pins) (fun e z => wpAny (model X.prog X.w) X.A (noteFrame e X.env) (fun _ z2 => wpAny (model X.prog X.w) X.A (setFlight e none)
      (fun _ z3 => wpAny (model X.prog X.w) X.A (handleBy e X.env [.ExceptHandler (some (.Name x np)) (some n) [.Assign [.Name y py] (.Name n px) ap] hp]) (SP X pins D) X.xe z3) X.xe z2) X.xe z) (fun u sT air => ?_) PassesOwn.looking).run [] s σ H D (I.toTry _) wish) (fun fl sE hE => ?_) (fun _ _ z => z))
  · obtain ⟨a, B, sG, pG, σG, HG, cls, d, rfl, JG, ground, slots, sky, free, hos, bare, ematch, keep⟩ := air
    have J : Inv X pins σG HG sG := JG.ofTry good
    rw [show (X.tr (X.pn ++ pins) _).stack = X.env :: X.outer from stk] at sky
    show wpAny (model X.prog X.w) X.A (noteFrame (.ref a) X.env) _ _ _
    refine Sky.land Zc.steady frames fra sky fun hA flA upA => ?_
    have JA : Inv X pins σG HG { sT with heap := hA } := J.landed ground flA.1 (slots.trans upA) hos bare
    obtain ⟨oA, vA, gA, zA, dA⟩ := flA.there
    have away : a ∉ frs (X.env :: X.outer) := fun hm => by
      obtain ⟨_, oz, ez, nf⟩ := flA.2.2.1.mem hm
      rw [gA] at ez
      cases ez
      exact nf _ dA
    have noL : a ≠ X.env.locals := fun z => away (List.mem_filterMap.mpr ⟨X.env, List.mem_cons_self, by rw [fra, z]⟩)
    have noF : a ∉ X.fs := fun hm => by
      obtain ⟨e, he, q⟩ := List.mem_filterMap.mp hm
      exact away (List.mem_filterMap.mpr ⟨e, List.mem_cons_of_mem _ he, q⟩)
    have SA := JA.suite gA dA free noL noF
    have Bnone : B.get? a = none := flA.2.1
    have offB : ∀ b o, sG.heap.get? b = some o → b ∉ frs X.stack → b ≠ a := fun b o e nf z => by
      have q := ground b o e nf
      rw [z, Bnone] at q
      cases q
    have off0 : X.s_0.heap.get? a = none := by
      cases e : X.s_0.heap.get? a with
      | none => rfl
      | some o =>
        obtain ⟨o2, q⟩ := J.base.there a o e (by rw [noex]; exact fun z => nomatch z)
        exact absurd rfl (offB a o2 q (by rw [stk]; exact away))
    have offP : ∀ p ∈ X.pn ++ pins, p.1 ≠ a := fun p hp => by
      obtain ⟨q, _, nl, nf, _⟩ := J.pin p hp
      refine offB p.1 _ q fun hm => ?_
      rw [stk] at hm
      obtain ⟨e, he, qe⟩ := List.mem_filterMap.mp hm
      rcases List.mem_cons.mp he with z | z
      · rw [z, fra] at qe
        exact nl (Option.some.inj qe).symm
      · exact nf (List.mem_filterMap.mpr ⟨e, z, qe⟩)
    -- the clause takes it
    refine wpAny_handleBy_cons (codeAny_handlers_test ?_) (by intro q; cases q)
    have look : PySem.W.Looks (model X.prog X.w) hA (typeOf (.ref a)) cls := fun _ _ _ _ k q => wpAny_typeOf_ref (k _ _ gA) (by rw [zA.1]; exact q)
    have answer := PySem.W.exm_one (M := model X.prog X.w) JA.kIn look ematch
    have named : ∀ {Q E : Value → Shared → Prop}, Q c { sT with heap := hA } → wpAny (model X.prog X.w) (X.A.mark (some (.ref a))) (eval (.Name x np) X.env) Q E { sT with heap := hA } := fun {Q E} q => by
      obtain ⟨g1, g2, g3 | ⟨g3, g4, g5⟩⟩ := nm
      · exact ld_glob (X := X.suite a ((a, oA) :: (X.pn ++ pins))) SA g1 g3 q g2
      · exact ld_blt (X := X.suite a ((a, oA) :: (X.pn ++ pins))) SA g1 g3 g4 q g5 g2
    refine named (answer.here ?_)
    refine codeAny_handlers_suite_as (HandSPX.lands_againZ flA fun hB flB upB => ?_)
    have JB : Inv X pins σG HG { sT with heap := hB } := J.landed ground flB.1 ((slots.trans upA).trans upB) hos bare
    obtain ⟨oB, vB, gB, zB, dB⟩ := flB.there
    have SB' := JB.suite gB dB free noL noF
    refine store_ok (X := X.suite a ((a, oB) :: (X.pn ++ pins))) (v := .ref a) SB' nod atI lone rfl (fun s5 S5 => ?_) (.inr kn)
    have vis : Vis X.env.scope n := .inl kn
    have suite : PSs (X.suite a ((a, oB) :: (X.pn ++ pins))) [.Assign [.Name y py] (.Name n px) ap] (tAsg (tVar i) (gName j)) := pss_one (ps_set nod atJ ly (pe_var atI vis d1 d2) rfl fy)
    have inI : (σG.set i (some (V.ref a)))[i]? = some (some (V.ref a)) := List.getElem?_set_self (by rw [J.len]; exact hi)
    refine wpAny_mono (suite.run [] s5 _ HG { nx := fun σ' H' => σ' = (σG.set i (some (V.ref a))).set j (some (V.ref a)) ∧ H' = HG, rt := fun _ _ => False } S5 ⟨_, inI, rfl, rfl⟩) (fun fl s6 h6 => ?_) (fun _ _ z => False.elim z)
    cases fl with
    | next =>
      obtain ⟨σ6, H6, S6, e1, e2⟩ := h6
      rw [e1, e2] at S6
      have K6 : Inv X ((a, oB) :: pins) ((σG.set i (some (V.ref a))).set j (some (V.ref a))) HG s6 := ⟨good, S6.os, S6.bare, S6.base, S6.loc, S6.cell, S6.free, S6.freeC, fun p hp => S6.pin p (by
        rw [List.append_nil]
        rcases List.mem_append.mp hp with z | z
        · exact List.mem_cons_of_mem _ (List.mem_append_left _ z)
        · rcases List.mem_cons.mp z with z | z
          · rw [z]
            exact List.mem_cons_self
          · exact List.mem_cons_of_mem _ (List.mem_append_right _ z)), S6.hok, S6.len⟩
      exact gone_ok K6 nod atI kn fun s7 K7 => ⟨_, _, track K7 zB dB off0 offP, keep a free J.len⟩
    | brk =>
      obtain ⟨_, _, _, z⟩ := h6
      exact z.elim
    | cont =>
      obtain ⟨_, _, _, z⟩ := h6
      exact z.elim
    | ret u =>
      obtain ⟨_, _, _, _, _, z⟩ := h6
      exact z.elim
  · cases fl with
    | next =>
      obtain ⟨_, _, J, q⟩ := hE
      exact wpAny_execs_nil ⟨_, _, J.ofTry good, q⟩
    | brk =>
      obtain ⟨_, _, J, q⟩ := hE
      exact ⟨_, _, J.ofTry good, q⟩
    | cont =>
      obtain ⟨_, _, J, q⟩ := hE
      exact ⟨_, _, J.ofTry good, q⟩
    | ret u =>
      obtain ⟨_, _, _, J, r, q⟩ := hE
      exact ⟨_, _, _, J.ofTry good, r, q⟩
end
theorem any_cls {K : PySem.W.Frag} {C : Addr} (h : PySem.W.hasDictIn K C = true) : (PySem.W.clsIn K C).isSome = true := by
  unfold PySem.W.hasDictIn at h
  cases e : PySem.W.clsIn K C with
  | some c => rfl
  | none =>
    rw [e] at h
    cases h
section
variable {X : Cx} {C : Addr}
/-- a kept exception of the class at C, with its fields -/
def Kept (C : Addr) (fs : List (Str × V)) (a : Addr) (H : Hp) : Prop := ∃ dd : Addr, H a = some (Held (.ref C) (some dd) a) ∧ H dd = some (.xd fs)
theorem kept_inst {pins : List (Addr × Obj)} {σ : L2.St} {H : Hp} {s : Shared} {a : Addr} {fs : List (Str × V)} (I : Inv X pins σ H s) (k : Kept C fs a H) :
    ∃ (ob : Obj) (mA : Str → Option Value) (od : Obj), PySem.W.InstAt s.heap a ob C (some od) ∧ (∀ f, RelO (fs.lookup f) (mA f)) ∧ ∀ n, PySem.W.lookIn n od = some (mA n) := by
  obtain ⟨dd, h1, h2⟩ := k
  obtain ⟨ob, fv, g, z, dt⟩ := held_at I h1
  have q : ObjOk X.prog X.w H s.heap dd (.xd fs) := I.hok dd _ h2
  obtain ⟨mA, ns, rel⟩ := q
  obtain ⟨od, go, lo⟩ := lookIn_ns ns
  exact ⟨ob, mA, od, ⟨g, z.1, by unfold PySem.W.notCls; rw [dt] <;> rfl, by rw [z.2]; exact go⟩, rel, lo⟩
def rIsH (C : Addr) : List V → Hp → VK → Prop := fun xs H Q => ∃ (a : Addr) (fs : List (Str × V)), xs = [.ref a, .ref C] ∧ Kept C fs a H ∧ Q (.bl true) H
theorem call_isH (E : ExcC X.K C) : CallR X (.builtin "isinstance") (rIsH C) := by
  intro pins s σ H xs us Q I r h
  obtain ⟨a, fs, rfl, k, q⟩ := h
  obtain ⟨u1, u2, rfl, r1, r2⟩ := vals2 r
  obtain rfl : u1 = Value.ref a := r1
  obtain rfl : u2 = Value.ref C := r2
  obtain ⟨ob, mA, od, J, _⟩ := kept_inst I k
  have one : PySem.W.kitOne X.K (.ref C) (.ref C) = some true := by
    unfold PySem.W.kitOne
    rw [if_pos (beq_self_eq_true _)]
  exact PySem.W.kia_one (PySem.W.kitx_exc (any_cls E.hd) E.hg E.hk E.hs E.ha E.hn E.ht E.hm) I.kIn J one (fun z => nomatch z) fun tk => ⟨.bl true, H, I.tok tk, rfl, q⟩
def tHf (C : Addr) (f : Str) (te : TE) : TE := fun σ H Q => te σ H fun x H1 => ∃ (a : Addr) (fs : List (Str × V)) (v : V), x = .ref a ∧ Kept C fs a H1 ∧ fs.lookup f = some v ∧ Q v H1
theorem pe_hf {e : Expr} {te : TE} {pos : Pos} {n : Str} (T : XfC X.K C) (no : PySem.W.findIn X.K (.ref C) n = some none) (he : PE X e te) (hb : attributeBase e n X.env (eval e X.env) = eval e X.env := by rfl) : PE X (.Attribute e n pos) (tHf C n te) := by
  refine ⟨fun pins s σ H Q I h => attr_of hb (thn (he.run pins s σ H _ I h) fun u s1 hh => ?_)⟩
  obtain ⟨x, H1, I1, rx, a, fs, v, rfl, k, l, q⟩ := hh
  obtain rfl : u = Value.ref a := rx
  obtain ⟨ob, mA, od, J, rel, lo⟩ := kept_inst I1 k
  obtain ⟨w, hw, rw'⟩ := RelO.some_of (v := v) (o := mA n) (by rw [← l]; exact rel n)
  exact HandSPX.exc_get I1.kIn J T.ga T.gg T.exC (PySem.W.findObj_own T.hdC no rfl (by rw [lo, hw])) (handed_of rw') ⟨v, H1, I1.tok _, rw', q⟩
end

/-! ### isinstance of a kept exception, any answer -/
def rIsK (K : PySem.W.Frag) (D : Addr) : List V → Hp → VK → Prop := fun xs H Q => ∃ (a C : Addr) (fs : List (Str × V)) (b : Bool), xs = [.ref a, .ref D] ∧ Kept C fs a H ∧ ExcC K C ∧ PySem.W.kitOne K (.ref C) (.ref D) = some b ∧ Q (.bl b) H
section
variable {X : Cx} {C D : Addr}
theorem call_isK : CallR X (.builtin "isinstance") (rIsK X.K D) := by
  intro pins s σ H xs us Q I r h
  obtain ⟨a, C, fs, b, rfl, k, E, one, q⟩ := h
  obtain ⟨u1, u2, rfl, r1, r2⟩ := vals2 r
  obtain rfl : u1 = Value.ref a := r1
  obtain rfl : u2 = Value.ref D := r2
  obtain ⟨ob, mA, od, J, _⟩ := kept_inst I k
  exact PySem.W.kia_one (PySem.W.kitx_exc (any_cls E.hd) E.hg E.hk E.hs E.ha E.hn E.ht E.hm) I.kIn J one (fun z => nomatch z) fun tk => ⟨.bl b, H, I.tok tk, rfl, q⟩
end
/-! ### a kept exception's field, its class told by the promise -/
def tHg (K : PySem.W.Frag) (f : Str) (te : TE) : TE := fun σ H Q => te σ H fun x H1 => ∃ (a C : Addr) (fs : List (Str × V)) (v : V), x = .ref a ∧ Kept C fs a H1 ∧ XfC K C ∧ PySem.W.findIn K (.ref C) f = some none ∧ fs.lookup f = some v ∧ Q v H1
section
variable {X : Cx}
theorem pe_hg {e : Expr} {te : TE} {pos : Pos} {n : Str} (he : PE X e te) (hb : attributeBase e n X.env (eval e X.env) = eval e X.env := by rfl) : PE X (.Attribute e n pos) (tHg X.K n te) := by
  refine ⟨fun pins s σ H Q I h => attr_of hb (thn (he.run pins s σ H _ I h) fun u s1 hh => ?_)⟩
  obtain ⟨x, H1, I1, rx, a, C, fs, v, rfl, k, T, no, l, q⟩ := hh
  obtain rfl : u = Value.ref a := rx
  obtain ⟨ob, mA, od, J, rel, lo⟩ := kept_inst I1 k
  obtain ⟨w, hw, rw'⟩ := RelO.some_of (v := v) (o := mA n) (by rw [← l]; exact rel n)
  exact HandSPX.exc_get I1.kIn J T.ga T.gg T.exC (PySem.W.findObj_own T.hdC no rfl (by rw [lo, hw])) (handed_of rw') ⟨v, H1, I1.tok _, rw', q⟩
end
/-! ### o.m(k = v, ..) -/
def tMethK (C : Addr) (m : Str) (nk : Nat) (sp : Sp) (gV : List V → List V → List V) (E : XK) (ta : TE) (tk : TA) : TE := fun σ H Q => ta σ H fun x H1 => ∃ a dx fs, x = .ref a ∧ H1 a = some (.ins C dx fs) ∧ fs.lookup m = none ∧ tk σ H1 fun zs H2 => zs.length = nk ∧ sp (gV [x] zs) H2 Q E
section
variable {X : Cx} {CX : CXT} {k : Nat} {f C : Addr} {fd : FuncData} {ps ks : List Str} {sp : Sp} {E : XK} {m : Str} {pos apos : Pos} {o : Expr} {kws : List Keyword} {ta : TE} {tk : TA} {g : List Value → List Value → List Value} {gV : List V → List V → List V}
theorem pe_methK0 {pl : Sem Bool} (he : PE X o ta) (c : Cls X.K C) (hm : Meth X.K C m f) (F : FnOk X.prog X.w X.K X.mg X.base CX k f fd ps sp) (hr : Room k X.A) (hb : KBn X.K fd ps 1 ks g gV) (hx : Passes CX X E) (hkw : PK X kws tk)
    (hall : (backToKw pos (keywordEach kws X.env)).all (·.1.isSome) = true := by rfl) (hks : (backToKw pos (keywordEach kws X.env)).filterMap (·.1) = ks := by rfl)
    (hpl : ((backTo pos (starEach [] X.env)).any (·.1) || (backToKw pos (keywordEach kws X.env)).any (·.1.isNone)) = false := by rfl)
    (ht : eval (.Call (.Attribute o m apos) [] kws pos) X.env = (do
      let ov ← eval o X.env
      standAt apos.atName
      let (f, first) ← holding [ov] (getMethod ov m pl)
      callWith pos f first (backTo pos (starEach [] X.env)) (backToKw pos (keywordEach kws X.env))) := by rfl) :
    PE X (.Call (.Attribute o m apos) [] kws pos) (tMethK C m ks.length sp gV E ta tk) := by
  refine ⟨fun pins s σ H Q I h => ?_⟩
  refine PySem.W.methodCall_KW (pl := pl) (thn (he.run pins s σ H _ I h) fun u s1 ⟨x, H1, I1, rx, a, dx, fs, ex, ea, l, q⟩ => ?_) ht
  subst ex
  obtain rfl : u = Value.ref a := rx
  refine getmeth_ok I1 ea c hm l ?_
  refine PySem.W.callWith_KW0 (first := [.ref a]) (h₀ := X.base) I1.ok.mod.kin hm.kp hall ?_ hpl
  refine thn (hkw.run pos pins s1 σ H1 _ I1 q) fun ws s2 ⟨zs, H2, I2, rz, l2, q2⟩ => ⟨I2.kIn, ?_⟩
  rw [hks]
  exact run_fnN (us := [.ref a]) (vs := [.ref a]) F hr hb hx I2 (.cons rfl .nil) rz rfl l2 q2
end
end K13

namespace K13
open PySem PySem.Spec PyProof.Rows L2
theorem pe_idxK {X : Cx} {e : Expr} {to : TE} {t : TA} (K : PySem.W.Frag) (B : PE X e (tBM X.K "list" (rIndex X.K) to t)) (h : X.K = K := by rfl) : PE X e (tBM K "list" (rIndex K) to t) := by
  subst h
  exact B
/-- so many draws at most, all else as it stood -/
def spOr : Sp := fun vs H Q _ => ∃ (p a : Addr) (n : Nat) (ts : List Addr) (ps : List (Int × Int)), vs = [.ref p, .ref a] ∧ Lens H p n ∧ n + 100 < 60000 ∧ a ≠ p ∧ LP H a ts ps ∧ OkP ps ∧ ∀ H', SB p H H' → Lens H' p (n + 20) → Q (.bl true) H'
theorem eqV_int (i j : Int) : eqV (.int i) (.int j) = (i == j) := rfl
theorem flat_nV (ns : List Nat) : (nV ns).all flatV = true := by
  unfold nV
  rw [List.all_map]
  exact List.all_eq_true.mpr fun _ _ => rfl
theorem nV_of {ns : List Nat} {i n : Nat} (h : ns[i]? = some n) : (nV ns)[i]? = some (.int (n : Nat)) := by
  unfold nV
  rw [List.getElem?_map, List.getElem?_map, h]
  rfl
theorem LP.getD {H : Hp} {D : Addr} {ts : List Addr} {ps : List (Int × Int)} {i : Nat} (h : LP H D ts ps) (hi : i < ps.length) : (ts.map V.ref)[i]? = some (.ref (ts.getD i 0)) ∧ Pr H (ts.getD i 0) (ps.getD i (0, 0)) := by
  obtain ⟨g, q, eg, eq, r⟩ := h.at hi
  have e1 : ts.getD i 0 = g := by
    rw [List.getElem?_map] at eg
    cases e : ts[i]? with
    | none =>
      rw [e] at eg
      cases eg
    | some z =>
      rw [e] at eg
      rw [List.getD_eq_getElem?_getD, e]
      exact V.ref.inj (Option.some.inj eg)
  have e2 : ps.getD i (0, 0) = q := by
    rw [List.getD_eq_getElem?_getD, eq]
    rfl
  rw [e1, e2]
  exact ⟨eg, r⟩
theorem sk_get {ps : List (Int × Int)} {i : Nat} (hi : i + 1 < ps.length) : (sk 0 ps).getD i 0 = (ps.getD (i + 1) (0, 0)).1 - (ps.getD 0 (0, 0)).1 ∧ (sk 1 ps).getD i 0 = (ps.getD (i + 1) (0, 0)).2 - (ps.getD 0 (0, 0)).2 := by
  cases ps with
  | nil => exact absurd hi (Nat.not_lt_zero _)
  | cons p0 qs =>
    have hi : i < qs.length := by simpa using hi
    have e : (p0 :: qs).getD (i + 1) (0, 0) = qs[i] := by
      rw [List.getD_eq_getElem?_getD, List.getElem?_cons_succ, List.getElem?_eq_getElem hi]
      rfl
    rw [e]
    exact sk_at hi
theorem mrow_at {m : Nat → Nat → Int} {n i j : Nat} (hj : j < n) : ((mrow m n i).map V.int)[j]? = some (.int (m i j)) := by
  unfold mrow
  rw [List.getElem?_map, List.getElem?_map, List.getElem?_range hj]
  rfl
theorem SB.free {p l : Addr} {H H' : Hp} {n : Nat} (v : Lens H p n) (s : SB p H H') (h : H' l = none) : H l = none := by
  cases e : H l with
  | none => rfl
  | some o =>
    by_cases z : l = p
    · obtain ⟨c, x, y, g⟩ := v.at
      obtain ⟨x', y', g'⟩ := s.2 _ _ _ g
      rw [← z, h] at g'
      cases g'
    · rw [s.1 _ _ z e] at h
      cases h
theorem ph_in {C a : Addr} {ps : List (Int × Int)} {H : Hp} {Q : VK} {E : XK} {b : Bool} (pf : PicF H C a ps) (ok : OkP ps) (hb : b = true ↔ thin (sk 0 ps) (sk 1 ps)) (h : ∀ H', Same H H' → Q (.bl b) H') : spPh C [.ref a] H Q E := by
  refine ⟨a, ps, rfl, pf, ok, fun th H' s => ?_, fun nt H' s => ?_⟩
  · have e := hb.mpr th
    subst e
    exact h H' s
  · have e : b = false := by
      cases b with
      | false => rfl
      | true => exact absurd (hb.mp rfl) nt
    subst e
    exact h H' s
theorem nil_in {σ : L2.St} {H : Hp} {R : List V → Hp → Prop} (h : R [] H) : tNil σ H R := h
theorem en_sh (q : Int × Int) : SeqAt.shaped (en q) = true := rfl
theorem Pr.dp {K : PySem.W.Frag} {H : Hp} {g : Addr} {q : Int × Int} (h : Pr H g q) : Dp K H (.ref g) (en q) := .tup (SqT.of h) (.cons (.int _) (.cons (.int _) .nil))
abbrev sOR : Stmt := top 55
abbrev nOR : List Str := ["_law_lens_here", "_law_places_here", "_law_made", "_law_pins", "_law_one", "_law_two", "_law_passed", "_law_first", "_law_back", "_law_rows", "_law_told", "_law_at", "_law_step", "_law_pin"]
theorem scOR : FnScope nOR ["_law_lens_here", "_law_places_here"] (defScope sOR) := ⟨rfl, rfl, rfl, by decide +kernel, rfl, by decide +kernel, by decide +kernel⟩
section
variable {P : Program} {w : World} {K : PySem.W.Frag} {mg : Str → Option Value} {base : Heap} {C CB CP CW CF CN CT : Addr}
theorem ok_or {f : Addr} {fd : FuncData} (F : Fun K "_law_ordered_right" "_law_ordered_right" sOR f fd) (B : Bn mg) (T : Pc P w K mg base C CB) (O : Po P w K mg base C CP CW CF CN CT)
    (C1 : Callee P w K mg base CX0 2 "_law_order" ["_law_lens_here", "_law_pins"] spOrd) (C2 : Callee P w K mg base CX0 1 "_law_stands" ["_law_picture", "_law_places_here"] (spSta C)) : FnOk P w K mg base CX0 10 f fd ["_law_lens_here", "_law_places_here"] spOr := by
  obtain ⟨f1, fd1, m1, k1, b1, G1⟩ := C1
  obtain ⟨f2, fd2, m2, k2, b2, G2⟩ := C2
  obtain ⟨fi, fdi, Mi, Gi, bi, ki⟩ := O.io
  obtain ⟨fh, fdh, Mh, Gh, bh⟩ := T.ph
  obtain ⟨fp, fdp, Mp, Gp, bp⟩ := T.pp
  obtain ⟨fE, fdE, GE, hsE, hfE, bE⟩ := T.eq
  have cl := T.t.pc.cls
  have nd := scOR.nd
  refine F.ok scOR (fun vs H Q E h => ?_) (fun cdv A outer s H vs Q E hr h => ?_)
  · obtain ⟨p, a, n, ts, ps, rfl, _⟩ := h
    rfl
  obtain ⟨p, a, n, ts, ps, rfl, hv, hn, nap, lp, ok, q⟩ := h
  refine ⟨_, (pss_cons (ps_par (i := 2) (j := 3) rfl nd rfl rfl (by decide) rfl rfl (pa_cons ((pe_mkP (E := E0) T (hr.mono (by decide)) passL rfl (pa_cons (pv 1) pa_nil))) (pa_cons ((pe_callB call_len_seq (by rfl) B.len PySem.boot_len (pa_cons (pv 1) pa_nil))) pa_nil)) (by rfl)) (pss_cons (ps_asg (pe_tup (pa_cons ((pe_call G1 (hr.mono (by decide)) rfl m1 k1 b1 .nil pass0 (pa_cons (pv 0) (pa_cons (pv 3) pa_nil)))) (pa_cons ((pe_call G1 (hr.mono (by decide)) rfl m1 k1 b1 .nil pass0 (pa_cons (pv 0) (pa_cons (pv 3) pa_nil)))) pa_nil))) (pg_tup rfl (pgs_cons ((pg_name (i := 4) nd rfl (Or.inr rfl))) (pgs_cons ((pg_name (i := 5) nd rfl (Or.inl rfl))) pgs_nil)))) (pss_cons ((ps_set (i := 6) nd rfl (Or.inl rfl) ((pe_callTy (T := "list") (r := rLi K) call_liK (by rfl) B.list (by decide +kernel) (pa_cons (pv 4) pa_nil))))) (pss_cons ((ps_set (i := 7) nd rfl (Or.inl rfl) ((pe_meth (E := E0) (pv 2) cl Mi Gi (hr.mono (by decide)) bi .nil passL (pa_cons (pv 6) pa_nil))))) (pss_cons (ps_asg (pe_ix ix_list (pv 6) (pe_int) (fun _ _ => rfl)) (pg_sub (pv 6) pe_int set_list)) (pss_cons ((ps_setLc (i := 8) (own := [("_law_pin", 13)]) (g := gName 13) (tt := tYes) rfl nd rfl rfl (sw_true rfl rfl rfl (by decide +kernel)) ((pi_range1 rfl B.range (pa_cons (pv 3) pa_nil))) (blkOk_by (N := nOR) (sc := defScope sOR) (by decide +kernel)) (fun _ _ _ _ _ => (pg_name (i := 13) nd rfl (Or.inl rfl))) (fun _ _ _ _ _ => pts_nil) (fun _ _ _ _ _ => pe_idxK K (pe_bm PySem.F.plainAttrs_list PySem.F.slot_list_index PySem.F.type_list_index mt_index (pv 4) (pa_cons (pv 13) pa_nil))))) (pss_cons (ps_if (PW.pt (pw_or (pt_not (pt_val (pe_call G2 (hr.mono (by decide)) rfl m2 k2 b2 .nil pass0 (pa_cons (pv 7) (pa_cons ((pe_lc (own := [("_law_pin", 13)]) (g := gName 13) (tt := tYes) rfl nd (pi_list (pv 4)) (blkOk_by (N := nOR) (sc := defScope sOR) (by decide +kernel)) (fun _ _ _ _ _ => (pg_name (i := 13) nd rfl (Or.inl rfl))) (fun _ _ _ _ _ => pts_nil) (fun _ _ _ _ _ => (pe_ix (r := rIxL K) ix_listK (pv 1) (pv 13) (fun _ _ => rfl))))) pa_nil))))) (pw_or1 ((pt_cmpR (op_neP GE hsE hfE bE T.n T.t (hr.mono (by decide))) ((pe_methK0 (E := E0) (pv 2) cl Mi Gi (hr.mono (by decide)) ki passL (pk_cons ((pe_callTy (T := "tuple") (r := rTu K) call_tuK (by rfl) B.tuple (by decide +kernel) (pa_cons (pv 4) pa_nil))) pk_nil))) (pv 7) (nomark _)))))) (pss_one (ps_ret pe_bl)) pss_nil) (pss_cons (ps_if (PW.pt (pw_or ((pt_cmpR (op_neP GE hsE hfE bE T.n T.t (hr.mono (by decide))) ((pe_meth (E := E0) (pv 7) cl Mi Gi (hr.mono (by decide)) bi .nil passL (pa_cons (pv 8) pa_nil))) (pv 2) (nomark _))) (pw_or ((pt_cmpR (op_neP GE hsE hfE bE T.n T.t (hr.mono (by decide))) ((pe_meth (E := E0) ((pe_meth (E := E0) (pv 2) cl Mi Gi (hr.mono (by decide)) bi .nil passL (pa_cons (pv 8) pa_nil))) cl Mi Gi (hr.mono (by decide)) bi .nil passL (pa_cons (pv 4) pa_nil))) (pv 2) (nomark _))) (pw_or1 ((pt_cmpR (op_neP GE hsE hfE bE T.n T.t (hr.mono (by decide))) ((pe_meth (E := E0) (pv 2) cl Mi Gi (hr.mono (by decide)) bi .nil passL (pa_cons ((pe_listRg rfl (by rfl) B.list (prg_1 rfl B.range (pv 3)))) pa_nil))) (pv 2) (nomark _))))))) (pss_one (ps_ret pe_bl)) pss_nil) (pss_cons (ps_if (PW.pt (pw_or ((pt_cmpR (op_neP GE hsE hfE bE T.n T.t (hr.mono (by decide))) ((pe_meth (E := E0) (pv 7) cl Mi Gi (hr.mono (by decide)) bi .nil passL (pa_cons (pv 5) pa_nil))) ((pe_meth (E := E0) (pv 2) cl Mi Gi (hr.mono (by decide)) bi .nil passL (pa_cons ((pe_lc (own := [("_law_pin", 13)]) (g := gName 13) (tt := tYes) rfl nd (pi_list (pv 5)) (blkOk_by (N := nOR) (sc := defScope sOR) (by decide +kernel)) (fun _ _ _ _ _ => (pg_name (i := 13) nd rfl (Or.inl rfl))) (fun _ _ _ _ _ => pts_nil) (fun _ _ _ _ _ => (pe_ix (r := rIxL K) ix_listK (pv 4) (pv 13) (fun _ _ => rfl))))) pa_nil))) (nomark _))) (pw_or1 ((pt_cmpR op_ne ((pe_meth0 (pv 7) cl Mh Gh (hr.mono (by decide)) bh .nil pass0)) ((pe_meth0 (pv 2) cl Mh Gh (hr.mono (by decide)) bh .nil pass0)) (nomark _)))))) (pss_one (ps_ret pe_bl)) pss_nil) (pss_cons (ps_par (i := 9) (j := 10) rfl nd rfl rfl (by decide) rfl rfl (pa_cons (pe_fld (pv 7) rfl) (pa_cons ((pe_meth0 (pv 7) cl Mp Gp (hr.mono (by decide)) bp .nil pass0)) pa_nil)) (by rfl)) (pss_cons (ps_for PassesOwn.never rfl (pi_range2 (by rfl) B.range (pa_cons (pe_int) (pa_cons (pv 3) pa_nil))) (pg_name (i := 11) nd rfl (Or.inl rfl)) (pss_cons ((ps_set (i := 12) nd rfl (Or.inl rfl) (pe_tup (pa_cons (pe_op op_sub (pe_ix ix_tup ((pe_ix ix_list (pv 1) ((pe_ix ix_list (pv 4) (pv 11) (fun _ _ => rfl))) (fun _ _ => rfl))) (pe_int) (fun _ _ => rfl)) (pe_ix ix_tup ((pe_ix ix_list (pv 1) ((pe_ix ix_list (pv 4) (pe_int) (fun _ _ => rfl))) (fun _ _ => rfl))) (pe_int) (fun _ _ => rfl))) (pa_cons (pe_op op_sub (pe_ix ix_tup ((pe_ix ix_list (pv 1) ((pe_ix ix_list (pv 4) (pv 11) (fun _ _ => rfl))) (fun _ _ => rfl))) (pe_int) (fun _ _ => rfl)) (pe_ix ix_tup ((pe_ix ix_list (pv 1) ((pe_ix ix_list (pv 4) (pe_int) (fun _ _ => rfl))) (fun _ _ => rfl))) (pe_int) (fun _ _ => rfl))) pa_nil))))) (pss_one (ps_if (PW.pt (pw_or ((pt_cmpR (op_neD hr.units) (pe_tup (pa_cons ((pe_ix ix_tup ((pe_ix ix_tup (pv 9) (pe_int) (fun _ _ => rfl))) (pe_op op_sub (pv 11) pe_int) (fun _ _ => rfl))) (pa_cons ((pe_ix ix_tup ((pe_ix ix_tup (pv 9) (pe_int) (fun _ _ => rfl))) (pe_op op_sub (pv 11) pe_int) (fun _ _ => rfl))) pa_nil))) (pv 12) (nomark _))) (pw_or1 ((pt_cmpR op_ne ((pe_ix ix_tup ((pe_ix ix_tup (pv 10) (pe_op op_sub (pv 11) pe_int) (fun _ _ => rfl))) (pe_op op_sub (pv 11) pe_int) (fun _ _ => rfl))) (pe_op op_add (pe_op op_mul (pe_ix ix_tup (pv 12) (pe_int) (fun _ _ => rfl)) (pe_ix ix_tup (pv 12) (pe_int) (fun _ _ => rfl))) (pe_op op_mul (pe_ix ix_tup (pv 12) (pe_int) (fun _ _ => rfl)) (pe_ix ix_tup (pv 12) (pe_int) (fun _ _ => rfl)))) (nomark _)))))) (pss_one (ps_ret pe_bl)) pss_nil)))) (pss_one (ps_ret (pe_call G2 (hr.mono (by decide)) rfl m2 k2 b2 .nil pass0 (pa_cons (pv 2) (pa_cons (pv 1) pa_nil)))))))))))))))), ?_⟩
  have l4 := ok.1
  have l7 := ok.2.1
  have nn : ∀ {x : Addr} {G : Hp} {k : Nat}, Lens G p k → G x = none → x ≠ p := fun v h => v.not_none h
  refine ⟨_, rfl, _, rfl, .inl ⟨ps, lp.pls, ok, fun m H1 s1 _ pf => ?_⟩⟩
  refine ⟨_, rfl, a, _, rfl, .inl (SqL.of (lp.same s1).1), _, _, rfl, ?_⟩
  rw [List.length_map, lp.len]
  -- two orders
  refine ⟨_, rfl, _, rfl, p, n, ps.length, rfl, hv.same s1, by omega, l7, fun H2 c1 one s2 v2 nc1 f1 g1 pm1 => ?_⟩
  refine ⟨_, rfl, _, rfl, p, _, ps.length, rfl, v2, by omega, l7, fun H3 c2 two s3 v3 nc2 f2 g2 pm2 => ?_⟩
  have o1 := ord_perm pm1
  have o2 := ord_perm pm2
  have g1 := s3.1 _ _ nc1 g1
  have pf := (pf.sb (hv.same s1) s2).sb v2 s3
  have lp := ((lp.same s1).sb (hv.same s1) nap s2).sb v2 nap s3
  have sA : SB p H H3 := ((SB.of s1).trans s2).trans s3
  refine ⟨by show 2 ≤ sizeLine; decide, fun t4 n4 => ?_⟩
  have s4 := same_new (o := .tup [V.ref c1, V.ref c2]) n4
  refine ⟨t4, _, rfl, SqT.of upd_same, rfl, _, _, rfl, _, _, rfl, rfl, ?_⟩
  have g1 := s4 _ _ g1
  have g2 := s4 _ _ g2
  have pf := pf.same s4
  have lp := lp.same s4
  have v3 := v3.same s4
  have sA := sA.trans (SB.of s4)
  generalize upd H3 t4 (.tup [V.ref c1, V.ref c2]) = H4 at g1 g2 pf lp v3 sA ⊢
  clear s1 s2 s3 s4 v2 f1 f2 n4 pm1 pm2
  -- passed
  refine ⟨_, rfl, c1, _, rfl, .inl (SqL.of g1), fun l nl => ?_⟩
  have s5 := same_new (o := .lst (nV one)) nl
  have gl : upd H4 l (.lst (nV one)) l = some (.lst (nV one)) := upd_same
  have nl0 := sA.free hv nl
  have c1l := ne_of_none g1 nl
  have c2l := ne_of_none g2 nl
  have al := ne_of_none lp.1 nl
  have g1 := s5 _ _ g1
  have g2 := s5 _ _ g2
  have pf := pf.same s5
  have lp := lp.same s5
  have v5 := v3.same s5
  have sA := sA.trans (SB.of s5)
  generalize upd H4 l (.lst (nV one)) = H5 at g1 g2 pf lp v5 sA gl ⊢
  clear s5 nl v3
  refine ⟨_, rfl, meth_in pf (fun _ _ _ => rfl) ⟨_, rfl, io_in pf ok o1 (.inl gl) fun x H6 s6 n6 px => ?_⟩⟩
  have oq : OkP (pick ps one) := ord_ok o1 ok
  have l1 : 4 ≤ one.length := by rw [o1.len]; exact l4
  refine ⟨_, rfl, l, _, 1, .int (one[1] : Nat), rfl, rfl, SqL.of (s6 _ _ gl), atI_nat (j := 1) (nV_at (by omega)), ?_⟩
  refine ⟨_, rfl, l, _, 0, 0, rfl, rfl, s6 _ _ gl, ixN_nat (j := 0) (show 0 < (nV one).length by rw [nV_len]; omega), ?_⟩
  have gl := s6 _ _ gl
  have g1 : upd H6 l (.lst ((nV one).set 0 (.int (one[1] : Nat)))) c1 = some (.lst (nV one)) := by rw [upd_ne c1l]; exact s6 _ _ g1
  have g2 : upd H6 l (.lst ((nV one).set 0 (.int (one[1] : Nat)))) c2 = some (.lst (nV two)) := by rw [upd_ne c2l]; exact s6 _ _ g2
  have pf := (pf.same s6).updl (o := .lst ((nV one).set 0 (.int (one[1] : Nat)))) gl
  have px := px.updl (o := .lst ((nV one).set 0 (.int (one[1] : Nat)))) gl
  have lp : LP (upd H6 l (.lst ((nV one).set 0 (.int (one[1] : Nat))))) a ts ps := ⟨by rw [upd_ne al]; exact (lp.same s6).1, prs_upd gl (lp.same s6).2⟩
  have sA := sA.trans (SB.of s6)
  have v7 := (v5.same s6).upd (o := .lst ((nV one).set 0 (.int (one[1] : Nat)))) hv sA nl0
  have sA := SB.upd (o := .lst ((nV one).set 0 (.int (one[1] : Nat)))) hv sA nl0
  generalize upd H6 l (.lst ((nV one).set 0 (.int (one[1] : Nat)))) = H7 at g1 g2 pf px lp v7 sA ⊢
  clear gl s6 n6 v5 c1l c2l al nl0
  -- back
  refine ⟨_, rfl, (ps.length : Int), rfl, by omega, by omega, fun D hD => ?_⟩
  rw [Int.toNat_natCast]
  refine lc_range (lo := 0) (n := ps.length) (fun i H' => Same H7 H' ∧ ∃ bs : List Nat, bs.length = i ∧ H' D = some (.lst (nV bs)) ∧ ∀ j (hj : j < bs.length), one[bs[j]]? = some j) ⟨same_new hD, [], rfl, upd_same, fun j hj => absurd hj (Nat.not_lt_zero j)⟩ (fun i H' hi pv => ?_) (fun H8 pv => ?_)
  · obtain ⟨s, bs, lb, hd, hb⟩ := pv
    obtain ⟨j, hj, ej⟩ := List.getElem_of_mem (o1.all i hi)
    refine ⟨rfl, yes_of ?_⟩
    refine ⟨_, rfl, .inl ⟨rfl, _, SqL.of (s _ _ g1)⟩, _, rfl, c1, nV one, _, j, .int (one[j] : Nat), rfl, rfl, SqL.of (s _ _ g1), rfl, flat_nV _, nV_at hj, ?_, fun k z hk hz => ?_, ?_⟩
    · show (((one[j] : Nat) : Int) == 0 + (i : Int)) = true
      rw [ej, Int.zero_add]
      exact beq_self_eq_true _
    · obtain ⟨u, hu, rfl⟩ := nV_get hz
      show (((u : Nat) : Int) == 0 + (i : Int)) = false
      rw [Int.zero_add]
      refine beq_eq_false_iff_ne.mpr fun e => ?_
      obtain ⟨hk2, eu⟩ := List.getElem?_eq_some_iff.mp hu
      have := nd_inj o1.nd hk2 hj (by rw [eu, ej]; omega)
      omega
    · refine ⟨_, hd, by rw [nV_len, lb]; exact small1000 (by omega), fun b o e => ?_, bs ++ [j], by rw [List.length_append, lb]; rfl, by rw [upd_same, nV_snoc], fun k hk => ?_⟩
      · rw [upd_ne (ne_of_none e hD)]
        exact s _ _ e
      · rw [List.length_append] at hk
        by_cases hk2 : k < bs.length
        · rw [List.getElem_append_left hk2]
          exact hb k hk2
        · have ek : k = bs.length := by
            have : [j].length = 1 := rfl
            omega
          subst ek
          rw [List.getElem_append_right (Nat.le_refl _)]
          simp only [Nat.sub_self, List.getElem_cons_zero]
          rw [lb, List.getElem?_eq_getElem hj, ej]
  obtain ⟨s8, bs, lb, gD, hb⟩ := pv
  have bk : Back one bs ps.length := ⟨lb, hb⟩
  have oB := bk.ord o1
  have g1 := s8 _ _ g1
  have g2 := s8 _ _ g2
  have pf := pf.same s8
  have px := px.same s8
  have lp := lp.same s8
  have v8 := v7.same s8
  have sA := sA.trans (SB.of s8)
  clear s8 v7 hb lb hD
  -- the places of an order, as a list
  refine ⟨_, rfl, _, rfl, c1, rfl, ⟨_, SqL.of g1⟩, fun D2 hD2 => ?_⟩
  refine lc_list (K := K) (a := c1) (xs := nV one) (fun i => At H8 D2 (((tsel ts one).take i).map V.ref)) ⟨same_new hD2, upd_same⟩ (fun i H' _ p => SqL.of (p.1 _ _ g1)) (fun i v H' hx p => ?_) (fun H9 p => ?_)
  · obtain ⟨u, eu, rfl⟩ := nV_get hx
    have hu : u < ps.length := o1.lt u (List.mem_of_getElem? eu)
    have eg : (tsel ts one)[i]? = some (ts.getD u 0) := by
      unfold tsel
      rw [List.getElem?_map, eu]
      rfl
    refine ⟨rfl, yes_of ?_⟩
    refine ⟨_, rfl, _, rfl, a, _, _, .ref (ts.getD u 0), rfl, rfl, SqL.of (p.1 _ _ lp.1), atI_nat (lp.getD hu).1, _, p.2, ?_, p.step hD2 Same.me ?_⟩
    · rw [List.length_map]
      exact small1000 (Nat.le_trans (List.length_take_le' _ _) (by unfold tsel; rw [List.length_map, o1.len]; omega))
    · rw [take_more eg, List.map_append]
      rfl
  have el : (nV one).length = (tsel ts one).length := by
    unfold tsel
    rw [nV_len, List.length_map]
  rw [el, List.take_length] at p
  have lpD : LP H9 D2 (tsel ts one) (pick ps one) := ⟨p.2, pick_prs lp.2 o1.lt fun g q z => p.1 _ _ z⟩
  have s9 := p.1
  clear p
  refine ⟨x, D2, _, _, rfl, px.same s9, lpD, by rw [pick_len, o1.len]; exact l7, fun H10 s10 => ⟨_, rfl, iteF ?_⟩⟩
  have s910 := s9.trans s10
  have g1 := s910 _ _ g1
  have g2 := s910 _ _ g2
  have gD := s910 _ _ gD
  have pf := pf.same s910
  have px := px.same s910
  have lp := lp.same s910
  have v8 := v8.same s910
  have sA := sA.trans (SB.of s910)
  clear s9 s10 s910 lpD el hD2
  -- by name, as a tuple
  refine ⟨_, rfl, meth_in pf (fun _ _ _ => rfl) ⟨_, rfl, c1, _, rfl, .inl ⟨SqL.of g1, fun t nt => ⟨rfl, io_in (pf.same (same_new nt)) ok o1 (.inr upd_same) fun y H11 s11 _ py => ?_⟩⟩⟩⟩
  have s := (same_new (o := .tup (nV one)) nt).trans s11
  refine ⟨_, rfl, y, _, true, rfl, py, .inr ⟨x, _, rfl, px.same s, (decide_eq_true rfl).symm⟩, _, rfl, iteF ?_⟩
  have g1 := s _ _ g1
  have g2 := s _ _ g2
  have gD := s _ _ gD
  have pf := pf.same s
  have px := px.same s
  have lp := lp.same s
  have v8 := v8.same s
  have sA := sA.trans (SB.of s)
  clear s s11 py nt
  -- there and back
  refine ⟨_, rfl, meth_in px (fun _ _ _ => rfl) ⟨_, rfl, io_in px oq (ns := bs) (by rw [pick_len, o1.len]; exact oB) (.inl gD) fun y H12 s12 _ py => ?_⟩⟩
  rw [bk.left o1] at py
  refine ⟨_, rfl, y, _, true, rfl, py, .inr ⟨m, _, rfl, pf.same s12, (decide_eq_true rfl).symm⟩, _, rfl, iteF ?_⟩
  have g1 := s12 _ _ g1
  have g2 := s12 _ _ g2
  have gD := s12 _ _ gD
  have pf := pf.same s12
  have px := px.same s12
  have lp := lp.same s12
  have v8 := v8.same s12
  have sA := sA.trans (SB.of s12)
  clear s12 py
  refine ⟨_, rfl, meth_in pf (fun _ _ _ => rfl) ⟨_, rfl, io_in pf ok oB (.inl gD) fun y H13 s13 _ py => ?_⟩⟩
  refine meth_in py (fun _ _ _ => rfl) ⟨_, rfl, io_in py (ord_ok oB ok) (ns := one) (by rw [pick_len, oB.len]; exact o1) (.inl (s13 _ _ g1)) fun z H14 s14 _ pz => ?_⟩
  rw [bk.right o1] at pz
  have s := s13.trans s14
  refine ⟨_, rfl, z, _, true, rfl, pz, .inr ⟨m, _, rfl, pf.same s, (decide_eq_true rfl).symm⟩, _, rfl, iteF ?_⟩
  have g1 := s _ _ g1
  have g2 := s _ _ g2
  have pf := pf.same s
  have px := px.same s
  have lp := lp.same s
  have v8 := v8.same s
  have sA := sA.trans (SB.of s)
  clear s s13 s14 py pz gD
  refine ⟨_, rfl, meth_in pf (fun _ _ _ => rfl) ⟨_, rfl, (ps.length : Int), rfl, RgOk.of_le (by decide) (by omega) (by decide) (by omega), fun L hL => ?_⟩⟩
  rw [rg_nV]
  have sL := same_new (o := .lst (nV (List.range ps.length))) hL
  refine io_in (pf.same sL) ok (ord_range _) (.inl upd_same) fun y H15 s15 _ py => ?_
  rw [pick_range] at py
  have s := sL.trans s15
  refine ⟨_, rfl, y, _, true, rfl, py, .inr ⟨m, _, rfl, pf.same s, (decide_eq_true rfl).symm⟩, _, rfl, iteF ?_⟩
  have g1 := s _ _ g1
  have g2 := s _ _ g2
  have pf := pf.same s
  have px := px.same s
  have lp := lp.same s
  have v8 := v8.same s
  have sA := sA.trans (SB.of s)
  clear s sL s15 py hL
  -- one behind the other
  refine ⟨_, rfl, meth_in px (fun _ _ _ => rfl) ⟨_, rfl, io_in px oq (ns := two) (by rw [pick_len, o1.len]; exact o2) (.inl g2) fun y H16 s16 _ py => ?_⟩⟩
  rw [pick_pick (fun k hk => by rw [o1.len]; exact o2.lt k hk)] at py
  have g1 := s16 _ _ g1
  have g2 := s16 _ _ g2
  have pf := pf.same s16
  have px := px.same s16
  have lp := lp.same s16
  have v8 := v8.same s16
  have sA := sA.trans (SB.of s16)
  clear s16
  refine ⟨_, rfl, meth_in pf (fun _ _ _ => rfl) ⟨_, rfl, c2, rfl, ⟨_, SqL.of g2⟩, fun D3 hD3 => ?_⟩⟩
  refine lc_list (K := K) (a := c2) (xs := nV two) (fun i => At H16 D3 (nV ((two.map fun k => one.getD k 0).take i))) ⟨same_new hD3, upd_same⟩ (fun i H' _ p => SqL.of (p.1 _ _ g2)) (fun i v H' hx p => ?_) (fun H17 p => ?_)
  · obtain ⟨u, eu, rfl⟩ := nV_get hx
    have hu : u < one.length := by
      rw [o1.len]
      exact o2.lt u (List.mem_of_getElem? eu)
    have eg : (two.map fun k => one.getD k 0)[i]? = some one[u] := by
      rw [List.getElem?_map, eu]
      show some (one.getD u 0) = _
      rw [List.getD_eq_getElem?_getD, List.getElem?_eq_getElem hu]
      rfl
    refine ⟨rfl, yes_of ?_⟩
    refine ⟨_, rfl, _, rfl, c1, _, _, .int (one[u] : Nat), rfl, rfl, SqL.of (p.1 _ _ g1), atI_nat (nV_at hu), _, p.2, ?_, p.step hD3 Same.me ?_⟩
    · rw [nV_len]
      exact small1000 (Nat.le_trans (List.length_take_le' _ _) (by rw [List.length_map, o2.len]; omega))
    · rw [take_more eg, nV_snoc]
  have el : (nV two).length = (two.map fun k => one.getD k 0).length := by rw [nV_len, List.length_map]
  rw [el, List.take_length] at p
  have s17 := p.1
  refine io_in (pf.same s17) ok (ord_comp o1 o2) (.inl p.2) fun z H18 s18 _ pz => ?_
  have s := s17.trans s18
  refine ⟨y, _, true, rfl, py.same s, .inr ⟨z, _, rfl, pz, (decide_eq_true rfl).symm⟩, _, rfl, iteF ?_⟩
  have g1 := s _ _ g1
  have pf := pf.same s
  have px := px.same s
  have lp := lp.same s
  have v8 := v8.same s
  have sA := sA.trans (SB.of s)
  clear s s17 s18 py pz p el hD3 g2
  -- on one line or not
  obtain ⟨th, hth⟩ : ∃ b : Bool, b = true ↔ thin (sk 0 ps) (sk 1 ps) := by
    by_cases z : thin (sk 0 ps) (sk 1 ps)
    · exact ⟨true, fun _ => z, fun _ => rfl⟩
    · exact ⟨false, fun z => (by cases z), fun y => absurd y z⟩
  refine ⟨_, rfl, meth_in px (fun _ _ _ => rfl) (nil_in ?_)⟩
  refine ph_in (b := th) px oq (hth.trans (ord_thin o1 l4).symm) fun H19 s19 => ?_
  refine ⟨_, rfl, meth_in (pf.same s19) (fun _ _ _ => rfl) (nil_in ?_)⟩
  refine ph_in (b := th) (pf.same s19) ok hth fun H20 s20 => ?_
  refine ⟨rfl, _, rfl, ?_⟩
  rw [decide_eq_true (rfl : V.bl th = V.bl th)]
  refine iteF ?_
  have s := s19.trans s20
  have g1 := s _ _ g1
  have pf := pf.same s
  have px := px.same s
  have lp := lp.same s
  have v8 := v8.same s
  have sA := sA.trans (SB.of s)
  clear s s19 s20 hth
  -- rows and products
  obtain ⟨dx, t, u, hx, _, r0, r1, hu, h0, h1⟩ := id px
  refine ⟨_, rfl, x, C, dx, _, .ref u, rfl, hx, cl, T.t.n3, rfl, ?_⟩
  refine ⟨_, rfl, meth_in px (fun _ _ _ => rfl) ?_⟩
  refine ⟨x, _, rfl, px, oq, fun H21 t21 s21 mt => ?_⟩
  refine ⟨_, _, rfl, ?_⟩
  have hu := s21 _ _ hu
  have h0 := s21 _ _ h0
  have h1 := s21 _ _ h1
  have g1 := s21 _ _ g1
  have pf := pf.same s21
  have lp := lp.same s21
  have v8 := v8.same s21
  have sA := sA.trans (SB.of s21)
  have lq : (pick ps one).length = ps.length := by rw [pick_len, o1.len]
  rw [lq] at mt
  clear s21 px hx
  obtain ⟨rs, lr, ht, hrow⟩ := mt
  refine ⟨_, rfl, 1, (ps.length : Int), rfl, ⟨by decide, by decide, by omega, by omega⟩, ?_⟩
  rw [show ((ps.length : Int) - 1).toNat = ps.length - 1 by omega]
  refine for_range (lo := 1) (n := ps.length - 1) (fun i σ H' => Same H21 H' ∧ ∃ c11 c12, σ = [some (.ref p), some (.ref a), some (.ref m), some (.int ps.length), some (.ref c1), some (.ref c2), some (.ref l), some (.ref x), some (.ref D), some (.ref u), some (.ref t21), c11, c12, none]) ⟨Same.me, _, _, rfl⟩ (fun i σ H' hi p => ?_) (fun σ H' p => ?_)
  · obtain ⟨s, c11, c12, rfl⟩ := p
    rw [show (1 : Int) + (i : Int) = ((i + 1 : Nat) : Int) by omega]
    have hi1 : i + 1 < one.length := by rw [o1.len]; omega
    have h01 : 0 < one.length := by omega
    have lp := lp.same s
    have g1 := s _ _ g1
    obtain ⟨b1, p1⟩ := lp.getD (o1.lt _ (List.getElem_mem hi1))
    obtain ⟨b0, p0⟩ := lp.getD (o1.lt _ (List.getElem_mem h01))
    have e1 : (pick ps one).getD (i + 1) (0, 0) = ps.getD one[i + 1] (0, 0) := pick_at hi1
    have e0 : (pick ps one).getD 0 (0, 0) = ps.getD one[0] (0, 0) := pick_at h01
    have a1 := atI_nat (nV_at hi1)
    have a0 : atI (nV one) 0 = some (.int (one[0] : Nat)) := atI_nat (j := 0) (nV_at h01)
    have q1 := oq.2.2 ((pick ps one).getD (i + 1) (0, 0)) (by
      rw [List.getD_eq_getElem?_getD, List.getElem?_eq_getElem (by rw [lq]; omega)]
      exact List.getElem_mem _)
    have q0 := oq.2.2 ((pick ps one).getD 0 (0, 0)) (by
      rw [List.getD_eq_getElem?_getD, List.getElem?_eq_getElem (by rw [lq]; omega)]
      exact List.getElem_mem _)
    obtain ⟨k0, k1⟩ := sk_get (ps := pick ps one) (i := i) (by rw [lq]; omega)
    rw [e1, e0] at k0 k1
    rw [e1] at q1
    rw [e0] at q0
    generalize ps.getD one[i + 1] (0, 0) = z1 at p1 k0 k1 q1
    generalize ps.getD one[0] (0, 0) = z0 at p0 k0 k1 q0
    generalize ts.getD one[i + 1] 0 = y1 at b1 p1
    generalize ts.getD one[0] 0 = y0 at b0 p0
    obtain ⟨z1a, z1b⟩ := z1
    obtain ⟨z0a, z0b⟩ := z0
    have p1 : H' y1 = some (.tup [.int z1a, .int z1b]) := p1
    have p0 : H' y0 = some (.tup [.int z0a, .int z0b]) := p0
    have eG : G9 = 1000000000 := rfl
    dsimp only at k0 k1 q1 q0
    refine ⟨_, rfl, _, rfl, _, rfl, c1, _, _, _, rfl, rfl, SqL.of g1, a1, a, _, _, _, rfl, rfl, SqL.of lp.1, atI_nat b1, y1, _, 0, _, rfl, rfl, SqT.of p1, rfl, ?_⟩
    refine ⟨_, rfl, _, rfl, c1, _, _, _, rfl, rfl, SqL.of g1, a0, a, _, _, _, rfl, rfl, SqL.of lp.1, atI_nat b0, y0, _, 0, _, rfl, rfl, SqT.of p0, rfl, _, _, rfl, rfl, ?_⟩
    refine ⟨_, rfl, _, rfl, _, rfl, c1, _, _, _, rfl, rfl, SqL.of g1, a1, a, _, _, _, rfl, rfl, SqL.of lp.1, atI_nat b1, y1, _, 1, _, rfl, rfl, SqT.of p1, rfl, ?_⟩
    refine ⟨_, rfl, _, rfl, c1, _, _, _, rfl, rfl, SqL.of g1, a0, a, _, _, _, rfl, rfl, SqL.of lp.1, atI_nat b0, y0, _, 1, _, rfl, rfl, SqT.of p0, rfl, _, _, rfl, rfl, ?_⟩
    refine ⟨by show 2 ≤ sizeLine; decide, fun g hg => ?_⟩
    have sg := same_new (o := .tup [V.int (z1a - z0a), V.int (z1b - z0b)]) hg
    have gg : upd H' g (.tup [V.int (z1a - z0a), V.int (z1b - z0b)]) g = some (.tup [V.int (z1a - z0a), V.int (z1b - z0b)]) := upd_same
    have sG := s.trans sg
    generalize upd H' g (.tup [V.int (z1a - z0a), V.int (z1b - z0b)]) = H3 at sg gg sG ⊢
    have hu := sG _ _ hu
    have h0 := sG _ _ h0
    have h1 := sG _ _ h1
    have im : ((i + 1 : Nat) : Int) - 1 = (i : Int) := by omega
    have l0 : i < (sk 0 (pick ps one)).length := by rw [sk_len, lq]; exact hi
    have l1 : i < (sk 1 (pick ps one)).length := by rw [sk_len, lq]; exact hi
    have w0 := ints_at l0
    have w1 := ints_at l1
    rw [k0, ← im] at w0
    rw [k1, ← im] at w1
    refine ⟨_, rfl, u, _, 0, .ref r0, rfl, rfl, SqT.of hu, rfl, _, rfl, _, _, rfl, rfl, r0, _, _, _, rfl, rfl, SqT.of h0, w0, ?_⟩
    refine ⟨_, rfl, u, _, 1, .ref r1, rfl, rfl, SqT.of hu, rfl, _, rfl, _, _, rfl, rfl, r1, _, _, _, rfl, rfl, SqT.of h1, w1, ?_⟩
    refine ⟨by show 2 ≤ sizeLine; decide, fun g2 hg2 => ?_⟩
    have sg2 := same_new (o := .tup [V.int (z1a - z0a), V.int (z1b - z0b)]) hg2
    have gg2 : upd H3 g2 (.tup [V.int (z1a - z0a), V.int (z1b - z0b)]) g2 = some (.tup [V.int (z1a - z0a), V.int (z1b - z0b)]) := upd_same
    have gg := sg2 _ _ gg
    have sG := sG.trans sg2
    generalize upd H3 g2 (.tup [V.int (z1a - z0a), V.int (z1b - z0b)]) = H4 at sg2 gg gg2 sG ⊢
    have d1 : Dp K H4 (.ref g) (en (z1a - z0a, z1b - z0b)) := Pr.dp gg
    have d2 : Dp K H4 (.ref g2) (en (z1a - z0a, z1b - z0b)) := Pr.dp gg2
    refine ⟨_, rfl, _, _, d2, d1, en_sh _, en_sh _, _, rfl, ?_⟩
    rw [en_eqv, decide_eq_true rfl]
    refine iteF ?_
    have hi2 : i < rs.length := by omega
    have ht := sG _ _ ht
    have hr := sG _ _ (hrow i rs[i] (List.getElem?_eq_getElem hi2))
    have ar : atI (rs.map V.ref) (((i + 1 : Nat) : Int) - 1) = some (.ref rs[i]) := by
      rw [im]
      exact atI_nat (by rw [List.getElem?_map, List.getElem?_eq_getElem hi2]; rfl)
    have am : atI ((mrow (pg (sk 0 (pick ps one)) (sk 1 (pick ps one))) (ps.length - 1) i).map V.int) (((i + 1 : Nat) : Int) - 1) = some (.int ((z1a - z0a) * (z1a - z0a) + (z1b - z0b) * (z1b - z0b))) := by
      rw [im]
      refine atI_nat ?_
      rw [mrow_at hi]
      unfold pg
      rw [k0, k1]
    refine ⟨_, rfl, _, rfl, _, _, rfl, rfl, t21, _, _, _, rfl, rfl, SqT.of ht, ar, _, rfl, _, _, rfl, rfl, _, _, _, _, rfl, rfl, SqT.of hr, am, ?_⟩
    refine ⟨_, rfl, g, _, 0, _, rfl, rfl, SqT.of gg, rfl, _, rfl, g, _, 0, _, rfl, rfl, SqT.of gg, rfl, _, _, rfl, rfl, .inl ⟨by omega, by omega⟩, ?_⟩
    refine ⟨_, rfl, g, _, 1, _, rfl, rfl, SqT.of gg, rfl, _, rfl, g, _, 1, _, rfl, rfl, SqT.of gg, rfl, _, _, rfl, rfl, .inl ⟨by omega, by omega⟩, _, _, rfl, rfl, ?_⟩
    refine ⟨rfl, _, rfl, ?_⟩
    rw [decide_eq_true (rfl : V.int ((z1a - z0a) * (z1a - z0a) + (z1b - z0b) * (z1b - z0b)) = V.int ((z1a - z0a) * (z1a - z0a) + (z1b - z0b) * (z1b - z0b)))]
    exact iteF ⟨sG, _, _, rfl⟩
  · obtain ⟨s, c11, c12, rfl⟩ := p
    refine ⟨_, rfl, _, rfl, m, a, ts, ps, rfl, pf.same s, lp.same s, l7, fun H22 s22 => ?_⟩
    have s' := s.trans s22
    exact q _ (sA.trans (SB.of s')) ((v8.same s').le (by omega))
end
end K13

namespace K13
open PySem PySem.Spec PyProof.Rows L2
/-! ### one pin less, one more -/
def eN (n i : Nat) : List Nat := (List.range i).filter fun k => decide (k ≠ n)
theorem eN_succ (n i : Nat) : eN n (i + 1) = if i = n then eN n i else eN n i ++ [i] := by
  unfold eN
  rw [List.range_succ, List.filter_append]
  by_cases h : i = n
  · rw [if_pos h, List.filter_cons, if_neg (by simp [h]), List.filter_nil, List.append_nil]
  · rw [if_neg h, List.filter_cons, if_pos (by simpa using h), List.filter_nil]
theorem pick_app (ps : List (Int × Int)) (ns ms : List Nat) : pick ps (ns ++ ms) = pick ps ns ++ pick ps ms := List.map_append
theorem pick_one {ps : List (Int × Int)} {i : Nat} (h : i < ps.length) : pick ps [i] = [ps[i]] := by
  show [ps.getD i (0, 0)] = _
  rw [List.getD_eq_getElem?_getD, List.getElem?_eq_getElem h]
  rfl
theorem pick_eN {ps : List (Int × Int)} {n : Nat} (hn : n < ps.length) : ∀ i, i ≤ ps.length → pick ps (eN n i) = if i ≤ n then ps.take i else ps.take n ++ (ps.drop (n + 1)).take (i - n - 1) := by
  intro i
  induction i with
  | zero => exact fun _ => rfl
  | succ i ih =>
    intro h
    have ih := ih (by omega)
    rw [eN_succ]
    rcases Nat.lt_trichotomy i n with l | l | l
    · rw [if_neg (by omega), pick_app, ih, if_pos (by omega), if_pos (by omega), pick_one (by omega), take_more (List.getElem?_eq_getElem (show i < ps.length by omega))]
    · rw [if_pos l, ih, if_pos (by omega), if_neg (by omega), l, show n + 1 - n - 1 = 0 by omega, List.take_zero, List.append_nil]
    · rw [if_neg (by omega), pick_app, ih, if_neg (by omega), if_neg (by omega), pick_one (by omega), List.append_assoc]
      have e : (ps.drop (n + 1))[i - n - 1]? = some ps[i] := by
        rw [List.getElem?_drop, show n + 1 + (i - n - 1) = i by omega, List.getElem?_eq_getElem (show i < ps.length by omega)]
      rw [← take_more e, show i - n - 1 + 1 = i + 1 - n - 1 by omega]
theorem pick_less {ps : List (Int × Int)} {n : Nat} (hn : n < ps.length) : pick ps (eN n ps.length) = ps.take n ++ ps.drop (n + 1) := by
  rw [pick_eN hn _ (Nat.le_refl _), if_neg (by omega), List.take_of_length_le (l := ps.drop (n + 1)) (by rw [List.length_drop]; omega)]
theorem less_len {ps : List (Int × Int)} {n : Nat} (hn : n < ps.length) : (ps.take n ++ ps.drop (n + 1)).length = ps.length - 1 := by
  rw [List.length_append, List.length_take, List.length_drop]
  omega
theorem less_ord {ps : List (Int × Int)} {n : Nat} (hn : n < ps.length) : OrdN (eN n ps.length ++ [n]) ps.length := by
  have nin : n ∉ eN n ps.length := fun h => by
    unfold eN at h
    have := (List.mem_filter.mp h).2
    simp at this
  refine ⟨?_, fun k hk => ?_, ?_, fun i hi => ?_⟩
  · rw [List.nodup_append]
    refine ⟨List.nodup_range.filter _, by simp, fun x hx y hy => ?_⟩
    rw [List.mem_singleton.mp hy]
    rintro rfl
    exact nin hx
  · rcases List.mem_append.mp hk with z | z
    · unfold eN at z
      exact List.mem_range.mp (List.mem_filter.mp z).1
    · rw [List.mem_singleton.mp z]
      exact hn
  · have := congrArg List.length (pick_less hn)
    rw [pick_len, less_len hn] at this
    rw [List.length_append, this]
    show ps.length - 1 + 1 = _
    omega
  · by_cases z : i = n
    · exact List.mem_append_right _ (by rw [z]; exact List.mem_singleton.mpr rfl)
    · exact List.mem_append_left _ (List.mem_filter.mpr ⟨List.mem_range.mpr hi, by simpa using z⟩)
theorem last_out {qs : List (Int × Int)} {q : Int × Int} {k : Nat} (h : qs.length = k) : (qs ++ [q]).take k ++ (qs ++ [q]).drop (k + 1) = qs := by
  subst h
  rw [List.take_left, List.drop_of_length_le (by rw [List.length_append]; show qs.length + 1 ≤ qs.length + 1; exact Nat.le_refl _), List.append_nil]
theorem front_ord (k : Nat) : OrdN ([k] ++ List.range k) (k + 1) := ord_perm (by rw [List.range_succ]; exact List.perm_append_comm)
theorem front_pick (ps : List (Int × Int)) (q : Int × Int) : pick (ps ++ [q]) ([ps.length] ++ List.range ps.length) = q :: ps := by
  rw [pick_app]
  have e1 : pick (ps ++ [q]) [ps.length] = [q] := by
    show [(ps ++ [q]).getD ps.length (0, 0)] = _
    rw [List.getD_eq_getElem?_getD, List.getElem?_append_right (Nat.le_refl _), Nat.sub_self]
    rfl
  have e2 : pick (ps ++ [q]) (List.range ps.length) = pick ps (List.range ps.length) := by
    refine List.map_congr_left fun n hn => ?_
    rw [List.getD_eq_getElem?_getD, List.getElem?_append_left (List.mem_range.mp hn), ← List.getD_eq_getElem?_getD]
  rw [e1, e2, pick_range]
  rfl
theorem nV_app (a b : List Nat) : nV (a ++ b) = nV a ++ nV b := by
  unfold nV
  rw [List.map_append, List.map_append]
theorem wo_at {K : PySem.W.Frag} {C CP CF a : Addr} {ps : List (Int × Int)} {H : Hp} {Q : VK} {E : XK} {n : Nat} {i : Int} (e : i = (n : Nat)) (pf : PicF H C a ps) (ok : OkP ps) (hn : n < ps.length) (h5 : 4 < ps.length) (h : NewP C (ps.take n ++ ps.drop (n + 1)) H Q) : Bx (spWo K C CP CF) [.ref a, .int i] H Q E := by
  subst e
  exact wo_in pf ok hn h5 h
theorem less_ok {ps : List (Int × Int)} {n : Nat} (ok : OkP ps) (hn : n < ps.length) (h5 : 4 < ps.length) : OkP (ps.take n ++ ps.drop (n + 1)) := by
  have l7 := ok.2.1
  refine ⟨by rw [less_len hn]; omega, by rw [less_len hn]; omega, fun q hq => ?_⟩
  rcases List.mem_append.mp hq with z | z
  · exact ok.2.2 q (List.mem_of_mem_take z)
  · exact ok.2.2 q (List.mem_of_mem_drop z)
theorem more_ok {ps : List (Int × Int)} {x y : Int} (ok : OkP ps) (l : ps.length < 7) (hx : -G9 ≤ x ∧ x ≤ G9) (hy : -G9 ≤ y ∧ y ≤ G9) : OkP (ps ++ [(x, y)]) := by
  have l4 := ok.1
  refine ⟨by rw [List.length_append]; show 4 ≤ ps.length + 1; omega, by rw [List.length_append]; show ps.length + 1 ≤ 7; omega, fun q hq => ?_⟩
  rcases List.mem_append.mp hq with z | z
  · exact ok.2.2 q z
  · rw [List.mem_singleton.mp z]
    exact ⟨hx.1, hx.2, hy.1, hy.2⟩
abbrev sFR : Stmt := top 56
abbrev nFR : List Str := ["_law_lens_here", "_law_places_here", "_law_made", "_law_pins", "_law_at", "_law_x", "_law_y", "_law_less", "_law_again", "_law_more", "_law_pin"]
theorem scFR : FnScope nFR ["_law_lens_here", "_law_places_here"] (defScope sFR) := ⟨rfl, rfl, rfl, by decide +kernel, rfl, by decide +kernel, by decide +kernel⟩
section
variable {P : Program} {w : World} {K : PySem.W.Frag} {mg : Str → Option Value} {base : Heap} {C CB CP CW CF CN CT : Addr}
theorem ok_fr {f : Addr} {fd : FuncData} (F : Fun K "_law_fewer_right" "_law_fewer_right" sFR f fd) (B : Bn mg) (T : Pc P w K mg base C CB) (O : Po P w K mg base C CP CW CF CN CT)
    (C1 : Callee P w K mg base CX0 1 "_law_shot" ["_law_lens_here", "_law_many"] spShot) (C2 : Callee P w K mg base CX0 2 "_law_pick" ["_law_lens_here", "_law_some"] spPick) (C3 : Callee P w K mg base CX0 1 "_law_stands" ["_law_picture", "_law_places_here"] (spSta C)) : FnOk P w K mg base CX0 10 f fd ["_law_lens_here", "_law_places_here"] spOr := by
  obtain ⟨f1, fd1, m1, k1, b1, G1⟩ := C1
  obtain ⟨f2, fd2, m2, k2, b2, G2⟩ := C2
  obtain ⟨f3, fd3, m3, k3, b3, G3⟩ := C3
  obtain ⟨fi, fdi, Mi, Gi, bi, ki⟩ := O.io
  obtain ⟨fw, fdw, Mw, Gw, bw, kw⟩ := O.wo
  obtain ⟨fp, fdp, Mp, Gp, bp, kp⟩ := O.wp
  obtain ⟨fE, fdE, GE, hsE, hfE, bE⟩ := T.eq
  have cl := T.t.pc.cls
  have nd := scFR.nd
  refine F.ok scFR (fun vs H Q E h => ?_) (fun cdv A outer s H vs Q E hr h => ?_)
  · obtain ⟨p, a, n, ts, ps, rfl, _⟩ := h
    rfl
  obtain ⟨p, a, n, ts, ps, rfl, hv, hn, nap, lp, ok, q⟩ := h
  refine ⟨_, (pss_cons (ps_par (i := 2) (j := 3) rfl nd rfl rfl (by decide) rfl rfl (pa_cons ((pe_mkP (E := E0) T (hr.mono (by decide)) passL rfl (pa_cons (pv 1) pa_nil))) (pa_cons ((pe_callB call_len_seq (by rfl) B.len PySem.boot_len (pa_cons (pv 1) pa_nil))) pa_nil)) (by rfl)) (pss_cons (ps_asg (pe_tup (pa_cons ((pe_call G1 (hr.mono (by decide)) rfl m1 k1 b1 .nil pass0 (pa_cons (pv 0) (pa_cons (pv 3) pa_nil)))) (pa_cons ((pe_call G2 (hr.mono (by decide)) rfl m2 k2 b2 .nil pass0 (pa_cons (pv 0) (pa_cons (pe_lst (pa_cons (pe_int) (pa_cons (pe_int) (pa_cons (pe_un un_neg pe_int) (pa_cons (pe_op op_pow pe_int pe_int) pa_nil))))) pa_nil)))) (pa_cons ((pe_call G2 (hr.mono (by decide)) rfl m2 k2 b2 .nil pass0 (pa_cons (pv 0) (pa_cons (pe_lst (pa_cons (pe_int) (pa_cons (pe_un un_neg pe_int) (pa_cons (pe_int) (pa_cons (pe_un un_neg (pe_op op_pow pe_int pe_int)) pa_nil))))) pa_nil)))) pa_nil)))) (pg_tup rfl (pgs_cons (pg_name (i := 4) nd rfl (Or.inr rfl)) (pgs_cons (pg_name (i := 5) nd rfl (Or.inl rfl)) (pgs_cons (pg_name (i := 6) nd rfl (Or.inl rfl)) pgs_nil))))) (pss_cons (ps_if (pt_cmpR op_gt (pv 3) pe_int (nomark _)) (pss_cons ((ps_set (i := 7) nd rfl (Or.inl rfl) ((pe_meth (E := E0) (pv 2) cl Mw Gw (hr.mono (by decide)) bw .nil passL (pa_cons (pv 4) pa_nil))))) (pss_cons (ps_if (PW.pt (pw_or (pt_not (pt_val (pe_call G3 (hr.mono (by decide)) rfl m3 k3 b3 .nil pass0 (pa_cons (pv 7) (pa_cons (pe_op op_cat (pe_slice (r := rSlL K) sl_listK (pv 1) (po_none) (po_some (pv 4))) (pe_slice (r := rSlL K) sl_listK (pv 1) (po_some (pe_op op_add (pv 4) pe_int)) (po_none))) pa_nil))))) (pw_or1 ((pt_cmpR (op_neP GE hsE hfE bE T.n T.t (hr.mono (by decide))) ((pe_methK0 (E := E0) (pv 2) cl Mw Gw (hr.mono (by decide)) kw passL (pk_cons (pv 4) pk_nil))) (pv 7) (nomark _)))))) (pss_one (ps_ret pe_bl)) pss_nil) (pss_cons ((ps_set (i := 8) nd rfl (Or.inl rfl) ((pe_meth (E := E0) (pv 7) cl Mp Gp (hr.mono (by decide)) bp .nil passL (pa_cons ((pe_ix ix_tup ((pe_ix ix_list (pv 1) (pv 4) (fun _ _ => rfl))) (pe_int) (fun _ _ => rfl))) (pa_cons ((pe_ix ix_tup ((pe_ix ix_list (pv 1) (pv 4) (fun _ _ => rfl))) (pe_int) (fun _ _ => rfl))) pa_nil)))))) (pss_one (ps_if (PW.pt (pw_or ((pt_cmpR (op_neP GE hsE hfE bE T.n T.t (hr.mono (by decide))) (pv 8) ((pe_meth (E := E0) (pv 2) cl Mi Gi (hr.mono (by decide)) bi .nil passL (pa_cons (pe_op op_cat (pe_lc (own := [("_law_pin", 10)]) (g := gName 10) rfl nd (pi_range1 rfl B.range (pa_cons (pv 3) pa_nil)) (blkOk_by (N := nFR) (sc := defScope sFR) (by decide +kernel)) (fun _ _ _ _ _ => (pg_name (i := 10) nd rfl (Or.inl rfl))) (fun _ _ _ _ _ => pts_one (pt_cmpR op_ne (pv 10) (pv 4) (nomark _))) (fun _ _ _ _ _ => pv 10)) (pe_lst (pa_cons (pv 4) pa_nil))) pa_nil))) (nomark _))) (pw_or1 ((pt_cmpR (op_neP GE hsE hfE bE T.n T.t (hr.mono (by decide))) ((pe_meth (E := E0) (pv 8) cl Mw Gw (hr.mono (by decide)) bw .nil passL (pa_cons (pe_op op_sub (pv 3) pe_int) pa_nil))) (pv 7) (nomark _)))))) (pss_one (ps_ret pe_bl)) pss_nil))))) pss_nil) (pss_cons (ps_if (pt_cmpR op_lt (pv 3) pe_int (nomark _)) (pss_cons ((ps_set (i := 9) nd rfl (Or.inl rfl) ((pe_meth (E := E0) (pv 2) cl Mp Gp (hr.mono (by decide)) bp .nil passL (pa_cons (pv 5) (pa_cons (pv 6) pa_nil)))))) (pss_cons (ps_if (PW.pt (pw_or (pt_not (pt_val (pe_call G3 (hr.mono (by decide)) rfl m3 k3 b3 .nil pass0 (pa_cons (pv 9) (pa_cons (pe_op op_cat (pv 1) (pe_lst (pa_cons (pe_tup (pa_cons (pv 5) (pa_cons (pv 6) pa_nil))) pa_nil))) pa_nil))))) (pw_or ((pt_cmpR (op_neP GE hsE hfE bE T.n T.t (hr.mono (by decide))) ((pe_methK0 (E := E0) (pv 2) cl Mp Gp (hr.mono (by decide)) kp passL (pk_cons (pv 6) (pk_cons (pv 5) pk_nil)))) (pv 9) (nomark _))) (pw_or1 ((pt_cmpR (op_neP GE hsE hfE bE T.n T.t (hr.mono (by decide))) ((pe_meth (E := E0) (pv 9) cl Mw Gw (hr.mono (by decide)) bw .nil passL (pa_cons (pv 3) pa_nil))) (pv 2) (nomark _))))))) (pss_one (ps_ret pe_bl)) pss_nil) (pss_one (ps_if (pt_cmpR (op_neP GE hsE hfE bE T.n T.t (hr.mono (by decide))) ((pe_meth (E := E0) ((pe_meth (E := E0) (pv 9) cl Mi Gi (hr.mono (by decide)) bi .nil passL (pa_cons (pe_op op_cat (pe_lst (pa_cons (pv 3) pa_nil)) (pe_listRg rfl (by rfl) B.list (prg_1 rfl B.range (pv 3)))) pa_nil))) cl Mw Gw (hr.mono (by decide)) bw .nil passL (pa_cons (pe_int) pa_nil))) (pv 2) (nomark _)) (pss_one (ps_ret pe_bl)) pss_nil)))) pss_nil) (pss_one (ps_ret (pe_call G3 (hr.mono (by decide)) rfl m3 k3 b3 .nil pass0 (pa_cons (pv 2) (pa_cons (pv 1) pa_nil))))))))), ?_⟩
  have l4 := ok.1
  have l7 := ok.2.1
  have e9 : (10 : Int) ^ (Int.toNat 9) = 1000000000 := by decide
  have eG : G9 = 1000000000 := rfl
  refine ⟨_, rfl, _, rfl, .inl ⟨ps, lp.pls, ok, fun m H1 s1 _ pf => ?_⟩⟩
  refine ⟨_, rfl, a, _, rfl, .inl (SqL.of (lp.same s1).1), _, _, rfl, ?_⟩
  rw [List.length_map, lp.len]
  have lp := lp.same s1
  have v1 := hv.same s1
  have sA : SB p H H1 := SB.of s1
  -- three draws
  refine ⟨_, rfl, _, rfl, p, ps.length, n, rfl, v1, by omega, by omega, by omega, fun H2 d s2 v2 d0 d1 => ?_⟩
  obtain ⟨k, rfl⟩ := Int.eq_ofNat_of_zero_le d0
  have hk : k < ps.length := by omega
  have pf := pf.sb v1 s2
  have lp := lp.sb v1 nap s2
  have sA := sA.trans s2
  clear s1 v1 s2 d0 d1
  refine ⟨_, rfl, _, rfl, _, _, rfl, rfl, ⟨by decide, by decide, by decide⟩, by show 4 ≤ sizeLine; decide, fun l3 n3 => ?_⟩
  have s3 := same_new (o := .lst [V.int 0, V.int 1, V.int (-7), V.int ((10 : Int) ^ (Int.toNat 9))]) n3
  refine ⟨p, l3, _, _, rfl, v2.same s3, by omega, upd_same, v2.not_none n3, by show 0 < 4; decide, by show 4 ≤ 1000; decide, fun H4 xv s4 v4 hx => ?_⟩
  obtain ⟨x, rfl, x1, x2⟩ : ∃ x : Int, xv = .int x ∧ -G9 ≤ x ∧ x ≤ G9 := by
    simp only [List.mem_cons, List.not_mem_nil, or_false] at hx
    rcases hx with rfl | rfl | rfl | rfl
    · exact ⟨_, rfl, by decide, by decide⟩
    · exact ⟨_, rfl, by decide, by decide⟩
    · exact ⟨_, rfl, by decide, by decide⟩
    · exact ⟨_, rfl, by rw [e9]; decide, by rw [e9]; decide⟩
  have pf := (pf.same s3).sb (v2.same s3) s4
  have lp := (lp.same s3).sb (v2.same s3) nap s4
  have sA := (sA.trans (SB.of s3)).trans s4
  clear s3 s4 v2 n3 hx
  refine ⟨_, rfl, _, rfl, _, _, rfl, rfl, ⟨by decide, by decide, by decide⟩, _, rfl, by show 4 ≤ sizeLine; decide, fun l5 n5 => ?_⟩
  have s5 := same_new (o := .lst [V.int 0, V.int (-1), V.int 5, V.int (-((10 : Int) ^ (Int.toNat 9)))]) n5
  refine ⟨p, l5, _, _, rfl, v4.same s5, by omega, upd_same, v4.not_none n5, by show 0 < 4; decide, by show 4 ≤ 1000; decide, fun H6 yv s6 v6 hy => ?_⟩
  obtain ⟨y, rfl, y1, y2⟩ : ∃ y : Int, yv = .int y ∧ -G9 ≤ y ∧ y ≤ G9 := by
    simp only [List.mem_cons, List.not_mem_nil, or_false] at hy
    rcases hy with rfl | rfl | rfl | rfl
    · exact ⟨_, rfl, by decide, by decide⟩
    · exact ⟨_, rfl, by decide, by decide⟩
    · exact ⟨_, rfl, by decide, by decide⟩
    · exact ⟨_, rfl, by rw [e9]; decide, by rw [e9]; decide⟩
  have pf := (pf.same s5).sb (v4.same s5) s6
  have lp := (lp.same s5).sb (v4.same s5) nap s6
  have sA := (sA.trans (SB.of s5)).trans s6
  clear s5 s6 v4 n5 hy
  refine ⟨by show 3 ≤ sizeLine; decide, fun t7 n7 => ?_⟩
  have s7 := same_new (o := .tup [V.int k, V.int x, V.int y]) n7
  refine ⟨t7, _, rfl, SqT.of upd_same, rfl, _, _, rfl, _, _, rfl, _, _, rfl, rfl, ?_⟩
  have pf := pf.same s7
  have lp := lp.same s7
  have sA := sA.trans (SB.of s7)
  have v7 := v6.same s7
  generalize upd H6 t7 (.tup [V.int k, V.int x, V.int y]) = H7 at pf lp sA v7 ⊢
  clear s7 n7 v6
  dsimp only
  refine if_join (P := fun σ' H' => Same H7 H' ∧ ∃ c7 c8, σ' = [some (.ref p), some (.ref a), some (.ref m), some (.int ps.length), some (.int k), some (.int x), some (.int y), c7, c8, none, none]) ?_ (fun rest => ?_)
  · rintro σ' H8 ⟨s8, c7, c8, rfl⟩
    have pf := pf.same s8
    have lp := lp.same s8
    refine if_join (P := fun σ' H' => Same H8 H' ∧ ∃ c9, σ' = [some (.ref p), some (.ref a), some (.ref m), some (.int ps.length), some (.int k), some (.int x), some (.int y), c7, c8, c9, none]) ?_ (fun rest => ?_)
    · rintro σ' H9 ⟨s9, c9, rfl⟩
      refine ⟨_, rfl, _, rfl, m, a, ts, ps, rfl, pf.same s9, lp.same s9, l7, fun H10 s10 => ?_⟩
      have s' := (s8.trans s9).trans s10
      exact q _ (sA.trans (SB.of s')) ((v7.same s').le (by omega))
    · refine ⟨_, rfl, _, _, rfl, rfl, _, rfl, ?_⟩
      by_cases h7 : (ps.length : Int) < 7
      · rw [decide_eq_true h7]
        have l6 : ps.length < 7 := by omega
        have okm := more_ok (x := x) (y := y) ok l6 ⟨x1, x2⟩ ⟨y1, y2⟩
        have lm : (ps ++ [(x, y)]).length = ps.length + 1 := by rw [List.length_append]; rfl
        refine iteT ⟨_, rfl, meth_in pf (fun _ _ _ => rfl) ⟨_, rfl, _, rfl, wp_in pf ok ⟨x1, x2⟩ ⟨y1, y2⟩ l6 fun mo Ha sa _ pm => ?_⟩⟩
        have pf := pf.same sa
        have lp := lp.same sa
        -- stands
        refine ⟨_, rfl, _, rfl, _, rfl, _, rfl, by show 2 ≤ sizeLine; decide, fun g hg => ?_⟩
        have sg := same_new (o := .tup [V.int x, V.int y]) hg
        have gg : upd Ha g (.tup [V.int x, V.int y]) g = some (.tup [V.int x, V.int y]) := upd_same
        generalize upd Ha g (.tup [V.int x, V.int y]) = Hb at sg gg ⊢
        refine ⟨by show 1 ≤ sizeLine; decide, fun e he => ?_⟩
        have se := same_new (o := .lst [V.ref g]) he
        have ge : upd Hb e (.lst [V.ref g]) e = some (.lst [V.ref g]) := upd_same
        generalize upd Hb e (.lst [V.ref g]) = Hc at se ge ⊢
        have sc := sg.trans se
        refine ⟨a, e, _, _, rfl, rfl, (lp.same sc).1, ge, ?_, fun e3 he3 => ?_⟩
        · rw [List.length_map, lp.len]
          exact Nat.le_of_lt (small1000 (by show ps.length + 1 ≤ 1000; omega))
        have s3 := same_new (o := .lst (ts.map V.ref ++ [V.ref g])) he3
        have lp3 : LP (upd Hc e3 (.lst (ts.map V.ref ++ [V.ref g]))) e3 (ts ++ [g]) (ps ++ [(x, y)]) := ⟨by rw [upd_same, List.map_append]; rfl, paired_app (lp.same (sc.trans s3)).2 (.cons (s3 _ _ (se _ _ gg)) .nil)⟩
        generalize upd Hc e3 (.lst (ts.map V.ref ++ [V.ref g])) = Hd at s3 lp3 ⊢
        have sd := sc.trans s3
        refine ⟨mo, e3, _, _, rfl, pm.same sd, lp3, by rw [lm]; omega, fun He s4 => ⟨_, rfl, iteF ?_⟩⟩
        have s' := sd.trans s4
        have pf := pf.same s'
        have pm := pm.same s'
        have sB := sa.trans s'
        clear lp3 sg gg se ge sc s3 sd s4 s' hg he he3 lp
        -- by name
        refine ⟨_, rfl, meth_in pf (fun _ _ _ => rfl) ⟨_, rfl, _, rfl, rfl, wp_in pf ok ⟨x1, x2⟩ ⟨y1, y2⟩ l6 fun z Hf sf _ pz => ?_⟩⟩
        refine ⟨_, rfl, z, _, true, rfl, pz, .inr ⟨mo, _, rfl, pm.same sf, (decide_eq_true rfl).symm⟩, _, rfl, iteF ?_⟩
        have pf := pf.same sf
        have pm := pm.same sf
        have sB := sB.trans sf
        clear sf pz
        -- left out again
        refine ⟨_, rfl, meth_in pm (fun _ _ _ => rfl) ⟨_, rfl, wo_in (n := ps.length) pm okm (by rw [lm]; omega) (by rw [lm]; omega) fun z Hg sg _ pz => ?_⟩⟩
        rw [last_out rfl] at pz
        refine ⟨_, rfl, z, _, true, rfl, pz, .inr ⟨m, _, rfl, pf.same sg, (decide_eq_true rfl).symm⟩, _, rfl, iteF ?_⟩
        have pf := pf.same sg
        have pm := pm.same sg
        have sB := sB.trans sg
        clear sg pz
        -- ahead of all, left out again
        refine ⟨_, rfl, meth_in pm (fun _ _ _ => rfl) ⟨_, rfl, by show 1 ≤ sizeLine; decide, fun e he => ?_⟩⟩
        have se := same_new (o := .lst [V.int ps.length]) he
        have ge : upd Hg e (.lst [V.int ps.length]) e = some (.lst [V.int ps.length]) := upd_same
        generalize upd Hg e (.lst [V.int ps.length]) = Hh at se ge ⊢
        refine ⟨_, rfl, (ps.length : Int), rfl, RgOk.of_le (by decide) (by omega) (by decide) (by omega), fun L hL => ?_⟩
        rw [rg_nV]
        have sL := same_new (o := .lst (nV (List.range ps.length))) hL
        have gL : upd Hh L (.lst (nV (List.range ps.length))) L = some (.lst (nV (List.range ps.length))) := upd_same
        generalize upd Hh L (.lst (nV (List.range ps.length))) = Hi at sL gL ⊢
        refine ⟨e, L, _, _, rfl, rfl, sL _ _ ge, gL, ?_, fun c hc => ?_⟩
        · rw [nV_len, List.length_range]
          exact Nat.le_of_lt (small1000 (by show 1 + ps.length ≤ 1000; omega))
        have sc := same_new (o := .lst ([V.int ps.length] ++ nV (List.range ps.length))) hc
        have gc : upd Hi c (.lst ([V.int ps.length] ++ nV (List.range ps.length))) c = some (.lst (nV ([ps.length] ++ List.range ps.length))) := by rw [upd_same, nV_app]; rfl
        generalize upd Hi c (.lst ([V.int ps.length] ++ nV (List.range ps.length))) = Hj at sc gc ⊢
        have s' := (se.trans sL).trans sc
        refine io_in (pm.same s') okm (by rw [lm]; exact front_ord _) (.inl gc) fun z Hk sk _ pz => ?_
        rw [front_pick] at pz
        have okz : OkP ((x, y) :: ps) := ⟨by show 4 ≤ ps.length + 1; omega, by show ps.length + 1 ≤ 7; omega, fun q hq => by
          rcases List.mem_cons.mp hq with z | z
          · rw [z]
            exact ⟨x1, x2, y1, y2⟩
          · exact ok.2.2 q z⟩
        refine meth_in pz (fun _ _ _ => rfl) (wo_at (n := 0) rfl pz okz (by show 0 < ps.length + 1; omega) (by show 4 < ps.length + 1; omega) fun y' Hl sl _ py => ?_)
        have py : PicF Hl C y' ps := py
        have s2 := (s'.trans sk).trans sl
        refine ⟨_, rfl, y', _, true, rfl, py, .inr ⟨m, _, rfl, pf.same s2, (decide_eq_true rfl).symm⟩, _, rfl, iteF ?_⟩
        exact rest _ _ ⟨sB.trans s2, _, rfl⟩
      · rw [decide_eq_false h7]
        exact iteF (rest _ _ ⟨Same.me, _, rfl⟩)
  · refine ⟨_, rfl, _, _, rfl, rfl, _, rfl, ?_⟩
    by_cases h4 : (4 : Int) < (ps.length : Int)
    · rw [decide_eq_true h4]
      have h5 : 4 < ps.length := by omega
      have okb := less_ok ok hk h5
      have ll := less_len (ps := ps) hk
      refine iteT ⟨_, rfl, meth_in pf (fun _ _ _ => rfl) ⟨_, rfl, wo_in pf ok hk h5 fun b Ha sa _ pb => ?_⟩⟩
      have pf := pf.same sa
      have lp := lp.same sa
      -- stands
      refine ⟨_, rfl, _, rfl, _, rfl, _, rfl, a, _, rfl, SqL.of lp.1, fun e1 he1 => ?_⟩
      rw [cut_to (by rw [List.length_map, lp.len]; omega)]
      have s1 := same_new (o := .lst ((ts.map V.ref).take k)) he1
      have g1 : upd Ha e1 (.lst ((ts.map V.ref).take k)) e1 = some (.lst ((ts.map V.ref).take k)) := upd_same
      generalize upd Ha e1 (.lst ((ts.map V.ref).take k)) = Hb at s1 g1 ⊢
      refine ⟨_, rfl, _, rfl, _, _, rfl, rfl, _, rfl, a, _, rfl, SqL.of (lp.same s1).1, fun e2 he2 => ?_⟩
      rw [show (k : Int) + 1 = ((k + 1 : Nat) : Int) by omega, cut_from (by rw [List.length_map, lp.len]; omega)]
      have s2 := same_new (o := .lst ((ts.map V.ref).drop (k + 1))) he2
      have g2 : upd Hb e2 (.lst ((ts.map V.ref).drop (k + 1))) e2 = some (.lst ((ts.map V.ref).drop (k + 1))) := upd_same
      generalize upd Hb e2 (.lst ((ts.map V.ref).drop (k + 1))) = Hc at s2 g2 ⊢
      refine ⟨e1, e2, _, _, rfl, rfl, s2 _ _ g1, g2, ?_, fun e3 he3 => ?_⟩
      · have lt := lp.len
        rw [List.length_take, List.length_drop, List.length_map]
        exact Nat.le_of_lt (small1000 (by omega))
      have s3 := same_new (o := .lst ((ts.map V.ref).take k ++ (ts.map V.ref).drop (k + 1))) he3
      have sd := (s1.trans s2).trans s3
      have lp3 : LP (upd Hc e3 (.lst ((ts.map V.ref).take k ++ (ts.map V.ref).drop (k + 1)))) e3 (ts.take k ++ ts.drop (k + 1)) (ps.take k ++ ps.drop (k + 1)) := ⟨by rw [upd_same, List.map_append, List.map_take, List.map_drop], paired_app (paired_take (lp.same sd).2 k).1 (paired_take (lp.same sd).2 (k + 1)).2⟩
      generalize upd Hc e3 (.lst ((ts.map V.ref).take k ++ (ts.map V.ref).drop (k + 1))) = Hd at s3 lp3 sd ⊢
      refine ⟨b, e3, _, _, rfl, pb.same sd, lp3, by rw [ll]; omega, fun He s4 => ⟨_, rfl, iteF ?_⟩⟩
      have s' := sd.trans s4
      have pf := pf.same s'
      have pb := pb.same s'
      have lp := lp.same s'
      have sB := sa.trans s'
      clear lp3 s1 g1 s2 g2 s3 sd s4 s' he1 he2 he3
      -- by name
      refine ⟨_, rfl, meth_in pf (fun _ _ _ => rfl) ⟨_, rfl, rfl, wo_in pf ok hk h5 fun z Hf sf _ pz => ?_⟩⟩
      refine ⟨_, rfl, z, _, true, rfl, pz, .inr ⟨b, _, rfl, pb.same sf, (decide_eq_true rfl).symm⟩, _, rfl, iteF ?_⟩
      have pf := pf.same sf
      have pb := pb.same sf
      have lp := lp.same sf
      have sB := sB.trans sf
      clear sf pz
      -- put in again
      obtain ⟨bq, hq⟩ := lp.getD hk
      have okq := ok.2.2 ps[k] (List.getElem_mem hk)
      have eq : ps.getD k (0, 0) = ps[k] := by
        rw [List.getD_eq_getElem?_getD, List.getElem?_eq_getElem hk]
        rfl
      rw [eq] at hq
      have pl := pick_less hk
      have po := pick_one hk
      generalize ts.getD k 0 = y0 at bq hq
      generalize ps[k] = z0 at hq okq po
      obtain ⟨za, zb⟩ := z0
      have hq : Hf y0 = some (.tup [.int za, .int zb]) := hq
      obtain ⟨q1, q2, q3, q4⟩ := okq
      refine ⟨_, rfl, meth_in pb (fun _ _ _ => rfl) ⟨_, rfl, _, rfl, a, _, _, _, rfl, rfl, SqL.of lp.1, atI_nat bq, y0, _, 0, _, rfl, rfl, SqT.of hq, rfl, _, rfl, _, rfl, a, _, _, _, rfl, rfl, SqL.of lp.1, atI_nat bq, y0, _, 1, _, rfl, rfl, SqT.of hq, rfl, wp_in pb okb ⟨q1, q2⟩ ⟨q3, q4⟩ (by rw [ll]; omega) fun ag Hg sg _ pa => ?_⟩⟩
      have pf := pf.same sg
      have pb := pb.same sg
      have sB := sB.trans sg
      have oka := more_ok okb (by rw [ll]; omega) ⟨q1, q2⟩ ⟨q3, q4⟩
      clear sg bq hq lp
      refine ⟨_, rfl, _, rfl, meth_in pf (fun _ _ _ => rfl) ⟨_, rfl, (ps.length : Int), rfl, by omega, by omega, fun D hD => ?_⟩⟩
      rw [Int.toNat_natCast]
      refine lc_range (lo := 0) (n := ps.length) (fun i => At Hg D (nV (eN k i))) ⟨same_new hD, upd_same⟩ (fun i H' hi p => ?_) (fun Hh p => ?_)
      · refine ⟨rfl, _, rfl, _, rfl, rfl, _, rfl, ?_⟩
        rw [Int.zero_add]
        by_cases ik : i = k
        · rw [decide_eq_true (show V.int (i : Int) = V.int (k : Int) by rw [ik])]
          refine iteF ?_
          rw [eN_succ, if_pos ik]
          exact p
        · rw [decide_eq_false (show ¬ V.int (i : Int) = V.int (k : Int) from fun z => ik (by have := V.int.inj z; omega))]
          refine iteT ⟨_, rfl, _, p.2, ?_, p.step hD Same.me ?_⟩
          · rw [nV_len]
            refine small1000 (Nat.le_trans (List.length_filter_le _ _) ?_)
            rw [List.length_range]
            omega
          · rw [eN_succ, if_neg ik, nV_snoc]
      have sh := p.1
      have gD := p.2
      clear p
      refine ⟨_, rfl, by show 1 ≤ sizeLine; decide, fun e he => ?_⟩
      have se := same_new (o := .lst [V.int k]) he
      have ge : upd Hh e (.lst [V.int k]) e = some (.lst [V.int k]) := upd_same
      generalize upd Hh e (.lst [V.int k]) = Hi at se ge ⊢
      refine ⟨D, e, _, _, rfl, rfl, se _ _ gD, ge, ?_, fun c hc => ?_⟩
      · rw [nV_len]
        refine Nat.le_of_lt (small1000 ?_)
        have := List.length_filter_le (fun j => decide (j ≠ k)) (List.range ps.length)
        rw [List.length_range] at this
        show (eN k ps.length).length + 1 ≤ 1000
        unfold eN
        omega
      have sc := same_new (o := .lst (nV (eN k ps.length) ++ [V.int k])) hc
      have gc : upd Hi c (.lst (nV (eN k ps.length) ++ [V.int k])) c = some (.lst (nV (eN k ps.length ++ [k]))) := by rw [upd_same, nV_snoc]
      generalize upd Hi c (.lst (nV (eN k ps.length) ++ [V.int k])) = Hj at sc gc ⊢
      have s' := (sh.trans se).trans sc
      refine io_in (pf.same s') ok (less_ord hk) (.inl gc) fun z Hk sk _ pz => ?_
      rw [pick_app, pl, po] at pz
      have s2 := s'.trans sk
      refine ⟨ag, _, true, rfl, pa.same s2, .inr ⟨z, _, rfl, pz, (decide_eq_true rfl).symm⟩, _, rfl, iteF ?_⟩
      have pa := pa.same s2
      have pb := pb.same s2
      have sB := sB.trans s2
      clear s2 s' sk sc gc se ge sh gD hD he hc pz pf
      have lm : (ps.take k ++ ps.drop (k + 1) ++ [(za, zb)]).length = ps.length - 1 + 1 := by
        rw [List.length_append, ll]
        rfl
      refine ⟨_, rfl, meth_in pa (fun _ _ _ => rfl) ⟨_, rfl, _, _, rfl, rfl, wo_at (n := ps.length - 1) (by omega) pa oka (by rw [lm]; omega) (by rw [lm]; omega) fun z Hl sl _ pz => ?_⟩⟩
      rw [last_out ll] at pz
      refine ⟨_, rfl, z, _, true, rfl, pz, .inr ⟨b, _, rfl, pb.same sl, (decide_eq_true rfl).symm⟩, _, rfl, iteF ?_⟩
      exact rest _ _ ⟨sB.trans sl, _, _, rfl⟩
    · rw [decide_eq_false h4]
      exact iteF (rest _ _ ⟨Same.me, _, _, rfl⟩)
end
end K13

namespace K13
open PySem PySem.Spec PyProof.Rows L2
/-! ### isinstance of what is kept: nothing, or an exception -/
inductive Cau (K : PySem.W.Frag) (H : Hp) : V → Value → Prop
  | non : Cau K H .non (.type "NoneType")
  | ex {a C : Addr} {fs : List (Str × V)} (k : Kept C fs a H) (E : ExcC K C) : Cau K H (.ref a) (.ref C)
def rCau (K : PySem.W.Frag) : List V → Hp → VK → Prop := fun xs H Q => ∃ (x : V) (D : Addr) (t : Value) (b : Bool), xs = [x, .ref D] ∧ Cau K H x t ∧ PySem.W.kitOne K t (.ref D) = some b ∧ Q (.bl b) H
def rCauT (K : PySem.W.Frag) : List V → Hp → VK → Prop := fun xs H Q => ∃ (x : V) (tp : Addr) (Ds : List Addr) (t : Value) (b : Bool), xs = [x, .ref tp] ∧ H tp = some (.tup (Ds.map V.ref)) ∧ Cau K H x t ∧ PySem.W.kitAny K t (Ds.map Value.ref) = some b ∧ Q (.bl b) H
section
variable {X : Cx}
theorem cau_kit {pins : List (Addr × Obj)} {σ : L2.St} {H : Hp} {s : Shared} {x : V} {u t : Value} (I : Inv X pins σ H s) (c : Cau X.K H x t) (r : RelV x u) : ∃ P : Heap → Prop, PySem.W.KitX X.K u t P ∧ P s.heap ∧ u ≠ .builtin "__main__.__loader__#opaque" := by
  cases c with
  | non => exact kit_of I r (.base .non)
  | ex k E =>
    rename_i a C fs
    obtain rfl : u = Value.ref a := r
    obtain ⟨ob, mA, od, J, _⟩ := kept_inst I k
    exact ⟨_, PySem.W.kitx_exc (any_cls E.hd) E.hg E.hk E.hs E.ha E.hn E.ht E.hm, J, fun z => nomatch z⟩
theorem call_cau : CallR X (.builtin "isinstance") (rCau X.K) := by
  intro pins s σ H xs us Q I r h
  obtain ⟨x, D, t, b, rfl, c, e, q⟩ := h
  obtain ⟨u1, u2, rfl, r1, r2⟩ := vals2 r
  obtain rfl : u2 = Value.ref D := r2
  obtain ⟨P, Z, p, hx⟩ := cau_kit I c r1
  exact PySem.W.kia_one Z I.kIn p e hx fun tk => ⟨.bl b, H, I.tok tk, rfl, q⟩
theorem refs_vals {Ds : List Addr} {its : List Value} (h : Vals (Ds.map V.ref) its) : its = Ds.map Value.ref := by
  induction Ds generalizing its with
  | nil => cases h; rfl
  | cons d ds ih =>
    cases h with
    | cons r t =>
      rename_i u us
      obtain rfl : u = Value.ref d := r
      rw [ih t]
      rfl
theorem call_cauT : CallR X (.builtin "isinstance") (rCauT X.K) := by
  intro pins s σ H xs us Q I r h
  obtain ⟨x, tp, Ds, t, b, rfl, hT, c, e, q⟩ := h
  obtain ⟨u1, u2, rfl, r1, r2⟩ := vals2 r
  cases (show u2 = Value.ref tp from r2)
  obtain ⟨P, Z, p, hx⟩ := cau_kit I c r1
  obtain ⟨_, its, rv, o, h1, h2, n, h3⟩ := (show ObjOk X.prog X.w H s.heap tp (.tup (Ds.map V.ref)) from I.hok tp _ hT)
  have ei := refs_vals rv
  subst ei
  obtain ⟨oc, od', dt, sl⟩ := o
  simp only at h2 h3
  subst h2 h3
  exact PySem.W.kia_tup Z I.kIn p h1 e hx fun tk => ⟨.bl b, H, I.tok tk, rfl, q⟩
end
/-! ### what an asking comes to -/
/-- what the top has written of the errors -/
structure SeT (K : PySem.W.Frag) (CS CP CW CN CF CT : Addr) : Prop where
  sub : ∀ C ∈ [CP, CW, CN, CF, CT], PySem.W.exmOne K (.ref C) (.ref CS) = some true ∧ ExcC K C ∧ XfC K C
  v1 : PySem.W.findIn K (.ref CP) "value" = some none
  v2 : PySem.W.findIn K (.ref CW) "value" = some none
  p1 : PySem.W.findIn K (.ref CN) "part" = some none
  p2 : PySem.W.findIn K (.ref CF) "part" = some none
  w1 : PySem.W.findIn K (.ref CT) "what" = some none
  w2 : PySem.W.findIn K (.ref CT) "most" = some none
  pP : PySem.W.kitAny K (.ref CP) [.ref CP, .ref CW] = some true
  pW : PySem.W.kitAny K (.ref CW) [.ref CP, .ref CW] = some true
  pN : PySem.W.kitAny K (.ref CN) [.ref CP, .ref CW] = some false
  pF : PySem.W.kitAny K (.ref CF) [.ref CP, .ref CW] = some false
  pT : PySem.W.kitAny K (.ref CT) [.ref CP, .ref CW] = some false
  p0 : PySem.W.kitAny K (.type "NoneType") [.ref CP, .ref CW] = some false
  wP : PySem.W.kitOne K (.ref CW) (.ref CP) = some false
  nN : PySem.W.kitAny K (.ref CN) [.ref CN, .ref CF] = some true
  nF : PySem.W.kitAny K (.ref CF) [.ref CN, .ref CF] = some true
  nT : PySem.W.kitAny K (.ref CT) [.ref CN, .ref CF] = some false
  n0 : PySem.W.kitAny K (.type "NoneType") [.ref CN, .ref CF] = some false
  fN : PySem.W.kitOne K (.ref CF) (.ref CN) = some false
  t0 : PySem.W.kitOne K (.type "NoneType") (.ref CT) = some false
structure SeM (mg : Str → Option Value) (CS CP CW CN CF CT : Addr) : Prop where
  S : mg "SeenError" = some (.ref CS)
  P : mg "NoPin" = some (.ref CP)
  W : mg "Twice" = some (.ref CW)
  N : mg "BadNumber" = some (.ref CN)
  F : mg "Misfit" = some (.ref CF)
  T : mg "TooMany" = some (.ref CT)
/-- what is shown of v, from here on -/
def Sh (K : PySem.W.Frag) (H : Hp) (v : V) (d : PyData) : Prop := d.showable = true ∧ d.shown.length ≤ sizeLine ∧ d.depth ≤ 10 ∧ ∀ H', Same H H' → GG.Rp K H' v d
theorem Sh.same {K : PySem.W.Frag} {H H1 : Hp} {v : V} {d : PyData} (h : Sh K H v d) (s : Same H H1) : Sh K H1 v d := ⟨h.1, h.2.1, h.2.2.1, fun H' s' => h.2.2.2 H' (s.trans s')⟩
theorem Sh.rep {K : PySem.W.Frag} {H : Hp} {v : V} {d : PyData} {Q : VK} (h : Sh K H v d) (q : Q (.str d.shown) H) : GG.rRep K [v] H Q := ⟨v, d, rfl, h.2.2.2 H Same.me, h.1, h.2.1, h.2.2.1, q⟩
def EHd (K : PySem.W.Frag) (CP CW CN CF CT : Addr) (Q : VK) : XK := fun cls d H' =>
  (∃ dd v D, cls = .ref CP ∧ d = some dd ∧ H' dd = some (.xd [(("value" : Str), v)]) ∧ Sh K H' v D ∧ ∀ H'' t, Same H' H'' → H' t = none → H'' t = some (.tup [.str "none", .str D.shown]) → Q (.ref t) H'') ∨
  (∃ dd v D, cls = .ref CW ∧ d = some dd ∧ H' dd = some (.xd [(("value" : Str), v)]) ∧ Sh K H' v D ∧ ∀ H'' t, Same H' H'' → H' t = none → H'' t = some (.tup [.str "twice", .str D.shown]) → Q (.ref t) H'') ∨
  (∃ dd z, cls = .ref CN ∧ d = some dd ∧ H' dd = some (.xd [(("part" : Str), .str z)]) ∧ ∀ H'' t, Same H' H'' → H' t = none → H'' t = some (.tup [.str "number", .str z]) → Q (.ref t) H'') ∨
  (∃ dd z, cls = .ref CF ∧ d = some dd ∧ H' dd = some (.xd [(("part" : Str), .str z)]) ∧ ∀ H'' t, Same H' H'' → H' t = none → H'' t = some (.tup [.str "misfit", .str z]) → Q (.ref t) H'') ∨
  (∃ dd, cls = .ref CT ∧ d = some dd ∧ H' dd = some (.xd full7) ∧ ∀ H'' t, Same H' H'' → H' t = none → H'' t = some (.tup [.str "pins", .int 7]) → Q (.ref t) H'')
/-- what is wished of an asking that gives anything -/
def NHd (Q N : VK) : Prop := ∀ v H', (∀ H'', Same H' H'' → Q .non H'') → N v H'
def THeard (K : PySem.W.Frag) (CP CW CN CF CT : Addr) : (XK → Hp → VK → Prop) → Hp → VK → Prop := fun tl H Q => ∀ (H1 : Hp), Same H H1 → ∀ N : VK, NHd Q N → tl (EHd K CP CW CN CF CT Q) H1 N
theorem set_one {σ : L2.St} {x : Option V} {y : V} (h : σ.length = 3) : (((σ.set 2 x).set 1 (some y)).set 2 none)[1]? = some (some y) := by
  match σ, h with
  | [a, b, c], _ => rfl
/-! ### _law_heard -/
abbrev sHd : Stmt := top 57
abbrev nHd : List Str := ["_law_ask", "_law_caught", "error"]
theorem scHd : FnScope nHd ["_law_ask"] (defScope sHd) := ⟨rfl, rfl, rfl, by decide +kernel, rfl, by decide +kernel, by decide +kernel⟩
theorem heard_gives {X : Cx} {CS CP CW CN CF CT g : Addr} {cdg : Value} {q : Str} (sh : GG.Shy X.A) (hu : X.A.units + 60 < cLine) (B : Bn X.mg) (hrep : X.mg "repr" = none) (S : SeT X.K CS CP CW CN CF CT) (M : SeM X.mg CS CP CW CN CF CT) : LamX.GivesTo X nHd "_law_heard" (defScope sHd) g cdg (defBody sHd) "_law_ask" q (THeard X.K CP CW CN CF CT) := by
  intro f c' s H Q tl act hc h
  have nd := scHd.nd
  have h0 := h
  have crep : CallR (cxOf C8.CX0 X.prog X.w X.K X.mg X.base nHd "_law_heard" (defScope sHd) g cdg X.A X.stack s H C8.E0).nox (.builtin "repr") (GG.rRep X.K) := GG.call_repr (X := (cxOf C8.CX0 X.prog X.w X.K X.mg X.base nHd "_law_heard" (defScope sHd) g cdg X.A X.stack s H C8.E0).nox) sh (by show X.A.units + 3 + 40 < cLine; omega)
  refine ⟨_, (pss_cons ((ps_set (i := 1) nd rfl (Or.inl rfl) (pe_non))) (pss_cons (ps_try_keep (i := 2) (j := 1) (c := .ref CS) (tb := fun W D σ H => ∃ Ech : XK, (∀ cls d σ' H', Ech cls d H' → W cls d σ' H') ∧ σ[0]? = some (some (.ref f)) ∧ H c' = some (LamX.CodeO c' q) ∧ tl Ech H (fun v H' => D.nx σ H'))
      rfl rfl rfl nd rfl rfl rfl (Or.inl rfl) (Or.inr rfl) ⟨rfl, by decide, Or.inl M.S⟩ (by show 2 < 3; decide) (by decide) (by decide) (fun W pn xe tk _ => ⟨fun pins s' σ H' D I h' => ?_⟩)) (pss_cons (ps_if (pt_val (pe_callB (r := rCauT X.K) call_cauT (by rfl) B.isinstance boot_isinstance (pa_cons (pv 1) (pa_cons (pe_tup (pa_cons (pe_glob (v := .ref CP) rfl M.P rfl) (pa_cons (pe_glob (v := .ref CW) rfl M.W rfl) pa_nil))) pa_nil)))) (pss_one (ps_ret (pe_tup (pa_cons (pe_ifExp (pt_val (pe_callB (r := rCau X.K) call_cau (by rfl) B.isinstance boot_isinstance (pa_cons (pv 1) (pa_cons (pe_glob (v := .ref CP) rfl M.P rfl) pa_nil)))) pe_str pe_str) (pa_cons (pe_callB crep (by rfl) hrep PyProof.Rows.boot_repr (pa_cons (pe_hg (pv 1)) pa_nil)) pa_nil))))) pss_nil) (pss_cons (ps_if (pt_val (pe_callB (r := rCauT X.K) call_cauT (by rfl) B.isinstance boot_isinstance (pa_cons (pv 1) (pa_cons (pe_tup (pa_cons (pe_glob (v := .ref CN) rfl M.N rfl) (pa_cons (pe_glob (v := .ref CF) rfl M.F rfl) pa_nil))) pa_nil)))) (pss_one (ps_ret (pe_tup (pa_cons (pe_ifExp (pt_val (pe_callB (r := rCau X.K) call_cau (by rfl) B.isinstance boot_isinstance (pa_cons (pv 1) (pa_cons (pe_glob (v := .ref CN) rfl M.N rfl) pa_nil)))) pe_str pe_str) (pa_cons (pe_hg (pv 1)) pa_nil))))) pss_nil) (pss_one (ps_ret (pe_ifExp (pt_val (pe_callB (r := rCau X.K) call_cau (by rfl) B.isinstance boot_isinstance (pa_cons (pv 1) (pa_cons (pe_glob (v := .ref CT) rfl M.T rfl) pa_nil)))) (pe_tup (pa_cons (pe_hg (pv 1)) (pa_cons (pe_hg (pv 1)) pa_nil))) (pe_ifExp (pt_cmpR op_isN (pv 1) pe_non (nomark _)) pe_non (pe_tup (pa_cons (pe_str) pa_nil)))))))))), ?_⟩
  · obtain ⟨Ech, hW, h1, h2, h3⟩ := h'
    exact (pss_one (ps_expr (act W pn xe Ech _ _ tk hW))).run pins s' σ H' D I ⟨h1, h2, h3⟩
  · refine ⟨EHd X.K CP CW CN CF CT Q, ?_, rfl, hc, h0 H Same.me _ (fun v H' use => ?_)⟩
    · have keep : ∀ {C dd a : Addr} {fs : List (Str × V)} {H' : Hp}, C ∈ [CP, CW, CN, CF, CT] → H' dd = some (.xd fs) → H' a = none → Kept C fs a (upd H' a (Held (.ref C) (some dd) a)) ∧ Same H' (upd H' a (Held (.ref C) (some dd) a)) := fun {C dd a fs H'} _ hd ha => ⟨⟨dd, upd_same, by rw [upd_ne (ne_of_none hd ha)]; exact hd⟩, same_new ha⟩
      have pair : ∀ {A B : Addr} {t : Addr} {H1 H2 : Hp}, H1 t = none → H2 = upd H1 t (.tup [V.ref A, V.ref B]) → H2 t = some (.tup ([A, B].map V.ref)) ∧ Same H1 H2 := fun {A B t H1 H2} n e => by
        subst e
        exact ⟨upd_same, same_new n⟩
      rintro cls d σ' H' (⟨dd, v, D, rfl, rfl, hd, sw, use⟩ | ⟨dd, v, D, rfl, rfl, hd, sw, use⟩ | ⟨dd, z, rfl, rfl, hd, use⟩ | ⟨dd, z, rfl, rfl, hd, use⟩ | ⟨dd, rfl, rfl, hd, use⟩)
      · obtain ⟨su, ex, xf⟩ := S.sub CP (by simp)
        refine ⟨su, fun a ha hl => ?_⟩
        have hl : σ'.length = 3 := hl
        obtain ⟨k, s1⟩ := keep (C := CP) (by simp) hd ha
        generalize upd H' a (Held (.ref CP) (some dd) a) = H1 at k s1 ⊢
        refine ⟨_, set_one hl, by show 2 ≤ sizeLine; decide, fun t1 n1 => ?_⟩
        obtain ⟨g1, s2⟩ := pair (A := CP) (B := CW) n1 rfl
        have k : Kept CP _ a _ := let ⟨x, y, z⟩ := k; ⟨x, s2 _ _ y, s2 _ _ z⟩
        generalize upd H1 t1 (.tup [V.ref CP, V.ref CW]) = H2 at g1 s2 k ⊢
        refine ⟨_, t1, [CP, CW], _, true, rfl, g1, .ex k ex, S.pP, _, rfl, iteT ?_⟩
        refine ⟨_, set_one hl, _, CP, _, true, rfl, .ex k ex, kit_self, _, rfl, iteT ?_⟩
        have s12 := s1.trans s2
        refine ⟨_, set_one hl, a, CP, _, _, rfl, k, xf, S.v1, rfl, _, _, rfl, sw.2.2.2 _ s12, sw.1, sw.2.1, sw.2.2.1, ?_⟩
        refine ⟨by show 2 ≤ sizeLine; decide, fun t nt => ?_⟩
        exact use _ t (s12.trans (same_new nt)) (s12.free nt) upd_same
      · obtain ⟨su, ex, xf⟩ := S.sub CW (by simp)
        refine ⟨su, fun a ha hl => ?_⟩
        have hl : σ'.length = 3 := hl
        obtain ⟨k, s1⟩ := keep (C := CW) (by simp) hd ha
        generalize upd H' a (Held (.ref CW) (some dd) a) = H1 at k s1 ⊢
        refine ⟨_, set_one hl, by show 2 ≤ sizeLine; decide, fun t1 n1 => ?_⟩
        obtain ⟨g1, s2⟩ := pair (A := CP) (B := CW) n1 rfl
        have k : Kept CW _ a _ := let ⟨x, y, z⟩ := k; ⟨x, s2 _ _ y, s2 _ _ z⟩
        generalize upd H1 t1 (.tup [V.ref CP, V.ref CW]) = H2 at g1 s2 k ⊢
        refine ⟨_, t1, [CP, CW], _, true, rfl, g1, .ex k ex, S.pW, _, rfl, iteT ?_⟩
        refine ⟨_, set_one hl, _, CP, _, false, rfl, .ex k ex, S.wP, _, rfl, iteF ?_⟩
        have s12 := s1.trans s2
        refine ⟨_, set_one hl, a, CW, _, _, rfl, k, xf, S.v2, rfl, _, _, rfl, sw.2.2.2 _ s12, sw.1, sw.2.1, sw.2.2.1, ?_⟩
        refine ⟨by show 2 ≤ sizeLine; decide, fun t nt => ?_⟩
        exact use _ t (s12.trans (same_new nt)) (s12.free nt) upd_same
      · obtain ⟨su, ex, xf⟩ := S.sub CN (by simp)
        refine ⟨su, fun a ha hl => ?_⟩
        have hl : σ'.length = 3 := hl
        obtain ⟨k, s1⟩ := keep (C := CN) (by simp) hd ha
        generalize upd H' a (Held (.ref CN) (some dd) a) = H1 at k s1 ⊢
        refine ⟨_, set_one hl, by show 2 ≤ sizeLine; decide, fun t1 n1 => ?_⟩
        obtain ⟨g1, s2⟩ := pair (A := CP) (B := CW) n1 rfl
        have k : Kept CN _ a _ := let ⟨x, y, z⟩ := k; ⟨x, s2 _ _ y, s2 _ _ z⟩
        generalize upd H1 t1 (.tup [V.ref CP, V.ref CW]) = H2 at g1 s2 k ⊢
        refine ⟨_, t1, [CP, CW], _, false, rfl, g1, .ex k ex, S.pN, _, rfl, iteF ?_⟩
        refine ⟨_, set_one hl, by show 2 ≤ sizeLine; decide, fun t2 n2 => ?_⟩
        obtain ⟨g2, s3⟩ := pair (A := CN) (B := CF) n2 rfl
        have k : Kept CN _ a _ := let ⟨x, y, z⟩ := k; ⟨x, s3 _ _ y, s3 _ _ z⟩
        generalize upd H2 t2 (.tup [V.ref CN, V.ref CF]) = H3 at g2 s3 k ⊢
        refine ⟨_, t2, [CN, CF], _, true, rfl, g2, .ex k ex, S.nN, _, rfl, iteT ?_⟩
        refine ⟨_, set_one hl, _, CN, _, true, rfl, .ex k ex, kit_self, _, rfl, iteT ?_⟩
        have s12 := (s1.trans s2).trans s3
        refine ⟨_, set_one hl, a, CN, _, _, rfl, k, xf, S.p1, rfl, by show 2 ≤ sizeLine; decide, fun t nt => ?_⟩
        exact use _ t (s12.trans (same_new nt)) (s12.free nt) upd_same
      · obtain ⟨su, ex, xf⟩ := S.sub CF (by simp)
        refine ⟨su, fun a ha hl => ?_⟩
        have hl : σ'.length = 3 := hl
        obtain ⟨k, s1⟩ := keep (C := CF) (by simp) hd ha
        generalize upd H' a (Held (.ref CF) (some dd) a) = H1 at k s1 ⊢
        refine ⟨_, set_one hl, by show 2 ≤ sizeLine; decide, fun t1 n1 => ?_⟩
        obtain ⟨g1, s2⟩ := pair (A := CP) (B := CW) n1 rfl
        have k : Kept CF _ a _ := let ⟨x, y, z⟩ := k; ⟨x, s2 _ _ y, s2 _ _ z⟩
        generalize upd H1 t1 (.tup [V.ref CP, V.ref CW]) = H2 at g1 s2 k ⊢
        refine ⟨_, t1, [CP, CW], _, false, rfl, g1, .ex k ex, S.pF, _, rfl, iteF ?_⟩
        refine ⟨_, set_one hl, by show 2 ≤ sizeLine; decide, fun t2 n2 => ?_⟩
        obtain ⟨g2, s3⟩ := pair (A := CN) (B := CF) n2 rfl
        have k : Kept CF _ a _ := let ⟨x, y, z⟩ := k; ⟨x, s3 _ _ y, s3 _ _ z⟩
        generalize upd H2 t2 (.tup [V.ref CN, V.ref CF]) = H3 at g2 s3 k ⊢
        refine ⟨_, t2, [CN, CF], _, true, rfl, g2, .ex k ex, S.nF, _, rfl, iteT ?_⟩
        refine ⟨_, set_one hl, _, CN, _, false, rfl, .ex k ex, S.fN, _, rfl, iteF ?_⟩
        have s12 := (s1.trans s2).trans s3
        refine ⟨_, set_one hl, a, CF, _, _, rfl, k, xf, S.p2, rfl, by show 2 ≤ sizeLine; decide, fun t nt => ?_⟩
        exact use _ t (s12.trans (same_new nt)) (s12.free nt) upd_same
      · obtain ⟨su, ex, xf⟩ := S.sub CT (by simp)
        refine ⟨su, fun a ha hl => ?_⟩
        have hl : σ'.length = 3 := hl
        obtain ⟨k, s1⟩ := keep (C := CT) (by simp) hd ha
        generalize upd H' a (Held (.ref CT) (some dd) a) = H1 at k s1 ⊢
        refine ⟨_, set_one hl, by show 2 ≤ sizeLine; decide, fun t1 n1 => ?_⟩
        obtain ⟨g1, s2⟩ := pair (A := CP) (B := CW) n1 rfl
        have k : Kept CT _ a _ := let ⟨x, y, z⟩ := k; ⟨x, s2 _ _ y, s2 _ _ z⟩
        generalize upd H1 t1 (.tup [V.ref CP, V.ref CW]) = H2 at g1 s2 k ⊢
        refine ⟨_, t1, [CP, CW], _, false, rfl, g1, .ex k ex, S.pT, _, rfl, iteF ?_⟩
        refine ⟨_, set_one hl, by show 2 ≤ sizeLine; decide, fun t2 n2 => ?_⟩
        obtain ⟨g2, s3⟩ := pair (A := CN) (B := CF) n2 rfl
        have k : Kept CT _ a _ := let ⟨x, y, z⟩ := k; ⟨x, s3 _ _ y, s3 _ _ z⟩
        generalize upd H2 t2 (.tup [V.ref CN, V.ref CF]) = H3 at g2 s3 k ⊢
        refine ⟨_, t2, [CN, CF], _, false, rfl, g2, .ex k ex, S.nT, _, rfl, iteF ?_⟩
        refine ⟨_, set_one hl, _, CT, _, true, rfl, .ex k ex, kit_self, _, rfl, iteT ?_⟩
        have s12 := (s1.trans s2).trans s3
        refine ⟨_, set_one hl, a, CT, _, _, rfl, k, xf, S.w1, rfl, _, set_one hl, a, CT, _, _, rfl, k, xf, S.w2, rfl, by show 2 ≤ sizeLine; decide, fun t nt => ?_⟩
        exact use _ t (s12.trans (same_new nt)) (s12.free nt) upd_same
    · refine ⟨_, rfl, by show 2 ≤ sizeLine; decide, fun t1 n1 => ?_⟩
      have s1 := same_new (o := .tup [V.ref CP, V.ref CW]) n1
      refine ⟨_, t1, [CP, CW], _, false, rfl, upd_same, .non, S.p0, _, rfl, iteF ?_⟩
      refine ⟨_, rfl, by show 2 ≤ sizeLine; decide, fun t2 n2 => ?_⟩
      have s2 := same_new (o := .tup [V.ref CN, V.ref CF]) n2
      refine ⟨_, t2, [CN, CF], _, false, rfl, upd_same, .non, S.n0, _, rfl, iteF ?_⟩
      refine ⟨_, rfl, _, CT, _, false, rfl, .non, S.t0, _, rfl, iteF ?_⟩
      refine ⟨_, rfl, rfl, _, rfl, iteT ?_⟩
      exact use _ (s1.trans s2)
end K13

namespace K13
open PySem PySem.Spec PyProof.Rows L2
/-! ### what stands while lambdas are made -/
abbrev Ext := LamX.ExtN
theorem ext_of {H H' : Hp} (s : Same H H') : Ext H H' := LamX.ExtN.of s
section
variable {H H' : Hp} {a C p : Addr} {xs : List V} {ps : List (Int × Int)} {ts : List Addr} {n : Nat}
theorem Ext.tup (s : Ext H H') (h : H a = some (.tup xs)) : H' a = some (.tup xs) := s _ _ h (by intro ps z; cases z)
theorem Ext.lst (s : Ext H H') (h : H a = some (.lst xs)) : H' a = some (.lst xs) := s _ _ h (by intro ps z; cases z)
theorem LP.ext (h : LP H a ts ps) (s : Ext H H') : LP H' a ts ps := ⟨Ext.lst s h.1, paired_mono h.2 fun _ _ z => Ext.tup s z⟩
theorem PT.ext (h : PT H a ps) (s : Ext H H') : PT H' a ps := let ⟨ts, e, b⟩ := h; ⟨ts, Ext.tup s e, paired_mono b fun _ _ z => Ext.tup s z⟩
theorem Two.ext {us vs : List Int} (h : Two H a us vs) (s : Ext H H') : Two H' a us vs := let ⟨r0, r1, e, e0, e1⟩ := h; ⟨r0, r1, Ext.tup s e, Ext.tup s e0, Ext.tup s e1⟩
theorem PicF.ext (h : PicF H C a ps) (s : Ext H H') : PicF H' C a ps := let ⟨dx, t, u, e, q, r⟩ := h; ⟨dx, t, u, s _ _ e (by intro ps z; cases z), q.ext s, r.ext s⟩
theorem Lens.ext (v : Lens H p n) (s : Ext H H') : Lens H' p n := by
  obtain ⟨c, ns, x, y, h1, h2, h⟩ := v
  exact ⟨c, ns, x, y, Ext.lst s h1, Ext.lst s h2, h⟩
theorem Kd.ext {K : PySem.W.Frag} {v : V} {t : Bool} (k : Kd K H v t) (s : Ext H H') : Kd K H' v t := by
  cases k with
  | non => exact .non
  | bl b => exact .bl b
  | int i => exact .int i
  | str x => exact .str x
  | lst e => exact .lst (Ext.lst s e)
  | tup e => exact .tup (Ext.tup s e)
  | dK e => exact .dK (s _ _ e (by intro ps z; cases z))
  | ins e P => exact .ins (s _ _ e (by intro ps z; cases z)) P
end
/-- but at p, and but tables, all stands as it stood -/
def Kq (p : Addr) (H H' : Hp) : Prop := ∀ b o, b ≠ p → (∀ ps, o ≠ .tbl ps) → H b = some o → H' b = some o
theorem Kq.refl (p : Addr) (H : Hp) : Kq p H H := fun _ _ _ _ h => h
theorem Kq.trans {p : Addr} {H H1 H2 : Hp} (a : Kq p H H1) (b : Kq p H1 H2) : Kq p H H2 := fun c o n t h => b c o n t (a c o n t h)
theorem Kq.ofS {p : Addr} {H H' : Hp} (s : SB p H H') : Kq p H H' := fun b o n _ h => s.1 b o n h
theorem Kq.ofE {p : Addr} {H H' : Hp} (s : Ext H H') : Kq p H H' := fun b o _ t h => s b o h t
theorem LP.kq {p a : Addr} {H H' : Hp} {ts : List Addr} {ps : List (Int × Int)} {n : Nat} (h : LP H a ts ps) (v : Lens H p n) (na : a ≠ p) (k : Kq p H H') : LP H' a ts ps :=
  ⟨k _ _ na (by intro ps z; cases z) h.1, paired_mono h.2 fun _ _ z => k _ _ (v.not_tup z) (by intro ps z; cases z) z⟩
theorem codeO_no {c : Addr} {q : Str} {xs : List V} : LamX.CodeO c q ≠ .lst xs := fun z => by
  unfold LamX.CodeO at z
  cases z
theorem tabs_sb {T : List (Addr × Str)} {H H' : Hp} {p : Addr} {n : Nat} (t : LamX.Tabs T H) (v : Lens H p n) (s : SB p H H') : LamX.Tabs T H' := fun x hx => by
  obtain ⟨_, _, _, hp⟩ := v.at
  obtain ⟨ps, h1, h2, h3⟩ := t x hx
  refine ⟨ps, s.1 _ _ (L2.ne_of h1 hp (by intro z; cases z)) h1, h2, fun pos cv hc => ?_⟩
  obtain ⟨c, e1, e2⟩ := h3 pos cv hc
  exact ⟨c, e1, s.1 _ _ (L2.ne_of e2 hp codeO_no) e2⟩
theorem tabs_upd {T : List (Addr × Str)} {H : Hp} {l : Addr} {xs : List V} {o : HO} (t : LamX.Tabs T H) (hl : H l = some (.lst xs)) : LamX.Tabs T (upd H l o) := fun x hx => by
  obtain ⟨ps, h1, h2, h3⟩ := t x hx
  refine ⟨ps, by rw [upd_ne (L2.ne_of h1 hl (by intro z; cases z))]; exact h1, h2, fun pos cv hc => ?_⟩
  obtain ⟨c, e1, e2⟩ := h3 pos cv hc
  exact ⟨c, e1, by rw [upd_ne (L2.ne_of e2 hl codeO_no)]; exact e2⟩

theorem lam_passes {X : Cx} {A : Around} {outer : List Env} {s : Shared} {H : Hp} {E : XK} {scope : Scope} {f c' : Addr} : Passes (L2.CX X.prog X.w) (LamX.lamCx X A outer s H E scope f c') E :=
  passes_call (X := LamX.lamCx X A outer s H E scope f c') (takes_of rfl rfl rfl rfl) (fun _ _ _ _ h => h)

theorem kq_same {p : Addr} {H H' : Hp} (s : Same H H') : Kq p H H' := Kq.ofE (ext_of s)
theorem PicF.kq {H H' : Hp} {C a p : Addr} {n : Nat} {ps : List (Int × Int)} (h : PicF H C a ps) (v : Lens H p n) (s : Kq p H H') : PicF H' C a ps := by
  obtain ⟨c, x, y, e⟩ := v.at
  obtain ⟨dx, t, u, ha, ⟨ts, ht, pr⟩, r0, r1, hu, h0, h1⟩ := h
  have tp : ∀ {b : Addr} {xs : List V}, H b = some (.tup xs) → H' b = some (.tup xs) := fun e => s _ _ (v.not_tup e) (by intro ps z; cases z) e
  exact ⟨dx, t, u, s _ _ (L2.ne_of ha e (by intro z; cases z)) (by intro ps z; cases z) ha, ⟨ts, tp ht, paired_mono pr fun _ _ z => tp z⟩, r0, r1, tp hu, tp h0, tp h1⟩
theorem keptl {H H' : Hp} {a p : Addr} {xs : List V} (h : H a = some (.lst xs)) (n : a ≠ p) (s : Kq p H H') : H' a = some (.lst xs) := s _ _ n (by intro ps z; cases z) h
/-- but at p, and but tables, all stands; what draws keeps its cells -/
structure Kz (p : Addr) (H H' : Hp) : Prop where
  k : Kq p H H'
  c : ∀ c x y, H p = some (.lst [.ref c, x, y]) → ∃ x' y', H' p = some (.lst [.ref c, x', y'])
theorem Kz.refl (p : Addr) (H : Hp) : Kz p H H := ⟨Kq.refl p H, fun _ _ _ h => ⟨_, _, h⟩⟩
theorem Kz.trans {p : Addr} {H H1 H2 : Hp} (a : Kz p H H1) (b : Kz p H1 H2) : Kz p H H2 := ⟨a.k.trans b.k, fun c x y h => let ⟨_, _, h1⟩ := a.c c x y h; b.c _ _ _ h1⟩
theorem Kz.ofS {p : Addr} {H H' : Hp} (s : SB p H H') : Kz p H H' := ⟨Kq.ofS s, s.2⟩
theorem Kz.ofE {p : Addr} {H H' : Hp} (s : Ext H H') : Kz p H H' := ⟨Kq.ofE s, fun _ _ _ h => ⟨_, _, Ext.lst s h⟩⟩
theorem Kz.same {p : Addr} {H H' : Hp} (s : Same H H') : Kz p H H' := Kz.ofE (ext_of s)
theorem kz_upd {p l : Addr} {H H' : Hp} {o : HO} (s : Kz p H H') (nl : H l = none) : Kz p H (upd H' l o) := ⟨fun b u n t h => by
  rw [upd_ne (ne_of_none h nl)]
  exact s.k b u n t h, fun c x y h => by
  obtain ⟨x', y', e⟩ := s.c c x y h
  exact ⟨x', y', by rw [upd_ne (ne_of_none h nl)]; exact e⟩⟩
theorem lens_kupd {H4 H : Hp} {p D : Addr} {n n4 : Nat} {o : HO} (v : Lens H p n) (v4 : Lens H4 p n4) (s : Kz p H4 H) (hD : H4 D = none) : Lens (L2.upd H D o) p n := by
  obtain ⟨c, ns, x, y, h1, h2, h3, h4, h5⟩ := v
  obtain ⟨c4, ms, x4, y4, g1, g2, g3, _⟩ := v4
  obtain ⟨x', y', e⟩ := s.c _ _ _ g1
  rw [h1] at e
  have z : c = c4 := V.ref.inj (List.cons.inj (HO.lst.inj (Option.some.inj e))).1
  subst z
  exact ⟨c, ns, x, y, by rw [upd_ne (ne_of_none g1 hD)]; exact h1, by rw [upd_ne (ne_of_none g2 hD)]; exact h2, h3, h4, h5⟩
/-! ### values that are drawn, whatever is drawn and made later -/
structure Val (p : Addr) (K : PySem.W.Frag) (H : Hp) (x : V) (t : Bool) (D : PyData) : Prop where
  w : D.showable = true
  z : D.shown.length ≤ sizeLine
  d : D.depth ≤ 10
  o : PyData.strOk D.shown = true
  r : ∀ H', Kq p H H' → Kd K H' x t ∧ GG.Rp K H' x D
theorem Val.kq {p : Addr} {K : PySem.W.Frag} {H H' : Hp} {x : V} {t : Bool} {D : PyData} (v : Val p K H x t D) (k : Kq p H H') : Val p K H' x t D := ⟨v.w, v.z, v.d, v.o, fun H2 k2 => v.r H2 (k.trans k2)⟩
theorem Val.sh {p : Addr} {K : PySem.W.Frag} {H : Hp} {x : V} {t : Bool} {D : PyData} (v : Val p K H x t D) : Sh K H x D := ⟨v.w, v.z, v.d, fun H' s => (v.r H' (kq_same s)).2⟩
theorem Val.kd {p : Addr} {K : PySem.W.Frag} {H : Hp} {x : V} {t : Bool} {D : PyData} (v : Val p K H x t D) : Kd K H x t := (v.r H (Kq.refl p H)).1
section
variable {p a : Addr} {K : PySem.W.Frag} {H : Hp}
theorem val_non : Val p K H .non false .none := ⟨rfl, by decide +kernel, by decide +kernel, by decide +kernel, fun _ _ => ⟨.non, .inl ⟨.non, rfl⟩⟩⟩
theorem val_bl (b : Bool) : Val p K H (.bl b) false (.bool b) := ⟨rfl, by cases b <;> decide +kernel, by show 0 ≤ 10; decide, by cases b <;> decide +kernel, fun _ _ => ⟨.bl b, .inl ⟨.bl b, rfl⟩⟩⟩
theorem val_int {i : Int} (h1 : (PyData.int i).showable = true) (h2 : (PyData.int i).shown.length ≤ sizeLine) (h3 : PyData.strOk (PyData.int i).shown = true) : Val p K H (.int i) false (.int i) := ⟨h1, h2, by show 0 ≤ 10; decide, h3, fun _ _ => ⟨.int i, .inl ⟨.int i, rfl⟩⟩⟩
theorem val_str {z : Str} (h2 : (PyData.str z).shown.length ≤ sizeLine) (h3 : PyData.strOk (PyData.str z).shown = true) : Val p K H (.str z) false (.str z) := ⟨rfl, h2, by show 0 ≤ 10; decide, h3, fun _ _ => ⟨.str z, .inl ⟨.str z, rfl⟩⟩⟩
theorem val_tup {i : Int} (n : a ≠ p) (e : H a = some (.tup [.int i])) (h1 : (PyData.tuple [.int i]).showable = true) (h2 : (PyData.tuple [.int i]).shown.length ≤ sizeLine) (h3 : PyData.strOk (PyData.tuple [.int i]).shown = true) : Val p K H (.ref a) true (.tuple [.int i]) :=
  ⟨h1, h2, by show 1 ≤ 10; decide, h3, fun H' k => ⟨.tup (k _ _ n (by intro ps z; cases z) e), .inl ⟨.tup (SqT.of (k _ _ n (by intro ps z; cases z) e)) (.cons (.int i) .nil), rfl⟩⟩⟩
theorem val_lst {i : Int} (n : a ≠ p) (e : H a = some (.lst [.int i])) (h1 : (PyData.list [.int i]).showable = true) (h2 : (PyData.list [.int i]).shown.length ≤ sizeLine) (h3 : PyData.strOk (PyData.list [.int i]).shown = true) : Val p K H (.ref a) true (.list [.int i]) :=
  ⟨h1, h2, by show 1 ≤ 10; decide, h3, fun H' k => ⟨.lst (k _ _ n (by intro ps z; cases z) e), .inl ⟨.lst (SqL.of (k _ _ n (by intro ps z; cases z) e)) (.cons (.int i) .nil), rfl⟩⟩⟩
theorem val_dK {ms : List (Int × Int)} (n : a ≠ p) (e : H a = some (.dK (ms.map fun m => (Sum.inl m.1, V.int m.2)))) (h1 : (GG.dI ms).showable = true) (h2 : (GG.dI ms).shown.length ≤ sizeLine) (h3 : PyData.strOk (GG.dI ms).shown = true) (h4 : (GG.dI ms).depth ≤ 10) : Val p K H (.ref a) false (GG.dI ms) :=
  ⟨h1, h2, h4, h3, fun H' k => ⟨.dK (k _ _ n (by intro ps z; cases z) e), .inr ⟨a, ms, rfl, k _ _ n (by intro ps z; cases z) e, rfl⟩⟩⟩
theorem small_shown : ∀ n : Fin 9, (PyData.int ((n.val : Nat) : Int)).showable = true ∧ (PyData.int ((n.val : Nat) : Int)).shown.length ≤ sizeLine ∧ PyData.strOk (PyData.int ((n.val : Nat) : Int)).shown = true := by decide +kernel
theorem val_nat {n : Nat} (h : n < 9) : Val p K H (.int (n : Nat)) false (.int (n : Nat)) := val_int (small_shown ⟨n, h⟩).1 (small_shown ⟨n, h⟩).2.1 (small_shown ⟨n, h⟩).2.2
end
/-! ### a list of what was heard -/
abbrev Ee := Option (Str × V)
def T2 (H : Hp) (x : V) : Ee → Prop
  | none => x = .non
  | some e => ∃ t, x = .ref t ∧ H t = some (.tup [.str e.1, e.2])
def HsP (H : Hp) (l : Addr) (es : List Ee) : Prop := ∃ xs, H l = some (.lst xs) ∧ Paired (T2 H) xs es
theorem T2.tup {H H' : Hp} {x : V} {e : Ee} (h : T2 H x e) (s : ∀ t xs, H t = some (.tup xs) → H' t = some (.tup xs)) : T2 H' x e := by
  cases e with
  | none => exact h
  | some e =>
    obtain ⟨t, rfl, g⟩ := h
    exact ⟨t, rfl, s _ _ g⟩
theorem HsP.kq {H H' : Hp} {p l : Addr} {n : Nat} {es : List Ee} (h : HsP H l es) (v : Lens H p n) (nl : l ≠ p) (k : Kq p H H') : HsP H' l es := by
  obtain ⟨xs, g, pr⟩ := h
  exact ⟨xs, keptl g nl k, paired_mono pr fun _ _ z => z.tup fun t ys e => k _ _ (v.not_tup e) (by intro ps z; cases z) e⟩
theorem hsp_upd {H : Hp} {d l : Addr} {es : List Ee} {ys : List V} {o : HO} (h : HsP H d es) (hl : H l = some (.lst ys)) (ne : d ≠ l) : HsP (upd H l o) d es := by
  obtain ⟨xs, g, pr⟩ := h
  exact ⟨xs, by rw [upd_ne ne]; exact g, paired_mono pr fun _ _ z => z.tup fun t ys e => by rw [upd_ne (L2.ne_of e hl (by intro z; cases z))]; exact e⟩
/-- since H0: what stood there stands but what draws; the list at l has these, the lists of ds have theirs -/
structure St (TL : List (Addr × Str)) (p : Addr) (H0 : Hp) (l : Addr) (es : List Ee) (ds : List (Addr × List Ee)) (n : Nat) (H : Hp) : Prop where
  z : Kz p H0 H
  v : Lens H p n
  T : LamX.Tabs TL H
  h : HsP H l es
  nl : l ≠ p
  nl0 : H0 l = none
  ds : ∀ x ∈ ds, HsP H x.1 x.2 ∧ x.1 ≠ l ∧ x.1 ≠ p
section
variable {TL : List (Addr × Str)} {p l : Addr} {H0 H H' HC HD : Hp} {es : List Ee} {ds : List (Addr × List Ee)} {n n0 : Nat}
theorem St.at (s : St TL p H0 l es ds n H) : ∃ xs, H l = some (.lst xs) ∧ xs.length = es.length := by
  obtain ⟨xs, g, pr⟩ := s.h
  exact ⟨xs, g, Paired.length pr⟩
theorem St.ext (s : St TL p H0 l es ds n H) (x : Ext H H') (T' : LamX.Tabs TL H') : St TL p H0 l es ds n H' := ⟨s.z.trans (Kz.ofE x), s.v.ext x, T', s.h.kq s.v s.nl (Kq.ofE x), s.nl, s.nl0, fun d hd => ⟨(s.ds d hd).1.kq s.v (s.ds d hd).2.2 (Kq.ofE x), (s.ds d hd).2⟩⟩
theorem St.same (s : St TL p H0 l es ds n H) (x : Same H H') : St TL p H0 l es ds n H' := s.ext (ext_of x) (s.T.ext x)
theorem St.draw {m : Nat} (s : St TL p H0 l es ds n H) (x : SB p H H') (v' : Lens H' p m) : St TL p H0 l es ds m H' := ⟨s.z.trans (Kz.ofS x), v', tabs_sb s.T s.v x, s.h.kq s.v s.nl (Kq.ofS x), s.nl, s.nl0, fun d hd => ⟨(s.ds d hd).1.kq s.v (s.ds d hd).2.2 (Kq.ofS x), (s.ds d hd).2⟩⟩
theorem St.app {x : V} {e : Ee} (s : St TL p H0 l es ds n H) (v0 : Lens H0 p n0) (x1 : Ext H HC) (T1 : LamX.Tabs TL HC) (sD : Same HC HD) (hx : T2 HD x e) : ∃ xs, HD l = some (.lst xs) ∧ xs.length = es.length ∧ St TL p H0 l (es ++ [e]) ds n (upd HD l (.lst (xs ++ [x]))) := by
  have s2 := (s.ext x1 T1).same sD
  obtain ⟨xs, g, pr⟩ := s2.h
  have up : ∀ t ys, HD t = some (.tup ys) → upd HD l (.lst (xs ++ [x])) t = some (.tup ys) := fun t ys e => by
    rw [upd_ne (L2.ne_of e g (by intro z; cases z))]
    exact e
  exact ⟨xs, g, Paired.length pr, kz_upd s2.z s2.nl0, lens_kupd s2.v v0 s2.z s2.nl0, tabs_upd s2.T g, ⟨_, upd_same, paired_snoc (paired_mono pr fun _ _ z => z.tup up) (hx.tup up)⟩, s2.nl, s2.nl0, fun d hd => ⟨hsp_upd (s2.ds d hd).1 g (s2.ds d hd).2.1, (s2.ds d hd).2⟩⟩
/-- a new list -/
theorem St.put {d : Addr} {xs : List V} {fs : List Ee} (s : St TL p H0 l es ds n H) (nd : H d = none) (pr : Paired (T2 H) xs fs) : St TL p H0 l es ((d, fs) :: ds) n (upd H d (.lst xs)) := by
  have sd := same_new (o := .lst xs) nd
  have s2 := s.same sd
  obtain ⟨ys, g, _⟩ := s.at
  refine ⟨s2.z, s2.v, s2.T, s2.h, s2.nl, s2.nl0, fun x hx => ?_⟩
  rcases List.mem_cons.mp hx with e | hx
  · subst e
    exact ⟨⟨xs, upd_same, paired_mono pr fun _ _ z => z.tup fun t ys e => sd _ _ e⟩, (ne_of_none g nd).symm, s.v.not_none nd⟩
  · exact s2.ds x hx
end
/-- what is heard, as data -/
def dE : Ee → PyData
  | none => .none
  | some e => .tuple [.str e.1, match e.2 with
    | .int i => .int i
    | .str z => .str z
    | _ => .none]
def okE : Ee → Prop
  | none => True
  | some e => PyData.strOk e.1 = true ∧ ((∃ i, e.2 = .int i) ∨ ∃ z, e.2 = .str z ∧ PyData.strOk z = true)
theorem hs_dp {K : PySem.W.Frag} {H : Hp} : ∀ {xs : List V} {es : List Ee}, Paired (T2 H) xs es → (∀ e ∈ es, okE e) → DpAll K H xs (es.map dE)
  | _, _, .nil, _ => .nil
  | _, _, .cons (b := none) a r, h => by
    have a : _ = V.non := a
    subst a
    exact .cons .non (hs_dp r fun e he => h e (List.mem_cons_of_mem _ he))
  | _, _, .cons (b := some e) a r, h => by
    obtain ⟨t, rfl, g⟩ := a
    refine .cons ?_ (hs_dp r fun e he => h e (List.mem_cons_of_mem _ he))
    obtain ⟨s, v⟩ := e
    rcases (h (some (s, v)) List.mem_cons_self).2 with ⟨i, z⟩ | ⟨i, z, _⟩
    · have z : v = .int i := z
      subst z
      exact .tup (SqT.of g) (.cons (.str _) (.cons (.int _) .nil))
    · have z : v = .str i := z
      subst z
      exact .tup (SqT.of g) (.cons (.str _) (.cons (.str _) .nil))
theorem hs_lay : ∀ {es : List Ee}, (∀ e ∈ es, okE e) → PyData.canLayAll0 (es.map dE) = true ∧ PyData.depthAll (es.map dE) ≤ 1 ∧ PyData.eqvAll (es.map dE) (es.map dE) = true := by
  intro es
  induction es with
  | nil => exact fun _ => ⟨rfl, by decide, rfl⟩
  | cons e es ih =>
    intro h
    obtain ⟨i1, i2, i3⟩ := ih fun e he => h e (List.mem_cons_of_mem _ he)
    have one : PyData.canLay0 (dE e) = true ∧ PyData.depth (dE e) ≤ 1 ∧ PyData.eqv (dE e) (dE e) = true := by
      have he := h e List.mem_cons_self
      cases e with
      | none => exact ⟨rfl, by decide, rfl⟩
      | some e =>
        obtain ⟨s, v⟩ := e
        obtain ⟨h1, ⟨i, z⟩ | ⟨z, q, h2⟩⟩ := he
        · have z : v = .int i := z
          have h1 : PyData.strOk s = true := h1
          subst z
          refine ⟨?_, by show 1 ≤ 1; decide, ?_⟩
          · show (PyData.strOk s && (true && true)) = true
            rw [h1]
            rfl
          · show ((s == s) && ((i == i) && true)) = true
            rw [beq_self_eq_true, beq_self_eq_true]
            rfl
        · have q : v = .str z := q
          have h1 : PyData.strOk s = true := h1
          subst q
          refine ⟨?_, by show 1 ≤ 1; decide, ?_⟩
          · show (PyData.strOk s && (PyData.strOk z && true)) = true
            rw [h1, h2]
            rfl
          · show ((s == s) && ((z == z) && true)) = true
            rw [beq_self_eq_true, beq_self_eq_true]
            rfl
    refine ⟨?_, ?_, ?_⟩
    · show (PyData.canLay0 (dE e) && PyData.canLayAll0 (es.map dE)) = true
      rw [one.1, i1]
      rfl
    · show max (PyData.depth (dE e)) (PyData.depthAll (es.map dE)) ≤ 1
      have := one.2.1
      omega
    · show (PyData.eqv (dE e) (dE e) && PyData.eqvAll (es.map dE) (es.map dE)) = true
      rw [one.2.2, i3]
      rfl
theorem hs_eq {K : PySem.W.Frag} {H : Hp} {l d : Addr} {es : List Ee} {Q : VK} (h1 : HsP H l es) (h2 : HsP H d es) (ok : ∀ e ∈ es, okE e) (q : Q (.bl true) H) : rEqD K (.ref l) (.ref d) H Q := by
  obtain ⟨xs, g1, p1⟩ := h1
  obtain ⟨ys, g2, p2⟩ := h2
  obtain ⟨a, b, c⟩ := hs_lay ok
  have sh : SeqAt.shaped (.list (es.map dE)) = true := by
    show (PyData.canLayAll0 (es.map dE) && decide (PyData.depthAll (es.map dE) + 1 ≤ 64)) = true
    rw [a, Bool.true_and, decide_eq_true_iff]
    omega
  refine ⟨_, _, .lst (SqL.of g1) (hs_dp p1 ok), .lst (SqL.of g2) (hs_dp p2 ok), sh, sh, ?_⟩
  have e : PyData.eqv (.list (es.map dE)) (.list (es.map dE)) = true := c
  rw [e]
  exact q
end K13

namespace K13
open PySem PySem.Spec PyProof.Rows L2
/-! ### lists with a number twice -/
structure Dup (ms : List Nat) (j : Nat) : Prop where
  nn : ¬ ms.Nodup
  u : ∀ i, TwN ms i → i = j
theorem tw_two {ms : List Nat} {j : Nat} (h : TwN ms j) : ∃ a b : Nat, a < b ∧ ms[a]? = some j ∧ ms[b]? = some j := by
  obtain ⟨i, h1, h2, _⟩ := h
  obtain ⟨a, ha, e⟩ := List.getElem_of_mem h2
  have la : a < i := by
    rw [List.length_take] at ha
    omega
  refine ⟨a, i, la, ?_, h1⟩
  rw [List.getElem_take] at e
  rw [← e]
  exact List.getElem?_eq_getElem _
theorem two_not {ms : List Nat} {a b : Nat} {j : Nat} (l : a < b) (ha : ms[a]? = some j) (hb : ms[b]? = some j) : ¬ ms.Nodup := fun nd => by
  obtain ⟨h1, e1⟩ := List.getElem?_eq_some_iff.mp ha
  obtain ⟨h2, e2⟩ := List.getElem?_eq_some_iff.mp hb
  have := nd_inj nd h1 h2 (by rw [e1, e2])
  omega
theorem dup_set {ns : List Nat} {a b : Nat} (nd : ns.Nodup) (ha : a < ns.length) (hb : b < ns.length) (ne : b ≠ a) : Dup (ns.set a ns[b]) ns[b] := by
  have e1 : (ns.set a ns[b])[a]? = some ns[b] := by
    rw [List.getElem?_set_self ha]
  have e2 : (ns.set a ns[b])[b]? = some ns[b] := by
    rw [List.getElem?_set_ne (fun z => ne z.symm)]
    exact List.getElem?_eq_getElem hb
  refine ⟨?_, fun i hi => ?_⟩
  · rcases Nat.lt_or_ge a b with l | l
    · exact two_not l e1 e2
    · exact two_not (show b < a by omega) e2 e1
  · obtain ⟨x, y, l, hx, hy⟩ := tw_two hi
    by_cases xa : x = a
    · rw [xa, e1] at hx
      exact (Option.some.inj hx).symm
    · by_cases ya : y = a
      · rw [ya, e1] at hy
        exact (Option.some.inj hy).symm
      · rw [List.getElem?_set_ne (fun z => xa z.symm)] at hx
        rw [List.getElem?_set_ne (fun z => ya z.symm)] at hy
        exact absurd nd (two_not l hx hy)
theorem dup_end {ns : List Nat} {j : Nat} (nd : ns.Nodup) (hj : j ∈ ns) : Dup (ns ++ [j]) j := by
  refine ⟨fun h => ?_, fun i hi => ?_⟩
  · rw [List.nodup_append] at h
    exact h.2.2 j hj j (List.mem_singleton.mpr rfl) rfl
  · obtain ⟨x, y, l, hx, hy⟩ := tw_two hi
    have hy' : y < (ns ++ [j]).length := (List.getElem?_eq_some_iff.mp hy).1
    rw [List.length_append] at hy'
    have one : [j].length = 1 := rfl
    by_cases ly : y < ns.length
    · rw [List.getElem?_append_left ly] at hy
      rw [List.getElem?_append_left (by omega)] at hx
      exact absurd nd (two_not l hx hy)
    · have ey : y = ns.length := by omega
      rw [ey, List.getElem?_append_right (Nat.le_refl _), Nat.sub_self] at hy
      exact (Option.some.inj hy).symm
theorem cut_set {α : Type} {ns : List α} {a : Nat} {x : α} (ha : a < ns.length) : ns.take a ++ [x] ++ ns.drop (a + 1) = ns.set a x := by
  rw [List.set_eq_take_append_cons_drop, if_pos ha, List.append_assoc]
  rfl
theorem nV_set (ns : List Nat) (a x : Nat) : (nV ns).set a (.int (x : Nat)) = nV (ns.set a x) := by
  unfold nV
  rw [List.map_set, List.map_set]
theorem nV_take (ns : List Nat) (a : Nat) : (nV ns).take a = nV (ns.take a) := by
  unfold nV
  rw [List.map_take, List.map_take]
theorem nV_drop (ns : List Nat) (a : Nat) : (nV ns).drop a = nV (ns.drop a) := by
  unfold nV
  rw [List.map_drop, List.map_drop]
/-! ### asking for what is refused -/
section
variable {K : PySem.W.Frag} {C CP CW CF CN CT : Addr} {ps : List (Int × Int)} {H : Hp} {Q N : VK} {a c : Addr} {ns : List Nat} {D : PyData} {v x y : V} {j n : Nat}
theorem spoil_wj {k : Nat} {os : List Nat} {o : V} {t : Bool} (hs : H c = some (.lst ((nV os).set n o))) (lt : ∀ i ∈ os, i < k) (l : os.length ≤ 10) (hn : n < os.length) (ko : Kd K H o t) (no : pinOk k o = false) : WJ K H k (.ref c) (some o) := by
  have z : WJ K H k (.ref c) (((nV os).set n o).find? fun x => !pinOk k x) := .seq (.inl hs) (fun x hx => by
    rcases List.mem_or_eq_of_mem_set hx with e | e
    · unfold nV at e
      obtain ⟨i, _, rfl⟩ := List.mem_map.mp e
      exact ⟨_, .int i⟩
    · rw [e]
      exact ⟨t, ko⟩) (by rw [List.length_set, nV_len]; omega)
  have e : ((nV os).set n o).find? (fun x => !pinOk k x) = some o := by
    refine find_first (i := n) (List.getElem?_set_self (by rw [nV_len]; exact hn)) (by rw [no]; rfl) fun y hy => ?_
    rw [List.take_set_of_le (Nat.le_refl n), nV_take] at hy
    unfold nV at hy
    rw [List.map_map] at hy
    obtain ⟨i, hi, rfl⟩ := List.mem_map.mp hy
    show (!pinOk k (.int (i : Nat))) = false
    rw [pinOk_nat, decide_eq_true (lt i (List.mem_of_mem_take hi))]
    rfl
  rw [e] at z
  exact z
theorem three_wj {k : Nat} {o : V} {t : Bool} (hs : H c = some (.lst [.int 0, .int 0, o])) (k4 : 4 ≤ k) (ko : Kd K H o t) (no : pinOk k o = false) : WJ K H k (.ref c) (some o) := by
  have p0 : pinOk k (.int 0) = true := by
    have := pinOk_nat (k := k) (n := 0)
    rw [decide_eq_true (show 0 < k by omega)] at this
    exact this
  have z : WJ K H k (.ref c) ([V.int 0, V.int 0, o].find? fun x => !pinOk k x) := .seq (.inl hs) (fun x hx => by
    simp only [List.mem_cons, List.not_mem_nil, or_false] at hx
    rcases hx with rfl | rfl | rfl
    · exact ⟨_, .int 0⟩
    · exact ⟨_, .int 0⟩
    · exact ⟨t, ko⟩) (by show 3 ≤ 100; decide)
  have e : [V.int 0, V.int 0, o].find? (fun x => !pinOk k x) = some o := by
    rw [List.find?_cons, p0, List.find?_cons, p0, List.find?_cons, no]
    rfl
  rw [e] at z
  exact z
theorem io_bad (pf : PicF H C a ps) (ok : OkP ps) (wj : WJ K H ps.length v (some x)) (sx : Sh K H x D) (h : ∀ H' t, Same H H' → H t = none → H' t = some (.tup [.str "none", .str D.shown]) → Q (.ref t) H') : Bx (spIO K C CP CW CF) [.ref a, v] H N (EHd K CP CW CN CF CT Q) :=
  .mk ⟨a, v, ps, rfl, pf, ok, .inl ⟨x, wj, fun d H' s _ e => .inl ⟨d, x, D, rfl, rfl, e, sx.same s, fun H'' t s2 nt e2 => h H'' t (s.trans s2) (s.free nt) e2⟩⟩⟩
theorem io_dup (pf : PicF H C a ps) (ok : OkP ps) (pl : PinL H c ns ps.length) (du : Dup ns j) (sx : Sh K H (.int (j : Nat)) D) (h : ∀ H' t, Same H H' → H t = none → H' t = some (.tup [.str "twice", .str D.shown]) → Q (.ref t) H') : Bx (spIO K C CP CW CF) [.ref a, .ref c] H N (EHd K CP CW CN CF CT Q) :=
  .mk ⟨a, .ref c, ps, rfl, pf, ok, .inr ⟨c, ns, rfl, pl, fun nd => absurd nd du.nn, fun nd => absurd nd du.nn, fun i tw d H' s _ e => .inr (.inl ⟨d, .int (j : Nat), D, rfl, rfl, by rw [← du.u i tw]; exact e, sx.same s, fun H'' t s2 nt e2 => h H'' t (s.trans s2) (s.free nt) e2⟩)⟩⟩
theorem io_short (pf : PicF H C a ps) (ok : OkP ps) (pl : PinL H c ns ps.length) (nd : ns.Nodup) (l : ns.length < ps.length) (h : ∀ H' t, Same H H' → H t = none → H' t = some (.tup [.str "misfit", .str "pins"]) → Q (.ref t) H') : Bx (spIO K C CP CW CF) [.ref a, .ref c] H N (EHd K CP CW CN CF CT Q) :=
  .mk ⟨a, .ref c, ps, rfl, pf, ok, .inr ⟨c, ns, rfl, pl, fun _ l2 => absurd l2 (by omega), fun _ _ d H' s _ e => .inr (.inr (.inr (.inl ⟨d, "pins", rfl, rfl, e, fun H'' t s2 nt e2 => h H'' t (s.trans s2) (s.free nt) e2⟩))), fun i tw => (let ⟨_, _, l, x, y⟩ := tw_two tw; absurd nd (two_not l x y))⟩⟩
theorem wo_bad {t : Bool} (pf : PicF H C a ps) (ok : OkP ps) (kx : Kd K H x t) (nx : pinOk ps.length x = false) (sx : Sh K H x D) (h : ∀ H' t, Same H H' → H t = none → H' t = some (.tup [.str "none", .str D.shown]) → Q (.ref t) H') : Bx (spWo K C CP CF) [.ref a, x] H N (EHd K CP CW CN CF CT Q) :=
  .mk ⟨a, x, t, ps, rfl, pf, ok, kx, fun _ d H' s _ e => .inl ⟨d, x, D, rfl, rfl, e, sx.same s, fun H'' t s2 nt e2 => h H'' t (s.trans s2) (s.free nt) e2⟩, fun m e hm => by
    rw [e, pinOk_nat, decide_eq_true hm] at nx
    cases nx⟩
/-- a pin is left out, or the picture has but four -/
def Out4 (k : Nat) : Ee := if k = 4 then some ("misfit", .str "pins") else none
def Out7 (k : Nat) : Ee := if k = 7 then some ("pins", .int 7) else none
theorem wo_any (pf : PicF H C a ps) (ok : OkP ps) (hn : n < ps.length) (hN : NHd Q N) (h : ∀ H' x, Same H H' → T2 H' x (Out4 ps.length) → Q x H') : Bx (spWo K C CP CF) [.ref a, .int n] H N (EHd K CP CW CN CF CT Q) := by
  refine .mk ⟨a, .int n, false, ps, rfl, pf, ok, .int _, fun z => ?_, fun m e _ => ⟨fun l4 d H' s _ ed => ?_, fun l5 => fun b H' s _ _ => ?_⟩⟩
  · rw [pinOk_nat, decide_eq_true hn] at z
    cases z
  · refine .inr (.inr (.inr (.inl ⟨d, "pins", rfl, rfl, ed, fun H'' t s2 nt e2 => h H'' _ (s.trans s2) ?_⟩)))
    unfold Out4
    rw [if_pos l4]
    exact ⟨t, rfl, e2⟩
  · refine hN _ _ fun H'' s2 => h H'' _ (s.trans s2) ?_
    unfold Out4
    rw [if_neg (by omega)]
    rfl
theorem wp_x {tx ty : Bool} (pf : PicF H C a ps) (ok : OkP ps) (kx : Kd K H x tx) (ky : Kd K H y ty) (nx : inB x = false) (h : ∀ H' t, Same H H' → H t = none → H' t = some (.tup [.str "number", .str "x"]) → Q (.ref t) H') : Bx (spWP K C CN CT) [.ref a, x, y] H N (EHd K CP CW CN CF CT Q) :=
  .mk ⟨a, x, y, tx, ty, ps, rfl, pf, ok, kx, ky, fun _ d H' s _ e => .inr (.inr (.inl ⟨d, "x", rfl, rfl, e, fun H'' t s2 nt e2 => h H'' t (s.trans s2) (s.free nt) e2⟩)), (fun z => absurd z (by rw [nx]; decide)), (fun _ _ _ _ z => absurd z (by rw [nx]; decide))⟩
theorem wp_y {i : Int} {ty : Bool} (pf : PicF H C a ps) (ok : OkP ps) (hi : inB (.int i) = true) (ky : Kd K H y ty) (ny : inB y = false) (h : ∀ H' t, Same H H' → H t = none → H' t = some (.tup [.str "number", .str "y"]) → Q (.ref t) H') : Bx (spWP K C CN CT) [.ref a, .int i, y] H N (EHd K CP CW CN CF CT Q) :=
  .mk ⟨a, .int i, y, false, ty, ps, rfl, pf, ok, .int i, ky, (fun z => absurd z (by rw [hi]; decide)), fun _ _ d H' s _ e => .inr (.inr (.inl ⟨d, "y", rfl, rfl, e, fun H'' t s2 nt e2 => h H'' t (s.trans s2) (s.free nt) e2⟩)), (fun _ _ _ _ _ z => absurd z (by rw [ny]; decide))⟩
theorem wp_any {i k : Int} (pf : PicF H C a ps) (ok : OkP ps) (hi : inB (.int i) = true) (hk : inB (.int k) = true) (hN : NHd Q N) (h : ∀ H' x, Same H H' → T2 H' x (Out7 ps.length) → Q x H') : Bx (spWP K C CN CT) [.ref a, .int i, .int k] H N (EHd K CP CW CN CF CT Q) := by
  refine .mk ⟨a, .int i, .int k, false, false, ps, rfl, pf, ok, .int i, .int k, fun z => ?_, fun _ z => ?_, fun i' k' _ _ _ _ => ⟨fun l7 d H' s ed => ?_, fun l6 => fun b H' s _ _ => ?_⟩⟩
  · rw [hi] at z
    cases z
  · rw [hk] at z
    cases z
  · refine .inr (.inr (.inr (.inr ⟨d, rfl, rfl, ed, fun H'' t s2 nt e2 => h H'' _ (s.trans s2) ?_⟩)))
    unfold Out7
    rw [if_pos l7]
    exact ⟨t, rfl, e2⟩
  · refine hN _ _ fun H'' s2 => h H'' _ (s.trans s2) ?_
    unfold Out7
    rw [if_neg (by omega)]
    rfl
theorem lam_in {T : List (Addr × Str)} {t : XK → TE} {σ : L2.St} (hT : LamX.Tabs T H) (h : ∀ H2 N, Ext H H2 → LamX.Tabs T H2 → NHd Q N → t (EHd K CP CW CN CF CT Q) σ H2 N) : LamX.tLam T (THeard K CP CW CN CF CT) t σ H Q :=
  ⟨hT, fun H1 x T1 H2 s N hN => h H2 N (x.trans (ext_of s)) (T1.ext s) hN⟩
end
theorem tIf_key {tA : TT} {ta tb : TE} {σ : L2.St} {H : Hp} {Q : VK} (G : V → Hp → Prop) (h : ∀ Q : VK, (∀ v H', G v H' → Q v H') → tIf tA ta tb σ H Q) (k : ∀ v H', G v H' → Q v H') : tIf tA ta tb σ H Q := h Q k
theorem re_st {u : TS} {D : Ends} {σ σ' : L2.St} {H : Hp} (e : σ = σ') (h : u D σ' H) : u D σ H := by
  rw [e]
  exact h
theorem re_sg {i : Nat} {x : V} {σ σ' : L2.St} {H : Hp} {R : L2.St → Hp → Prop} (e : σ.set i (some x) = σ') (h : R σ' H) : gName i x σ H R := by
  show R (σ.set i (some x)) H
  rw [e]
  exact h
def spRF (TL : List (Addr × Str)) : Sp := fun vs H Q _ => ∃ (p a : Addr) (n : Nat) (ts : List Addr) (ps : List (Int × Int)), vs = [.ref p, .ref a] ∧ Lens H p n ∧ n + 100 < 60000 ∧ a ≠ p ∧ LP H a ts ps ∧ OkP ps ∧ LamX.Tabs TL H ∧ ∀ H', Kq p H H' → Lens H' p (n + 30) → LamX.Tabs TL H' → Q (.bl true) H'
abbrev sRF : Stmt := top 58
abbrev nRF : List Str := ["_law_lens_here", "_law_places_here", "_law_made", "_law_pins", "_law_odd", "_law_list_of", "_law_order_here", "_law_at", "_law_spoiled", "_law_twice", "_law_heard_here", "_law_due", "_law_bad", "_law_more"]
theorem scRF : FnScope nRF ["_law_lens_here", "_law_places_here"] (defScope sRF) := ⟨rfl, rfl, rfl, by decide +kernel, rfl, by decide +kernel, by decide +kernel⟩
def qRF : Str := (envOfC "_law_refused_right" (defScope sRF) 0 0 (.ref 0)).qual ++ "<lambda>"
end K13

namespace K13
open PySem PySem.Spec PyProof.Rows L2
section
variable {P : Program} {w : World} {K : PySem.W.Frag} {mg : Str → Option Value} {base : Heap} {C CB CS CP CW CF CN CT : Addr}
theorem ok_rf {f c Pt g : Addr} {fdH : FuncData} {oc kV doc pm ct : Value} {od an : Option Addr} {osl : Array (Option Value)} {TL : List (Addr × Str)} (hmT : (Pt, qRF) ∈ TL) (hU : ∀ x ∈ TL, x.1 = Pt → x.2 = qRF)
    (lk : K.lookup f = some ⟨oc, od, .func (PySem.W.fnOf "_law_refused_right" "_law_refused_right" (defArgs sRF) (defBody sRF) (defScope sRF) .none kV doc pm an (.ref c) ct), osl⟩) (hcd : PySem.W.codeIn K (.ref c) "_law_refused_right" = true)
    (TB : LamX.TabB base mg c Pt) (B : Bn mg) (hrep : mg "repr" = none) (T : Pc P w K mg base C CB) (O : Po P w K mg base C CP CW CF CN CT) (S : SeT K CS CP CW CN CF CT) (Sm : SeM mg CS CP CW CN CF CT) (FH : Fun K "_law_heard" "_law_heard" sHd g fdH) (mH : mg "_law_heard" = some (.ref g))
    (C1 : Callee P w K mg base CX0 2 "_law_pick" ["_law_lens_here", "_law_some"] spPick) (C2 : Callee P w K mg base CX0 2 "_law_order" ["_law_lens_here", "_law_pins"] spOrd) (C3 : Callee P w K mg base CX0 1 "_law_shot" ["_law_lens_here", "_law_many"] spShot) :
    GG.FnG P w K mg base CX0 12 f (PySem.W.fnOf "_law_refused_right" "_law_refused_right" (defArgs sRF) (defBody sRF) (defScope sRF) .none kV doc pm an (.ref c) ct) ["_law_lens_here", "_law_places_here"] (spRF TL) := by
  obtain ⟨f1, fd1, m1, k1, b1, G1⟩ := C1
  obtain ⟨f2, fd2, m2, k2, b2, G2⟩ := C2
  obtain ⟨f3, fd3, m3, k3, b3, G3⟩ := C3
  obtain ⟨ocH, odH, kVH, docH, pmH, anH, cdvH, ctH, oslH, rfl, lkH, hcH⟩ := FH.ex
  have bH := FH.binds (ps := ["_law_ask"]) fun _ _ _ _ _ _ us hl => match us, hl with | [_], _ => rfl
  obtain ⟨fi, fdi, Mi, Gi, bi, ki⟩ := O.io
  obtain ⟨fw, fdw, Mw, Gw, bw, kw⟩ := O.wo
  obtain ⟨fp, fdp, Mp, Gp, bp, kp⟩ := O.wp
  have cl := T.t.pc.cls
  have nd := scRF.nd
  refine GG.fn_g lk hcd scRF (fun vs H Q E h => ?_) fun A outer s H vs Q E sh hr h => ?_
  · obtain ⟨p, a, n, ts, ps, rfl, _⟩ := h
    rfl
  suffices hh : ∃ t, PSs (cxOf CX0 P w K mg base nRF "_law_refused_right" (defScope sRF) f (.ref c) A outer s H E).nox (defBody sRF) t ∧ t { nx := fun _ H' => Q .non H', rt := Q } (L2.start nRF vs) H from let ⟨t, h1, h2⟩ := hh; ⟨t, h1.nox, h2⟩
  have hu : (A.deeper (envOfC "_law_refused_right" (defScope sRF) s.heap.objs.size f (.ref c))).units + 60 < cLine := by
    have := hr.un
    omega
  have crep : CallR (cxOf CX0 P w K mg base nRF "_law_refused_right" (defScope sRF) f (.ref c) A outer s H E).nox (.builtin "repr") (GG.rRep K) := GG.call_repr (X := (cxOf CX0 P w K mg base nRF "_law_refused_right" (defScope sRF) f (.ref c) A outer s H E).nox) sh (by show (A.deeper (envOfC "_law_refused_right" (defScope sRF) s.heap.objs.size f (.ref c))).units + 40 < cLine; omega)
  obtain ⟨p, a, n, ts, ps, rfl, hv, hn, nap, lp, ok, hT, q⟩ := h
  refine ⟨_, (pss_cons (ps_asg (pe_tup (pa_cons ((pe_mkP (E := E0) T (hr.mono (by decide)) passL rfl (pa_cons (pv 1) pa_nil))) (pa_cons ((pe_callB call_len_seq (by rfl) B.len PySem.boot_len (pa_cons (pv 1) pa_nil))) pa_nil))) (pg_tup rfl (pgs_cons ((pg_name (i := 2) nd rfl (Or.inr rfl))) (pgs_cons ((pg_name (i := 3) nd rfl (Or.inr rfl))) pgs_nil)))) (pss_cons ((ps_set (i := 4) nd rfl (Or.inr rfl) ((pe_call G1 (hr.mono (by decide)) rfl m1 k1 b1 .nil pass0 (pa_cons (pv 0) (pa_cons (pe_lst (pa_cons (pe_non) (pa_cons (pe_bl) (pa_cons (pe_bl) (pa_cons (pe_str) (pa_cons (pe_un un_neg pe_int) (pa_cons (pv 3) (pa_cons (pe_op op_pow pe_int pe_int) (pa_cons (pe_tup (pa_cons (pe_int) pa_nil)) (pa_cons (pe_lst (pa_cons (pe_int) pa_nil)) (pa_cons (pe_dnewK) pa_nil))))))))))) pa_nil)))))) (pss_cons ((ps_set (i := 5) nd rfl (Or.inr rfl) ((pe_call G1 (hr.mono (by decide)) rfl m1 k1 b1 .nil pass0 (pa_cons (pv 0) (pa_cons (pe_lst (pa_cons (pe_non) (pa_cons (pe_int) (pa_cons (pe_str) (pa_cons (pe_disp (pps_cons pe_int pe_int pps_nil) rfl rfl (by intro z; cases z) (by decide)) (pa_cons (pe_bl) pa_nil)))))) pa_nil)))))) (pss_cons (ps_asg (pe_tup (pa_cons ((pe_call G2 (hr.mono (by decide)) rfl m2 k2 b2 .nil pass0 (pa_cons (pv 0) (pa_cons (pv 3) pa_nil)))) (pa_cons ((pe_call G3 (hr.mono (by decide)) rfl m3 k3 b3 .nil pass0 (pa_cons (pv 0) (pa_cons (pv 3) pa_nil)))) pa_nil))) (pg_tup rfl (pgs_cons ((pg_name (i := 6) nd rfl (Or.inr rfl))) (pgs_cons ((pg_name (i := 7) nd rfl (Or.inr rfl))) pgs_nil)))) (pss_cons (ps_asg (pe_tup (pa_cons (pe_op op_cat (pe_op op_cat (pe_slice (r := rSlL K) sl_listK (pv 6) (po_none) (po_some (pv 7))) (pe_lst (pa_cons (pv 4) pa_nil))) (pe_slice (r := rSlL K) sl_listK (pv 6) (po_some (pe_op op_add (pv 7) pe_int)) (po_none))) (pa_cons (pe_op op_cat (pe_op op_cat (pe_slice (r := rSlL K) sl_listK (pv 6) (po_none) (po_some (pv 7))) (pe_lst (pa_cons ((pe_ix ix_list (pv 6) (pe_op op_sub (pv 7) pe_int) (fun _ _ => rfl))) pa_nil))) (pe_slice (r := rSlL K) sl_listK (pv 6) (po_some (pe_op op_add (pv 7) pe_int)) (po_none))) pa_nil))) (pg_tup rfl (pgs_cons ((pg_name (i := 8) nd rfl (Or.inr rfl))) (pgs_cons ((pg_name (i := 9) nd rfl (Or.inr rfl))) pgs_nil)))) (pss_cons ((ps_set (i := 10) nd rfl (Or.inl rfl) (pe_lst (pa_cons ((LamX.pe_lamcall (T := TL) (TT := THeard K CP CW CN CF CT) (Ng := nHd) (a := "_law_ask") (k := 9) rfl mH FH.kp lkH hcH bH scHd rfl (Or.inl rfl) (heard_gives sh hu B hrep S Sm) TB rfl hmT hU hr (LamX.lamS_by (by show LamX.lamSB (defScope sRF) _ = true; decide +kernel)) rfl (fun _ _ _ _ _ => rfl) (fun A outer s H E f c hr => (pe_meth (E := E) (pv 2) cl Mi Gi (hr.mono (by decide)) bi .nil lam_passes (pa_cons (pv 5) pa_nil))))) pa_nil)))) (pss_cons ((ps_expr (pe_bm PySem.F.plainAttrs_list PySem.F.slot_list_append PySem.F.type_list_append mt_append (pv 10) (pa_cons ((LamX.pe_lamcall (T := TL) (TT := THeard K CP CW CN CF CT) (Ng := nHd) (a := "_law_ask") (k := 9) rfl mH FH.kp lkH hcH bH scHd rfl (Or.inl rfl) (heard_gives sh hu B hrep S Sm) TB rfl hmT hU hr (LamX.lamS_by (by show LamX.lamSB (defScope sRF) _ = true; decide +kernel)) rfl (fun _ _ _ _ _ => rfl) (fun A outer s H E f c hr => (pe_meth (E := E) (pv 2) cl Mi Gi (hr.mono (by decide)) bi .nil lam_passes (pa_cons (pv 8) pa_nil))))) pa_nil)))) (pss_cons ((ps_expr (pe_bm PySem.F.plainAttrs_list PySem.F.slot_list_append PySem.F.type_list_append mt_append (pv 10) (pa_cons ((LamX.pe_lamcall (T := TL) (TT := THeard K CP CW CN CF CT) (Ng := nHd) (a := "_law_ask") (k := 9) rfl mH FH.kp lkH hcH bH scHd rfl (Or.inl rfl) (heard_gives sh hu B hrep S Sm) TB rfl hmT hU hr (LamX.lamS_by (by show LamX.lamSB (defScope sRF) _ = true; decide +kernel)) rfl (fun _ _ _ _ _ => rfl) (fun A outer s H E f c hr => (pe_meth (E := E) (pv 2) cl Mi Gi (hr.mono (by decide)) bi .nil lam_passes (pa_cons (pv 9) pa_nil))))) pa_nil)))) (pss_cons ((ps_set (i := 11) nd rfl (Or.inl rfl) (pe_lst (pa_cons ((pe_tup (pa_cons (pe_str) (pa_cons ((pe_callB crep (by rfl) hrep PyProof.Rows.boot_repr (pa_cons (pv 5) pa_nil))) pa_nil)))) (pa_cons ((pe_tup (pa_cons (pe_str) (pa_cons ((pe_callB crep (by rfl) hrep PyProof.Rows.boot_repr (pa_cons (pv 4) pa_nil))) pa_nil)))) (pa_cons ((pe_tup (pa_cons (pe_str) (pa_cons ((pe_callB crep (by rfl) hrep PyProof.Rows.boot_repr (pa_cons ((pe_ix ix_list (pv 6) (pe_op op_sub (pv 7) pe_int) (fun _ _ => rfl))) pa_nil))) pa_nil)))) pa_nil)))))) (pss_cons ((ps_expr (pe_bm PySem.F.plainAttrs_list PySem.F.slot_list_append PySem.F.type_list_append mt_append (pv 10) (pa_cons ((LamX.pe_lamcall (T := TL) (TT := THeard K CP CW CN CF CT) (Ng := nHd) (a := "_law_ask") (k := 9) rfl mH FH.kp lkH hcH bH scHd rfl (Or.inl rfl) (heard_gives sh hu B hrep S Sm) TB rfl hmT hU hr (LamX.lamS_by (by show LamX.lamSB (defScope sRF) _ = true; decide +kernel)) rfl (fun _ _ _ _ _ => rfl) (fun A outer s H E f c hr => (pe_meth (E := E) (pv 2) cl Mi Gi (hr.mono (by decide)) bi .nil lam_passes (pa_cons ((pe_slice (r := rSlL K) sl_listK (pv 6) (po_none) (po_some (pv 7)))) pa_nil))))) pa_nil)))) (pss_cons ((ps_expr (pe_bm PySem.F.plainAttrs_list PySem.F.slot_list_append PySem.F.type_list_append mt_append (pv 10) (pa_cons ((LamX.pe_lamcall (T := TL) (TT := THeard K CP CW CN CF CT) (Ng := nHd) (a := "_law_ask") (k := 9) rfl mH FH.kp lkH hcH bH scHd rfl (Or.inl rfl) (heard_gives sh hu B hrep S Sm) TB rfl hmT hU hr (LamX.lamS_by (by show LamX.lamSB (defScope sRF) _ = true; decide +kernel)) rfl (fun _ _ _ _ _ => rfl) (fun A outer s H E f c hr => (pe_meth (E := E) (pv 2) cl Mi Gi (hr.mono (by decide)) bi .nil lam_passes (pa_cons (pe_lst (pa_cons (pe_int) (pa_cons (pe_int) (pa_cons (pv 4) pa_nil)))) pa_nil))))) pa_nil)))) (pss_cons ((ps_expr (pe_bm PySem.F.plainAttrs_list PySem.F.slot_list_append PySem.F.type_list_append mt_append (pv 10) (pa_cons ((LamX.pe_lamcall (T := TL) (TT := THeard K CP CW CN CF CT) (Ng := nHd) (a := "_law_ask") (k := 9) rfl mH FH.kp lkH hcH bH scHd rfl (Or.inl rfl) (heard_gives sh hu B hrep S Sm) TB rfl hmT hU hr (LamX.lamS_by (by show LamX.lamSB (defScope sRF) _ = true; decide +kernel)) rfl (fun _ _ _ _ _ => rfl) (fun A outer s H E f c hr => (pe_meth (E := E) (pv 2) cl Mi Gi (hr.mono (by decide)) bi .nil lam_passes (pa_cons (pe_op op_cat (pv 6) (pe_lst (pa_cons (pv 7) pa_nil))) pa_nil))))) pa_nil)))) (pss_cons ((ps_set (i := 11) nd rfl (Or.inl rfl) (pe_op op_cat (pv 11) (pe_lst (pa_cons ((pe_tup (pa_cons (pe_str) (pa_cons (pe_str) pa_nil)))) (pa_cons ((pe_tup (pa_cons (pe_str) (pa_cons ((pe_callB crep (by rfl) hrep PyProof.Rows.boot_repr (pa_cons (pv 4) pa_nil))) pa_nil)))) (pa_cons ((pe_tup (pa_cons (pe_str) (pa_cons ((pe_callB crep (by rfl) hrep PyProof.Rows.boot_repr (pa_cons (pv 7) pa_nil))) pa_nil)))) pa_nil))))))) (pss_cons ((ps_expr (pe_bm PySem.F.plainAttrs_list PySem.F.slot_list_append PySem.F.type_list_append mt_append (pv 10) (pa_cons ((LamX.pe_lamcall (T := TL) (TT := THeard K CP CW CN CF CT) (Ng := nHd) (a := "_law_ask") (k := 9) rfl mH FH.kp lkH hcH bH scHd rfl (Or.inl rfl) (heard_gives sh hu B hrep S Sm) TB rfl hmT hU hr (LamX.lamS_by (by show LamX.lamSB (defScope sRF) _ = true; decide +kernel)) rfl (fun _ _ _ _ _ => rfl) (fun A outer s H E f c hr => (pe_meth (E := E) (pv 2) cl Mw Gw (hr.mono (by decide)) bw .nil lam_passes (pa_cons (pv 4) pa_nil))))) pa_nil)))) (pss_cons ((ps_expr (pe_bm PySem.F.plainAttrs_list PySem.F.slot_list_append PySem.F.type_list_append mt_append (pv 10) (pa_cons ((LamX.pe_lamcall (T := TL) (TT := THeard K CP CW CN CF CT) (Ng := nHd) (a := "_law_ask") (k := 9) rfl mH FH.kp lkH hcH bH scHd rfl (Or.inl rfl) (heard_gives sh hu B hrep S Sm) TB rfl hmT hU hr (LamX.lamS_by (by show LamX.lamSB (defScope sRF) _ = true; decide +kernel)) rfl (fun _ _ _ _ _ => rfl) (fun A outer s H E f c hr => (pe_meth (E := E) (pv 2) cl Mw Gw (hr.mono (by decide)) bw .nil lam_passes (pa_cons (pv 7) pa_nil))))) pa_nil)))) (pss_cons ((ps_expr (pe_bm PySem.F.plainAttrs_list PySem.F.slot_list_append PySem.F.type_list_append mt_append (pv 10) (pa_cons ((LamX.pe_lamcall (T := TL) (TT := THeard K CP CW CN CF CT) (Ng := nHd) (a := "_law_ask") (k := 9) rfl mH FH.kp lkH hcH bH scHd rfl (Or.inl rfl) (heard_gives sh hu B hrep S Sm) TB rfl hmT hU hr (LamX.lamS_by (by show LamX.lamSB (defScope sRF) _ = true; decide +kernel)) rfl (fun _ _ _ _ _ => rfl) (fun A outer s H E f c hr => (pe_meth (E := E) (pv 2) cl Mw Gw (hr.mono (by decide)) bw .nil lam_passes (pa_cons (pv 3) pa_nil))))) pa_nil)))) (pss_cons ((ps_set (i := 11) nd rfl (Or.inl rfl) (pe_op op_cat (pv 11) (pe_lst (pa_cons ((pe_tup (pa_cons (pe_str) (pa_cons ((pe_callB crep (by rfl) hrep PyProof.Rows.boot_repr (pa_cons (pv 4) pa_nil))) pa_nil)))) (pa_cons (pe_ifExp (pt_cmpR op_eq (pv 3) pe_int (nomark _)) (pe_tup (pa_cons (pe_str) (pa_cons (pe_str) pa_nil))) pe_non) (pa_cons ((pe_tup (pa_cons (pe_str) (pa_cons ((pe_callB crep (by rfl) hrep PyProof.Rows.boot_repr (pa_cons (pv 3) pa_nil))) pa_nil)))) pa_nil))))))) (pss_cons (ps_asg (pe_tup (pa_cons ((pe_call G1 (hr.mono (by decide)) rfl m1 k1 b1 .nil pass0 (pa_cons (pv 0) (pa_cons (pe_lst (pa_cons (pe_non) (pa_cons (pe_bl) (pa_cons (pe_str) (pa_cons (pe_lst (pa_cons (pe_int) pa_nil)) (pa_cons (pe_op op_add (pe_op op_pow pe_int pe_int) pe_int) (pa_cons (pe_op op_sub (pe_un un_neg (pe_op op_pow pe_int pe_int)) pe_int) pa_nil))))))) pa_nil)))) (pa_cons ((pe_call G1 (hr.mono (by decide)) rfl m1 k1 b1 .nil pass0 (pa_cons (pv 0) (pa_cons (pe_lst (pa_cons (pe_non) (pa_cons (pe_bl) (pa_cons (pe_tup (pa_cons (pe_int) pa_nil)) (pa_cons (pe_op op_add (pe_op op_pow pe_int pe_int) pe_int) pa_nil))))) pa_nil)))) pa_nil))) (pg_tup rfl (pgs_cons ((pg_name (i := 12) nd rfl (Or.inr rfl))) (pgs_cons ((pg_name (i := 13) nd rfl (Or.inr rfl))) pgs_nil)))) (pss_cons ((ps_expr (pe_bm PySem.F.plainAttrs_list PySem.F.slot_list_append PySem.F.type_list_append mt_append (pv 10) (pa_cons ((LamX.pe_lamcall (T := TL) (TT := THeard K CP CW CN CF CT) (Ng := nHd) (a := "_law_ask") (k := 9) rfl mH FH.kp lkH hcH bH scHd rfl (Or.inl rfl) (heard_gives sh hu B hrep S Sm) TB rfl hmT hU hr (LamX.lamS_by (by show LamX.lamSB (defScope sRF) _ = true; decide +kernel)) rfl (fun _ _ _ _ _ => rfl) (fun A outer s H E f c hr => (pe_meth (E := E) (pv 2) cl Mp Gp (hr.mono (by decide)) bp .nil lam_passes (pa_cons (pv 12) (pa_cons (pv 13) pa_nil)))))) pa_nil)))) (pss_cons ((ps_expr (pe_bm PySem.F.plainAttrs_list PySem.F.slot_list_append PySem.F.type_list_append mt_append (pv 10) (pa_cons ((LamX.pe_lamcall (T := TL) (TT := THeard K CP CW CN CF CT) (Ng := nHd) (a := "_law_ask") (k := 9) rfl mH FH.kp lkH hcH bH scHd rfl (Or.inl rfl) (heard_gives sh hu B hrep S Sm) TB rfl hmT hU hr (LamX.lamS_by (by show LamX.lamSB (defScope sRF) _ = true; decide +kernel)) rfl (fun _ _ _ _ _ => rfl) (fun A outer s H E f c hr => (pe_meth (E := E) (pv 2) cl Mp Gp (hr.mono (by decide)) bp .nil lam_passes (pa_cons (pe_int) (pa_cons (pv 13) pa_nil)))))) pa_nil)))) (pss_cons ((ps_expr (pe_bm PySem.F.plainAttrs_list PySem.F.slot_list_append PySem.F.type_list_append mt_append (pv 10) (pa_cons ((LamX.pe_lamcall (T := TL) (TT := THeard K CP CW CN CF CT) (Ng := nHd) (a := "_law_ask") (k := 9) rfl mH FH.kp lkH hcH bH scHd rfl (Or.inl rfl) (heard_gives sh hu B hrep S Sm) TB rfl hmT hU hr (LamX.lamS_by (by show LamX.lamSB (defScope sRF) _ = true; decide +kernel)) rfl (fun _ _ _ _ _ => rfl) (fun A outer s H E f c hr => (pe_meth (E := E) (pv 2) cl Mp Gp (hr.mono (by decide)) bp .nil lam_passes (pa_cons (pe_int) (pa_cons (pe_un un_neg (pe_op op_pow pe_int pe_int)) pa_nil)))))) pa_nil)))) (pss_cons ((ps_set (i := 11) nd rfl (Or.inl rfl) (pe_op op_cat (pv 11) (pe_lst (pa_cons ((pe_tup (pa_cons (pe_str) (pa_cons (pe_str) pa_nil)))) (pa_cons ((pe_tup (pa_cons (pe_str) (pa_cons (pe_str) pa_nil)))) (pa_cons (pe_ifExp (pt_cmpR op_eq (pv 3) pe_int (nomark _)) (pe_tup (pa_cons (pe_str) (pa_cons (pe_int) pa_nil))) pe_non) pa_nil))))))) (pss_one (ps_ret (pe_cmpR (op_eqD hr.units) (pv 10) (pv 11) (nomark _)))))))))))))))))))))))))), ?_⟩
  have l4 := ok.1
  have l7 := ok.2.1
  have eG : G9 = 1000000000 := rfl
  have np0 : ∀ {x : Addr} {M : Hp} {k : Nat}, Lens M p k → M x = none → x ≠ p := fun v h => v.not_none h
  refine ⟨_, rfl, _, rfl, .inl ⟨ps, lp.pls, ok, fun m H0 s0 _ pf => ?_⟩⟩
  refine ⟨_, rfl, a, _, rfl, .inl (SqL.of (lp.same s0).1), ?_⟩
  rw [List.length_map, lp.len]
  have v := hv.same s0
  have T0 := hT.ext s0
  have kA : Kq p H H0 := kq_same s0
  clear s0 hv hT lp
  refine ⟨by show 2 ≤ sizeLine; decide, fun t1 nt1 => ?_⟩
  have st1 := same_new (o := .tup [V.ref m, V.int ps.length]) nt1
  have gt1 : upd H0 t1 (.tup [V.ref m, V.int ps.length]) t1 = some (.tup [V.ref m, V.int ps.length]) := upd_same
  have v := v.same st1
  have pf := pf.same st1
  have T0 := T0.ext st1
  have kA := kA.trans (kq_same st1)
  generalize upd H0 t1 (.tup [V.ref m, V.int ps.length]) = H1 at st1 gt1 v pf T0 kA ⊢
  refine ⟨t1, _, rfl, SqT.of gt1, rfl, _, _, rfl, _, _, rfl, rfl, ?_⟩
  clear st1 gt1 nt1
  refine ⟨_, rfl, _, rfl, _, rfl, _, _, rfl, rfl, ⟨by decide, by decide, by decide⟩, ?_⟩
  refine ⟨by show 1 ≤ sizeLine; decide, fun t2 nt2 => ?_⟩
  have st2 := same_new (o := .tup [V.int 0]) nt2
  have gt2 : upd H1 t2 (.tup [V.int 0]) t2 = some (.tup [V.int 0]) := upd_same
  have v := v.same st2
  have pf := pf.same st2
  have T0 := T0.ext st2
  have kA := kA.trans (kq_same st2)
  generalize upd H1 t2 (.tup [V.int 0]) = H2 at st2 gt2 v pf T0 kA ⊢
  have pt2 : t2 ≠ p := v.not_tup gt2
  clear st2 nt2
  refine ⟨by show 1 ≤ sizeLine; decide, fun t3 nt3 => ?_⟩
  have st3 := same_new (o := .lst [V.int 1]) nt3
  have gt3 : upd H2 t3 (.lst [V.int 1]) t3 = some (.lst [V.int 1]) := upd_same
  have v := v.same st3
  have pf := pf.same st3
  have T0 := T0.ext st3
  have kA := kA.trans (kq_same st3)
  have gt2 := st3 _ _ gt2
  generalize upd H2 t3 (.lst [V.int 1]) = H3 at st3 gt3 v pf T0 kA gt2 ⊢
  have pt3 : t3 ≠ p := fun z => by
    obtain ⟨cc, x, y, e⟩ := v.at
    rw [← z, gt3] at e
    cases e
  clear st3 nt3
  refine fun t4 nt4 => ?_
  have st4 := same_new (o := .dK []) nt4
  have gt4 : upd H3 t4 (.dK []) t4 = some (.dK []) := upd_same
  have v := v.same st4
  have pf := pf.same st4
  have T0 := T0.ext st4
  have kA := kA.trans (kq_same st4)
  have gt2 := st4 _ _ gt2
  have gt3 := st4 _ _ gt3
  generalize upd H3 t4 (.dK []) = H4 at st4 gt4 v pf T0 kA gt2 gt3 ⊢
  have pt4 : t4 ≠ p := fun z => by
    obtain ⟨cc, x, y, e⟩ := v.at
    rw [← z, gt4] at e
    cases e
  clear st4 nt4
  have oo : ∀ x ∈ [V.non, V.bl true, V.bl false, V.str "0", V.int (-1), V.int ps.length, V.int ((10 : Int) ^ (Int.toNat 20)), V.ref t2, V.ref t3, V.ref t4], ∃ t D, Val p K H4 x t D ∧ pinOk ps.length x = false := fun x hx => by
    have big : ∀ i : Int, 7 < i → pinOk ps.length (.int i) = false := fun i hi => by
      show (decide ((0 : Int) ≤ i) && decide (i ≤ (ps.length : Int) - 1)) = false
      rw [decide_eq_false (show ¬ i ≤ (ps.length : Int) - 1 by omega), Bool.and_false]
    simp only [List.mem_cons, List.not_mem_nil, or_false] at hx
    rcases hx with rfl | rfl | rfl | rfl | rfl | rfl | rfl | rfl | rfl | rfl
    · exact ⟨_, _, val_non, rfl⟩
    · exact ⟨_, _, val_bl true, rfl⟩
    · exact ⟨_, _, val_bl false, rfl⟩
    · exact ⟨_, _, val_str (by decide +kernel) (by decide +kernel), rfl⟩
    · exact ⟨_, _, val_int (by decide +kernel) (by decide +kernel) (by decide +kernel), rfl⟩
    · exact ⟨_, _, val_nat (by omega), by rw [pinOk_nat, decide_eq_false (Nat.lt_irrefl _)]⟩
    · exact ⟨_, _, val_int (by decide +kernel) (by decide +kernel) (by decide +kernel), big _ (by decide +kernel)⟩
    · exact ⟨_, _, val_tup pt2 gt2 (by decide +kernel) (by decide +kernel) (by decide +kernel), rfl⟩
    · exact ⟨_, _, val_lst pt3 gt3 (by decide +kernel) (by decide +kernel) (by decide +kernel), rfl⟩
    · exact ⟨_, _, val_dK (ms := []) pt4 gt4 (by decide +kernel) (by decide +kernel) (by decide +kernel) (by decide +kernel), rfl⟩
  clear gt2 gt3 gt4 pt2 pt3 pt4
  refine ⟨by show 10 ≤ sizeLine; decide, fun l5 n5 => ?_⟩
  have s5 := same_new (o := .lst [V.non, V.bl true, V.bl false, V.str "0", V.int (-1), V.int ps.length, V.int ((10 : Int) ^ (Int.toNat 20)), V.ref t2, V.ref t3, V.ref t4]) n5
  refine ⟨p, l5, _, _, rfl, v.same s5, by omega, upd_same, v.not_none n5, by show 0 < 10; decide, by show 10 ≤ 1000; decide, fun H5 od' s6 v6 hx => ?_⟩
  obtain ⟨to, Do, vo, no⟩ := oo od' hx
  have k5 : Kq p H4 H5 := (kq_same s5).trans (Kq.ofS s6)
  have vo := vo.kq k5
  have pf := (pf.same s5).sb (v.same s5) s6
  have T0 := tabs_sb (T0.ext s5) (v.same s5) s6
  have kA := kA.trans k5
  have v := v6
  clear oo hx s5 s6 k5 n5 v6
  refine ⟨_, rfl, ?_⟩
  refine fun d1 nd1 => ?_
  refine ⟨upd_same, [(Sum.inl 0, V.int 1)], rfl, by decide, ?_⟩
  have sd0 := same_new (o := .dK []) nd1
  have ed : upd (upd H5 d1 (.dK [])) d1 (.dK (mergeK [] [(Sum.inl 0, V.int 1)])) = upd H5 d1 (.dK [(Sum.inl 0, V.int 1)]) := by
    funext b
    by_cases z : b = d1
    · rw [z, upd_same, upd_same]
      rfl
    · rw [upd_ne z, upd_ne z, upd_ne z]
  rw [ed]
  have sd1 := same_new (o := .dK [(Sum.inl 0, V.int 1)]) nd1
  have gd1 : upd H5 d1 (.dK [(Sum.inl 0, V.int 1)]) d1 = some (.dK [(Sum.inl 0, V.int 1)]) := upd_same
  have v := v.same sd1
  have pf := pf.same sd1
  have T0 := T0.ext sd1
  have kA := kA.trans (kq_same sd1)
  have vo := vo.kq (kq_same sd1)
  generalize upd H5 d1 (.dK [(Sum.inl 0, V.int 1)]) = H6 at sd1 gd1 v pf T0 kA vo ⊢
  have pd1 : d1 ≠ p := fun z => by
    obtain ⟨cc, x, y, e⟩ := v.at
    rw [← z, gd1] at e
    cases e
  clear sd0 sd1 ed nd1
  have oo : ∀ x ∈ [V.non, V.int 5, V.str "0123", V.ref d1, V.bl true], ∃ D, Val p K H6 x false D := fun x hx => by
    simp only [List.mem_cons, List.not_mem_nil, or_false] at hx
    rcases hx with rfl | rfl | rfl | rfl | rfl
    · exact ⟨_, val_non⟩
    · exact ⟨_, val_int (by decide +kernel) (by decide +kernel) (by decide +kernel)⟩
    · exact ⟨_, val_str (by decide +kernel) (by decide +kernel)⟩
    · exact ⟨_, val_dK (ms := [(0, 1)]) pd1 gd1 (by decide +kernel) (by decide +kernel) (by decide +kernel) (by decide +kernel)⟩
    · exact ⟨_, val_bl true⟩
  clear gd1 pd1
  refine ⟨by show 5 ≤ sizeLine; decide, fun l7' n7 => ?_⟩
  have s7 := same_new (o := .lst [V.non, V.int 5, V.str "0123", V.ref d1, V.bl true]) n7
  refine ⟨p, l7', _, _, rfl, v.same s7, by omega, upd_same, v.not_none n7, by show 0 < 5; decide, by show 5 ≤ 1000; decide, fun H7 lo s8 v8 hx => ?_⟩
  obtain ⟨DL, vl⟩ := oo lo hx
  have k7 : Kq p H6 H7 := (kq_same s7).trans (Kq.ofS s8)
  have vl := vl.kq k7
  have vo := vo.kq k7
  have pf := (pf.same s7).sb (v.same s7) s8
  have T0 := tabs_sb (T0.ext s7) (v.same s7) s8
  have kA := kA.trans k7
  have v := v8
  clear oo hx s7 s8 k7 n7 v8
  refine ⟨_, rfl, _, rfl, p, _, ps.length, rfl, v, by omega, l7, fun H8 c1 os s8 v8 nc1 f1' g1 pm => ?_⟩
  have o1 := ord_perm pm
  have pf := pf.sb v s8
  have T0 := tabs_sb T0 v s8
  have kA := kA.trans (Kq.ofS s8)
  have vo := vo.kq (Kq.ofS s8)
  have vl := vl.kq (Kq.ofS s8)
  have v := v8
  clear s8 v8 f1' pm
  refine ⟨_, rfl, _, rfl, p, ps.length, _, rfl, v, by omega, by omega, by omega, fun H9 dd s9 v9 d0 d1' => ?_⟩
  obtain ⟨at', rfl⟩ := Int.eq_ofNat_of_zero_le d0
  have hat : at' < os.length := by
    rw [o1.len]
    omega
  have g1 := keptl g1 nc1 (Kq.ofS s9)
  have pf := pf.sb v s9
  have T0 := tabs_sb T0 v s9
  have kA := kA.trans (Kq.ofS s9)
  have vo := vo.kq (Kq.ofS s9)
  have vl := vl.kq (Kq.ofS s9)
  have v := v9
  clear s9 v9 d0 d1' 
  refine ⟨by show 2 ≤ sizeLine; decide, fun t10 nt10 => ?_⟩
  have st10 := same_new (o := .tup [V.ref c1, V.int (at' : Nat)]) nt10
  have gt10 : upd H9 t10 (.tup [V.ref c1, V.int (at' : Nat)]) t10 = some (.tup [V.ref c1, V.int (at' : Nat)]) := upd_same
  have v := v.same st10
  have pf := pf.same st10
  have T0 := T0.ext st10
  have kA := kA.trans (kq_same st10)
  have vo := vo.kq (kq_same st10)
  have vl := vl.kq (kq_same st10)
  have g1 := st10 _ _ g1
  generalize upd H9 t10 (.tup [V.ref c1, V.int (at' : Nat)]) = H10 at st10 gt10 v pf T0 kA vo vl g1 ⊢
  refine ⟨t10, _, rfl, SqT.of gt10, rfl, _, _, rfl, _, _, rfl, rfl, ?_⟩
  clear st10 gt10 nt10
  dsimp only
  refine re_st (σ' := [some (.ref p), some (.ref a), some (.ref m), some (.int ps.length), some (od'), some (lo), some (.ref c1), some (V.int (at' : Nat)), none, none, none, none, none, none]) rfl ?_
  have ln : (nV os).length = os.length := nV_len os
  have ol : os.length ≤ 7 := by rw [o1.len]; exact l7
  obtain ⟨b', hb', nb', ab⟩ : ∃ (b : Nat) (hb : b < os.length), b ≠ at' ∧ atI (nV os) ((at' : Int) - 1) = some (.int (os[b] : Nat)) := by
    have l4' : 4 ≤ os.length := by rw [o1.len]; exact l4
    by_cases z : at' = 0
    · refine ⟨os.length - 1, by omega, by omega, ?_⟩
      rw [z]
      have e : nV os = nV (os.take (os.length - 1)) ++ [V.int (os[os.length - 1] : Nat)] := by
        rw [← nV_snoc]
        congr 1
        rw [← take_more (List.getElem?_eq_getElem (show os.length - 1 < os.length by omega)), show os.length - 1 + 1 = os.length by omega, List.take_length]
      rw [e]
      exact atI_last _ _
    · refine ⟨at' - 1, by omega, by omega, ?_⟩
      rw [show (at' : Int) - 1 = ((at' - 1 : Nat) : Int) by omega]
      exact atI_nat (nV_at (by omega))
  have atl : at' ≤ (nV os).length := by omega
  have atl1 : at' + 1 ≤ (nV os).length := by omega
  refine ⟨_, rfl, _, rfl, _, rfl, c1, _, rfl, SqL.of g1, ?_⟩
  rw [cut_to atl]
  refine fun ea1 nea1 => ?_
  have sea1 := same_new (o := .lst ((nV os).take at')) nea1
  have gea1 : upd H10 ea1 (.lst ((nV os).take at')) ea1 = some (.lst ((nV os).take at')) := upd_same
  have v := v.same sea1
  have pf := pf.same sea1
  have T0 := T0.ext sea1
  have kA := kA.trans (kq_same sea1)
  have vo := vo.kq (kq_same sea1)
  have vl := vl.kq (kq_same sea1)
  have g1 := sea1 _ _ g1
  generalize upd H10 ea1 (.lst ((nV os).take at')) = Ma1 at sea1 gea1 v pf T0 kA vo vl g1 ⊢
  refine ⟨_, rfl, ?_⟩
  refine ⟨by show 1 ≤ sizeLine; decide, fun ea2 nea2 => ?_⟩
  have sea2 := same_new (o := .lst [od']) nea2
  have gea2 : upd Ma1 ea2 (.lst [od']) ea2 = some (.lst [od']) := upd_same
  have v := v.same sea2
  have pf := pf.same sea2
  have T0 := T0.ext sea2
  have kA := kA.trans (kq_same sea2)
  have vo := vo.kq (kq_same sea2)
  have vl := vl.kq (kq_same sea2)
  have g1 := sea2 _ _ g1
  have gea1 := sea2 _ _ gea1
  generalize upd Ma1 ea2 (.lst [od']) = Ma2 at sea2 gea2 v pf T0 kA vo vl g1 gea1 ⊢
  refine ⟨ea1, ea2, _, _, rfl, rfl, gea1, gea2, ?_, ?_⟩
  · rw [List.length_take]
    exact Nat.le_of_lt (small1000 (by show min at' (nV os).length + 1 ≤ 1000; omega))
  refine fun ea3 nea3 => ?_
  have sea3 := same_new (o := .lst ((nV os).take at' ++ [od'])) nea3
  have gea3 : upd Ma2 ea3 (.lst ((nV os).take at' ++ [od'])) ea3 = some (.lst ((nV os).take at' ++ [od'])) := upd_same
  have v := v.same sea3
  have pf := pf.same sea3
  have T0 := T0.ext sea3
  have kA := kA.trans (kq_same sea3)
  have vo := vo.kq (kq_same sea3)
  have vl := vl.kq (kq_same sea3)
  have g1 := sea3 _ _ g1
  generalize upd Ma2 ea3 (.lst ((nV os).take at' ++ [od'])) = Ma3 at sea3 gea3 v pf T0 kA vo vl g1 ⊢
  refine ⟨_, rfl, _, rfl, _, _, rfl, rfl, _, rfl, c1, _, rfl, SqL.of g1, ?_⟩
  rw [show (at' : Int) + 1 = ((at' + 1 : Nat) : Int) by omega, cut_from atl1]
  refine fun ea4 nea4 => ?_
  have sea4 := same_new (o := .lst ((nV os).drop (at' + 1))) nea4
  have gea4 : upd Ma3 ea4 (.lst ((nV os).drop (at' + 1))) ea4 = some (.lst ((nV os).drop (at' + 1))) := upd_same
  have v := v.same sea4
  have pf := pf.same sea4
  have T0 := T0.ext sea4
  have kA := kA.trans (kq_same sea4)
  have vo := vo.kq (kq_same sea4)
  have vl := vl.kq (kq_same sea4)
  have g1 := sea4 _ _ g1
  have gea3 := sea4 _ _ gea3
  generalize upd Ma3 ea4 (.lst ((nV os).drop (at' + 1))) = Ma4 at sea4 gea4 v pf T0 kA vo vl g1 gea3 ⊢
  refine ⟨ea3, ea4, _, _, rfl, rfl, gea3, gea4, ?_, ?_⟩
  · rw [List.length_append, List.length_take, List.length_drop]
    exact Nat.le_of_lt (small1000 (by show min at' (nV os).length + 1 + ((nV os).length - (at' + 1)) ≤ 1000; omega))
  rw [cut_set (show at' < (nV os).length by omega)]
  refine fun ea5 nea5 => ?_
  have sea5 := same_new (o := .lst ((nV os).set at' od')) nea5
  have gea5 : upd Ma4 ea5 (.lst ((nV os).set at' od')) ea5 = some (.lst ((nV os).set at' od')) := upd_same
  have v := v.same sea5
  have pf := pf.same sea5
  have T0 := T0.ext sea5
  have kA := kA.trans (kq_same sea5)
  have vo := vo.kq (kq_same sea5)
  have vl := vl.kq (kq_same sea5)
  have g1 := sea5 _ _ g1
  generalize upd Ma4 ea5 (.lst ((nV os).set at' od')) = Ma5 at sea5 gea5 v pf T0 kA vo vl g1 ⊢
  clear sea1 nea1 sea2 nea2 sea3 nea3 sea4 nea4 sea5 nea5 gea1 gea2 gea3 gea4
  have ge1 := gea5
  have pe1 : ea5 ≠ p := fun z => by
    obtain ⟨cc, x, y, e⟩ := v.at
    rw [← z, gea5] at e
    have e3 := congrArg List.length (HO.lst.inj (Option.some.inj e))
    rw [List.length_set, ln, o1.len] at e3
    have z3 : [V.ref cc, V.int x, V.int y].length = 3 := rfl
    omega
  refine ⟨_, rfl, _, rfl, _, rfl, c1, _, rfl, SqL.of g1, ?_⟩
  rw [cut_to atl]
  refine fun eb1 neb1 => ?_
  have seb1 := same_new (o := .lst ((nV os).take at')) neb1
  have geb1 : upd Ma5 eb1 (.lst ((nV os).take at')) eb1 = some (.lst ((nV os).take at')) := upd_same
  have v := v.same seb1
  have pf := pf.same seb1
  have T0 := T0.ext seb1
  have kA := kA.trans (kq_same seb1)
  have vo := vo.kq (kq_same seb1)
  have vl := vl.kq (kq_same seb1)
  have g1 := seb1 _ _ g1
  have ge1 := seb1 _ _ ge1
  generalize upd Ma5 eb1 (.lst ((nV os).take at')) = Mb1 at seb1 geb1 v pf T0 kA vo vl g1 ge1 ⊢
  refine ⟨_, rfl, _, rfl, _, _, rfl, rfl, c1, _, _, _, rfl, rfl, SqL.of g1, ab, ?_⟩
  refine ⟨by show 1 ≤ sizeLine; decide, fun eb2 neb2 => ?_⟩
  have seb2 := same_new (o := .lst [V.int (os[b'] : Nat)]) neb2
  have geb2 : upd Mb1 eb2 (.lst [V.int (os[b'] : Nat)]) eb2 = some (.lst [V.int (os[b'] : Nat)]) := upd_same
  have v := v.same seb2
  have pf := pf.same seb2
  have T0 := T0.ext seb2
  have kA := kA.trans (kq_same seb2)
  have vo := vo.kq (kq_same seb2)
  have vl := vl.kq (kq_same seb2)
  have g1 := seb2 _ _ g1
  have ge1 := seb2 _ _ ge1
  have geb1 := seb2 _ _ geb1
  generalize upd Mb1 eb2 (.lst [V.int (os[b'] : Nat)]) = Mb2 at seb2 geb2 v pf T0 kA vo vl g1 ge1 geb1 ⊢
  refine ⟨eb1, eb2, _, _, rfl, rfl, geb1, geb2, ?_, ?_⟩
  · rw [List.length_take]
    exact Nat.le_of_lt (small1000 (by show min at' (nV os).length + 1 ≤ 1000; omega))
  refine fun eb3 neb3 => ?_
  have seb3 := same_new (o := .lst ((nV os).take at' ++ [V.int (os[b'] : Nat)])) neb3
  have geb3 : upd Mb2 eb3 (.lst ((nV os).take at' ++ [V.int (os[b'] : Nat)])) eb3 = some (.lst ((nV os).take at' ++ [V.int (os[b'] : Nat)])) := upd_same
  have v := v.same seb3
  have pf := pf.same seb3
  have T0 := T0.ext seb3
  have kA := kA.trans (kq_same seb3)
  have vo := vo.kq (kq_same seb3)
  have vl := vl.kq (kq_same seb3)
  have g1 := seb3 _ _ g1
  have ge1 := seb3 _ _ ge1
  generalize upd Mb2 eb3 (.lst ((nV os).take at' ++ [V.int (os[b'] : Nat)])) = Mb3 at seb3 geb3 v pf T0 kA vo vl g1 ge1 ⊢
  refine ⟨_, rfl, _, rfl, _, _, rfl, rfl, _, rfl, c1, _, rfl, SqL.of g1, ?_⟩
  rw [show (at' : Int) + 1 = ((at' + 1 : Nat) : Int) by omega, cut_from atl1]
  refine fun eb4 neb4 => ?_
  have seb4 := same_new (o := .lst ((nV os).drop (at' + 1))) neb4
  have geb4 : upd Mb3 eb4 (.lst ((nV os).drop (at' + 1))) eb4 = some (.lst ((nV os).drop (at' + 1))) := upd_same
  have v := v.same seb4
  have pf := pf.same seb4
  have T0 := T0.ext seb4
  have kA := kA.trans (kq_same seb4)
  have vo := vo.kq (kq_same seb4)
  have vl := vl.kq (kq_same seb4)
  have g1 := seb4 _ _ g1
  have ge1 := seb4 _ _ ge1
  have geb3 := seb4 _ _ geb3
  generalize upd Mb3 eb4 (.lst ((nV os).drop (at' + 1))) = Mb4 at seb4 geb4 v pf T0 kA vo vl g1 ge1 geb3 ⊢
  refine ⟨eb3, eb4, _, _, rfl, rfl, geb3, geb4, ?_, ?_⟩
  · rw [List.length_append, List.length_take, List.length_drop]
    exact Nat.le_of_lt (small1000 (by show min at' (nV os).length + 1 + ((nV os).length - (at' + 1)) ≤ 1000; omega))
  rw [cut_set (show at' < (nV os).length by omega)]
  refine fun eb5 neb5 => ?_
  have seb5 := same_new (o := .lst ((nV os).set at' (V.int (os[b'] : Nat)))) neb5
  have geb5 : upd Mb4 eb5 (.lst ((nV os).set at' (V.int (os[b'] : Nat)))) eb5 = some (.lst ((nV os).set at' (V.int (os[b'] : Nat)))) := upd_same
  have v := v.same seb5
  have pf := pf.same seb5
  have T0 := T0.ext seb5
  have kA := kA.trans (kq_same seb5)
  have vo := vo.kq (kq_same seb5)
  have vl := vl.kq (kq_same seb5)
  have g1 := seb5 _ _ g1
  have ge1 := seb5 _ _ ge1
  generalize upd Mb4 eb5 (.lst ((nV os).set at' (V.int (os[b'] : Nat)))) = Mb5 at seb5 geb5 v pf T0 kA vo vl g1 ge1 ⊢
  clear seb1 neb1 seb2 neb2 seb3 neb3 seb4 neb4 seb5 neb5 geb1 geb2 geb3 geb4
  have ge2 := geb5
  have pe2 : eb5 ≠ p := fun z => by
    obtain ⟨cc, x, y, e⟩ := v.at
    rw [← z, geb5] at e
    have e3 := congrArg List.length (HO.lst.inj (Option.some.inj e))
    rw [List.length_set, ln, o1.len] at e3
    have z3 : [V.ref cc, V.int x, V.int y].length = 3 := rfl
    omega
  rw [nV_set] at ge2
  clear gea5 geb5
  refine ⟨by show 2 ≤ sizeLine; decide, fun t11 nt11 => ?_⟩
  have st11 := same_new (o := .tup [V.ref ea5, V.ref eb5]) nt11
  have gt11 : upd Mb5 t11 (.tup [V.ref ea5, V.ref eb5]) t11 = some (.tup [V.ref ea5, V.ref eb5]) := upd_same
  have v := v.same st11
  have pf := pf.same st11
  have T0 := T0.ext st11
  have kA := kA.trans (kq_same st11)
  have vo := vo.kq (kq_same st11)
  have vl := vl.kq (kq_same st11)
  have g1 := st11 _ _ g1
  have ge1 := st11 _ _ ge1
  have ge2 := st11 _ _ ge2
  generalize upd Mb5 t11 (.tup [V.ref ea5, V.ref eb5]) = HA at st11 gt11 v pf T0 kA vo vl g1 ge1 ge2 ⊢
  refine ⟨t11, _, rfl, SqT.of gt11, rfl, _, _, rfl, _, _, rfl, rfl, ?_⟩
  clear st11 gt11 nt11
  dsimp only
  refine re_st (σ' := [some (.ref p), some (.ref a), some (.ref m), some (.int ps.length), some (od'), some (lo), some (.ref c1), some (V.int (at' : Nat)), some (.ref ea5), some (.ref eb5), none, none, none, none]) rfl ?_
  have du := dup_set o1.nd hat hb' nb'
  have lts : ∀ i ∈ os.set at' os[b'], i < ps.length := fun i hi => by
    rcases List.mem_or_eq_of_mem_set hi with e | e
    · exact o1.lt i e
    · rw [e]
      exact o1.lt _ (List.getElem_mem _)
  have wv : ∀ {M : Hp} {i : Nat}, i < 9 → Val p K M (.int (i : Nat)) false (.int (i : Nat)) := fun h => val_nat h
  have b9 : os[b'] < 9 := by
    have := o1.lt _ (List.getElem_mem hb')
    omega
  refine lam_in T0 fun HC N x1 T1 hN => ?_
  have kC : Kq p HA HC := Kq.ofE x1
  have vlC := vl.kq kC
  refine ⟨_, rfl, meth_in (pf.ext x1) (fun _ _ _ => rfl) ⟨_, rfl, io_bad (pf.ext x1) ok (.no vlC.kd) vlC.sh fun HB t sD nt gt => ?_⟩⟩
  have kB : Kq p HA HB := kC.trans (kq_same sD)
  have vB := (v.ext x1).same sD
  have TB' := T1.ext sD
  have fP : ∀ {M}, Kq p HB M → PicF M C m ps := fun k => ((pf.kq v kB)).kq vB k
  have fO : ∀ {M}, Kq p HB M → Val p K M od' to Do := fun k => (vo.kq kB).kq k
  have fL : ∀ {M}, Kq p HB M → Val p K M lo false DL := fun k => (vl.kq kB).kq k
  have f1' : ∀ {M : Hp}, Kq p HB M → M c1 = some (.lst (nV os)) := fun k => keptl (keptl g1 nc1 kB) nc1 k
  have f2' : ∀ {M : Hp}, Kq p HB M → M ea5 = some (.lst ((nV os).set at' od')) := fun k => keptl (keptl ge1 pe1 kB) pe1 k
  have f3' : ∀ {M : Hp}, Kq p HB M → M eb5 = some (.lst (nV (os.set at' os[b']))) := fun k => keptl (keptl ge2 pe2 kB) pe2 k
  have kA := kA.trans kB
  refine ⟨by show 1 ≤ sizeLine; decide, fun l nl => ?_⟩
  have s0 := same_new (o := .lst [V.ref t]) nl
  have st : St TL p HB l [some ("none", .str DL.shown)] [] _ (upd HB l (.lst [V.ref t])) := ⟨Kz.same s0, vB.same s0, TB'.ext s0, ⟨_, upd_same, .cons ⟨t, rfl, s0 _ _ gt⟩ .nil⟩, vB.not_none nl, nl, fun x hx => absurd hx List.not_mem_nil⟩
  generalize upd HB l (.lst [V.ref t]) = N0 at st ⊢
  clear s0 gt nt sD x1 T1 hN kC vlC kB pf vo vl g1 ge1 ge2 v T0 TB' nl
  obtain ⟨xs, hl, lx⟩ := st.at
  refine ⟨_, rfl, .inl ⟨rfl, _, SqL.of hl⟩, lam_in st.T fun HC N x1 T1 hN => ?_⟩
  have kC := st.z.k.trans (Kq.ofE x1)
  clear hl lx xs
  refine ⟨_, rfl, meth_in (fP kC) (fun _ _ _ => rfl) ⟨_, rfl, ?_⟩⟩
  refine io_bad (fP kC) ok (spoil_wj (f2' kC) o1.lt (by omega) hat (fO kC).kd no) (fO kC).sh fun HD t sD nt gt => ?_
  obtain ⟨xs, hl, lx, st⟩ := st.app vB x1 T1 sD (x := V.ref t) (e := some ("none", .str Do.shown)) ⟨t, rfl, gt⟩
  refine ⟨l, _, _, rfl, rfl, hl, small1000 (by rw [lx]; show 1 ≤ 1000; decide), ?_⟩
  generalize upd HD l (.lst (xs ++ [V.ref t])) = N1 at st ⊢
  clear x1 T1 hN kC hl lx sD
  obtain ⟨xs, hl, lx⟩ := st.at
  refine ⟨_, rfl, .inl ⟨rfl, _, SqL.of hl⟩, lam_in st.T fun HC N x1 T1 hN => ?_⟩
  have kC := st.z.k.trans (Kq.ofE x1)
  clear hl lx xs
  refine ⟨_, rfl, meth_in (fP kC) (fun _ _ _ => rfl) ⟨_, rfl, ?_⟩⟩
  refine io_dup (fP kC) ok ⟨.inl (f3' kC), by rw [List.length_set]; omega, lts⟩ du (wv b9).sh fun HD t sD nt gt => ?_
  obtain ⟨xs, hl, lx, st⟩ := st.app vB x1 T1 sD (x := V.ref t) (e := some ("twice", .str (PyData.int (os[b'] : Nat)).shown)) ⟨t, rfl, gt⟩
  refine ⟨l, _, _, rfl, rfl, hl, small1000 (by rw [lx]; show 2 ≤ 1000; decide), ?_⟩
  generalize upd HD l (.lst (xs ++ [V.ref t])) = N2 at st ⊢
  clear x1 T1 hN kC hl lx sD
  have vL3 := fL st.z.k
  refine ⟨_, rfl, _, _, rfl, (vL3.r _ (Kq.refl p _)).2, vL3.w, vL3.z, vL3.d, by show 2 ≤ sizeLine; decide, fun q0 nq0 => ?_⟩
  have sq0 := same_new (o := .tup [V.str "none", V.str DL.shown]) nq0
  have gq0 : upd N2 q0 (.tup [V.str "none", V.str DL.shown]) q0 = some (.tup [V.str "none", V.str DL.shown]) := upd_same
  have st := st.same sq0
  generalize upd N2 q0 (.tup [V.str "none", V.str DL.shown]) = K0 at sq0 gq0 st  ⊢
  clear sq0 nq0
  have vO3 := fO st.z.k
  refine ⟨_, rfl, _, _, rfl, (vO3.r _ (Kq.refl p _)).2, vO3.w, vO3.z, vO3.d, by show 2 ≤ sizeLine; decide, fun q1 nq1 => ?_⟩
  have sq1 := same_new (o := .tup [V.str "none", V.str Do.shown]) nq1
  have gq1 : upd K0 q1 (.tup [V.str "none", V.str Do.shown]) q1 = some (.tup [V.str "none", V.str Do.shown]) := upd_same
  have st := st.same sq1
  have gq0 := sq1 _ _ gq0
  generalize upd K0 q1 (.tup [V.str "none", V.str Do.shown]) = K1 at sq1 gq1 st gq0 ⊢
  clear sq1 nq1
  have vB3 := wv (M := K1) b9
  refine ⟨_, rfl, _, rfl, _, _, rfl, rfl, c1, _, _, _, rfl, rfl, SqL.of (f1' st.z.k), ab, _, _, rfl, (vB3.r _ (Kq.refl p _)).2, vB3.w, vB3.z, vB3.d, by show 2 ≤ sizeLine; decide, fun q2 nq2 => ?_⟩
  have sq2 := same_new (o := .tup [V.str "twice", V.str (PyData.int (os[b'] : Nat)).shown]) nq2
  have gq2 : upd K1 q2 (.tup [V.str "twice", V.str (PyData.int (os[b'] : Nat)).shown]) q2 = some (.tup [V.str "twice", V.str (PyData.int (os[b'] : Nat)).shown]) := upd_same
  have st := st.same sq2
  have gq0 := sq2 _ _ gq0
  have gq1 := sq2 _ _ gq1
  generalize upd K1 q2 (.tup [V.str "twice", V.str (PyData.int (os[b'] : Nat)).shown]) = K2 at sq2 gq2 st gq0 gq1 ⊢
  clear sq2 nq2
  refine ⟨by show 3 ≤ sizeLine; decide, fun da nda => ?_⟩
  have st := st.put nda (fs := [some ("none", .str DL.shown), some ("none", .str Do.shown), some ("twice", .str (PyData.int (os[b'] : Nat)).shown)]) (.cons ⟨q0, rfl, gq0⟩ (.cons ⟨q1, rfl, gq1⟩ (.cons ⟨q2, rfl, gq2⟩ .nil)))
  generalize upd K2 da (.lst [V.ref q0, V.ref q1, V.ref q2]) = D1 at st ⊢
  clear gq0 gq1 gq2 nda vL3 vO3 vB3
  dsimp only
  refine re_sg (σ' := [some (.ref p), some (.ref a), some (.ref m), some (.int ps.length), some (od'), some (lo), some (.ref c1), some (V.int (at' : Nat)), some (.ref ea5), some (.ref eb5), some (.ref l), some (.ref da), none, none]) rfl ?_
  obtain ⟨xs, hl, lx⟩ := st.at
  refine ⟨_, rfl, .inl ⟨rfl, _, SqL.of hl⟩, lam_in st.T fun HC N x1 T1 hN => ?_⟩
  have kC := st.z.k.trans (Kq.ofE x1)
  clear hl lx xs
  refine ⟨_, rfl, meth_in (fP kC) (fun _ _ _ => rfl) ⟨_, rfl, _, rfl, _, rfl, c1, _, rfl, SqL.of (f1' kC), fun e ne => ?_⟩⟩
  rw [cut_to atl, nV_take]
  have se := same_new (o := .lst (nV (os.take at'))) ne
  have ge : upd HC e (.lst (nV (os.take at'))) e = some (.lst (nV (os.take at'))) := upd_same
  generalize upd HC e (.lst (nV (os.take at'))) = HE at se ge ⊢
  have kC' := kC.trans (kq_same se)
  refine io_short (fP kC') ok ⟨.inl ge, by rw [List.length_take]; omega, fun i hi => o1.lt i (List.mem_of_mem_take hi)⟩ (List.Nodup.sublist (List.take_sublist _ _) o1.nd) (by rw [List.length_take, ← o1.len]; omega) fun HD t sD nt gt => ?_
  obtain ⟨xs, hl, lx, st⟩ := st.app vB x1 T1 (se.trans sD) (x := V.ref t) (e := some ("misfit", .str "pins")) ⟨t, rfl, gt⟩
  refine ⟨l, _, _, rfl, rfl, hl, small1000 (by rw [lx]; show 3 ≤ 1000; decide), ?_⟩
  generalize upd HD l (.lst (xs ++ [V.ref t])) = N3 at st ⊢
  clear x1 T1 hN kC hl lx sD
  clear kC' se ge ne
  obtain ⟨xs, hl, lx⟩ := st.at
  refine ⟨_, rfl, .inl ⟨rfl, _, SqL.of hl⟩, lam_in st.T fun HC N x1 T1 hN => ?_⟩
  have kC := st.z.k.trans (Kq.ofE x1)
  clear hl lx xs
  refine ⟨_, rfl, meth_in (fP kC) (fun _ _ _ => rfl) ⟨_, rfl, by show 3 ≤ sizeLine; decide, fun e ne => ?_⟩⟩
  have se := same_new (o := .lst [V.int 0, V.int 0, od']) ne
  have ge : upd HC e (.lst [V.int 0, V.int 0, od']) e = some (.lst [V.int 0, V.int 0, od']) := upd_same
  generalize upd HC e (.lst [V.int 0, V.int 0, od']) = HE at se ge ⊢
  have kC' := kC.trans (kq_same se)
  refine io_bad (fP kC') ok (three_wj ge l4 (fO kC').kd no) (fO kC').sh fun HD t sD nt gt => ?_
  obtain ⟨xs, hl, lx, st⟩ := st.app vB x1 T1 (se.trans sD) (x := V.ref t) (e := some ("none", .str Do.shown)) ⟨t, rfl, gt⟩
  refine ⟨l, _, _, rfl, rfl, hl, small1000 (by rw [lx]; show 4 ≤ 1000; decide), ?_⟩
  generalize upd HD l (.lst (xs ++ [V.ref t])) = N4 at st ⊢
  clear x1 T1 hN kC hl lx sD
  clear kC' se ge ne
  obtain ⟨xs, hl, lx⟩ := st.at
  refine ⟨_, rfl, .inl ⟨rfl, _, SqL.of hl⟩, lam_in st.T fun HC N x1 T1 hN => ?_⟩
  have kC := st.z.k.trans (Kq.ofE x1)
  clear hl lx xs
  refine ⟨_, rfl, meth_in (fP kC) (fun _ _ _ => rfl) ⟨_, rfl, _, rfl, by show 1 ≤ sizeLine; decide, fun e1 ne1 => ?_⟩⟩
  have se1 := same_new (o := .lst [V.int (at' : Nat)]) ne1
  have ge1 : upd HC e1 (.lst [V.int (at' : Nat)]) e1 = some (.lst [V.int (at' : Nat)]) := upd_same
  generalize upd HC e1 (.lst [V.int (at' : Nat)]) = HE1 at se1 ge1 ⊢
  refine ⟨c1, e1, _, _, rfl, rfl, f1' (kC.trans (kq_same se1)), ge1, Nat.le_of_lt (small1000 (by rw [ln]; show os.length + 1 ≤ 1000; omega)), fun e ne => ?_⟩
  have se := se1.trans (same_new (o := .lst (nV os ++ [V.int (at' : Nat)])) ne)
  have ge : upd HE1 e (.lst (nV os ++ [V.int (at' : Nat)])) e = some (.lst (nV (os ++ [at']))) := by rw [upd_same, nV_snoc]
  generalize upd HE1 e (.lst (nV os ++ [V.int (at' : Nat)])) = HE at se ge ⊢
  have kC' := kC.trans (kq_same se)
  have a9 : at' < 9 := by omega
  refine io_dup (fP kC') ok ⟨.inl ge, by rw [List.length_append]; show os.length + 1 ≤ 100; omega, fun i hi => (List.mem_append.mp hi).elim (o1.lt i) fun z => by rw [List.mem_singleton.mp z, ← o1.len]; exact hat⟩ (dup_end o1.nd (o1.all at' (by rw [← o1.len]; exact hat))) (wv a9).sh fun HD t sD nt gt => ?_
  obtain ⟨xs, hl, lx, st⟩ := st.app vB x1 T1 (se.trans sD) (x := V.ref t) (e := some ("twice", .str (PyData.int (at' : Nat)).shown)) ⟨t, rfl, gt⟩
  refine ⟨l, _, _, rfl, rfl, hl, small1000 (by rw [lx]; show 5 ≤ 1000; decide), ?_⟩
  generalize upd HD l (.lst (xs ++ [V.ref t])) = N5 at st ⊢
  clear x1 T1 hN kC hl lx sD
  clear kC' se ge ne se1 ge1 ne1
  refine ⟨_, rfl, ?_⟩
  refine ⟨by show 2 ≤ sizeLine; decide, fun q3 nq3 => ?_⟩
  have sq3 := same_new (o := .tup [V.str "misfit", V.str "pins"]) nq3
  have gq3 : upd N5 q3 (.tup [V.str "misfit", V.str "pins"]) q3 = some (.tup [V.str "misfit", V.str "pins"]) := upd_same
  have st := st.same sq3
  generalize upd N5 q3 (.tup [V.str "misfit", V.str "pins"]) = K0 at sq3 gq3 st  ⊢
  clear sq3 nq3
  have vO3 := fO st.z.k
  refine ⟨_, rfl, _, _, rfl, (vO3.r _ (Kq.refl p _)).2, vO3.w, vO3.z, vO3.d, by show 2 ≤ sizeLine; decide, fun q4 nq4 => ?_⟩
  have sq4 := same_new (o := .tup [V.str "none", V.str Do.shown]) nq4
  have gq4 : upd K0 q4 (.tup [V.str "none", V.str Do.shown]) q4 = some (.tup [V.str "none", V.str Do.shown]) := upd_same
  have st := st.same sq4
  have gq3 := sq4 _ _ gq3
  generalize upd K0 q4 (.tup [V.str "none", V.str Do.shown]) = K1 at sq4 gq4 st gq3 ⊢
  clear sq4 nq4
  have a9 : at' < 9 := by omega
  have vB3 := wv (M := K1) a9
  refine ⟨_, rfl, _, _, rfl, (vB3.r _ (Kq.refl p _)).2, vB3.w, vB3.z, vB3.d, by show 2 ≤ sizeLine; decide, fun q5 nq5 => ?_⟩
  have sq5 := same_new (o := .tup [V.str "twice", V.str (PyData.int (at' : Nat)).shown]) nq5
  have gq5 : upd K1 q5 (.tup [V.str "twice", V.str (PyData.int (at' : Nat)).shown]) q5 = some (.tup [V.str "twice", V.str (PyData.int (at' : Nat)).shown]) := upd_same
  have st := st.same sq5
  have gq3 := sq5 _ _ gq3
  have gq4 := sq5 _ _ gq4
  generalize upd K1 q5 (.tup [V.str "twice", V.str (PyData.int (at' : Nat)).shown]) = K2 at sq5 gq5 st gq3 gq4 ⊢
  clear sq5 nq5
  refine ⟨by show 3 ≤ sizeLine; decide, fun eb neb => ?_⟩
  have seb := same_new (o := .lst [V.ref q3, V.ref q4, V.ref q5]) neb
  have geb : upd K2 eb (.lst [V.ref q3, V.ref q4, V.ref q5]) eb = some (.lst [V.ref q3, V.ref q4, V.ref q5]) := upd_same
  have st := st.same seb
  have gq3 := seb _ _ gq3
  have gq4 := seb _ _ gq4
  have gq5 := seb _ _ gq5
  generalize upd K2 eb (.lst [V.ref q3, V.ref q4, V.ref q5]) = KB at seb geb st gq3 gq4 gq5 ⊢
  obtain ⟨⟨ys, hy, py⟩, _⟩ := st.ds (da, _) List.mem_cons_self
  have ly := Paired.length py
  refine ⟨da, eb, ys, _, rfl, rfl, hy, geb, Nat.le_of_lt (small1000 (by rw [ly]; show 3 + 3 ≤ 1000; decide)), fun db ndb => ?_⟩
  have pn : Paired (T2 KB) [V.ref q3, V.ref q4, V.ref q5] ([some ("misfit", .str "pins"), some ("none", .str Do.shown), some ("twice", .str (PyData.int (at' : Nat)).shown)] : List Ee) := .cons ⟨_, rfl, gq3⟩ (.cons ⟨_, rfl, gq4⟩ (.cons ⟨_, rfl, gq5⟩ .nil))
  have st := st.put ndb (paired_app py pn)
  generalize upd KB db (.lst (ys ++ [V.ref q3, V.ref q4, V.ref q5])) = D2 at st ⊢
  clear seb geb neb hy py ly pn ndb gq3 gq4 gq5
  clear vO3 vB3
  dsimp only
  refine re_sg (σ' := [some (.ref p), some (.ref a), some (.ref m), some (.int ps.length), some (od'), some (lo), some (.ref c1), some (V.int (at' : Nat)), some (.ref ea5), some (.ref eb5), some (.ref l), some (.ref db), none, none]) rfl ?_
  obtain ⟨xs, hl, lx⟩ := st.at
  refine ⟨_, rfl, .inl ⟨rfl, _, SqL.of hl⟩, lam_in st.T fun HC N x1 T1 hN => ?_⟩
  have kC := st.z.k.trans (Kq.ofE x1)
  clear hl lx xs
  refine ⟨_, rfl, meth_in (fP kC) (fun _ _ _ => rfl) ⟨_, rfl, ?_⟩⟩
  refine wo_bad (fP kC) ok (fO kC).kd no (fO kC).sh fun HD t sD nt gt => ?_
  obtain ⟨xs, hl, lx, st⟩ := st.app vB x1 T1 sD (x := V.ref t) (e := some ("none", .str Do.shown)) ⟨t, rfl, gt⟩
  refine ⟨l, _, _, rfl, rfl, hl, small1000 (by rw [lx]; show 6 ≤ 1000; decide), ?_⟩
  generalize upd HD l (.lst (xs ++ [V.ref t])) = N6 at st ⊢
  clear x1 T1 hN kC hl lx sD
  obtain ⟨xs, hl, lx⟩ := st.at
  refine ⟨_, rfl, .inl ⟨rfl, _, SqL.of hl⟩, lam_in st.T fun HC N x1 T1 hN => ?_⟩
  have kC := st.z.k.trans (Kq.ofE x1)
  clear hl lx xs
  refine ⟨_, rfl, meth_in (fP kC) (fun _ _ _ => rfl) ⟨_, rfl, ?_⟩⟩
  refine wo_any (fP kC) ok (by rw [← o1.len]; exact hat) hN fun HD x sD gx => ?_
  obtain ⟨xs, hl, lx, st⟩ := st.app vB x1 T1 sD (x := x) (e := Out4 ps.length) gx
  refine ⟨l, _, _, rfl, rfl, hl, small1000 (by rw [lx]; show 7 ≤ 1000; decide), ?_⟩
  generalize upd HD l (.lst (xs ++ [x])) = N7 at st ⊢
  clear x1 T1 hN kC hl lx sD
  obtain ⟨xs, hl, lx⟩ := st.at
  refine ⟨_, rfl, .inl ⟨rfl, _, SqL.of hl⟩, lam_in st.T fun HC N x1 T1 hN => ?_⟩
  have kC := st.z.k.trans (Kq.ofE x1)
  clear hl lx xs
  refine ⟨_, rfl, meth_in (fP kC) (fun _ _ _ => rfl) ⟨_, rfl, ?_⟩⟩
  refine wo_bad (fP kC) ok (.int _) (by rw [pinOk_nat, decide_eq_false (Nat.lt_irrefl _)]) (wv (show ps.length < 9 by omega)).sh fun HD t sD nt gt => ?_
  obtain ⟨xs, hl, lx, st⟩ := st.app vB x1 T1 sD (x := V.ref t) (e := some ("none", .str (PyData.int (ps.length : Nat)).shown)) ⟨t, rfl, gt⟩
  refine ⟨l, _, _, rfl, rfl, hl, small1000 (by rw [lx]; show 8 ≤ 1000; decide), ?_⟩
  generalize upd HD l (.lst (xs ++ [V.ref t])) = N8 at st ⊢
  clear x1 T1 hN kC hl lx sD
  refine ⟨_, rfl, ?_⟩
  have vO3 := fO st.z.k
  refine ⟨_, rfl, _, _, rfl, (vO3.r _ (Kq.refl p _)).2, vO3.w, vO3.z, vO3.d, by show 2 ≤ sizeLine; decide, fun q6 nq6 => ?_⟩
  have sq6 := same_new (o := .tup [V.str "none", V.str Do.shown]) nq6
  have gq6 : upd N8 q6 (.tup [V.str "none", V.str Do.shown]) q6 = some (.tup [V.str "none", V.str Do.shown]) := upd_same
  have st := st.same sq6
  generalize upd N8 q6 (.tup [V.str "none", V.str Do.shown]) = K0 at sq6 gq6 st  ⊢
  clear sq6 nq6
  dsimp only [tCons]
  refine tIf_key (fun v H' => Same K0 H' ∧ T2 H' v (Out4 ps.length)) (fun Q hQ => ?_) (fun v K1 hG => ?_)
  · refine ⟨_, rfl, rfl, _, rfl, ?_⟩
    by_cases e : ps.length = 4
    · rw [decide_eq_true (show V.int (ps.length : Int) = V.int 4 by rw [e]; rfl)]
      refine iteT ⟨by show 2 ≤ sizeLine; decide, fun t nt => hQ _ _ ⟨same_new nt, ?_⟩⟩
      unfold Out4
      rw [if_pos e]
      exact ⟨t, rfl, upd_same⟩
    · rw [decide_eq_false (show ¬ V.int (ps.length : Int) = V.int 4 from fun z => e (by have := V.int.inj z; omega))]
      refine iteF (hQ _ _ ⟨Same.me, ?_⟩)
      unfold Out4
      rw [if_neg e]
      rfl
  obtain ⟨sx, gx⟩ := hG
  have st := st.same sx
  have gq6 := sx _ _ gq6
  clear sx
  have vB3 := wv (M := K1) (show ps.length < 9 by omega)
  refine ⟨_, rfl, _, _, rfl, (vB3.r _ (Kq.refl p _)).2, vB3.w, vB3.z, vB3.d, by show 2 ≤ sizeLine; decide, fun q7 nq7 => ?_⟩
  have sq7 := same_new (o := .tup [V.str "none", V.str (PyData.int (ps.length : Nat)).shown]) nq7
  have gq7 : upd K1 q7 (.tup [V.str "none", V.str (PyData.int (ps.length : Nat)).shown]) q7 = some (.tup [V.str "none", V.str (PyData.int (ps.length : Nat)).shown]) := upd_same
  have st := st.same sq7
  have gq6 := sq7 _ _ gq6
  have gx := gx.tup fun t ys e => sq7 _ _ e
  generalize upd K1 q7 (.tup [V.str "none", V.str (PyData.int (ps.length : Nat)).shown]) = K2 at sq7 gq7 st gq6 gx ⊢
  clear sq7 nq7
  refine ⟨by show 3 ≤ sizeLine; decide, fun eb neb => ?_⟩
  have seb := same_new (o := .lst [V.ref q6, v, V.ref q7]) neb
  have geb : upd K2 eb (.lst [V.ref q6, v, V.ref q7]) eb = some (.lst [V.ref q6, v, V.ref q7]) := upd_same
  have st := st.same seb
  have gq6 := seb _ _ gq6
  have gx := gx.tup fun t ys e => seb _ _ e
  have gq7 := seb _ _ gq7
  generalize upd K2 eb (.lst [V.ref q6, v, V.ref q7]) = KB at seb geb st gq6 gx gq7 ⊢
  obtain ⟨⟨ys, hy, py⟩, _⟩ := st.ds (db, _) List.mem_cons_self
  have ly := Paired.length py
  refine ⟨db, eb, ys, _, rfl, rfl, hy, geb, Nat.le_of_lt (small1000 (by rw [ly]; show 6 + 3 ≤ 1000; decide)), fun dc ndc => ?_⟩
  have pn : Paired (T2 KB) [V.ref q6, v, V.ref q7] ([some ("none", .str Do.shown), Out4 ps.length, some ("none", .str (PyData.int (ps.length : Nat)).shown)] : List Ee) := .cons ⟨_, rfl, gq6⟩ (.cons gx (.cons ⟨_, rfl, gq7⟩ .nil))
  have st := st.put ndc (paired_app py pn)
  generalize upd KB dc (.lst (ys ++ [V.ref q6, v, V.ref q7])) = D3 at st ⊢
  clear seb geb neb hy py ly pn ndc gq6 gx gq7
  clear vO3 vB3
  dsimp only
  refine re_sg (σ' := [some (.ref p), some (.ref a), some (.ref m), some (.int ps.length), some (od'), some (lo), some (.ref c1), some (V.int (at' : Nat)), some (.ref ea5), some (.ref eb5), some (.ref l), some (.ref dc), none, none]) rfl ?_
  have e9 : (10 : Int) ^ (Int.toNat 9) = 1000000000 := by decide
  refine ⟨_, rfl, by show 1 ≤ sizeLine; decide, fun wb nwb => ?_⟩
  have swb := same_new (o := .lst [V.int 1]) nwb
  have gwb : upd D3 wb (.lst [V.int 1]) wb = some (.lst [V.int 1]) := upd_same
  have pwb : wb ≠ p := st.v.not_none nwb
  have lwb : wb ≠ l := by
    obtain ⟨xs, hl, _⟩ := st.at
    exact (ne_of_none hl nwb).symm
  have st := st.same swb
  generalize upd D3 wb (.lst [V.int 1]) = P1 at swb gwb st ⊢
  clear swb nwb
  refine ⟨_, _, rfl, rfl, ⟨by decide, by decide, by decide⟩, _, _, rfl, rfl, _, _, rfl, rfl, ⟨by decide, by decide, by decide⟩, _, rfl, _, _, rfl, rfl, by show 6 ≤ sizeLine; decide, fun w2 nw2 => ?_⟩
  have sw2 := same_new (o := .lst [V.non, V.bl true, V.str "1", V.ref wb, V.int ((10 : Int) ^ (Int.toNat 9) + 1), V.int (-((10 : Int) ^ (Int.toNat 9)) - 1)]) nw2
  have st2 := st.same sw2
  refine ⟨p, w2, _, _, rfl, st2.v, by omega, upd_same, st.v.not_none nw2, by show 0 < 6; decide, by show 6 ≤ 1000; decide, fun P2 bad sb vb hx => ?_⟩
  have gwb := keptl gwb pwb ((kq_same sw2).trans (Kq.ofS sb))
  obtain ⟨tb, nb, fb⟩ : ∃ t, inB bad = false ∧ ∀ M : Hp, M wb = some (.lst [V.int 1]) → Kd K M bad t := by
    simp only [List.mem_cons, List.not_mem_nil, or_false] at hx
    rcases hx with rfl | rfl | rfl | rfl | rfl | rfl
    · exact ⟨_, rfl, fun _ _ => .non⟩
    · exact ⟨_, rfl, fun _ _ => .bl _⟩
    · exact ⟨_, rfl, fun _ _ => .str _⟩
    · exact ⟨_, rfl, fun _ k => .lst k⟩
    · exact ⟨_, by rw [e9]; decide, fun _ _ => .int _⟩
    · exact ⟨_, by rw [e9]; decide, fun _ _ => .int _⟩
  have st := st2.draw sb vb
  clear hx sb vb st2 sw2 nw2
  refine ⟨_, rfl, by show 1 ≤ sizeLine; decide, fun wm nwm => ?_⟩
  have swm := same_new (o := .tup [V.int 2]) nwm
  have gwm : upd P2 wm (.tup [V.int 2]) wm = some (.tup [V.int 2]) := upd_same
  have st := st.same swm
  have gwb := swm _ _ gwb
  generalize upd P2 wm (.tup [V.int 2]) = P3 at swm gwm gwb st ⊢
  clear swm nwm
  refine ⟨_, _, rfl, rfl, ⟨by decide, by decide, by decide⟩, _, _, rfl, rfl, by show 4 ≤ sizeLine; decide, fun w2 nw2 => ?_⟩
  have sw2 := same_new (o := .lst [V.non, V.bl false, V.ref wm, V.int ((10 : Int) ^ (Int.toNat 9) + 1)]) nw2
  have st2 := st.same sw2
  refine ⟨p, w2, _, _, rfl, st2.v, by omega, upd_same, st.v.not_none nw2, by show 0 < 4; decide, by show 4 ≤ 1000; decide, fun P4 mo sb vb hx => ?_⟩
  have gwm : P4 wm = some (.tup [V.int 2]) := sb.1 _ _ (st2.v.not_tup (sw2 _ _ gwm)) (sw2 _ _ gwm)
  have gwb := keptl gwb pwb ((kq_same sw2).trans (Kq.ofS sb))
  obtain ⟨tm, nm, fm⟩ : ∃ t, inB mo = false ∧ ∀ M : Hp, M wm = some (.tup [V.int 2]) → Kd K M mo t := by
    simp only [List.mem_cons, List.not_mem_nil, or_false] at hx
    rcases hx with rfl | rfl | rfl | rfl
    · exact ⟨_, rfl, fun _ _ => .non⟩
    · exact ⟨_, rfl, fun _ _ => .bl _⟩
    · exact ⟨_, rfl, fun M k => .tup k⟩
    · exact ⟨_, by rw [e9]; decide, fun _ _ => .int _⟩
  have st := st2.draw sb vb
  clear hx sb vb st2 sw2 nw2
  refine ⟨by show 2 ≤ sizeLine; decide, fun w3 nw3 => ?_⟩
  have sw3 := same_new (o := .tup [bad, mo]) nw3
  have gw3 : upd P4 w3 (.tup [bad, mo]) w3 = some (.tup [bad, mo]) := upd_same
  have st := st.same sw3
  have gwb := sw3 _ _ gwb
  have gwm := sw3 _ _ gwm
  generalize upd P4 w3 (.tup [bad, mo]) = P5 at sw3 gw3 st gwb gwm ⊢
  refine ⟨w3, _, rfl, SqT.of gw3, rfl, _, _, rfl, _, _, rfl, rfl, ?_⟩
  clear sw3 nw3 gw3 pwb
  dsimp only
  refine re_st (σ' := [some (.ref p), some (.ref a), some (.ref m), some (.int ps.length), some (od'), some (lo), some (.ref c1), some (V.int (at' : Nat)), some (.ref ea5), some (.ref eb5), some (.ref l), some (.ref dc), some bad, some mo]) rfl ?_
  obtain ⟨xs, hl, lx⟩ := st.at
  refine ⟨_, rfl, .inl ⟨rfl, _, SqL.of hl⟩, lam_in st.T fun HC N x1 T1 hN => ?_⟩
  have kC := st.z.k.trans (Kq.ofE x1)
  have gwb := Ext.lst x1 gwb
  have gwm := Ext.tup x1 gwm
  clear hl lx xs
  refine ⟨_, rfl, meth_in (fP kC) (fun _ _ _ => rfl) ⟨_, rfl, _, rfl, ?_⟩⟩
  refine wp_x (fP kC) ok (fb _ gwb) (fm _ gwm) nb fun HD t sD nt gt => ?_
  obtain ⟨xs, hl, lx, st⟩ := st.app vB x1 T1 sD (x := V.ref t) (e := some ("number", .str "x")) ⟨t, rfl, gt⟩
  refine ⟨l, _, _, rfl, rfl, hl, small1000 (by rw [lx]; show 9 ≤ 1000; decide), ?_⟩
  have gwb : upd HD l (.lst (xs ++ [V.ref t])) wb = some (.lst [V.int 1]) := by rw [upd_ne lwb]; exact sD _ _ gwb
  have gwm : upd HD l (.lst (xs ++ [V.ref t])) wm = some (.tup [V.int 2]) := by rw [upd_ne (L2.ne_of (sD _ _ gwm) hl (by intro z; cases z))]; exact sD _ _ gwm
  generalize upd HD l (.lst (xs ++ [V.ref t])) = N9 at st gwb gwm ⊢
  clear x1 T1 hN kC hl lx sD
  obtain ⟨xs, hl, lx⟩ := st.at
  refine ⟨_, rfl, .inl ⟨rfl, _, SqL.of hl⟩, lam_in st.T fun HC N x1 T1 hN => ?_⟩
  have kC := st.z.k.trans (Kq.ofE x1)
  have gwb := Ext.lst x1 gwb
  have gwm := Ext.tup x1 gwm
  clear hl lx xs
  refine ⟨_, rfl, meth_in (fP kC) (fun _ _ _ => rfl) ⟨_, rfl, ?_⟩⟩
  refine wp_y (fP kC) ok (by decide) (fm _ gwm) nm fun HD t sD nt gt => ?_
  obtain ⟨xs, hl, lx, st⟩ := st.app vB x1 T1 sD (x := V.ref t) (e := some ("number", .str "y")) ⟨t, rfl, gt⟩
  refine ⟨l, _, _, rfl, rfl, hl, small1000 (by rw [lx]; show 10 ≤ 1000; decide), ?_⟩
  have gwb : upd HD l (.lst (xs ++ [V.ref t])) wb = some (.lst [V.int 1]) := by rw [upd_ne lwb]; exact sD _ _ gwb
  have gwm : upd HD l (.lst (xs ++ [V.ref t])) wm = some (.tup [V.int 2]) := by rw [upd_ne (L2.ne_of (sD _ _ gwm) hl (by intro z; cases z))]; exact sD _ _ gwm
  generalize upd HD l (.lst (xs ++ [V.ref t])) = N10 at st gwb gwm ⊢
  clear x1 T1 hN kC hl lx sD
  obtain ⟨xs, hl, lx⟩ := st.at
  refine ⟨_, rfl, .inl ⟨rfl, _, SqL.of hl⟩, lam_in st.T fun HC N x1 T1 hN => ?_⟩
  have kC := st.z.k.trans (Kq.ofE x1)
  have gwb := Ext.lst x1 gwb
  have gwm := Ext.tup x1 gwm
  clear hl lx xs
  refine ⟨_, rfl, meth_in (fP kC) (fun _ _ _ => rfl) ⟨_, _, rfl, rfl, ⟨by decide, by decide, by decide⟩, _, rfl, ?_⟩⟩
  refine wp_any (fP kC) ok (by decide) (by rw [e9]; decide) hN fun HD x sD gx => ?_
  obtain ⟨xs, hl, lx, st⟩ := st.app vB x1 T1 sD (x := x) (e := Out7 ps.length) gx
  refine ⟨l, _, _, rfl, rfl, hl, small1000 (by rw [lx]; show 11 ≤ 1000; decide), ?_⟩
  have gwb : upd HD l (.lst (xs ++ [x])) wb = some (.lst [V.int 1]) := by rw [upd_ne lwb]; exact sD _ _ gwb
  have gwm : upd HD l (.lst (xs ++ [x])) wm = some (.tup [V.int 2]) := by rw [upd_ne (L2.ne_of (sD _ _ gwm) hl (by intro z; cases z))]; exact sD _ _ gwm
  generalize upd HD l (.lst (xs ++ [x])) = N11 at st gwb gwm ⊢
  clear x1 T1 hN kC hl lx sD
  refine ⟨_, rfl, ?_⟩
  refine ⟨by show 2 ≤ sizeLine; decide, fun q8 nq8 => ?_⟩
  have sq8 := same_new (o := .tup [V.str "number", V.str "x"]) nq8
  have gq8 : upd N11 q8 (.tup [V.str "number", V.str "x"]) q8 = some (.tup [V.str "number", V.str "x"]) := upd_same
  have st := st.same sq8
  generalize upd N11 q8 (.tup [V.str "number", V.str "x"]) = K0 at sq8 gq8 st  ⊢
  clear sq8 nq8
  refine ⟨by show 2 ≤ sizeLine; decide, fun q9 nq9 => ?_⟩
  have sq9 := same_new (o := .tup [V.str "number", V.str "y"]) nq9
  have gq9 : upd K0 q9 (.tup [V.str "number", V.str "y"]) q9 = some (.tup [V.str "number", V.str "y"]) := upd_same
  have st := st.same sq9
  have gq8 := sq9 _ _ gq8
  generalize upd K0 q9 (.tup [V.str "number", V.str "y"]) = K1 at sq9 gq9 st gq8 ⊢
  clear sq9 nq9
  dsimp only [tCons]
  refine tIf_key (fun v H' => Same K1 H' ∧ T2 H' v (Out7 ps.length)) (fun Q hQ => ?_) (fun v K2 hG => ?_)
  · refine ⟨_, rfl, rfl, _, rfl, ?_⟩
    by_cases e : ps.length = 7
    · rw [decide_eq_true (show V.int (ps.length : Int) = V.int 7 by rw [e]; rfl)]
      refine iteT ⟨by show 2 ≤ sizeLine; decide, fun t nt => hQ _ _ ⟨same_new nt, ?_⟩⟩
      unfold Out7
      rw [if_pos e]
      exact ⟨t, rfl, upd_same⟩
    · rw [decide_eq_false (show ¬ V.int (ps.length : Int) = V.int 7 from fun z => e (by have := V.int.inj z; omega))]
      refine iteF (hQ _ _ ⟨Same.me, ?_⟩)
      unfold Out7
      rw [if_neg e]
      rfl
  obtain ⟨sx, gx⟩ := hG
  have st := st.same sx
  have gq8 := sx _ _ gq8
  have gq9 := sx _ _ gq9
  clear sx
  refine ⟨by show 3 ≤ sizeLine; decide, fun eb neb => ?_⟩
  have seb := same_new (o := .lst [V.ref q8, V.ref q9, v]) neb
  have geb : upd K2 eb (.lst [V.ref q8, V.ref q9, v]) eb = some (.lst [V.ref q8, V.ref q9, v]) := upd_same
  have st := st.same seb
  have gq8 := seb _ _ gq8
  have gq9 := seb _ _ gq9
  have gx := gx.tup fun t ys e => seb _ _ e
  generalize upd K2 eb (.lst [V.ref q8, V.ref q9, v]) = KB at seb geb st gq8 gq9 gx ⊢
  obtain ⟨⟨ys, hy, py⟩, _⟩ := st.ds (dc, _) List.mem_cons_self
  have ly := Paired.length py
  refine ⟨dc, eb, ys, _, rfl, rfl, hy, geb, Nat.le_of_lt (small1000 (by rw [ly]; show 9 + 3 ≤ 1000; decide)), fun dd' ndd' => ?_⟩
  have pn : Paired (T2 KB) [V.ref q8, V.ref q9, v] ([some ("number", .str "x"), some ("number", .str "y"), Out7 ps.length] : List Ee) := .cons ⟨_, rfl, gq8⟩ (.cons ⟨_, rfl, gq9⟩ (.cons gx .nil))
  have st := st.put ndd' (paired_app py pn)
  generalize upd KB dd' (.lst (ys ++ [V.ref q8, V.ref q9, v])) = NZ at st ⊢
  clear seb geb neb hy py ly pn ndd' gq8 gq9 gx
  have okO : ∀ e, e = Out4 ps.length ∨ e = Out7 ps.length → okE e := fun e h => by
    rcases h with rfl | rfl
    · unfold Out4
      split
      · exact ⟨by decide +kernel, .inr ⟨_, rfl, by decide +kernel⟩⟩
      · trivial
    · unfold Out7
      split
      · exact ⟨by decide +kernel, .inl ⟨_, rfl⟩⟩
      · trivial
  have okS : ∀ {a z : Str}, PyData.strOk a = true → PyData.strOk z = true → okE (some (a, .str z)) := fun h1 h2 => ⟨h1, .inr ⟨_, rfl, h2⟩⟩
  obtain ⟨hd, _⟩ := st.ds (dd', _) List.mem_cons_self
  have vL := fL (Kq.refl p HB)
  have vO := fO (Kq.refl p HB)
  have a9 : at' < 9 := by omega
  have vb := wv (M := HB) b9
  have va := wv (M := HB) a9
  have vk := wv (M := HB) (show ps.length < 9 by omega)
  refine ⟨_, rfl, _, rfl, hs_eq st.h hd (fun e he => ?_) (q _ (kA.trans st.z.k) (st.v.le (by omega)) st.T)⟩
  simp only [List.cons_append, List.nil_append, List.mem_cons, List.not_mem_nil, or_false] at he
  rcases he with rfl | rfl | rfl | rfl | rfl | rfl | rfl | rfl | rfl | rfl | rfl | rfl
  · exact okS (by decide +kernel) vL.o
  · exact okS (by decide +kernel) vO.o
  · exact okS (by decide +kernel) vb.o
  · exact okS (by decide +kernel) (by decide +kernel)
  · exact okS (by decide +kernel) vO.o
  · exact okS (by decide +kernel) va.o
  · exact okS (by decide +kernel) vO.o
  · exact okO _ (.inl rfl)
  · exact okS (by decide +kernel) vk.o
  · exact okS (by decide +kernel) (by decide +kernel)
  · exact okS (by decide +kernel) (by decide +kernel)
  · exact okO _ (.inr rfl)
end
end K13

namespace K13
open PySem PySem.Spec PyProof.Rows L2
section
variable {P : Program} {w : World} {K : PySem.W.Frag} {mg : Str → Option Value} {base : Heap}
/-! ### law -/
def spLaw (K : PySem.W.Frag) (TL : List (Addr × Str)) : Sp := fun vs H Q _ => ∃ (a : Addr) (ns : List Int), vs = [.ref a] ∧ SqL K H a (ns.map V.int) ∧ ns.length ≤ 63 ∧ LamX.Tabs TL H ∧ ∀ H', Q (.bl true) H'
abbrev sLaw : Stmt := top 59
abbrev nLaw : List Str := ["_law_script", "_law_lens_here", "_law_turn", "_law_places_here"]
theorem scLaw : FnScope nLaw ["_law_script"] (defScope sLaw) := ⟨rfl, rfl, rfl, by decide +kernel, rfl, by decide +kernel, by decide +kernel⟩
theorem ok_law {f : Addr} {fd : FuncData} {TL : List (Addr × Str)} (F : Fun K "law" "law" sLaw f fd) (B : Bn mg) (C1 : Callee P w K mg base CX0 1 "_law_lens" ["_law_script"] (spLens K)) (C3 : Callee P w K mg base CX0 3 "_law_places" ["_law_lens_here"] spPlc)
    (C4 : Callee P w K mg base CX0 10 "_law_ordered_right" ["_law_lens_here", "_law_places_here"] spOr) (C5 : Callee P w K mg base CX0 10 "_law_fewer_right" ["_law_lens_here", "_law_places_here"] spOr)
    (C6 : ∃ (f : Addr) (fd : FuncData), mg "_law_refused_right" = some (.ref f) ∧ PySem.W.keepIn K (.ref f) = true ∧ Binds K fd ["_law_lens_here", "_law_places_here"] [] ∧ GG.FnG P w K mg base CX0 12 f fd ["_law_lens_here", "_law_places_here"] (spRF TL)) : GG.FnG P w K mg base CX0 13 f fd ["_law_script"] (spLaw K TL) := by
  obtain ⟨f1, fd1, m1, k1, b1, G1⟩ := C1
  obtain ⟨f3, fd3, m3, k3, b3, G3⟩ := C3
  obtain ⟨f4, fd4, m4, k4, b4, G4⟩ := C4
  obtain ⟨f5, fd5, m5, k5, b5, G5⟩ := C5
  obtain ⟨f6, fd6, m6, k6, b6, G6⟩ := C6
  obtain ⟨ocL, odL, kVL, docL, pmL, anL, cdvL, ctL, oslL, rfl, lkL, hcL⟩ := F.ex
  have nd := scLaw.nd
  refine GG.fn_g lkL hcL scLaw (fun vs H Q E h => ?_) fun A outer s H vs Q E sh hr h => ?_
  · obtain ⟨a, ns, rfl, _⟩ := h
    rfl
  suffices hh : ∃ t, PSs (cxOf CX0 P w K mg base nLaw "law" (defScope sLaw) f cdvL A outer s H E).nox (defBody sLaw) t ∧ t { nx := fun _ H' => Q .non H', rt := Q } (L2.start nLaw vs) H from let ⟨t, h1, h2⟩ := hh; ⟨t, h1.nox, h2⟩
  obtain ⟨a, ns, rfl, hs, l63, hT, q⟩ := h
  refine ⟨_, (pss_cons ((ps_set (i := 1) nd rfl (Or.inl rfl) ((pe_call G1 (hr.mono (by decide)) rfl m1 k1 b1 .nil pass0 (pa_cons (pv 0) pa_nil))))) (pss_cons (ps_for PassesOwn.never rfl (pi_range1 rfl B.range (pa_cons (pe_int) pa_nil)) (pg_name (i := 2) nd rfl (Or.inl rfl)) (pss_cons ((ps_set (i := 3) nd rfl (Or.inl rfl) ((pe_call G3 (hr.mono (by decide)) rfl m3 k3 b3 .nil pass0 (pa_cons (pv 1) pa_nil))))) (pss_one (ps_if (PW.pt (pw_or (pt_not (pt_val (pe_call G4 (hr.mono (by decide)) rfl m4 k4 b4 .nil pass0 (pa_cons (pv 1) (pa_cons (pv 3) pa_nil))))) (pw_or (pt_not (pt_val (pe_call G5 (hr.mono (by decide)) rfl m5 k5 b5 .nil pass0 (pa_cons (pv 1) (pa_cons (pv 3) pa_nil))))) (pw_or1 (pt_not (pt_val (GG.pe_cg G6 sh (hr.mono (by decide)) rfl m6 k6 b6 .nil pass0 (pa_cons (pv 1) (pa_cons (pv 3) pa_nil))))))))) (pss_one (ps_ret pe_bl)) pss_nil)))) (pss_one (ps_ret pe_bl)))), ?_⟩
  refine ⟨_, rfl, a, ns, rfl, hs, l63, fun H1 p s1 n1 v1 => ?_⟩
  refine ⟨3, rfl, by decide, by decide, ?_⟩
  refine for_range (lo := 0) (n := 3) (fun i σ H' => Lens H' p (100 * i) ∧ LamX.Tabs TL H' ∧ ∃ c2 c3, σ = [some (.ref a), some (.ref p), c2, c3]) ⟨v1, hT.ext s1, _, _, rfl⟩ (fun i σ H' hi pv => ?_) (fun σ H' pv => ?_)
  · obtain ⟨v, T, c2, c3, rfl⟩ := pv
    refine ⟨_, rfl, p, _, rfl, v, by omega, fun H2 b ts ps s2 v2 nb lp ok => ?_⟩
    have T2 := tabs_sb T v s2
    refine ⟨_, rfl, _, rfl, p, b, _, ts, ps, rfl, v2, by omega, nb, lp, ok, fun H3 s3 v3 => ⟨_, rfl, iteF ?_⟩⟩
    have lp3 := lp.sb v2 nb s3
    have T3 := tabs_sb T2 v2 s3
    refine ⟨_, rfl, _, rfl, p, b, _, ts, ps, rfl, v3, by omega, nb, lp3, ok, fun H4 s4 v4 => ⟨_, rfl, iteF ?_⟩⟩
    have lp4 := lp3.sb v3 nb s4
    have T4 := tabs_sb T3 v3 s4
    refine ⟨_, rfl, _, rfl, p, b, _, ts, ps, rfl, v4, by omega, nb, lp4, ok, T4, fun H5 kq5 v5 T5 => ⟨_, rfl, iteF ?_⟩⟩
    exact ⟨v5.le (by omega), T5, _, _, rfl⟩
  · obtain ⟨v, T, c2, c3, rfl⟩ := pv
    exact q _
end
end K13

namespace K13
open PySem PySem.Spec PyProof.Rows L2
/-! ### what the written part says, looked up at once -/
def oexB (K : PySem.W.Frag) (C : Addr) : Bool := match K.lookup C with
  | some ⟨.type "type", _, .cls cd, sl⟩ => (match cd.mro, sl.toList with
    | .ref C' :: bm, [_, _, _, _, some (.builtin n), _] => C' == C && n == "ValueError.__new__" && !cd.hasDel && cd.hasDict && PySem.HandSPX.refsVE bm
    | _, _ => false)
  | _ => false
theorem oexB_ok {K : PySem.W.Frag} {C : Addr} (q : oexB K C = true) : ∃ nm qn N bs bm sn sub ab col dd k0 k1 k2 k3 k5, K.lookup C = some (excClassObj nm qn C N bs bm true sn sub ab col dd k0 k1 k2 k3 k5 "ValueError.__new__") ∧ PySem.HandSPX.refsVE bm = true := by
  unfold oexB at q
  split at q
  · rename_i dd cd sl ho
    split at q
    · rename_i C' bm k0 k1 k2 k3 n k5 hm hs
      simp only [Bool.and_eq_true, beq_iff_eq, Bool.not_eq_true'] at q
      obtain ⟨⟨⟨⟨rfl, rfl⟩, hdel⟩, hd⟩, ht⟩ := q
      obtain ⟨nm, bs, mro, ns, qn, hdc, sn, sub, ab, col, del⟩ := cd
      dsimp only at hm hdel hd
      subst hm hdel hd
      have hsl : sl = #[k0, k1, k2, k3, some (.builtin "ValueError.__new__"), k5] := by
        obtain ⟨l⟩ := sl
        simp only at hs
        rw [hs]
      subst hsl
      exact ⟨nm, qn, ns, bs, bm, sn, sub, ab, col, dd, k0, k1, k2, k3, k5, ho, ht⟩
    · cases q
  · cases q
def badB (K : PySem.W.Frag) (C CS : Addr) : Bool := oexB K C && (decide (PySem.W.findIn K (.ref C) "__setattr__" = some (some (.builtin "object.__setattr__"))) && (decide (PySem.W.subIn K (.ref C) (.type "BaseException") = some true) && (decide (PySem.W.typeIn K (.ref C) = some (.type "type")) && (PySem.W.keepIn K (.ref C) &&
  (decide (PySem.W.findIn K (.ref C) "__getattribute__" = some (some (.builtin "BaseException.__getattribute__"))) && (decide (PySem.W.findIn K (.ref C) "__getattr__" = some none) && (PySem.W.hasDictIn K C && (decide (PySem.W.findIn K (.ref C) "__class__" = some (some (.builtin "object.__class__"))) &&
  (decide (PySem.W.specialIn K (.builtin "object.__class__") "__get__" = some (some (.builtin "getset_descriptor.__get__"))) && (decide (PySem.W.takesIn K (.builtin "object.__class__") = some true) && (decide (PySem.W.mroIn K C (.type "object") = some true) &&
  (decide (PySem.W.findIn K (.ref C) "part" = some none) && decide (PySem.W.exmOne K (.ref C) (.ref CS) = some true)))))))))))))
theorem badB_ok {K : PySem.W.Frag} {C CS : Addr} (h : badB K C CS = true) : OexC K C ∧ ExcC K C ∧ XfC K C ∧ PySem.W.findIn K (.ref C) "part" = some none ∧ PySem.W.exmOne K (.ref C) (.ref CS) = some true := by
  unfold badB at h
  simp only [Bool.and_eq_true, decide_eq_true_eq] at h
  obtain ⟨h0, h1, h2, h3, h4, h5, h6, h7, h8, h9, h10, h11, h12, h13⟩ := h
  exact ⟨⟨oexB_ok h0, h1, h2, h3, h4⟩, ⟨h5, h6, h2, h7, h8, h9, h10, h11⟩, ⟨h5, h6, h2, h7⟩, h12, h13⟩
def picB (K : PySem.W.Frag) (C : Addr) : Bool := PySem.W.plainGet K C Str.empty && (PySem.W.hasDictIn K C && (PySem.W.plainOver K C && (decide (PySem.W.findIn K (.ref C) "__setattr__" = some (some (.builtin "object.__setattr__"))) && (decide (PySem.W.findIn K (.ref C) "__class__" = some (some (.builtin "object.__class__"))) &&
  (decide (PySem.W.specialIn K (.builtin "object.__class__") "__get__" = some (some (.builtin "getset_descriptor.__get__"))) && (decide (PySem.W.takesIn K (.builtin "object.__class__") = some true) && (decide (PySem.W.mroIn K C (.type "object") = some true) &&
  (decide (PySem.W.kitOne K (.ref C) (.type "int") = some false) && (decide (PySem.W.kitOne K (.ref C) (.type "bool") = some false) && (decide (PySem.W.kitOne K (.ref C) (.type "tuple") = some false) && (decide (PySem.W.kitAny K (.ref C) [.type "list", .type "tuple"] = some false) &&
  (decide (PySem.W.findIn K (.ref C) "places" = some none) && (decide (PySem.W.findIn K (.ref C) "pins" = some none) && (decide (PySem.W.findIn K (.ref C) "rows" = some none) && (decide (PySem.W.findIn K (.ref C) "__ne__" = some (some (.builtin "object.__ne__"))) &&
  (PySem.W.makesIn K C && (PySem.W.keepIn K (.ref C) && (["NoneType", "str", "list", "tuple"].all fun t => decide (PySem.W.kitOne K (.type t) (.ref C) = some false) && PySem.W.notFirst K C (.type t)))))))))))))))))))
theorem picB_ok {K : PySem.W.Frag} {C : Addr} (h : picB K C = true) : PicT K C ∧ PicN K C ∧ PySem.W.makesIn K C = true ∧ PySem.W.keepIn K (.ref C) = true := by
  unfold picB at h
  rw [Bool.and_eq_true, Bool.and_eq_true, Bool.and_eq_true, Bool.and_eq_true, Bool.and_eq_true, Bool.and_eq_true, Bool.and_eq_true, Bool.and_eq_true, Bool.and_eq_true, Bool.and_eq_true, Bool.and_eq_true, Bool.and_eq_true, Bool.and_eq_true, Bool.and_eq_true, Bool.and_eq_true, Bool.and_eq_true, Bool.and_eq_true, Bool.and_eq_true] at h
  obtain ⟨h0, h1, h2, h3, h4, h5, h6, h7, h8, h9, h10, h11, h12, h13, h14, h15, h16, h17, h18⟩ := h
  refine ⟨⟨⟨⟨h0, h1, h2, of_decide_eq_true h3⟩, of_decide_eq_true h4, of_decide_eq_true h5, of_decide_eq_true h6, of_decide_eq_true h7, of_decide_eq_true h8, of_decide_eq_true h9, of_decide_eq_true h10, of_decide_eq_true h11⟩, (show PySem.W.findIn K (.ref C) "places" = some none from of_decide_eq_true h12), (show PySem.W.findIn K (.ref C) "pins" = some none from of_decide_eq_true h13), (show PySem.W.findIn K (.ref C) "rows" = some none from of_decide_eq_true h14)⟩, ⟨fun t ht => ?_, of_decide_eq_true h15⟩, h16, h17⟩
  have z := List.all_eq_true.mp h18 t ht
  rw [Bool.and_eq_true] at z
  exact ⟨of_decide_eq_true z.1, z.2⟩
def valB (K : PySem.W.Frag) (C CS : Addr) : Bool := oexB K C && (decide (PySem.W.findIn K (.ref C) "__setattr__" = some (some (.builtin "object.__setattr__"))) && (decide (PySem.W.subIn K (.ref C) (.type "BaseException") = some true) && (decide (PySem.W.typeIn K (.ref C) = some (.type "type")) && (PySem.W.keepIn K (.ref C) &&
  (decide (PySem.W.findIn K (.ref C) "__getattribute__" = some (some (.builtin "BaseException.__getattribute__"))) && (decide (PySem.W.findIn K (.ref C) "__getattr__" = some none) && (PySem.W.hasDictIn K C && (decide (PySem.W.findIn K (.ref C) "__class__" = some (some (.builtin "object.__class__"))) &&
  (decide (PySem.W.specialIn K (.builtin "object.__class__") "__get__" = some (some (.builtin "getset_descriptor.__get__"))) && (decide (PySem.W.takesIn K (.builtin "object.__class__") = some true) && (decide (PySem.W.mroIn K C (.type "object") = some true) &&
  (decide (PySem.W.findIn K (.ref C) "value" = some none) && decide (PySem.W.exmOne K (.ref C) (.ref CS) = some true)))))))))))))
theorem valB_ok {K : PySem.W.Frag} {C CS : Addr} (h : valB K C CS = true) : OexC K C ∧ ExcC K C ∧ XfC K C ∧ PySem.W.findIn K (.ref C) "value" = some none ∧ PySem.W.exmOne K (.ref C) (.ref CS) = some true := by
  unfold valB at h
  simp only [Bool.and_eq_true, decide_eq_true_eq] at h
  obtain ⟨h0, h1, h2, h3, h4, h5, h6, h7, h8, h9, h10, h11, h12, h13⟩ := h
  exact ⟨⟨oexB_ok h0, h1, h2, h3, h4⟩, ⟨h5, h6, h2, h7, h8, h9, h10, h11⟩, ⟨h5, h6, h2, h7⟩, h12, h13⟩
def tooB (K : PySem.W.Frag) (C CS : Addr) : Bool := oexB K C && (decide (PySem.W.findIn K (.ref C) "__setattr__" = some (some (.builtin "object.__setattr__"))) && (decide (PySem.W.subIn K (.ref C) (.type "BaseException") = some true) && (decide (PySem.W.typeIn K (.ref C) = some (.type "type")) && (PySem.W.keepIn K (.ref C) &&
  (decide (PySem.W.findIn K (.ref C) "__getattribute__" = some (some (.builtin "BaseException.__getattribute__"))) && (decide (PySem.W.findIn K (.ref C) "__getattr__" = some none) && (PySem.W.hasDictIn K C && (decide (PySem.W.findIn K (.ref C) "__class__" = some (some (.builtin "object.__class__"))) &&
  (decide (PySem.W.specialIn K (.builtin "object.__class__") "__get__" = some (some (.builtin "getset_descriptor.__get__"))) && (decide (PySem.W.takesIn K (.builtin "object.__class__") = some true) && (decide (PySem.W.mroIn K C (.type "object") = some true) &&
  (decide (PySem.W.findIn K (.ref C) "what" = some none) && (decide (PySem.W.findIn K (.ref C) "most" = some none) && decide (PySem.W.exmOne K (.ref C) (.ref CS) = some true))))))))))))))
theorem tooB_ok {K : PySem.W.Frag} {C CS : Addr} (h : tooB K C CS = true) : OexC K C ∧ ExcC K C ∧ XfC K C ∧ PySem.W.findIn K (.ref C) "what" = some none ∧ PySem.W.findIn K (.ref C) "most" = some none ∧ PySem.W.exmOne K (.ref C) (.ref CS) = some true := by
  unfold tooB at h
  simp only [Bool.and_eq_true, decide_eq_true_eq] at h
  obtain ⟨h0, h1, h2, h3, h4, h5, h6, h7, h8, h9, h10, h11, h12, h13, h14⟩ := h
  exact ⟨⟨oexB_ok h0, h1, h2, h3, h4⟩, ⟨h5, h6, h2, h7, h8, h9, h10, h11⟩, ⟨h5, h6, h2, h7⟩, h12, h13, h14⟩
def seB (K : PySem.W.Frag) (CP CW CN CF CT : Addr) : Bool := decide (PySem.W.kitAny K (.ref CP) [.ref CP, .ref CW] = some true) && (decide (PySem.W.kitAny K (.ref CW) [.ref CP, .ref CW] = some true) && (decide (PySem.W.kitAny K (.ref CN) [.ref CP, .ref CW] = some false) && (decide (PySem.W.kitAny K (.ref CF) [.ref CP, .ref CW] = some false) && (decide (PySem.W.kitAny K (.ref CT) [.ref CP, .ref CW] = some false) && (decide (PySem.W.kitAny K (.type "NoneType") [.ref CP, .ref CW] = some false) && (decide (PySem.W.kitOne K (.ref CW) (.ref CP) = some false) && (decide (PySem.W.kitAny K (.ref CN) [.ref CN, .ref CF] = some true) && (decide (PySem.W.kitAny K (.ref CF) [.ref CN, .ref CF] = some true) && (decide (PySem.W.kitAny K (.ref CT) [.ref CN, .ref CF] = some false) && (decide (PySem.W.kitAny K (.type "NoneType") [.ref CN, .ref CF] = some false) && (decide (PySem.W.kitOne K (.ref CF) (.ref CN) = some false) && (decide (PySem.W.kitOne K (.type "NoneType") (.ref CT) = some false)))))))))))))
theorem seB_ok {K : PySem.W.Frag} {CP CW CN CF CT : Addr} (h : seB K CP CW CN CF CT = true) : PySem.W.kitAny K (.ref CP) [.ref CP, .ref CW] = some true ∧ PySem.W.kitAny K (.ref CW) [.ref CP, .ref CW] = some true ∧ PySem.W.kitAny K (.ref CN) [.ref CP, .ref CW] = some false ∧ PySem.W.kitAny K (.ref CF) [.ref CP, .ref CW] = some false ∧ PySem.W.kitAny K (.ref CT) [.ref CP, .ref CW] = some false ∧ PySem.W.kitAny K (.type "NoneType") [.ref CP, .ref CW] = some false ∧ PySem.W.kitOne K (.ref CW) (.ref CP) = some false ∧ PySem.W.kitAny K (.ref CN) [.ref CN, .ref CF] = some true ∧ PySem.W.kitAny K (.ref CF) [.ref CN, .ref CF] = some true ∧ PySem.W.kitAny K (.ref CT) [.ref CN, .ref CF] = some false ∧ PySem.W.kitAny K (.type "NoneType") [.ref CN, .ref CF] = some false ∧ PySem.W.kitOne K (.ref CF) (.ref CN) = some false ∧ PySem.W.kitOne K (.type "NoneType") (.ref CT) = some false := by
  unfold seB at h
  simp only [Bool.and_eq_true, decide_eq_true_eq] at h
  exact h
theorem kbn13 {K : PySem.W.Frag} {fd : FuncData} {ps ks : List Str} {n : Nat} (h : ∀ us ws : List Value, us.length = n → ws.length = ks.length → bindArgs fd ⟨us, ks.zip ws⟩ = pure (ps.zip (us ++ ws))) : KBn K fd ps n ks (fun us ws => us ++ ws) (fun vs zs => vs ++ zs) where
  to := fun s us ws _ l1 l2 => .of_eq (h us ws l1 l2)
  rel := fun r z => r.append z
theorem kbnR {K : PySem.W.Frag} {fd : FuncData} {ps ks : List Str} {n : Nat} (h : ∀ us ws : List Value, us.length = n → ws.length = ks.length → bindArgs fd ⟨us, ks.zip ws⟩ = pure (ps.zip (rv2 us ws))) : KBn K fd ps n ks rv2 rv2 where
  to := fun s us ws _ l1 l2 => .of_eq (h us ws l1 l2)
  rel := fun r z => r.append z.reverse
theorem all_mk {l : PySem.W.OpenLaw} {w : World} {K : PySem.W.Frag} {h : Heap} {mg : Str → Option Value} {fa : Addr} {C CB CS CP CW CN CF CT P1 c58 f12 f13 f14 f15 f18 f19 f20 f21 f22 f25 f26 f27 f29 f31 f33 f49 f50 f51 f52 f53 f54 f55 f56 f57 f58 f59 fB fN fF fV fW fT fI fE fS fP fH fO fX fY : Addr} {od12 an12 od13 an13 od14 an14 od15 an15 od18 an18 od19 an19 od20 an20 od21 an21 od22 an22 od25 an25 od26 an26 od27 an27 od29 an29 od31 an31 od33 an33 od49 an49 od50 an50 od51 an51 od52 an52 od53 an53 od54 an54 od55 an55 od56 an56 od57 an57 od58 an58 od59 an59 odB anB odN anN odF anF odV anV odW anW odT anT odI anI odE anE odS anS odP anP odH anH odO anO odX anX odY anY : Option Addr} {sl12 sl13 sl14 sl15 sl18 sl19 sl20 sl21 sl22 sl25 sl26 sl27 sl29 sl31 sl33 sl49 sl50 sl51 sl52 sl53 sl54 sl55 sl56 sl57 sl58 sl59 slB slN slF slV slW slT slI slE slS slP slH slO slX slY : Array (Option Value)} {oc12 kV12 dc12 pm12 cv12 ct12 oc13 kV13 dc13 pm13 cv13 ct13 oc14 kV14 dc14 pm14 cv14 ct14 oc15 kV15 dc15 pm15 cv15 ct15 oc18 kV18 dc18 pm18 cv18 ct18 oc19 kV19 dc19 pm19 cv19 ct19 oc20 kV20 dc20 pm20 cv20 ct20 oc21 kV21 dc21 pm21 cv21 ct21 oc22 kV22 dc22 pm22 cv22 ct22 oc25 kV25 dc25 pm25 cv25 ct25 oc26 kV26 dc26 pm26 cv26 ct26 oc27 kV27 dc27 pm27 cv27 ct27 oc29 kV29 dc29 pm29 cv29 ct29 oc31 kV31 dc31 pm31 cv31 ct31 oc33 kV33 dc33 pm33 cv33 ct33 oc49 kV49 dc49 pm49 cv49 ct49 oc50 kV50 dc50 pm50 cv50 ct50 oc51 kV51 dc51 pm51 cv51 ct51 oc52 kV52 dc52 pm52 cv52 ct52 oc53 kV53 dc53 pm53 cv53 ct53 oc54 kV54 dc54 pm54 cv54 ct54 oc55 kV55 dc55 pm55 cv55 ct55 oc56 kV56 dc56 pm56 cv56 ct56 oc57 kV57 dc57 pm57 cv57 ct57 oc58 kV58 dc58 pm58 ct58 oc59 kV59 dc59 pm59 cv59 ct59 ocB kVB dcB pmB cvB ctB ocN kVN dcN pmN cvN ctN ocF kVF dcF pmF cvF ctF ocV kVV dcV pmV cvV ctV ocW kVW dcW pmW cvW ctW ocT kVT dcT pmT cvT ctT ocI kVI dcI pmI cvI ctI ocE kVE dcE pmE cvE ctE ocS kVS dcS pmS cvS ctS ocP kVP dcP pmP cvP ctP ocH kVH dcH pmH cvH ctH ocO kVO dcO pmO cvO ctO ocX kVX dcX pmX cvX ctX ocY kVY dcY pmY cvY ctY : Value} {tL t4 t7 : Tok}
    (X : K.In h) (G : h.Ns mainGlobals mg) (hfa : mg "law" = some (.ref fa)) (tab1 : h.get? P1 = some { cls := .none, data := .fields #[] })
    (aC : PySem.W.nsIn K mainGlobals "Picture" = some (some (.ref C)))
    (aCB : PySem.W.nsIn K mainGlobals "BadPicture" = some (some (.ref CB)))
    (aCS : PySem.W.nsIn K mainGlobals "SeenError" = some (some (.ref CS)))
    (aCP : PySem.W.nsIn K mainGlobals "NoPin" = some (some (.ref CP)))
    (aCW : PySem.W.nsIn K mainGlobals "Twice" = some (some (.ref CW)))
    (aCN : PySem.W.nsIn K mainGlobals "BadNumber" = some (some (.ref CN)))
    (aCF : PySem.W.nsIn K mainGlobals "Misfit" = some (some (.ref CF)))
    (aCT : PySem.W.nsIn K mainGlobals "TooMany" = some (some (.ref CT)))
    (aL : PySem.W.nsIn K mainGlobals "LIMIT" = some (some (.int 1000000000 tL)))
    (a4 : PySem.W.nsIn K mainGlobals "FEWEST_PINS" = some (some (.int 4 t4)))
    (a7 : PySem.W.nsIn K mainGlobals "MOST_PINS" = some (some (.int 7 t7)))
    (iB : PySem.W.findIn K (.ref CB) "__init__" = some (some (.ref fB)))
    (tB : PySem.W.typeIn K (.ref fB) = some (.type "function"))
    (iN : PySem.W.findIn K (.ref CN) "__init__" = some (some (.ref fN)))
    (tN : PySem.W.typeIn K (.ref fN) = some (.type "function"))
    (iF : PySem.W.findIn K (.ref CF) "__init__" = some (some (.ref fF)))
    (tF : PySem.W.typeIn K (.ref fF) = some (.type "function"))
    (iV : PySem.W.findIn K (.ref CP) "__init__" = some (some (.ref fV)))
    (tV : PySem.W.typeIn K (.ref fV) = some (.type "function"))
    (iW : PySem.W.findIn K (.ref CW) "__init__" = some (some (.ref fW)))
    (tW : PySem.W.typeIn K (.ref fW) = some (.type "function"))
    (iT : PySem.W.findIn K (.ref CT) "__init__" = some (some (.ref fT)))
    (tT : PySem.W.typeIn K (.ref fT) = some (.type "function"))
    (iI : PySem.W.findIn K (.ref C) "__init__" = some (some (.ref fI)))
    (nI : PySem.W.isFn K (.ref fI) = true)
    (iE : PySem.W.findIn K (.ref C) "__eq__" = some (some (.ref fE)))
    (nE : PySem.W.isFn K (.ref fE) = true)
    (iS : PySem.W.findIn K (.ref C) "__str__" = some (some (.ref fS)))
    (nS : PySem.W.isFn K (.ref fS) = true)
    (iP : PySem.W.findIn K (.ref C) "products" = some (some (.ref fP)))
    (nP : PySem.W.isFn K (.ref fP) = true)
    (iH : PySem.W.findIn K (.ref C) "is_thin" = some (some (.ref fH)))
    (nH : PySem.W.isFn K (.ref fH) = true)
    (iO : PySem.W.findIn K (.ref C) "in_order" = some (some (.ref fO)))
    (nO : PySem.W.isFn K (.ref fO) = true)
    (iX : PySem.W.findIn K (.ref C) "without" = some (some (.ref fX)))
    (nX : PySem.W.isFn K (.ref fX) = true)
    (iY : PySem.W.findIn K (.ref C) "with_pin" = some (some (.ref fY)))
    (nY : PySem.W.isFn K (.ref fY) = true)
    (lB : K.lookup fB = some ⟨ocB, odB, .func (PySem.W.fnOf "__init__" "BadPicture.__init__" (defArgs sBI) (defBody sBI) (defScope sBI) .none kVB dcB pmB anB cvB ctB), slB⟩)
    (cB : PySem.W.codeIn K cvB "BadPicture.__init__" = true)
    (kB : PySem.W.keepIn K (.ref fB) = true)
    (lN : K.lookup fN = some ⟨ocN, odN, .func (PySem.W.fnOf "__init__" "BadNumber.__init__" (defArgs sNI) (defBody sNI) (defScope sNI) .none kVN dcN pmN anN cvN ctN), slN⟩)
    (cN : PySem.W.codeIn K cvN "BadNumber.__init__" = true)
    (kN : PySem.W.keepIn K (.ref fN) = true)
    (lF : K.lookup fF = some ⟨ocF, odF, .func (PySem.W.fnOf "__init__" "Misfit.__init__" (defArgs sFI) (defBody sFI) (defScope sFI) .none kVF dcF pmF anF cvF ctF), slF⟩)
    (cF : PySem.W.codeIn K cvF "Misfit.__init__" = true)
    (kF : PySem.W.keepIn K (.ref fF) = true)
    (lV : K.lookup fV = some ⟨ocV, odV, .func (PySem.W.fnOf "__init__" "Missing.__init__" (defArgs sVI) (defBody sVI) (defScope sVI) .none kVV dcV pmV anV cvV ctV), slV⟩)
    (cV : PySem.W.codeIn K cvV "Missing.__init__" = true)
    (kV : PySem.W.keepIn K (.ref fV) = true)
    (lW : K.lookup fW = some ⟨ocW, odW, .func (PySem.W.fnOf "__init__" "Twice.__init__" (defArgs sWI) (defBody sWI) (defScope sWI) .none kVW dcW pmW anW cvW ctW), slW⟩)
    (cW : PySem.W.codeIn K cvW "Twice.__init__" = true)
    (kW : PySem.W.keepIn K (.ref fW) = true)
    (lT : K.lookup fT = some ⟨ocT, odT, .func (PySem.W.fnOf "__init__" "TooMany.__init__" (defArgs sTI) (defBody sTI) (defScope sTI) .none kVT dcT pmT anT cvT ctT), slT⟩)
    (cT : PySem.W.codeIn K cvT "TooMany.__init__" = true)
    (kT : PySem.W.keepIn K (.ref fT) = true)
    (lI : K.lookup fI = some ⟨ocI, odI, .func (PySem.W.fnOf "__init__" "Picture.__init__" (defArgs sPI) (defBody sPI) (defScope sPI) .none kVI dcI pmI anI cvI ctI), slI⟩)
    (cI : PySem.W.codeIn K cvI "Picture.__init__" = true)
    (kI : PySem.W.keepIn K (.ref fI) = true)
    (lE : K.lookup fE = some ⟨ocE, odE, .func (PySem.W.fnOf "__eq__" "Picture.__eq__" (defArgs sEqP) (defBody sEqP) (defScope sEqP) .none kVE dcE pmE anE cvE ctE), slE⟩)
    (cE : PySem.W.codeIn K cvE "Picture.__eq__" = true)
    (kE : PySem.W.keepIn K (.ref fE) = true)
    (lS : K.lookup fS = some ⟨ocS, odS, .func (PySem.W.fnOf "__str__" "Picture.__str__" (defArgs sStrP) (defBody sStrP) (defScope sStrP) .none kVS dcS pmS anS cvS ctS), slS⟩)
    (cS : PySem.W.codeIn K cvS "Picture.__str__" = true)
    (kS : PySem.W.keepIn K (.ref fS) = true)
    (lP : K.lookup fP = some ⟨ocP, odP, .func (PySem.W.fnOf "products" "Picture.products" (defArgs sPP) (defBody sPP) (defScope sPP) .none kVP dcP pmP anP cvP ctP), slP⟩)
    (cP : PySem.W.codeIn K cvP "Picture.products" = true)
    (kP : PySem.W.keepIn K (.ref fP) = true)
    (lH : K.lookup fH = some ⟨ocH, odH, .func (PySem.W.fnOf "is_thin" "Picture.is_thin" (defArgs sPh) (defBody sPh) (defScope sPh) .none kVH dcH pmH anH cvH ctH), slH⟩)
    (cH : PySem.W.codeIn K cvH "Picture.is_thin" = true)
    (kH : PySem.W.keepIn K (.ref fH) = true)
    (lO : K.lookup fO = some ⟨ocO, odO, .func (PySem.W.fnOf "in_order" "Picture.in_order" (defArgs sIO) (defBody sIO) (defScope sIO) .none kVO dcO pmO anO cvO ctO), slO⟩)
    (cO : PySem.W.codeIn K cvO "Picture.in_order" = true)
    (kO : PySem.W.keepIn K (.ref fO) = true)
    (lX : K.lookup fX = some ⟨ocX, odX, .func (PySem.W.fnOf "without" "Picture.without" (defArgs sWo) (defBody sWo) (defScope sWo) .none kVX dcX pmX anX cvX ctX), slX⟩)
    (cX : PySem.W.codeIn K cvX "Picture.without" = true)
    (kX : PySem.W.keepIn K (.ref fX) = true)
    (lY : K.lookup fY = some ⟨ocY, odY, .func (PySem.W.fnOf "with_pin" "Picture.with_pin" (defArgs sWP) (defBody sWP) (defScope sWP) .none kVY dcY pmY anY cvY ctY), slY⟩)
    (cY : PySem.W.codeIn K cvY "Picture.with_pin" = true)
    (kY : PySem.W.keepIn K (.ref fY) = true)
    (hE : badB K CB CS = true)
    (hN : badB K CN CS = true)
    (hF : badB K CF CS = true)
    (hV : valB K CP CS = true)
    (hW : valB K CW CS = true)
    (hT : tooB K CT CS = true)
    (hK : seB K CP CW CN CF CT = true)
    (hP : picB K C = true)
    (a12 : PySem.W.nsIn K mainGlobals "is_integer" = some (some (.ref f12)))
    (l12 : K.lookup f12 = some ⟨oc12, od12, .func (PySem.W.fnOf "is_integer" "is_integer" (defArgs sInt) (defBody sInt) (defScope sInt) .none kV12 dc12 pm12 an12 cv12 ct12), sl12⟩)
    (cc12 : PySem.W.codeIn K cv12 "is_integer" = true)
    (k12 : PySem.W.keepIn K (.ref f12) = true)
    (a13 : PySem.W.nsIn K mainGlobals "is_within" = some (some (.ref f13)))
    (l13 : K.lookup f13 = some ⟨oc13, od13, .func (PySem.W.fnOf "is_within" "is_within" (defArgs sWithin) (defBody sWithin) (defScope sWithin) .none kV13 dc13 pm13 an13 cv13 ct13), sl13⟩)
    (cc13 : PySem.W.codeIn K cv13 "is_within" = true)
    (k13 : PySem.W.keepIn K (.ref f13) = true)
    (a14 : PySem.W.nsIn K mainGlobals "is_list" = some (some (.ref f14)))
    (l14 : K.lookup f14 = some ⟨oc14, od14, .func (PySem.W.fnOf "is_list" "is_list" (defArgs sIsList) (defBody sIsList) (defScope sIsList) .none kV14 dc14 pm14 an14 cv14 ct14), sl14⟩)
    (cc14 : PySem.W.codeIn K cv14 "is_list" = true)
    (k14 : PySem.W.keepIn K (.ref f14) = true)
    (a15 : PySem.W.nsIn K mainGlobals "first_twice" = some (some (.ref f15)))
    (l15 : K.lookup f15 = some ⟨oc15, od15, .func (PySem.W.fnOf "first_twice" "first_twice" (defArgs sFt) (defBody sFt) (defScope sFt) .none kV15 dc15 pm15 an15 cv15 ct15), sl15⟩)
    (cc15 : PySem.W.codeIn K cv15 "first_twice" = true)
    (k15 : PySem.W.keepIn K (.ref f15) = true)
    (a18 : PySem.W.nsIn K mainGlobals "_first_wrong" = some (some (.ref f18)))
    (l18 : K.lookup f18 = some ⟨oc18, od18, .func (PySem.W.fnOf "_first_wrong" "_first_wrong" (defArgs sFW) (defBody sFW) (defScope sFW) .none kV18 dc18 pm18 an18 cv18 ct18), sl18⟩)
    (cc18 : PySem.W.codeIn K cv18 "_first_wrong" = true)
    (k18 : PySem.W.keepIn K (.ref f18) = true)
    (a19 : PySem.W.nsIn K mainGlobals "_check_unlike" = some (some (.ref f19)))
    (l19 : K.lookup f19 = some ⟨oc19, od19, .func (PySem.W.fnOf "_check_unlike" "_check_unlike" (defArgs sCU) (defBody sCU) (defScope sCU) .none kV19 dc19 pm19 an19 cv19 ct19), sl19⟩)
    (cc19 : PySem.W.codeIn K cv19 "_check_unlike" = true)
    (k19 : PySem.W.keepIn K (.ref f19) = true)
    (a20 : PySem.W.nsIn K mainGlobals "check_pin" = some (some (.ref f20)))
    (l20 : K.lookup f20 = some ⟨oc20, od20, .func (PySem.W.fnOf "check_pin" "check_pin" (defArgs sC1) (defBody sC1) (defScope sC1) .none kV20 dc20 pm20 an20 cv20 ct20), sl20⟩)
    (cc20 : PySem.W.codeIn K cv20 "check_pin" = true)
    (k20 : PySem.W.keepIn K (.ref f20) = true)
    (a21 : PySem.W.nsIn K mainGlobals "check_pins" = some (some (.ref f21)))
    (l21 : K.lookup f21 = some ⟨oc21, od21, .func (PySem.W.fnOf "check_pins" "check_pins" (defArgs sCP) (defBody sCP) (defScope sCP) .none kV21 dc21 pm21 an21 cv21 ct21), sl21⟩)
    (cc21 : PySem.W.codeIn K cv21 "check_pins" = true)
    (k21 : PySem.W.keepIn K (.ref f21) = true)
    (a22 : PySem.W.nsIn K mainGlobals "check_order" = some (some (.ref f22)))
    (l22 : K.lookup f22 = some ⟨oc22, od22, .func (PySem.W.fnOf "check_order" "check_order" (defArgs sCO) (defBody sCO) (defScope sCO) .none kV22 dc22 pm22 an22 cv22 ct22), sl22⟩)
    (cc22 : PySem.W.codeIn K cv22 "check_order" = true)
    (k22 : PySem.W.keepIn K (.ref f22) = true)
    (a25 : PySem.W.nsIn K mainGlobals "is_row" = some (some (.ref f25)))
    (l25 : K.lookup f25 = some ⟨oc25, od25, .func (PySem.W.fnOf "is_row" "is_row" (defArgs sRow) (defBody sRow) (defScope sRow) .none kV25 dc25 pm25 an25 cv25 ct25), sl25⟩)
    (cc25 : PySem.W.codeIn K cv25 "is_row" = true)
    (k25 : PySem.W.keepIn K (.ref f25) = true)
    (a26 : PySem.W.nsIn K mainGlobals "are_rows" = some (some (.ref f26)))
    (l26 : K.lookup f26 = some ⟨oc26, od26, .func (PySem.W.fnOf "are_rows" "are_rows" (defArgs sRows) (defBody sRows) (defScope sRows) .none kV26 dc26 pm26 an26 cv26 ct26), sl26⟩)
    (cc26 : PySem.W.codeIn K cv26 "are_rows" = true)
    (k26 : PySem.W.keepIn K (.ref f26) = true)
    (a27 : PySem.W.nsIn K mainGlobals "are_places" = some (some (.ref f27)))
    (l27 : K.lookup f27 = some ⟨oc27, od27, .func (PySem.W.fnOf "are_places" "are_places" (defArgs sPlaces) (defBody sPlaces) (defScope sPlaces) .none kV27 dc27 pm27 an27 cv27 ct27), sl27⟩)
    (cc27 : PySem.W.codeIn K cv27 "are_places" = true)
    (k27 : PySem.W.keepIn K (.ref f27) = true)
    (a29 : PySem.W.nsIn K mainGlobals "steps_along" = some (some (.ref f29)))
    (l29 : K.lookup f29 = some ⟨oc29, od29, .func (PySem.W.fnOf "steps_along" "steps_along" (defArgs sSteps) (defBody sSteps) (defScope sSteps) .none kV29 dc29 pm29 an29 cv29 ct29), sl29⟩)
    (cc29 : PySem.W.codeIn K cv29 "steps_along" = true)
    (k29 : PySem.W.keepIn K (.ref f29) = true)
    (a31 : PySem.W.nsIn K mainGlobals "first_minor" = some (some (.ref f31)))
    (l31 : K.lookup f31 = some ⟨oc31, od31, .func (PySem.W.fnOf "first_minor" "first_minor" (defArgs sMinor) (defBody sMinor) (defScope sMinor) .none kV31 dc31 pm31 an31 cv31 ct31), sl31⟩)
    (cc31 : PySem.W.codeIn K cv31 "first_minor" = true)
    (k31 : PySem.W.keepIn K (.ref f31) = true)
    (a33 : PySem.W.nsIn K mainGlobals "products_of" = some (some (.ref f33)))
    (l33 : K.lookup f33 = some ⟨oc33, od33, .func (PySem.W.fnOf "products_of" "products_of" (defArgs sProd) (defBody sProd) (defScope sProd) .none kV33 dc33 pm33 an33 cv33 ct33), sl33⟩)
    (cc33 : PySem.W.codeIn K cv33 "products_of" = true)
    (k33 : PySem.W.keepIn K (.ref f33) = true)
    (a49 : PySem.W.nsIn K mainGlobals "_law_lens" = some (some (.ref f49)))
    (l49 : K.lookup f49 = some ⟨oc49, od49, .func (PySem.W.fnOf "_law_lens" "_law_lens" (defArgs sLens) (defBody sLens) (defScope sLens) .none kV49 dc49 pm49 an49 cv49 ct49), sl49⟩)
    (cc49 : PySem.W.codeIn K cv49 "_law_lens" = true)
    (k49 : PySem.W.keepIn K (.ref f49) = true)
    (a50 : PySem.W.nsIn K mainGlobals "_law_shot" = some (some (.ref f50)))
    (l50 : K.lookup f50 = some ⟨oc50, od50, .func (PySem.W.fnOf "_law_shot" "_law_shot" (defArgs sShot) (defBody sShot) (defScope sShot) .none kV50 dc50 pm50 an50 cv50 ct50), sl50⟩)
    (cc50 : PySem.W.codeIn K cv50 "_law_shot" = true)
    (k50 : PySem.W.keepIn K (.ref f50) = true)
    (a51 : PySem.W.nsIn K mainGlobals "_law_pick" = some (some (.ref f51)))
    (l51 : K.lookup f51 = some ⟨oc51, od51, .func (PySem.W.fnOf "_law_pick" "_law_pick" (defArgs sPick) (defBody sPick) (defScope sPick) .none kV51 dc51 pm51 an51 cv51 ct51), sl51⟩)
    (cc51 : PySem.W.codeIn K cv51 "_law_pick" = true)
    (k51 : PySem.W.keepIn K (.ref f51) = true)
    (a52 : PySem.W.nsIn K mainGlobals "_law_places" = some (some (.ref f52)))
    (l52 : K.lookup f52 = some ⟨oc52, od52, .func (PySem.W.fnOf "_law_places" "_law_places" (defArgs sPlc) (defBody sPlc) (defScope sPlc) .none kV52 dc52 pm52 an52 cv52 ct52), sl52⟩)
    (cc52 : PySem.W.codeIn K cv52 "_law_places" = true)
    (k52 : PySem.W.keepIn K (.ref f52) = true)
    (a53 : PySem.W.nsIn K mainGlobals "_law_order" = some (some (.ref f53)))
    (l53 : K.lookup f53 = some ⟨oc53, od53, .func (PySem.W.fnOf "_law_order" "_law_order" (defArgs sOrd) (defBody sOrd) (defScope sOrd) .none kV53 dc53 pm53 an53 cv53 ct53), sl53⟩)
    (cc53 : PySem.W.codeIn K cv53 "_law_order" = true)
    (k53 : PySem.W.keepIn K (.ref f53) = true)
    (a54 : PySem.W.nsIn K mainGlobals "_law_stands" = some (some (.ref f54)))
    (l54 : K.lookup f54 = some ⟨oc54, od54, .func (PySem.W.fnOf "_law_stands" "_law_stands" (defArgs sSta) (defBody sSta) (defScope sSta) .none kV54 dc54 pm54 an54 cv54 ct54), sl54⟩)
    (cc54 : PySem.W.codeIn K cv54 "_law_stands" = true)
    (k54 : PySem.W.keepIn K (.ref f54) = true)
    (a55 : PySem.W.nsIn K mainGlobals "_law_ordered_right" = some (some (.ref f55)))
    (l55 : K.lookup f55 = some ⟨oc55, od55, .func (PySem.W.fnOf "_law_ordered_right" "_law_ordered_right" (defArgs sOR) (defBody sOR) (defScope sOR) .none kV55 dc55 pm55 an55 cv55 ct55), sl55⟩)
    (cc55 : PySem.W.codeIn K cv55 "_law_ordered_right" = true)
    (k55 : PySem.W.keepIn K (.ref f55) = true)
    (a56 : PySem.W.nsIn K mainGlobals "_law_fewer_right" = some (some (.ref f56)))
    (l56 : K.lookup f56 = some ⟨oc56, od56, .func (PySem.W.fnOf "_law_fewer_right" "_law_fewer_right" (defArgs sFR) (defBody sFR) (defScope sFR) .none kV56 dc56 pm56 an56 cv56 ct56), sl56⟩)
    (cc56 : PySem.W.codeIn K cv56 "_law_fewer_right" = true)
    (k56 : PySem.W.keepIn K (.ref f56) = true)
    (a57 : PySem.W.nsIn K mainGlobals "_law_heard" = some (some (.ref f57)))
    (l57 : K.lookup f57 = some ⟨oc57, od57, .func (PySem.W.fnOf "_law_heard" "_law_heard" (defArgs sHd) (defBody sHd) (defScope sHd) .none kV57 dc57 pm57 an57 cv57 ct57), sl57⟩)
    (cc57 : PySem.W.codeIn K cv57 "_law_heard" = true)
    (k57 : PySem.W.keepIn K (.ref f57) = true)
    (a58 : PySem.W.nsIn K mainGlobals "_law_refused_right" = some (some (.ref f58)))
    (l58 : K.lookup f58 = some ⟨oc58, od58, .func (PySem.W.fnOf "_law_refused_right" "_law_refused_right" (defArgs sRF) (defBody sRF) (defScope sRF) .none kV58 dc58 pm58 an58 (.ref c58) ct58), sl58⟩)
    (cc58 : PySem.W.codeIn K (.ref c58) "_law_refused_right" = true)
    (k58 : PySem.W.keepIn K (.ref f58) = true)
    (a59 : PySem.W.nsIn K mainGlobals "law" = some (some (.ref f59)))
    (l59 : K.lookup f59 = some ⟨oc59, od59, .func (PySem.W.fnOf "law" "law" (defArgs sLaw) (defBody sLaw) (defScope sLaw) .none kV59 dc59 pm59 an59 cv59 ct59), sl59⟩)
    (cc59 : PySem.W.codeIn K cv59 "law" = true)
    (k59 : PySem.W.keepIn K (.ref f59) = true)
    (hd1 : PySem.W.codeHdIn K c58 P1 = true)
    (nT1 : K.lookup P1 = none)
    (z_isinstance : PySem.W.nsIn K mainGlobals "isinstance" = some none)
    (z_int : PySem.W.nsIn K mainGlobals "int" = some none)
    (z_bool : PySem.W.nsIn K mainGlobals "bool" = some none)
    (z_list : PySem.W.nsIn K mainGlobals "list" = some none)
    (z_tuple : PySem.W.nsIn K mainGlobals "tuple" = some none)
    (z_all : PySem.W.nsIn K mainGlobals "all" = some none)
    (z_len : PySem.W.nsIn K mainGlobals "len" = some none)
    (z_range : PySem.W.nsIn K mainGlobals "range" = some none)
    (z_abs : PySem.W.nsIn K mainGlobals "abs" = some none)
    (z_str : PySem.W.nsIn K mainGlobals "str" = some none)
    (z_sum : PySem.W.nsIn K mainGlobals "sum" = some none)
    (z_min : PySem.W.nsIn K mainGlobals "min" = some none)
    (z_enumerate : PySem.W.nsIn K mainGlobals "enumerate" = some none)
    (z_set : PySem.W.nsIn K mainGlobals "set" = some none)
    (z_repr : PySem.W.nsIn K mainGlobals "repr" = some none) :
    GG.LawG l w K CX0 13 63 "_law_script" mg fa h := by
  have e := hfa.symm.trans (PySem.W.mg_of X G a59)
  cases e
  have F12 := fun_mk (st := sInt) l12 cc12 k12
  have F13 := fun_mk (st := sWithin) l13 cc13 k13
  have F14 := fun_mk (st := sIsList) l14 cc14 k14
  have F15 := fun_mk (st := sFt) l15 cc15 k15
  have F18 := fun_mk (st := sFW) l18 cc18 k18
  have F19 := fun_mk (st := sCU) l19 cc19 k19
  have F20 := fun_mk (st := sC1) l20 cc20 k20
  have F21 := fun_mk (st := sCP) l21 cc21 k21
  have F22 := fun_mk (st := sCO) l22 cc22 k22
  have F25 := fun_mk (st := sRow) l25 cc25 k25
  have F26 := fun_mk (st := sRows) l26 cc26 k26
  have F27 := fun_mk (st := sPlaces) l27 cc27 k27
  have F29 := fun_mk (st := sSteps) l29 cc29 k29
  have F31 := fun_mk (st := sMinor) l31 cc31 k31
  have F33 := fun_mk (st := sProd) l33 cc33 k33
  have F49 := fun_mk (st := sLens) l49 cc49 k49
  have F50 := fun_mk (st := sShot) l50 cc50 k50
  have F51 := fun_mk (st := sPick) l51 cc51 k51
  have F52 := fun_mk (st := sPlc) l52 cc52 k52
  have F53 := fun_mk (st := sOrd) l53 cc53 k53
  have F54 := fun_mk (st := sSta) l54 cc54 k54
  have F55 := fun_mk (st := sOR) l55 cc55 k55
  have F56 := fun_mk (st := sFR) l56 cc56 k56
  have F57 := fun_mk (st := sHd) l57 cc57 k57
  have F58 := fun_mk (st := sRF) l58 cc58 k58
  have F59 := fun_mk (st := sLaw) l59 cc59 k59
  have FB := fun_mk (st := sBI) lB cB kB
  have FN := fun_mk (st := sNI) lN cN kN
  have FF := fun_mk (st := sFI) lF cF kF
  have FV := fun_mk (st := sVI) lV cV kV
  have FW := fun_mk (st := sWI) lW cW kW
  have FT := fun_mk (st := sTI) lT cT kT
  have FI := fun_mk (st := sPI) lI cI kI
  have FE := fun_mk (st := sEqP) lE cE kE
  have FS := fun_mk (st := sStrP) lS cS kS
  have FP := fun_mk (st := sPP) lP cP kP
  have FH := fun_mk (st := sPh) lH cH kH
  have FO := fun_mk (st := sIO) lO cO kO
  have FX := fun_mk (st := sWo) lX cX kX
  have FY := fun_mk (st := sWP) lY cY kY
  have B : Bn mg := ⟨PySem.W.mg_none_of X G z_isinstance, PySem.W.mg_none_of X G z_int, PySem.W.mg_none_of X G z_bool, PySem.W.mg_none_of X G z_list, PySem.W.mg_none_of X G z_tuple, PySem.W.mg_none_of X G z_all, PySem.W.mg_none_of X G z_len, PySem.W.mg_none_of X G z_range, PySem.W.mg_none_of X G z_abs, PySem.W.mg_none_of X G z_str, PySem.W.mg_none_of X G z_sum, PySem.W.mg_none_of X G z_min, PySem.W.mg_none_of X G z_enumerate⟩
  have hset := PySem.W.mg_none_of X G z_set
  have hrep := PySem.W.mg_none_of X G z_repr
  obtain ⟨oxB, exB, xfB, noB, subB⟩ := badB_ok hE
  obtain ⟨oxN, exN, xfN, noN, subN⟩ := badB_ok hN
  obtain ⟨oxF, exF, xfF, noF, subF⟩ := badB_ok hF
  obtain ⟨oxV, exV, xfV, noV, subV⟩ := valB_ok hV
  obtain ⟨oxW, exW, xfW, noW, subW⟩ := valB_ok hW
  obtain ⟨oxT, exT, xfT, no1, no2, subT⟩ := tooB_ok hT
  obtain ⟨u1, u2, u3, u4, u5, u6, u7, u8, u9, u10, u11, u12, u13⟩ := seB_ok hK
  obtain ⟨pt, pn, mk, kc⟩ := picB_ok hP
  have TBr : BrTxt K mg CB fB := ⟨oxB, PySem.W.mg_of X G aCB, noB, iB, tB⟩
  have TTr : TmT K mg CT fT := ⟨oxT, PySem.W.mg_of X G aCT, no1, no2, iT, tT⟩
  have Sm : SeM mg CS CP CW CN CF CT := ⟨PySem.W.mg_of X G aCS, PySem.W.mg_of X G aCP, PySem.W.mg_of X G aCW, PySem.W.mg_of X G aCN, PySem.W.mg_of X G aCF, PySem.W.mg_of X G aCT⟩
  have S : SeT K CS CP CW CN CF CT := ⟨fun C hC => by
    simp only [List.mem_cons, List.not_mem_nil, or_false] at hC
    rcases hC with rfl | rfl | rfl | rfl | rfl
    · exact ⟨subV, exV, xfV⟩
    · exact ⟨subW, exW, xfW⟩
    · exact ⟨subN, exN, xfN⟩
    · exact ⟨subF, exF, xfF⟩
    · exact ⟨subT, exT, xfT⟩, noV, noW, noN, noF, no1, no2, u1, u2, u3, u4, u5, u6, u7, u8, u9, u10, u11, u12, u13⟩
  have L : ∃ t, mg "LIMIT" = some (.int 1000000000 t) := ⟨tL, PySem.W.mg_of X G aL⟩
  have L4 : ∃ t, mg "FEWEST_PINS" = some (.int 4 t) := ⟨t4, PySem.W.mg_of X G a4⟩
  have L7 : ∃ t, mg "MOST_PINS" = some (.int 7 t) := ⟨t7, PySem.W.mg_of X G a7⟩
  refine ⟨PySem.W.fnOf "law" "law" (defArgs sLaw) (defBody sLaw) (defScope sLaw) .none kV59 dc59 pm59 an59 cv59 ct59, [(c58, P1)], spLaw K [(P1, qRF)], ⟨fun p hp => ?_, fun p hp => ?_, fun p hp => ?_⟩, fun s u => .of_eq rfl, fun H a ns hl _ hT hS => ?_, fun base _ _ TBs => ?_⟩
  · rw [List.mem_singleton] at hp
    subst hp
    exact tab1
  · rw [List.mem_singleton] at hp
    subst hp
    exact nT1
  · rw [List.mem_singleton] at hp
    subst hp
    exact PySem.W.codeHd_of_K X hd1
  · refine ⟨a, ns, rfl, hS, hl, fun x hx => ?_, fun _ => rfl⟩
    rw [List.mem_singleton] at hx
    subst hx
    exact LamX.TabS.nil (hT (c58, P1) (by simp))
  · have MN : ErM l.prog w K mg base "BadNumber" "part" CN := ⟨fN, _, ⟨oxN, PySem.W.mg_of X G aCN, noN, iN, tN⟩, ok_ni FN, FN.binds (ps := ["self", "part"]) fun _ _ _ _ _ _ us hl => match us, hl with | [_, _], _ => rfl⟩
    have MF : ErM l.prog w K mg base "Misfit" "part" CF := ⟨fF, _, ⟨oxF, PySem.W.mg_of X G aCF, noF, iF, tF⟩, ok_fi FF, FF.binds (ps := ["self", "part"]) fun _ _ _ _ _ _ us hl => match us, hl with | [_, _], _ => rfl⟩
    have MV : ErM l.prog w K mg base "NoPin" "value" CP := ⟨fV, _, ⟨oxV, PySem.W.mg_of X G aCP, noV, iV, tV⟩, ok_vi FV, FV.binds (ps := ["self", "value"]) fun _ _ _ _ _ _ us hl => match us, hl with | [_, _], _ => rfl⟩
    have MW : ErM l.prog w K mg base "Twice" "value" CW := ⟨fW, _, ⟨oxW, PySem.W.mg_of X G aCW, noW, iW, tW⟩, ok_wi FW, FW.binds (ps := ["self", "value"]) fun _ _ _ _ _ _ us hl => match us, hl with | [_, _], _ => rfl⟩
    have C12d : Callee l.prog w K mg base CX0 1 "is_integer" ["value"] (spInt K) := ⟨f12, _, PySem.W.mg_of X G a12, F12.kp, F12.binds (ps := ["value"]) fun _ _ _ _ _ _ us hl => match us, hl with | [_], _ => rfl, ok_int F12 B⟩
    have C13d : Callee l.prog w K mg base CX0 2 "is_within" ["value", "least", "most"] (spWithin K) := ⟨f13, _, PySem.W.mg_of X G a13, F13.kp, F13.binds (ps := ["value", "least", "most"]) fun _ _ _ _ _ _ us hl => match us, hl with | [_, _, _], _ => rfl, ok_within F13 C12d⟩
    have C14d : Callee l.prog w K mg base CX0 1 "is_list" ["value"] (spIsList K) := ⟨f14, _, PySem.W.mg_of X G a14, F14.kp, F14.binds (ps := ["value"]) fun _ _ _ _ _ _ us hl => match us, hl with | [_], _ => rfl, ok_isList F14 B⟩
    have C15d : Callee l.prog w K mg base CX0 1 "first_twice" ["values"] spFt := ⟨f15, _, PySem.W.mg_of X G a15, F15.kp, F15.binds (ps := ["values"]) fun _ _ _ _ _ _ us hl => match us, hl with | [_], _ => rfl, ok_ft F15 hset⟩
    have C18d : Callee l.prog w K mg base CX0 3 "_first_wrong" ["values", "many"] (spFW K) := ⟨f18, _, PySem.W.mg_of X G a18, F18.kp, F18.binds (ps := ["values", "many"]) fun _ _ _ _ _ _ us hl => match us, hl with | [_, _], _ => rfl, ok_fw F18 C14d C13d⟩
    have C19d : Callee l.prog w K mg base (L2.CX l.prog w) 3 "_check_unlike" ["values"] (spCU CW) := ⟨f19, _, PySem.W.mg_of X G a19, F19.kp, F19.binds (ps := ["values"]) fun _ _ _ _ _ _ us hl => match us, hl with | [_], _ => rfl, ok_cu F19 MW C15d⟩
    have C20d : Callee l.prog w K mg base (L2.CX l.prog w) 3 "check_pin" ["value", "many"] (spC1 K CP) := ⟨f20, _, PySem.W.mg_of X G a20, F20.kp, F20.binds (ps := ["value", "many"]) fun _ _ _ _ _ _ us hl => match us, hl with | [_, _], _ => rfl, ok_c1 F20 MV C13d⟩
    have C21d : Callee l.prog w K mg base (L2.CX l.prog w) 4 "check_pins" ["values", "many"] (spCP K CP CW) := ⟨f21, _, PySem.W.mg_of X G a21, F21.kp, F21.binds (ps := ["values", "many"]) fun _ _ _ _ _ _ us hl => match us, hl with | [_, _], _ => rfl, ok_cp F21 MV C18d C19d⟩
    have C22d : Callee l.prog w K mg base (L2.CX l.prog w) 5 "check_order" ["values", "many"] (spCO K CP CW CF) := ⟨f22, _, PySem.W.mg_of X G a22, F22.kp, F22.binds (ps := ["values", "many"]) fun _ _ _ _ _ _ us hl => match us, hl with | [_, _], _ => rfl, ok_co F22 B MF C21d⟩
    have C25d : Callee l.prog w K mg base CX0 3 "is_row" ["value", "fewest", "most"] (spRow K) := ⟨f25, _, PySem.W.mg_of X G a25, F25.kp, F25.binds (ps := ["value", "fewest", "most"]) fun _ _ _ _ _ _ us hl => match us, hl with | [_, _, _], _ => rfl, ok_row F25 B L C14d C13d⟩
    have C26d : Callee l.prog w K mg base CX0 4 "are_rows" ["value", "size"] (spRows K) := ⟨f26, _, PySem.W.mg_of X G a26, F26.kp, F26.binds (ps := ["value", "size"]) fun _ _ _ _ _ _ us hl => match us, hl with | [_, _], _ => rfl, ok_rows F26 B C14d C25d⟩
    have C27d : Callee l.prog w K mg base CX0 5 "are_places" ["value", "size"] (spPlaces K) := ⟨f27, _, PySem.W.mg_of X G a27, F27.kp, F27.binds (ps := ["value", "size"]) fun _ _ _ _ _ _ us hl => match us, hl with | [_, _], _ => rfl, ok_places F27 B C26d⟩
    have C29d : Callee l.prog w K mg base CX0 1 "steps_along" ["places"] spSteps := ⟨f29, _, PySem.W.mg_of X G a29, F29.kp, F29.binds (ps := ["places"]) fun _ _ _ _ _ _ us hl => match us, hl with | [_], _ => rfl, ok_steps F29 B⟩
    have C31d : Callee l.prog w K mg base CX0 1 "first_minor" ["one", "other"] spMinor := ⟨f31, _, PySem.W.mg_of X G a31, F31.kp, F31.binds (ps := ["one", "other"]) fun _ _ _ _ _ _ us hl => match us, hl with | [_, _], _ => rfl, ok_minor F31 B⟩
    have C33d : Callee l.prog w K mg base CX0 1 "products_of" ["rows"] spProd := ⟨f33, _, PySem.W.mg_of X G a33, F33.kp, F33.binds (ps := ["rows"]) fun _ _ _ _ _ _ us hl => match us, hl with | [_], _ => rfl, ok_prod F33 B⟩
    have mC := PySem.W.mg_of X G aC
    have GI := ok_pi (P := l.prog) (w := w) (base := base) FI B pt TBr FB C27d C29d
    have bI := FI.binds (ps := ["self", "places"]) fun _ _ _ _ _ _ us hl => match us, hl with | [_, _], _ => rfl
    have MkI : Mk K C fI := ⟨mk, iI, nI, kc⟩
    have TP : Pc l.prog w K mg base C CB := ⟨mC, pt, pn, ⟨fI, _, MkI, GI, bI, kbn13 fun us ws h1 h2 => match us, ws, h1, h2 with | [_], [_], _, _ => rfl⟩, ⟨fE, _, ok_eqP FE B pt pn mC, iE, nE, FE.binds (ps := ["self", "other"]) fun _ _ _ _ _ _ us hl => match us, hl with | [_, _], _ => rfl⟩, ⟨fS, _, ok_strP FS pt, iS, nS, FS.binds (ps := ["self"]) fun _ _ _ _ _ _ us hl => match us, hl with | [_], _ => rfl⟩, ⟨fP, _, ⟨iP, nP, FP.kp⟩, ok_pp FP pt C33d, FP.binds (ps := ["self"]) fun _ _ _ _ _ _ us hl => match us, hl with | [_], _ => rfl⟩, ⟨fH, _, ⟨iH, nH, FH.kp⟩, ok_ph FH pt C31d, FH.binds (ps := ["self"]) fun _ _ _ _ _ _ us hl => match us, hl with | [_], _ => rfl⟩⟩
    have PO : Po l.prog w K mg base C CP CW CF CN CT := ⟨⟨fO, _, ⟨iO, nO, FO.kp⟩, (ok_io FO pt mC ⟨fI, _, MkI, GI, bI⟩ C22d).imp (fun _ _ _ _ h => Bx.un h), FO.binds (ps := ["self", "pins"]) fun _ _ _ _ _ _ us hl => match us, hl with | [_, _], _ => rfl, kbn13 fun us ws h1 h2 => match us, ws, h1, h2 with | [_], [_], _, _ => rfl⟩,
      ⟨fX, _, ⟨iX, nX, FX.kp⟩, (ok_wo FX pt L4 MF mC ⟨fI, _, MkI, GI, bI⟩ C20d).imp (fun _ _ _ _ h => Bx.un h), FX.binds (ps := ["self", "pin"]) fun _ _ _ _ _ _ us hl => match us, hl with | [_, _], _ => rfl, kbn13 fun us ws h1 h2 => match us, ws, h1, h2 with | [_], [_], _, _ => rfl⟩,
      ⟨fY, _, ⟨iY, nY, FY.kp⟩, (ok_wp FY pt L L7 MN TTr FT mC ⟨fI, _, MkI, GI, bI⟩ C13d).imp (fun _ _ _ _ h => Bx.un h), FY.binds (ps := ["self", "x", "y"]) fun _ _ _ _ _ _ us hl => match us, hl with | [_, _, _], _ => rfl, kbnR fun us ws h1 h2 => match us, ws, h1, h2 with | [_], [_, _], _, _ => rfl⟩⟩
    have C49d : Callee l.prog w K mg base CX0 1 "_law_lens" ["_law_script"] (spLens K) := ⟨f49, _, PySem.W.mg_of X G a49, F49.kp, F49.binds (ps := ["_law_script"]) fun _ _ _ _ _ _ us hl => match us, hl with | [_], _ => rfl, ok_lens F49 B⟩
    have C50d : Callee l.prog w K mg base CX0 1 "_law_shot" ["_law_lens_here", "_law_many"] spShot := ⟨f50, _, PySem.W.mg_of X G a50, F50.kp, F50.binds (ps := ["_law_lens_here", "_law_many"]) fun _ _ _ _ _ _ us hl => match us, hl with | [_, _], _ => rfl, ok_shot F50 B⟩
    have C51d : Callee l.prog w K mg base CX0 2 "_law_pick" ["_law_lens_here", "_law_some"] spPick := ⟨f51, _, PySem.W.mg_of X G a51, F51.kp, F51.binds (ps := ["_law_lens_here", "_law_some"]) fun _ _ _ _ _ _ us hl => match us, hl with | [_, _], _ => rfl, ok_pick F51 B C50d⟩
    have C52d : Callee l.prog w K mg base CX0 3 "_law_places" ["_law_lens_here"] spPlc := ⟨f52, _, PySem.W.mg_of X G a52, F52.kp, F52.binds (ps := ["_law_lens_here"]) fun _ _ _ _ _ _ us hl => match us, hl with | [_], _ => rfl, ok_plc F52 B C50d C51d⟩
    have C53d : Callee l.prog w K mg base CX0 2 "_law_order" ["_law_lens_here", "_law_pins"] spOrd := ⟨f53, _, PySem.W.mg_of X G a53, F53.kp, F53.binds (ps := ["_law_lens_here", "_law_pins"]) fun _ _ _ _ _ _ us hl => match us, hl with | [_, _], _ => rfl, ok_ord F53 B C50d⟩
    have C54d : Callee l.prog w K mg base CX0 1 "_law_stands" ["_law_picture", "_law_places_here"] (spSta C) := ⟨f54, _, PySem.W.mg_of X G a54, F54.kp, F54.binds (ps := ["_law_picture", "_law_places_here"]) fun _ _ _ _ _ _ us hl => match us, hl with | [_, _], _ => rfl, ok_sta F54 B TP⟩
    have C55d : Callee l.prog w K mg base CX0 10 "_law_ordered_right" ["_law_lens_here", "_law_places_here"] spOr := ⟨f55, _, PySem.W.mg_of X G a55, F55.kp, F55.binds (ps := ["_law_lens_here", "_law_places_here"]) fun _ _ _ _ _ _ us hl => match us, hl with | [_, _], _ => rfl, ok_or F55 B TP PO C53d C54d⟩
    have C56d : Callee l.prog w K mg base CX0 10 "_law_fewer_right" ["_law_lens_here", "_law_places_here"] spOr := ⟨f56, _, PySem.W.mg_of X G a56, F56.kp, F56.binds (ps := ["_law_lens_here", "_law_places_here"]) fun _ _ _ _ _ _ us hl => match us, hl with | [_, _], _ => rfl, ok_fr F56 B TP PO C50d C51d C54d⟩
    have mH := PySem.W.mg_of X G a57
    have hm1 : (P1, qRF) ∈ [(P1, qRF)] := by simp
    have hu1 : ∀ x ∈ [(P1, qRF)], x.1 = P1 → x.2 = qRF := fun x hx _ => by
      rw [List.mem_singleton] at hx
      subst hx
      rfl
    have TB1 := TBs (c58, P1) (by simp)
    have C58d := ok_rf hm1 hu1 l58 cc58 TB1 B hrep TP PO S Sm F57 mH C51d C53d C50d
    exact ok_law F59 B C49d C52d C55d C56d ⟨f58, _, PySem.W.mg_of X G a58, F58.kp, F58.binds (ps := ["_law_lens_here", "_law_places_here"]) fun _ _ _ _ _ _ us hl => match us, hl with | [_, _], _ => rfl, C58d⟩
end K13

open PySem PySem.W PyProof.Rows in
set_option maxRecDepth 100000 in
set_option maxHeartbeats 0 in
theorem PySem.Challenge.cw_farseen_k13_pins_in_order_left_out_put_i_holds : PySem.Challenge.rw_farseen_k13_pins_in_order_left_out_put_i.Holds := by
  w_on; o_law; k_head; (case hw => w_witness2)
  k_fill
  refine GG.walk_g (l := PySem.Challenge.rw_farseen_k13_pins_in_order_left_out_put_i) (n := 63) (k := 13) (x := "_law_script") (CX := fun _ => L2.CX0) rfl (by decide) rfl ⟨rfl, by decide, by decide⟩ (fun w h Y => PySem.W.km_in_of Y) ?F (fun _ _ _ _ _ z => z)
  case F =>
    intro w mg fa h Y KX G hmg
    refine' K13.all_mk (P1 := 500) KX G hmg (PySem.W.km_tabs_of Y 500 (by decide)) ?aC ?aCB ?aCS ?aCP ?aCW ?aCN ?aCF ?aCT ?aL ?a4 ?a7 ?iB ?tB ?iN ?tN ?iF ?tF ?iV ?tV ?iW ?tW ?iT ?tT ?iI ?nI ?iE ?nE ?iS ?nS ?iP ?nP ?iH ?nH ?iO ?nO ?iX ?nX ?iY ?nY ?lB ?cB ?kB ?lN ?cN ?kN ?lF ?cF ?kF ?lV ?cV ?kV ?lW ?cW ?kW ?lT ?cT ?kT ?lI ?cI ?kI ?lE ?cE ?kE ?lS ?cS ?kS ?lP ?cP ?kP ?lH ?cH ?kH ?lO ?cO ?kO ?lX ?cX ?kX ?lY ?cY ?kY ?hE ?hN ?hF ?hV ?hW ?hT ?hK ?hP ?a12 ?l12 ?cc12 ?k12 ?a13 ?l13 ?cc13 ?k13 ?a14 ?l14 ?cc14 ?k14 ?a15 ?l15 ?cc15 ?k15 ?a18 ?l18 ?cc18 ?k18 ?a19 ?l19 ?cc19 ?k19 ?a20 ?l20 ?cc20 ?k20 ?a21 ?l21 ?cc21 ?k21 ?a22 ?l22 ?cc22 ?k22 ?a25 ?l25 ?cc25 ?k25 ?a26 ?l26 ?cc26 ?k26 ?a27 ?l27 ?cc27 ?k27 ?a29 ?l29 ?cc29 ?k29 ?a31 ?l31 ?cc31 ?k31 ?a33 ?l33 ?cc33 ?k33 ?a49 ?l49 ?cc49 ?k49 ?a50 ?l50 ?cc50 ?k50 ?a51 ?l51 ?cc51 ?k51 ?a52 ?l52 ?cc52 ?k52 ?a53 ?l53 ?cc53 ?k53 ?a54 ?l54 ?cc54 ?k54 ?a55 ?l55 ?cc55 ?k55 ?a56 ?l56 ?cc56 ?k56 ?a57 ?l57 ?cc57 ?k57 ?a58 ?l58 ?cc58 ?k58 ?a59 ?l59 ?cc59 ?k59 ?hd1 ?nT1 ?z_isinstance ?z_int ?z_bool ?z_list ?z_tuple ?z_all ?z_len ?z_range ?z_abs ?z_str ?z_sum ?z_min ?z_enumerate ?z_set ?z_repr
    (case aC => k_is)
    (case aCB => k_is)
    (case aCS => k_is)
    (case aCP => k_is)
    (case aCW => k_is)
    (case aCN => k_is)
    (case aCF => k_is)
    (case aCT => k_is)
    (case aL => k_is)
    (case a4 => k_is)
    (case a7 => k_is)
    (case iB => k_is)
    (case tB => k_is)
    (case iN => k_is)
    (case tN => k_is)
    (case iF => k_is)
    (case tF => k_is)
    (case iV => k_is)
    (case tV => k_is)
    (case iW => k_is)
    (case tW => k_is)
    (case iT => k_is)
    (case tT => k_is)
    (case iI => k_is)
    (case nI => k_is)
    (case iE => k_is)
    (case nE => k_is)
    (case iS => k_is)
    (case nS => k_is)
    (case iP => k_is)
    (case nP => k_is)
    (case iH => k_is)
    (case nH => k_is)
    (case iO => k_is)
    (case nO => k_is)
    (case iX => k_is)
    (case nX => k_is)
    (case iY => k_is)
    (case nY => k_is)
    (case lB => k_is)
    (case cB => k_is)
    (case kB => k_is)
    (case lN => k_is)
    (case cN => k_is)
    (case kN => k_is)
    (case lF => k_is)
    (case cF => k_is)
    (case kF => k_is)
    (case lV => k_is)
    (case cV => k_is)
    (case kV => k_is)
    (case lW => k_is)
    (case cW => k_is)
    (case kW => k_is)
    (case lT => k_is)
    (case cT => k_is)
    (case kT => k_is)
    (case lI => k_is)
    (case cI => k_is)
    (case kI => k_is)
    (case lE => k_is)
    (case cE => k_is)
    (case kE => k_is)
    (case lS => k_is)
    (case cS => k_is)
    (case kS => k_is)
    (case lP => k_is)
    (case cP => k_is)
    (case kP => k_is)
    (case lH => k_is)
    (case cH => k_is)
    (case kH => k_is)
    (case lO => k_is)
    (case cO => k_is)
    (case kO => k_is)
    (case lX => k_is)
    (case cX => k_is)
    (case kX => k_is)
    (case lY => k_is)
    (case cY => k_is)
    (case kY => k_is)
    (case hE => first | kernel_rfl | k_is | rfl)
    (case hN => first | kernel_rfl | k_is | rfl)
    (case hF => first | kernel_rfl | k_is | rfl)
    (case hV => first | kernel_rfl | k_is | rfl)
    (case hW => first | kernel_rfl | k_is | rfl)
    (case hT => first | kernel_rfl | k_is | rfl)
    (case hK => first | kernel_rfl | k_is | rfl)
    (case hP => first | kernel_rfl | k_is | rfl)
    (case a12 => k_is)
    (case l12 => k_is)
    (case cc12 => k_is)
    (case k12 => k_is)
    (case a13 => k_is)
    (case l13 => k_is)
    (case cc13 => k_is)
    (case k13 => k_is)
    (case a14 => k_is)
    (case l14 => k_is)
    (case cc14 => k_is)
    (case k14 => k_is)
    (case a15 => k_is)
    (case l15 => k_is)
    (case cc15 => k_is)
    (case k15 => k_is)
    (case a18 => k_is)
    (case l18 => k_is)
    (case cc18 => k_is)
    (case k18 => k_is)
    (case a19 => k_is)
    (case l19 => k_is)
    (case cc19 => k_is)
    (case k19 => k_is)
    (case a20 => k_is)
    (case l20 => k_is)
    (case cc20 => k_is)
    (case k20 => k_is)
    (case a21 => k_is)
    (case l21 => k_is)
    (case cc21 => k_is)
    (case k21 => k_is)
    (case a22 => k_is)
    (case l22 => k_is)
    (case cc22 => k_is)
    (case k22 => k_is)
    (case a25 => k_is)
    (case l25 => k_is)
    (case cc25 => k_is)
    (case k25 => k_is)
    (case a26 => k_is)
    (case l26 => k_is)
    (case cc26 => k_is)
    (case k26 => k_is)
    (case a27 => k_is)
    (case l27 => k_is)
    (case cc27 => k_is)
    (case k27 => k_is)
    (case a29 => k_is)
    (case l29 => k_is)
    (case cc29 => k_is)
    (case k29 => k_is)
    (case a31 => k_is)
    (case l31 => k_is)
    (case cc31 => k_is)
    (case k31 => k_is)
    (case a33 => k_is)
    (case l33 => k_is)
    (case cc33 => k_is)
    (case k33 => k_is)
    (case a49 => k_is)
    (case l49 => k_is)
    (case cc49 => k_is)
    (case k49 => k_is)
    (case a50 => k_is)
    (case l50 => k_is)
    (case cc50 => k_is)
    (case k50 => k_is)
    (case a51 => k_is)
    (case l51 => k_is)
    (case cc51 => k_is)
    (case k51 => k_is)
    (case a52 => k_is)
    (case l52 => k_is)
    (case cc52 => k_is)
    (case k52 => k_is)
    (case a53 => k_is)
    (case l53 => k_is)
    (case cc53 => k_is)
    (case k53 => k_is)
    (case a54 => k_is)
    (case l54 => k_is)
    (case cc54 => k_is)
    (case k54 => k_is)
    (case a55 => k_is)
    (case l55 => k_is)
    (case cc55 => k_is)
    (case k55 => k_is)
    (case a56 => k_is)
    (case l56 => k_is)
    (case cc56 => k_is)
    (case k56 => k_is)
    (case a57 => k_is)
    (case l57 => k_is)
    (case cc57 => k_is)
    (case k57 => k_is)
    (case a58 => k_is)
    (case l58 => k_is)
    (case cc58 => k_is)
    (case k58 => k_is)
    (case a59 => k_is)
    (case l59 => k_is)
    (case cc59 => k_is)
    (case k59 => k_is)
    (case hd1 => first | kernel_rfl | rfl)
    (case nT1 => first | kernel_rfl | rfl)
    (case z_isinstance => k_is)
    (case z_int => k_is)
    (case z_bool => k_is)
    (case z_list => k_is)
    (case z_tuple => k_is)
    (case z_all => k_is)
    (case z_len => k_is)
    (case z_range => k_is)
    (case z_abs => k_is)
    (case z_str => k_is)
    (case z_sum => k_is)
    (case z_min => k_is)
    (case z_enumerate => k_is)
    (case z_set => k_is)
    (case z_repr => k_is)
