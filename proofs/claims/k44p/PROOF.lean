import PyProof.Rows.All
import Wide.All
import OpenK.AllK
import Wide.FinOn
import HandS.ForMost
import HandS.IsInst
import HandS.Wide
import HandS.ExcInit
import HandS.WordsExc
import HandS.SetKeys
import HandS.Zip
import HandS.Style
import HandS.Text
import HandS.Conv
import HandS.TupAny
import HandS.TupMul
import KE.KExcIs
import HandS.WideBits
import HandS.Flow
import HandS.Deep
import HandS.FStr
import HandS.Codes
import HandS.NoneIn
import HandS.Defaults
import HandS.ClsMeth
import HandS.MakeKwOnly
import HandS.ExcField
import HandS.ExcValue
import KE.KCallOwn
import HandS.OwnEq
import PyProof.InstEq
import HandS.StrMore
import HandS.Gcd
import KE.DataMinMax
import HandS.EndTab
import HandS.HeadWalk
import HandS.Head0
import HandS.Head1
import HandS.Head2
import HandS.HeadEnd
import HandS.HeadHook1
import HandS.HeadHook2
import HandS.HeadHook3
import HandS.HeadHook4
import HandS.HeadNt
import KE.IntTextLaws
import HandS.Head3
import PySem.Challenge.RW_farseen_k44_sayings_made_and_kept
set_option Elab.async false
set_option linter.all false
set_option maxRecDepth 100000
set_option maxHeartbeats 0
namespace Den
open PySem PySem.Spec PyProof.Rows L2
/-! ## Programs by values: what a def gives for trees of values

D: a value as a tree; a thing that is changed is told by its number in a list of such things. -/
inductive D where
  | non | bl (b : Bool) | int (i : Int) | str (z : Str) | raw (v : V)
  | lst (ds : List D) | tup (ds : List D) | ins (c : String) (ns : List String) (ds : List D) | hnd (i : Nat)
  | dct (ks : List Key) (ds : List D) | scr (ns : List Int)
/-- a thing that is changed -/
inductive MO where
  | lst (ds : List D) | ins (c : String) (ns : List String) (ds : List D) | dK (ks : List Key) (ds : List D) | dT (ks : List (List Key)) (ds : List D) | dead
abbrev Sd := List MO
structure Gm where
  K : PySem.W.Frag
  mg : Str → Option Value
  cs : List String
def sN (ns : List String) : List Str := ns.map Str.ofString
def hp0 : Hp := fun _ => none
/-- where the changed things stand, by number; what else is being changed -/
structure Mp where
  hs : List Addr
  gh : List Addr
instance : Membership Addr Mp := ⟨fun m a => a ∈ m.hs ∨ a ∈ m.gh⟩
theorem mp_mem {m : Mp} {a : Addr} : a ∈ m ↔ a ∈ m.hs ∨ a ∈ m.gh := Iff.rfl
def LsA (m : Mp) (H : Hp) (a : Addr) (vs : List V) : Prop := H a = some (.lst vs) ∧ a ∉ m
def TpA (G : Gm) (m : Mp) (H : Hp) (a : Addr) (vs : List V) : Prop := (Rd H a (.tup vs) ∧ a ∉ m) ∨ SqT G.K hp0 a vs
/-- a list that is not changed: told, or an object of the written part -/
def ScA (G : Gm) (m : Mp) (H : Hp) (a : Addr) (vs : List V) : Prop := (Rd H a (.lst vs) ∧ a ∉ m) ∨ SqL G.K hp0 a vs
theorem ScA.sq {G : Gm} {m : Mp} {H : Hp} {a : Addr} {vs : List V} (h : ScA G m H a vs) : SqL G.K H a vs := h.elim (fun h => .inl h.1) fun h => h.elim (fun z => z.elim (fun z => by cases z) fun ⟨_, z⟩ => by cases z) .inr
def DkA (G : Gm) (m : Mp) (H : Hp) (a : Addr) (ks : List Key) (vs : List V) : Prop := Rd H a (.dK (ks.zip vs)) ∧ a ∉ m
section
variable (G : Gm) (m : Mp) (H : Hp)
mutual
def Rep : D → V → Prop
  | .non, v => v = .non
  | .bl b, v => v = .bl b
  | .int i, v => v = .int i
  | .str z, v => v = .str z
  | .raw u, v => v = u ∧ ∀ a, u ≠ .ref a
  | .hnd i, v => ∃ a, m.hs[i]? = some a ∧ v = .ref a
  | .lst ds, v => ∃ a vs, v = .ref a ∧ LsA m H a vs ∧ Reps ds vs
  | .tup ds, v => ∃ a vs, v = .ref a ∧ TpA G m H a vs ∧ Reps ds vs
  | .ins c ns ds, v => ∃ a C dx vs, v = .ref a ∧ a ∉ m ∧ H a = some (.ins C dx ((sN ns).zip vs)) ∧ (G.mg (Str.ofString c) = some (.ref C) ∧ c ∈ G.cs ∧ ∀ f ∈ ns, NoAttr G.K C (Str.ofString f)) ∧ ns.length = ds.length ∧ Reps ds vs
  | .dct ks ds, v => ∃ a vs, v = .ref a ∧ DkA G m H a ks vs ∧ ks.length = ds.length ∧ Reps ds vs
  | .scr ns, v => ∃ a, v = .ref a ∧ ScA G m H a (ns.map V.int)
def Reps : List D → List V → Prop
  | [], vs => vs = []
  | d :: ds, vs => ∃ v r, vs = v :: r ∧ Rep d v ∧ Reps ds r
end
def RepO (a : Addr) : MO → Prop
  | .lst ds => ∃ vs, H a = some (.lst vs) ∧ Reps G m H ds vs
  | .ins c ns ds => ∃ C dx vs, H a = some (.ins C dx ((sN ns).zip vs)) ∧ (G.mg (Str.ofString c) = some (.ref C) ∧ c ∈ G.cs ∧ ∀ f ∈ ns, NoAttr G.K C (Str.ofString f)) ∧ ns.length = ds.length ∧ Reps G m H ds vs
  | .dK ks ds => ∃ vs, H a = some (.dK (ks.zip vs)) ∧ ks.length = ds.length ∧ Reps G m H ds vs
  | .dT ks ds => ∃ vs, H a = some (.dT (ks.zip vs)) ∧ ks.length = ds.length ∧ Reps G m H ds vs
  | .dead => ∃ o, H a = some o
structure RepS (S : Sd) : Prop where
  nd : m.hs.Nodup
  len : m.hs.length = S.length
  gh : ∀ a ∈ m.gh, (∃ u, H a = some u) ∧ a ∉ m.hs
  at_ : ∀ (i : Nat) (o : MO), S[i]? = some o → ∃ a, m.hs[i]? = some a ∧ RepO G m H a o
/-- the slots -/
structure RepE (env : List (Option D)) (σ : L2.St) : Prop where
  len : env.length = σ.length
  at_ : ∀ (i : Nat) (d : D), env[i]? = some (some d) → ∃ v, σ[i]? = some (some v) ∧ Rep G m H d v
end
/-- what stood stands: all but the things that are changed; new ones come last -/
structure Go (m : Mp) (H : Hp) (m' : Mp) (H' : Hp) : Prop where
  ext : ∃ n, m' = ⟨m.hs ++ n, m.gh⟩ ∧ ∀ a ∈ n, H a = none
  fr : ∀ a o, H a = some o → a ∉ m.hs → H' a = some o
  dm : ∀ a, H a ≠ none → H' a ≠ none
theorem Go.refl (m : Mp) (H : Hp) : Go m H m H := ⟨⟨[], by rw [List.append_nil], fun _ h => (List.not_mem_nil h).elim⟩, fun _ _ h _ => h, fun _ h => h⟩
theorem Go.of {m : Mp} {H H' : Hp} (s : Same H H') : Go m H m H' := ⟨⟨[], by rw [List.append_nil], fun _ h => (List.not_mem_nil h).elim⟩, fun _ _ h _ => s _ _ h, fun a h => by
  cases e : H a with
  | none => exact absurd e h
  | some o => rw [s _ _ e]; exact fun z => nomatch z⟩
theorem Go.trans {m m1 m2 : Mp} {H H1 H2 : Hp} (g : Go m H m1 H1) (k : Go m1 H1 m2 H2) : Go m H m2 H2 := by
  obtain ⟨n, e, f⟩ := g.ext
  obtain ⟨n', e', f'⟩ := k.ext
  refine ⟨⟨n ++ n', by rw [e', e]; simp only [List.append_assoc], fun a h => ?_⟩, fun a o h na => ?_, fun a h => k.dm _ (g.dm _ h)⟩
  · rcases List.mem_append.mp h with h | h
    · exact f a h
    · cases q : H a with
      | none => rfl
      | some o => exact absurd (f' a h) (g.dm a (by rw [q]; exact fun z => nomatch z))
  · refine k.fr _ _ (g.fr _ _ h na) fun z => ?_
    rw [e] at z
    rcases List.mem_append.mp z with z | z
    · exact na z
    · rw [f a z] at h
      cases h
theorem Go.out {m m' : Mp} {H H' : Hp} (g : Go m H m' H') {a : Addr} {o : HO} (h : H a = some o) (na : a ∉ m) : H' a = some o ∧ a ∉ m' := by
  obtain ⟨n, e, f⟩ := g.ext
  refine ⟨g.fr _ _ h fun z => na (.inl z), fun z => ?_⟩
  rw [e] at z
  rcases z with z | z
  · rcases List.mem_append.mp z with z | z
    · exact na (.inl z)
    · rw [f a z] at h
      cases h
  · exact na (.inr z)
theorem Go.ix {m m' : Mp} {H H' : Hp} (g : Go m H m' H') {i : Nat} {a : Addr} (h : m.hs[i]? = some a) : m'.hs[i]? = some a := by
  obtain ⟨n, e, _⟩ := g.ext
  rw [e]
  show (m.hs ++ n)[i]? = some a
  rw [List.getElem?_append_left (List.getElem?_eq_some_iff.mp h).1]
  exact h
/-- what trees need so as to stand still -/
structure Mv (m : Mp) (H : Hp) (m' : Mp) (H' : Hp) : Prop where
  out : ∀ {a : Addr} {o : HO}, H a = some o → a ∉ m → H' a = some o ∧ a ∉ m'
  ix : ∀ {i : Nat} {a : Addr}, m.hs[i]? = some a → m'.hs[i]? = some a
theorem Mv.rd {m m' : Mp} {H H' : Hp} (g : Mv m H m' H') {a : Addr} {o : HO} (h : Rd H a o) (na : a ∉ m) : Rd H' a o ∧ a ∉ m' := by
  rcases h with h | ⟨u, h⟩
  · exact ⟨.inl (g.out h na).1, (g.out h na).2⟩
  · exact ⟨.inr ⟨u, (g.out h na).1⟩, (g.out h na).2⟩
theorem Mv.ls {m m' : Mp} {H H' : Hp} (g : Mv m H m' H') {a : Addr} {vs : List V} (h : LsA m H a vs) : LsA m' H' a vs := g.out h.1 h.2
theorem Mv.tp {G : Gm} {m m' : Mp} {H H' : Hp} (g : Mv m H m' H') {a : Addr} {vs : List V} (h : TpA G m H a vs) : TpA G m' H' a vs := h.imp (fun h => g.rd h.1 h.2) id
theorem Mv.sc {G : Gm} {m m' : Mp} {H H' : Hp} (g : Mv m H m' H') {a : Addr} {vs : List V} (h : ScA G m H a vs) : ScA G m' H' a vs := h.imp (fun h => g.rd h.1 h.2) id
theorem Go.mv {m m' : Mp} {H H' : Hp} (g : Go m H m' H') : Mv m H m' H' := ⟨g.out, g.ix⟩
theorem Go.rd {m m' : Mp} {H H' : Hp} (g : Go m H m' H') {a : Addr} {o : HO} (h : Rd H a o) (na : a ∉ m) : Rd H' a o ∧ a ∉ m' := g.mv.rd h na
theorem Go.ls {m m' : Mp} {H H' : Hp} (g : Go m H m' H') {a : Addr} {vs : List V} (h : LsA m H a vs) : LsA m' H' a vs := g.mv.ls h
theorem Go.tp {G : Gm} {m m' : Mp} {H H' : Hp} (g : Go m H m' H') {a : Addr} {vs : List V} (h : TpA G m H a vs) : TpA G m' H' a vs := g.mv.tp h
section
variable {G : Gm} {m m' : Mp} {H H' : Hp}
mutual
theorem Rep.mv (g : Mv m H m' H') : ∀ (d : D) (v : V), Rep G m H d v → Rep G m' H' d v
  | .non, v, h => h
  | .bl b, v, h => h
  | .int i, v, h => h
  | .str z, v, h => h
  | .raw u, v, h => h
  | .hnd i, v, h => by
    obtain ⟨a, e, h⟩ := h
    exact ⟨a, g.ix e, h⟩
  | .lst ds, v, h => by
    obtain ⟨a, vs, e, l, r⟩ := h
    exact ⟨a, vs, e, g.ls l, Reps.mv g ds vs r⟩
  | .tup ds, v, h => by
    obtain ⟨a, vs, e, l, r⟩ := h
    exact ⟨a, vs, e, g.tp l, Reps.mv g ds vs r⟩
  | .ins c ns ds, v, h => by
    obtain ⟨a, C, dx, vs, e, na, ha, hc, hl, r⟩ := h
    exact ⟨a, C, dx, vs, e, (g.out ha na).2, (g.out ha na).1, hc, hl, Reps.mv g ds vs r⟩
  | .dct ks ds, v, h => by
    obtain ⟨a, vs, e, l, hl, r⟩ := h
    exact ⟨a, vs, e, g.rd l.1 l.2, hl, Reps.mv g ds vs r⟩
  | .scr ns, v, h => by
    obtain ⟨a, e, l⟩ := h
    exact ⟨a, e, g.sc l⟩
theorem Reps.mv (g : Mv m H m' H') : ∀ (ds : List D) (vs : List V), Reps G m H ds vs → Reps G m' H' ds vs
  | [], vs, h => h
  | d :: ds, vs, h => by
    obtain ⟨v, r, e, h1, h2⟩ := h
    exact ⟨v, r, e, Rep.mv g d v h1, Reps.mv g ds r h2⟩
end
theorem Rep.go (g : Go m H m' H') (d : D) (v : V) : Rep G m H d v → Rep G m' H' d v := Rep.mv g.mv d v
theorem Reps.go (g : Go m H m' H') (d : List D) (v : List V) : Reps G m H d v → Reps G m' H' d v := Reps.mv g.mv d v
theorem RepO.mv (g : Mv m H m' H') {a : Addr} {o : MO} (ha : ∀ u, H a = some u → H' a = some u) (h : RepO G m H a o) : RepO G m' H' a o := by
  cases o with
  | lst ds =>
    obtain ⟨vs, e, r⟩ := h
    exact ⟨vs, ha _ e, Reps.mv g _ _ r⟩
  | ins c ns ds =>
    obtain ⟨C, dx, vs, e, hc, hl, r⟩ := h
    exact ⟨C, dx, vs, ha _ e, hc, hl, Reps.mv g _ _ r⟩
  | dK ks ds =>
    obtain ⟨vs, e, hl, r⟩ := h
    exact ⟨vs, ha _ e, hl, Reps.mv g _ _ r⟩
  | dT ks ds =>
    obtain ⟨vs, e, hl, r⟩ := h
    exact ⟨vs, ha _ e, hl, Reps.mv g _ _ r⟩
  | dead =>
    obtain ⟨u, e⟩ := h
    exact ⟨u, ha _ e⟩
theorem RepO.go (g : Go m H m' H') {a : Addr} {o : MO} (ha : ∀ u, H a = some u → H' a = some u) (h : RepO G m H a o) : RepO G m' H' a o := h.mv g.mv ha
theorem RepO.some {a : Addr} {o : MO} (h : RepO G m H a o) : ∃ u, H a = some u := by
  cases o with
  | lst ds =>
    obtain ⟨vs, e, r⟩ := h
    exact ⟨_, e⟩
  | ins c ns ds =>
    obtain ⟨C, dx, vs, e, _⟩ := h
    exact ⟨_, e⟩
  | dK ks ds =>
    obtain ⟨vs, e, _⟩ := h
    exact ⟨_, e⟩
  | dT ks ds =>
    obtain ⟨vs, e, _⟩ := h
    exact ⟨_, e⟩
  | dead => exact h
theorem RepS.mem {S : Sd} (r : RepS G m H S) {a : Addr} (h : a ∈ m) : ∃ u, H a = some u := by
  rcases h with h | h
  case inr => exact (r.gh a h).1
  obtain ⟨i, hi⟩ := List.getElem?_of_mem h
  have hl : i < S.length := by
    rw [← r.len]
    exact (List.getElem?_eq_some_iff.mp hi).1
  obtain ⟨b, e, q⟩ := r.at_ i _ (List.getElem?_eq_getElem hl)
  rw [hi] at e
  cases e
  exact q.some
theorem RepS.new_out {S : Sd} (r : RepS G m H S) {p : Addr} (hp : H p = none) : p ∉ m := fun h => by
  obtain ⟨u, e⟩ := r.mem h
  rw [hp] at e
  cases e
theorem RepS.same {S : Sd} (r : RepS G m H S) (s : Same H H') : RepS G m H' S := ⟨r.nd, r.len, fun a h => ⟨(r.gh a h).1.elim fun u e => ⟨u, s _ _ e⟩, (r.gh a h).2⟩, fun i o h => by
  obtain ⟨a, e, q⟩ := r.at_ i o h
  exact ⟨a, e, q.go (.of s) fun u => s _ _⟩⟩
def Mp.add (m : Mp) (p : Addr) : Mp := ⟨m.hs ++ [p], m.gh⟩
theorem same_upd {p : Addr} {o : HO} (h : H p = none) : Same H (upd H p o) := fun b u e => by
  rw [upd_ne (ne_of_none e h)]
  exact e
/-- a new thing that will be changed -/
theorem RepS.new {S : Sd} (r : RepS G m H S) {p : Addr} {u : HO} {o : MO} (hp : H p = none) (h : RepO G (m.add p) (upd H p u) p o) : RepS G (m.add p) (upd H p u) (S ++ [o]) ∧ Go m H (m.add p) (upd H p u) := by
  have s := same_upd (o := u) hp
  have g : Go m H (m.add p) (upd H p u) := ⟨⟨[p], rfl, fun a h => by rw [List.mem_singleton.mp h]; exact hp⟩, fun a o h _ => s _ _ h, (Go.of (m := m) s).dm⟩
  refine ⟨⟨List.nodup_append.mpr ⟨r.nd, List.pairwise_singleton .., fun a ha b hb => ?_⟩, by show (m.hs ++ [p]).length = _; rw [List.length_append, List.length_append, r.len]; rfl, fun a h => ⟨(r.gh a h).1.elim fun u e => ⟨u, s _ _ e⟩, fun z => ?_⟩, fun i o' e => ?_⟩, g⟩
  · rw [List.mem_singleton.mp hb]
    intro z
    subst z
    exact r.new_out hp (.inl ha)
  · rcases List.mem_append.mp z with z | z
    · exact (r.gh a h).2 z
    · rw [List.mem_singleton.mp z] at h
      exact r.new_out hp (.inr h)
  · by_cases hi : i < S.length
    · rw [List.getElem?_append_left hi] at e
      obtain ⟨a, e1, q⟩ := r.at_ i o' e
      exact ⟨a, g.ix e1, q.go g fun u => s _ _⟩
    · rw [List.getElem?_append_right (Nat.le_of_not_lt hi)] at e
      have h0 : i = S.length := by
        have := (List.getElem?_eq_some_iff.mp e).1
        simp at this
        omega
      subst h0
      rw [Nat.sub_self] at e
      cases e
      refine ⟨p, ?_, h⟩
      show (m.hs ++ [p])[S.length]? = some p
      rw [← r.len, List.getElem?_append_right (Nat.le_refl _), Nat.sub_self]
      rfl
/-- one of them is changed -/
theorem RepS.set {S : Sd} (r : RepS G m H S) {i : Nat} {a : Addr} {u : HO} {o : MO} (ha : m.hs[i]? = some a) (hr : RepO G m (upd H a u) a o) : RepS G m (upd H a u) (S.set i o) ∧ Go m H m (upd H a u) := by
  have hm : a ∈ m.hs := List.mem_of_getElem? ha
  have g : Go m H m (upd H a u) := ⟨⟨[], by rw [List.append_nil], fun _ h => (List.not_mem_nil h).elim⟩, fun b o h nb => by
    rw [upd_ne (fun z => nb (by rw [z]; exact hm))]
    exact h, fun b h => by
    by_cases e : b = a
    · rw [e, upd_same]
      exact fun z => nomatch z
    · rw [upd_ne e]
      exact h⟩
  refine ⟨⟨r.nd, by rw [List.length_set]; exact r.len, fun b h => ⟨by
    cases q : upd H a u b with
    | some w => exact ⟨w, rfl⟩
    | none => exact absurd q (g.dm b (by obtain ⟨w, e⟩ := (r.gh b h).1; rw [e]; exact fun z => nomatch z)), (r.gh b h).2⟩, fun j o' e => ?_⟩, g⟩
  by_cases hj : i = j
  · subst hj
    rw [List.getElem?_set_self' ] at e
    cases q : S[i]? with
    | none => rw [q] at e; cases e
    | some z =>
      rw [q] at e
      cases e
      exact ⟨a, ha, hr⟩
  · rw [List.getElem?_set_ne hj] at e
    obtain ⟨b, e1, q⟩ := r.at_ j o' e
    refine ⟨b, e1, q.go g fun u h => ?_⟩
    have : b ≠ a := fun z => by
      subst z
      exact hj ((List.getElem?_inj (List.getElem?_eq_some_iff.mp ha).1 r.nd).mp (ha.trans e1.symm))
    rw [upd_ne this]
    exact h
theorem RepE.go {env : List (Option D)} {σ : L2.St} (r : RepE G m H env σ) (g : Go m H m' H') : RepE G m' H' env σ := ⟨r.len, fun i d h => by
  obtain ⟨v, e, q⟩ := r.at_ i d h
  exact ⟨v, e, Rep.go g _ _ q⟩⟩
theorem RepE.set {env : List (Option D)} {σ : L2.St} (r : RepE G m H env σ) {d : D} {v : V} (q : Rep G m H d v) (i : Nat) : RepE G m H (env.set i (some d)) (σ.set i (some v)) := ⟨by rw [List.length_set, List.length_set]; exact r.len, fun j e h => by
  by_cases hj : i = j
  · subst hj
    rw [List.getElem?_set_self'] at h ⊢
    cases z : env[i]? with
    | none => rw [z] at h; cases h
    | some w =>
      rw [z] at h
      cases h
      have hl : i < σ.length := by
        rw [← r.len]
        exact (List.getElem?_eq_some_iff.mp z).1
      exact ⟨v, by rw [List.getElem?_eq_getElem hl]; rfl, q⟩
  · rw [List.getElem?_set_ne hj] at h ⊢
    exact r.at_ j e h⟩
theorem Reps.length : ∀ {ds : List D} {vs : List V}, Reps G m H ds vs → ds.length = vs.length
  | [], vs, h => by rw [show vs = [] from h]; rfl
  | d :: ds, vs, h => by
    obtain ⟨v, r, rfl, _, h2⟩ := h
    rw [List.length_cons, List.length_cons, Reps.length h2]
theorem Reps.get : ∀ {ds : List D} {vs : List V} {i : Nat} {d : D}, Reps G m H ds vs → ds[i]? = some d → ∃ v, vs[i]? = some v ∧ Rep G m H d v
  | [], _, _, _, _, e => by simp at e
  | d :: ds, vs, 0, x, h, e => by
    obtain ⟨v, r, rfl, h1, h2⟩ := h
    cases e
    exact ⟨v, rfl, h1⟩
  | d :: ds, vs, i + 1, x, h, e => by
    obtain ⟨v, r, rfl, h1, h2⟩ := h
    exact Reps.get (i := i) h2 e
theorem Reps.getV : ∀ {ds : List D} {vs : List V} {i : Nat} {v : V}, Reps G m H ds vs → vs[i]? = some v → ∃ d, ds[i]? = some d ∧ Rep G m H d v
  | [], _, _, _, h, e => by rw [show _ = [] from h] at e; simp at e
  | d :: ds, vs, 0, x, h, e => by
    obtain ⟨v, r, rfl, h1, h2⟩ := h
    cases e
    exact ⟨d, rfl, h1⟩
  | d :: ds, vs, i + 1, x, h, e => by
    obtain ⟨v, r, rfl, h1, h2⟩ := h
    exact Reps.getV (i := i) h2 e
theorem Reps.app : ∀ {ds es : List D} {vs us : List V}, Reps G m H ds vs → Reps G m H es us → Reps G m H (ds ++ es) (vs ++ us)
  | [], es, vs, us, h, k => by rw [show vs = [] from h]; exact k
  | d :: ds, es, vs, us, h, k => by
    obtain ⟨v, r, rfl, h1, h2⟩ := h
    exact ⟨v, r ++ us, rfl, h1, Reps.app h2 k⟩
theorem Reps.one {d : D} {v : V} (h : Rep G m H d v) : Reps G m H [d] [v] := ⟨v, [], rfl, h, rfl⟩
theorem Reps.take : ∀ {ds : List D} {vs : List V} (n : Nat), Reps G m H ds vs → Reps G m H (ds.take n) (vs.take n)
  | ds, vs, 0, h => by rw [List.take_zero, List.take_zero]; exact rfl
  | [], vs, n + 1, h => by rw [show vs = [] from h]; exact rfl
  | d :: ds, vs, n + 1, h => by
    obtain ⟨v, r, rfl, h1, h2⟩ := h
    exact ⟨v, r.take n, rfl, h1, Reps.take n h2⟩
theorem Reps.drop : ∀ {ds : List D} {vs : List V} (n : Nat), Reps G m H ds vs → Reps G m H (ds.drop n) (vs.drop n)
  | ds, vs, 0, h => h
  | [], vs, n + 1, h => by rw [show vs = [] from h]; exact rfl
  | d :: ds, vs, n + 1, h => by
    obtain ⟨v, r, rfl, h1, h2⟩ := h
    exact Reps.drop n h2
theorem Reps.set : ∀ {ds : List D} {vs : List V} (n : Nat) {d : D} {v : V}, Reps G m H ds vs → Rep G m H d v → Reps G m H (ds.set n d) (vs.set n v)
  | [], vs, n, d, v, h, k => by rw [show vs = [] from h]; exact rfl
  | e :: ds, vs, 0, d, v, h, k => by
    obtain ⟨u, r, rfl, h1, h2⟩ := h
    exact ⟨v, r, rfl, k, h2⟩
  | e :: ds, vs, n + 1, d, v, h, k => by
    obtain ⟨u, r, rfl, h1, h2⟩ := h
    exact ⟨u, r.set n v, rfl, h1, Reps.set n h2 k⟩
theorem Reps.rev {ds : List D} {vs : List V} (h : Reps G m H ds vs) : Reps G m H ds.reverse vs.reverse := by
  induction ds generalizing vs with
  | nil => rw [show vs = [] from h]; exact rfl
  | cons d ds ih =>
    obtain ⟨v, r, rfl, h1, h2⟩ := h
    rw [List.reverse_cons, List.reverse_cons]
    exact (ih h2).app (.one h1)
theorem LsA.sq {K : PySem.W.Frag} {a : Addr} {vs : List V} (h : LsA m H a vs) : SqL K H a vs := .of h.1
theorem TpA.sq {a : Addr} {vs : List V} (h : TpA G m H a vs) : SqT G.K H a vs := h.elim (fun h => .inl h.1) fun h => h.elim (fun z => z.elim (fun z => nomatch z) fun ⟨_, z⟩ => nomatch z) .inr
end
/-! ### results -/
inductive R (α : Type) where
  | ok (a : α) (S : Sd)
  | err (e : D) (S : Sd)
  | stuck
def R.bind {α β : Type} (r : R α) (k : α → Sd → R β) : R β := match r with
  | .ok a S => k a S
  | .err e S => .err e S
  | .stuck => .stuck
@[simp] theorem R.bind_ok {α β : Type} (a : α) (S : Sd) (k : α → Sd → R β) : (R.ok a S).bind k = k a S := rfl
@[simp] theorem R.bind_err {α β : Type} (e : D) (S : Sd) (k : α → Sd → R β) : (R.err e S : R α).bind k = .err e S := rfl
@[simp] theorem R.bind_stuck {α β : Type} (k : α → Sd → R β) : (R.stuck : R α).bind k = .stuck := rfl
abbrev En := List (Option D)
abbrev TX := En → Sd → R D
abbrev TXs := En → Sd → R (List D)
abbrev TC := En → Sd → R Bool
abbrev Fn := List D → Sd → R D
/-- an error that flies: its class, its fields -/
def RepX (G : Gm) (m : Mp) (H : Hp) (e : D) (cls : Value) (dx : Option Addr) : Prop := match e with
  | .ins c ns ds => ∃ C a vs, cls = .ref C ∧ G.mg (Str.ofString c) = some (.ref C) ∧ dx = some a ∧ H a = some (.xd ((sN ns).zip vs)) ∧ ns.length = ds.length ∧ Reps G m H ds vs ∧ a ∉ m
  | _ => False
def PoE (G : Gm) (m : Mp) (H : Hp) (e : D) (S : Sd) (E : XK) : Prop := ∀ m' H' cls dx, Go m H m' H' → RepS G m' H' S → RepX G m' H' e cls dx → E cls dx H'
def Po (G : Gm) (m : Mp) (H : Hp) (E : XK) (r : R D) (Q : VK) : Prop := match r with
  | .ok d S => ∀ m' H' v, Go m H m' H' → RepS G m' H' S → Rep G m' H' d v → Q v H'
  | .err e S => PoE G m H e S E
  | .stuck => False
def Pol (G : Gm) (m : Mp) (H : Hp) (E : XK) (r : R (List D)) (Q : List V → Hp → Prop) : Prop := match r with
  | .ok ds S => ∀ m' H' vs, Go m H m' H' → RepS G m' H' S → Reps G m' H' ds vs → Q vs H'
  | .err e S => PoE G m H e S E
  | .stuck => False
def PoC (G : Gm) (m : Mp) (H : Hp) (E : XK) (r : R Bool) (Q : Bool → Hp → Prop) : Prop := match r with
  | .ok b S => ∀ m' H', Go m H m' H' → RepS G m' H' S → Q b H'
  | .err e S => PoE G m H e S E
  | .stuck => False
/-- the readings -/
def tT (G : Gm) (E : XK) (φ : TX) : TE := fun σ H Q => ∃ m env S, RepS G m H S ∧ RepE G m H env σ ∧ Po G m H E (φ env S) Q
def tTs (G : Gm) (E : XK) (φ : TXs) : TA := fun σ H Q => ∃ m env S, RepS G m H S ∧ RepE G m H env σ ∧ Pol G m H E (φ env S) Q
def tTc (G : Gm) (E : XK) (φ : TC) : TT := fun σ H Q => ∃ m env S, RepS G m H S ∧ RepE G m H env σ ∧ PoC G m H E (φ env S) Q
theorem PoE.go {G : Gm} {m m' : Mp} {H H' : Hp} {e : D} {S : Sd} {E : XK} (g : Go m H m' H') (h : PoE G m H e S E) : PoE G m' H' e S E := fun m2 H2 c d g2 => h m2 H2 c d (g.trans g2)
theorem Po.go {G : Gm} {m m' : Mp} {H H' : Hp} {r : R D} {E : XK} {Q : VK} (g : Go m H m' H') (h : Po G m H E r Q) : Po G m' H' E r Q := by
  cases r with
  | ok d S => exact fun m2 H2 v g2 => h m2 H2 v (g.trans g2)
  | err e S => exact PoE.go g h
  | stuck => exact h
theorem Pol.go {G : Gm} {m m' : Mp} {H H' : Hp} {r : R (List D)} {E : XK} {Q : List V → Hp → Prop} (g : Go m H m' H') (h : Pol G m H E r Q) : Pol G m' H' E r Q := by
  cases r with
  | ok d S => exact fun m2 H2 v g2 => h m2 H2 v (g.trans g2)
  | err e S => exact PoE.go g h
  | stuck => exact h
theorem PoC.go {G : Gm} {m m' : Mp} {H H' : Hp} {r : R Bool} {E : XK} {Q : Bool → Hp → Prop} (g : Go m H m' H') (h : PoC G m H E r Q) : PoC G m' H' E r Q := by
  cases r with
  | ok d S => exact fun m2 H2 g2 => h m2 H2 (g.trans g2)
  | err e S => exact PoE.go g h
  | stuck => exact h
/-- an expression has a value -/
theorem PE.imp {X : Cx} {e : Expr} {t u : TE} (h : PE X e t) (k : ∀ σ H Q, u σ H Q → t σ H Q) : PE X e u := ⟨fun pins s σ H Q I q => h.run pins s σ H Q I (k σ H Q q)⟩
theorem PT.imp {X : Cx} {e : Expr} {t u : TT} (h : PT X e t) (k : ∀ σ H Q, u σ H Q → t σ H Q) : PT X e u := ⟨fun pins s σ H Q I q => h.run pins s σ H Q I (k σ H Q q)⟩
theorem PW.imp {X : Cx} {e : Expr} {t u : TT} (h : PW X e t) (k : ∀ σ H Q, u σ H Q → t σ H Q) : PW X e u := ⟨fun whole pins s σ H Q I q => h.run whole pins s σ H Q I (k σ H Q q)⟩
theorem PA.imp {X : Cx} {es : List Expr} {t u : TA} (h : PA X es t) (k : ∀ σ H Q, u σ H Q → t σ H Q) : PA X es u := ⟨fun pos pins s σ H Q I q => h.run pos pins s σ H Q I (k σ H Q q)⟩
theorem PS.imp {X : Cx} {st : Stmt} {t u : TS} (h : PS X st t) (k : ∀ Dn σ H, u Dn σ H → t Dn σ H) : PS X st u := ⟨fun pins s σ H Dn I q => h.run pins s σ H Dn I (k Dn σ H q)⟩
theorem PSs.imp {X : Cx} {st : List Stmt} {t u : TS} (h : PSs X st t) (k : ∀ Dn σ H, u Dn σ H → t Dn σ H) : PSs X st u := ⟨fun pins s σ H Dn I q => h.run pins s σ H Dn I (k Dn σ H q)⟩
/-- how a reading goes on behind a part of it -/
theorem Po.bind {G : Gm} {m : Mp} {H : Hp} {E : XK} {r : R D} {Q Q' : VK} (h : Po G m H E r Q) (k : ∀ v H', Q v H' → Q' v H') : Po G m H E r Q' := by
  cases r with
  | ok d S => exact fun m' H' v g rs rv => k _ _ (h m' H' v g rs rv)
  | err e S => exact h
  | stuck => exact h
end Den

namespace Den
open PySem PySem.Spec PyProof.Rows L2
/-! ## expressions -/
/-- a wish that goes along -/
structure Nice (G : Gm) (E : XK) {β : Type} (P : Mp → Hp → R β → Prop) : Prop where
  go : ∀ {m m' H H' r}, Go m H m' H' → P m H r → P m' H' r
  err : ∀ {m H e S}, P m H (.err e S) → PoE G m H e S E
  st : ∀ {m H}, ¬ P m H .stuck
section
variable {G : Gm} {E : XK} {m m' : Mp} {H H' : Hp} {S : Sd}
theorem nE (Q : VK) : Nice G E (fun m H r => Po G m H E r Q) := ⟨Po.go, fun h => h, fun h => h⟩
theorem nL (Q : List V → Hp → Prop) : Nice G E (fun m H r => Pol G m H E r Q) := ⟨Pol.go, fun h => h, fun h => h⟩
theorem nC (Q : Bool → Hp → Prop) : Nice G E (fun m H r => PoC G m H E r Q) := ⟨PoC.go, fun h => h, fun h => h⟩
variable {β : Type} {P : Mp → Hp → R β → Prop}
theorem partE {r : R D} {k : D → Sd → R β} {Q : VK} (n : Nice G E P) (p : P m H (r.bind k)) (h : ∀ d S' m' H' v, Go m H m' H' → RepS G m' H' S' → Rep G m' H' d v → P m' H' (k d S') → Q v H') : Po G m H E r Q := by
  cases r with
  | ok d S' => exact fun m' H' v g rs rv => h d S' m' H' v g rs rv (n.go g p)
  | err e S' => exact n.err p
  | stuck => exact n.st p
theorem partL {r : R (List D)} {k : List D → Sd → R β} {Q : List V → Hp → Prop} (n : Nice G E P) (p : P m H (r.bind k)) (h : ∀ d S' m' H' v, Go m H m' H' → RepS G m' H' S' → Reps G m' H' d v → P m' H' (k d S') → Q v H') : Pol G m H E r Q := by
  cases r with
  | ok d S' => exact fun m' H' v g rs rv => h d S' m' H' v g rs rv (n.go g p)
  | err e S' => exact n.err p
  | stuck => exact n.st p
theorem partC {r : R Bool} {k : Bool → Sd → R β} {Q : Bool → Hp → Prop} (n : Nice G E P) (p : P m H (r.bind k)) (h : ∀ d S' m' H', Go m H m' H' → RepS G m' H' S' → P m' H' (k d S') → Q d H') : PoC G m H E r Q := by
  cases r with
  | ok d S' => exact fun m' H' g rs => h d S' m' H' g rs (n.go g p)
  | err e S' => exact n.err p
  | stuck => exact n.st p
/-- a value that needs nothing new -/
theorem Po.here {d : D} {v : V} {Q : VK} (p : Po G m H E (.ok d S) Q) (rs : RepS G m H S) (rv : Rep G m H d v) : Q v H := p m H v (.refl m H) rs rv
theorem PoC.here {b : Bool} {Q : Bool → Hp → Prop} (p : PoC G m H E (.ok b S) Q) (rs : RepS G m H S) : Q b H := p m H (.refl m H) rs
theorem Pol.here {d : List D} {v : List V} {Q : List V → Hp → Prop} (p : Pol G m H E (.ok d S) Q) (rs : RepS G m H S) (rv : Reps G m H d v) : Q v H := p m H v (.refl m H) rs rv
theorem Po.lst {ds : List D} {vs : List V} {Q : VK} (rs : RepS G m H S) (rv : Reps G m H ds vs) (p : Po G m H E (.ok (.lst ds) S) Q) (a : Addr) (ha : H a = none) : Q (.ref a) (upd H a (.lst vs)) := by
  have g : Go m H m (upd H a (.lst vs)) := .of (same_upd ha)
  exact p m _ _ g (rs.same (same_upd ha)) ⟨a, vs, rfl, ⟨upd_same, rs.new_out ha⟩, Reps.go g _ _ rv⟩
theorem Po.tup {ds : List D} {vs : List V} {Q : VK} (rs : RepS G m H S) (rv : Reps G m H ds vs) (p : Po G m H E (.ok (.tup ds) S) Q) (a : Addr) (ha : H a = none) : Q (.ref a) (upd H a (.tup vs)) := by
  have g : Go m H m (upd H a (.tup vs)) := .of (same_upd ha)
  exact p m _ _ g (rs.same (same_upd ha)) ⟨a, vs, rfl, .inl ⟨.inl upd_same, rs.new_out ha⟩, Reps.go g _ _ rv⟩
/-- a list that will be changed -/
theorem Po.hnd {ds : List D} {vs : List V} {Q : VK} (rs : RepS G m H S) (rv : Reps G m H ds vs) (p : Po G m H E (.ok (.hnd S.length) (S ++ [.lst ds])) Q) (a : Addr) (ha : H a = none) : Q (.ref a) (upd H a (.lst vs)) := by
  have s : Same H (upd H a (.lst vs)) := same_upd ha
  have g0 : Go m H (m.add a) (upd H a (.lst vs)) := ⟨⟨[a], rfl, fun b h => by rw [List.mem_singleton.mp h]; exact ha⟩, fun b o h _ => s _ _ h, (Go.of (m := m) s).dm⟩
  obtain ⟨rs2, g⟩ := rs.new (o := .lst ds) ha ⟨vs, upd_same, Reps.go g0 _ _ rv⟩
  refine p _ _ _ g rs2 ⟨a, ?_, rfl⟩
  show (m.hs ++ [a])[S.length]? = some a
  rw [← rs.len, List.getElem?_append_right (Nat.le_refl _), Nat.sub_self]
  rfl
end
def noX {α : Type} : R α → R α
  | .err _ _ => .stuck
  | r => r
@[simp] theorem noX_ok {α : Type} (a : α) (S : Sd) : noX (.ok a S) = .ok a S := rfl
@[simp] theorem noX_stuck {α : Type} : noX (.stuck : R α) = .stuck := rfl
inductive BK where
  | non | bl | int | str | list | tuple | dict
  deriving DecidableEq
def BK.nm : BK → String
  | .non => "NoneType"
  | .bl => "bool"
  | .int => "int"
  | .str => "str"
  | .list => "list"
  | .tuple => "tuple"
  | .dict => "dict"
/-- what kind of thing it is: built in, or of one's own class -/
inductive Kn where
  | b (k : BK) | own (c : String)
def D.kn (S : Sd) : D → Option Kn
  | .non => some (.b .non)
  | .bl _ => some (.b .bl)
  | .int _ => some (.b .int)
  | .str _ => some (.b .str)
  | .lst _ => some (.b .list)
  | .tup _ => some (.b .tuple)
  | .dct _ _ => some (.b .dict)
  | .ins c _ _ => some (.own c)
  | .scr _ => some (.b .list)
  | .hnd i => match S[i]? with
    | some (.lst _) => some (.b .list)
    | some (.dK _ _) => some (.b .dict)
    | some (.dT _ _) => some (.b .dict)
    | some (.ins c _ _) => some (.own c)
    | _ => none
  | .raw _ => none
/-! ### names, constants -/
def xVar (i : Nat) : TX := fun env S => match env[i]? with
  | some (some d) => .ok d S
  | _ => .stuck
def xC (d : D) : TX := fun _ S => .ok d S
section
variable {X : Cx} {G : Gm} {E : XK}
theorem te_var (i : Nat) {x : Str} {pos : PySem.Pos} (hN : X.N[i]? = some x := by rfl) (hv : Vis X.env.scope x := by first | exact Or.inl rfl | exact Or.inr (Or.inl rfl) | exact Or.inr (Or.inr rfl)) (hd : (x == ("__debug__" : Str)) = false := by decide)
    (hcd : (x == ("__classdict__" : Str)) = false := by decide) : PE X (.Name x pos) (tT G E (xVar i)) := PE.imp (pe_var hN hv hd hcd) fun σ H Q h => by
  obtain ⟨m, env, S, rs, re, p⟩ := h
  unfold xVar at p
  split at p
  · rename_i d e
    obtain ⟨v, ev, rv⟩ := re.at_ i d e
    exact ⟨v, ev, p.here rs rv⟩
  · exact p.elim
/-- a value that is nothing but itself -/
theorem te_c {e : Expr} {v : V} {d : D} (h : PE X e (tC v)) (hr : ∀ m H, Rep G m H d v) : PE X e (tT G E (xC d)) := PE.imp h fun σ H Q h => by
  obtain ⟨m, env, S, rs, re, p⟩ := h
  exact Po.here (d := d) p rs (hr m H)
theorem te_int {i : Int} {j pos} : PE X (.Constant (.int i) j pos) (tT G E (xC (.int i))) := te_c pe_int fun _ _ => rfl
theorem te_bl {b j pos} : PE X (.Constant (.bool b) j pos) (tT G E (xC (.bl b))) := te_c pe_bl fun _ _ => rfl
theorem te_non {j pos} : PE X (.Constant .none j pos) (tT G E (xC .non)) := te_c pe_non fun _ _ => rfl
theorem te_str {x j pos} : PE X (.Constant (.str x) j pos) (tT G E (xC (.str x))) := te_c pe_str fun _ _ => rfl
/-- a constant of the module -/
theorem te_gint {x : Str} {i : Int} {pos : PySem.Pos} (hg : Gl X x) (hm : ∃ t, X.mg x = some (.int i t)) (hd : (x == ("__debug__" : Str)) = false := by decide) : PE X (.Name x pos) (tT G E (xC (.int i))) :=
  te_c (by obtain ⟨t, h⟩ := hm; exact pe_glob (v := .int i) hg h ⟨t, rfl⟩ hd) fun _ _ => rfl
theorem te_gstr {x : Str} {z : Str} {pos : PySem.Pos} (hg : Gl X x) (hm : ∃ t, X.mg x = some (.str z t)) (hd : (x == ("__debug__" : Str)) = false := by decide) : PE X (.Name x pos) (tT G E (xC (.str z))) :=
  te_c (by obtain ⟨t, h⟩ := hm; exact pe_glob (v := .str z) hg h ⟨t, rfl⟩ hd) fun _ _ => rfl
/-- a tuple of the module -/
theorem te_gtup {x : Str} {a : Addr} {ds : List D} {vs : List V} {pos : PySem.Pos} (hg : Gl X x) (hm : X.mg x = some (.ref a)) (hs : SqT G.K hp0 a vs) (hr : ∀ m H, Reps G m H ds vs) (hd : (x == ("__debug__" : Str)) = false := by decide) : PE X (.Name x pos) (tT G E (xC (.tup ds))) :=
  te_c (pe_glob (v := .ref a) hg hm rfl hd) fun m H => ⟨a, vs, rfl, .inr hs, hr m H⟩
end
/-! ### operators by values -/
abbrev Op2 := D → D → Sd → R D
def OpT (G : Gm) (r : R2) (o : Op2) : Prop := ∀ (m : Mp) (H : Hp) (S : Sd) (x y : V) (d1 d2 : D) (E : XK) (Q : VK), RepS G m H S → Rep G m H d1 x → Rep G m H d2 y → Po G m H E (o d1 d2 S) Q → r x y H Q
def xBin (o : Op2) (a b : TX) : TX := fun env S => (a env S).bind fun x S1 => (b env S1).bind fun y S2 => o x y S2
theorem OpR.or {X : Cx} {f : Value → Value → Sem Value} {r r' : R2} (h : OpR X f r) (h' : OpR X f r') : OpR X f (fun x y H Q => r x y H Q ∨ r' x y H Q) := fun pins s σ H x y v u Q I rx ry q => q.elim (h pins s σ H x y v u Q I rx ry) (h' pins s σ H x y v u Q I rx ry)
/-- both values, then the rest -/
theorem two {G : Gm} {E : XK} {a b : TX} {σ : L2.St} {H : Hp} {m : Mp} {env : En} {S : Sd} {β : Type} {P : Mp → Hp → R β → Prop} {k : D → D → Sd → R β} {Q : V → V → Hp → Prop} (n : Nice G E P) (rs : RepS G m H S) (re : RepE G m H env σ)
    (p : P m H ((a env S).bind fun x S1 => (b env S1).bind fun y S2 => k x y S2)) (h : ∀ d1 d2 S2 m' H' x y, Go m H m' H' → RepS G m' H' S2 → RepE G m' H' env σ → Rep G m' H' d1 x → Rep G m' H' d2 y → P m' H' (k d1 d2 S2) → Q x y H') : tT G E a σ H fun x H1 => tT G E b σ H1 fun y H2 => Q x y H2 :=
  ⟨m, env, S, rs, re, partE n p fun d S1 m1 H1 x g1 rs1 r1 p1 => ⟨m1, env, S1, rs1, re.go g1, partE n p1 fun d2 S2 m2 H2 y g2 rs2 r2 p2 => h d d2 S2 m2 H2 x y (g1.trans g2) rs2 (re.go (g1.trans g2)) (Rep.go g2 _ _ r1) r2 p2⟩⟩
section
variable {X : Cx} {G : Gm} {E : XK} {a b : Expr} {φ χ : TX} {pos : PySem.Pos}
theorem te_op {op : Operator} {r : R2} {o : Op2} (ho : OpR X (binaryOp op) r ∧ OpT G r o) (ha : PE X a (tT G E φ)) (hb : PE X b (tT G E χ)) : PE X (.BinOp a op b pos) (tT G E (xBin o φ χ)) := PE.imp (pe_op ho.1 ha hb) fun σ H Q h => by
  obtain ⟨m, env, S, rs, re, p⟩ := h
  exact two (nE Q) rs re p fun d1 d2 S2 m' H' x y g rs' _ r1 r2 p' => ho.2 _ _ _ _ _ _ _ _ _ rs' r1 r2 p'
theorem te_cmp {op : CmpOp} {r : R2} {o : Op2} (ho : OpR X (compareOp op) r ∧ OpT G r o) (ha : PE X a (tT G E φ)) (hb : PE X b (tT G E χ)) (hm : behindInMarks op b = false) : PE X (.Compare a [op] [b] pos) (tT G E (xBin o φ χ)) := PE.imp (pe_cmpR ho.1 ha hb hm) fun σ H Q h => by
  obtain ⟨m, env, S, rs, re, p⟩ := h
  exact two (nE Q) rs re p fun d1 d2 S2 m' H' x y g rs' _ r1 r2 p' => ho.2 _ _ _ _ _ _ _ _ _ rs' r1 r2 p'
end
/-! what is walked, told by values -/
def D.itemsL (S : Sd) : D → Option (List D)
  | .lst ds => some ds
  | .hnd i => match S[i]? with
    | some (.lst ds) => some ds
    | _ => none
  | _ => none
def D.items (S : Sd) : D → Option (List D)
  | .tup ds => some ds
  | .scr ns => some (ns.map D.int)
  | d => d.itemsL S
section
variable {G : Gm} {E : XK} {m m' : Mp} {H H' : Hp} {S : Sd}
theorem itemsL_sq {d : D} {ds : List D} {v : V} (rs : RepS G m H S) (r : Rep G m H d v) (e : d.itemsL S = some ds) : ∃ a vs, v = .ref a ∧ H a = some (.lst vs) ∧ Reps G m H ds vs := by
  cases d with
  | lst es =>
    cases e
    obtain ⟨a, vs, rfl, h, q⟩ := r
    exact ⟨a, vs, rfl, h.1, q⟩
  | hnd i =>
    obtain ⟨a, ha, rfl⟩ := r
    change (match S[i]? with | some (.lst ds) => some ds | _ => none) = some ds at e
    cases q : S[i]? with
    | none => rw [q] at e; cases e
    | some o =>
      rw [q] at e
      obtain ⟨b, hb, ro⟩ := rs.at_ i o q
      rw [ha] at hb
      cases hb
      cases o with
      | lst es =>
        cases e
        obtain ⟨vs, hv, rv⟩ := ro
        exact ⟨a, vs, rfl, hv, rv⟩
      | _ => cases e
  | _ => cases e
theorem ints_reps : ∀ ns : List Int, Reps G m H (ns.map D.int) (ns.map V.int)
  | [] => rfl
  | n :: ns => ⟨.int n, ns.map V.int, rfl, rfl, ints_reps ns⟩
theorem items_sq {d : D} {ds : List D} {v : V} (rs : RepS G m H S) (r : Rep G m H d v) (e : d.items S = some ds) : ∃ a vs, v = .ref a ∧ (SqL G.K H a vs ∨ SqT G.K H a vs) ∧ Reps G m H ds vs := by
  cases d with
  | tup es =>
    cases e
    obtain ⟨a, vs, rfl, h, q⟩ := r
    exact ⟨a, vs, rfl, .inr h.sq, q⟩
  | scr ns =>
    cases e
    obtain ⟨a, rfl, h⟩ := r
    exact ⟨a, _, rfl, .inl h.sq, ints_reps ns⟩
  | lst es =>
    obtain ⟨a, vs, h1, h2, h3⟩ := itemsL_sq rs r e
    exact ⟨a, vs, h1, .inl (.of h2), h3⟩
  | hnd i =>
    obtain ⟨a, vs, h1, h2, h3⟩ := itemsL_sq rs r e
    exact ⟨a, vs, h1, .inl (.of h2), h3⟩
  | _ => cases e
end
def guardR {α : Type} (c : Bool) (r : R α) : R α := match c with
  | true => r
  | false => .stuck
@[simp] theorem guardR_true {α : Type} (r : R α) : guardR true r = r := rfl
@[simp] theorem guardR_false {α : Type} (r : R α) : guardR false r = .stuck := rfl
def oAdd : Op2
  | .int a, .int b, S => .ok (.int (a + b)) S
  | .str a, .str b, S => guardR (decide (a.length + b.length ≤ sizeLine)) (.ok (.str (a ++ b)) S)
  | .tup a, .tup b, S => guardR (decide (a.length + b.length ≤ sizeLine)) (.ok (.tup (a ++ b)) S)
  | x, y, S => match x.itemsL S, y.itemsL S with
    | some a, some b => guardR (decide (a.length + b.length ≤ sizeLine)) (.ok (.lst (a ++ b)) S)
    | _, _ => .stuck
def rAddS : R2 := fun x y H Q => ∃ i j, x = .str i ∧ y = .str j ∧ i.length + j.length ≤ sizeLine ∧ Q (.str (i ++ j)) H
def rAddT (K : PySem.W.Frag) : R2 := fun x y H Q => rI0 (fun i j => .int (i + j)) x y H Q ∨ rAddS x y H Q ∨ rCatA K x y H Q ∨ rCat x y H Q
theorem Po.guard {G : Gm} {m : Mp} {H : Hp} {E : XK} {c : Bool} {r : R D} {Q : VK} (p : Po G m H E (guardR c r) Q) : c = true ∧ Po G m H E r Q := by
  cases c with
  | true => exact ⟨rfl, p⟩
  | false => exact p.elim
theorem PoC.guard {G : Gm} {m : Mp} {H : Hp} {E : XK} {c : Bool} {r : R Bool} {Q : Bool → Hp → Prop} (p : PoC G m H E (guardR c r) Q) : c = true ∧ PoC G m H E r Q := by
  cases c with
  | true => exact ⟨rfl, p⟩
  | false => exact p.elim
theorem reps_nil {G : Gm} {m : Mp} {H : Hp} {ds : List D} (h : Reps G m H ds []) : ds = [] := by
  cases ds with
  | nil => rfl
  | cons d ds =>
    obtain ⟨v, r, e, _⟩ := h
    cases e
theorem ot_add {X : Cx} {G : Gm} (hK : X.K = G.K := by rfl) : OpR X (binaryOp .Add) (rAddT G.K) ∧ OpT G (rAddT G.K) oAdd := by
  refine ⟨by rw [← hK]; exact .or op_add (.or op_add_str (.or op_catA op_cat)), fun m H S x y d1 d2 E Q rs r1 r2 p => ?_⟩
  unfold oAdd at p
  split at p
  · exact .inl ⟨_, _, r1, r2, p.here rs rfl⟩
  · obtain ⟨c, p⟩ := p.guard
    exact .inr (.inl ⟨_, _, r1, r2, of_decide_eq_true c, p.here rs rfl⟩)
  · obtain ⟨c, p⟩ := p.guard
    obtain ⟨a, vs, rfl, ha, ra⟩ := id r1
    obtain ⟨b, us, rfl, hb, rb⟩ := id r2
    have c' := of_decide_eq_true c
    rw [ra.length, rb.length] at c'
    refine .inr (.inr (.inl ⟨a, b, vs, us, rfl, rfl, ha.sq, hb.sq, c', fun e => ?_, fun e e' => ?_, fun _ _ q hq => p.tup rs (ra.app rb) q hq⟩))
    · subst e
      rw [reps_nil ra, List.nil_append] at p
      exact p.here rs r2
    · subst e'
      rw [reps_nil rb, List.append_nil] at p
      exact p.here rs r1
  · split at p
    · rename_i ds es e1 e2
      obtain ⟨c, p⟩ := p.guard
      obtain ⟨a, vs, rfl, ha, ra⟩ := itemsL_sq rs r1 e1
      obtain ⟨b, us, rfl, hb, rb⟩ := itemsL_sq rs r2 e2
      have c' := of_decide_eq_true c
      rw [ra.length, rb.length] at c'
      exact .inr (.inr (.inr ⟨a, b, vs, us, rfl, rfl, ha, hb, c', fun q hq => p.lst rs (ra.app rb) q hq⟩))
    · exact p.elim
def oSub : Op2
  | .int a, .int b, S => .ok (.int (a - b)) S
  | _, _, _ => .stuck
theorem ot_sub {X : Cx} {G : Gm} : OpR X (binaryOp .Sub) (rI0 fun i j => .int (i - j)) ∧ OpT G (rI0 fun i j => .int (i - j)) oSub := by
  refine ⟨op_sub, fun m H S x y d1 d2 E Q rs r1 r2 p => ?_⟩
  unfold oSub at p
  split at p
  · exact ⟨_, _, r1, r2, p.here rs rfl⟩
  · exact p.elim
/-- factors of together less than a million bits -/
def mulOk (i j : Int) : Bool := decide (i.natAbs.log2 + j.natAbs.log2 < 1000000)
def oMul : Op2
  | .int a, .int b, S => guardR (mulOk a b) (.ok (.int (a * b)) S)
  | .str z, .int n, S => guardR (decide (z.length * n.toNat ≤ 1000000 ∧ n.natAbs ≤ 1000000)) (.ok (.str (Txt.mul z n)) S)
  | x, .int n, S => match x.itemsL S with
    | some a => guardR (decide (a.length * n.toNat ≤ 1000000 ∧ n.natAbs ≤ 1000000)) (.ok (.lst (List.replicate n.toNat a).flatten) S)
    | _ => .stuck
  | _, _, _ => .stuck
theorem Reps.rep {G : Gm} {m : Mp} {H : Hp} {ds : List D} {vs : List V} (h : Reps G m H ds vs) : ∀ n : Nat, Reps G m H (List.replicate n ds).flatten (List.replicate n vs).flatten
  | 0 => rfl
  | n + 1 => by
    rw [List.replicate_succ, List.replicate_succ, List.flatten_cons, List.flatten_cons]
    exact h.app (Reps.rep h n)
def CDivWN (i j : Int) : Prop := j ≠ 0 ∧ j.natAbs.log2 < 9000
theorem op_fdivWN {X : Cx} : OpR X (binaryOp .FloorDiv) (rI CDivWN fun i j => .int (i.fdiv j)) := opI fun _ _ _ _ _ _ _ hc q => floordiv_int hc.1 q (.inl (PyProof.noPylong_of_log2 hc.2))
def oDiv : Op2
  | .int a, .int b, S => guardR (decide (b ≠ 0 ∧ b.natAbs.log2 < 9000)) (.ok (.int (a.fdiv b)) S)
  | _, _, _ => .stuck
theorem ot_div {X : Cx} {G : Gm} : OpR X (binaryOp .FloorDiv) (rI CDivWN fun i j => .int (i.fdiv j)) ∧ OpT G (rI CDivWN fun i j => .int (i.fdiv j)) oDiv := by
  refine ⟨op_fdivWN, fun m H S x y d1 d2 E Q rs r1 r2 p => ?_⟩
  unfold oDiv at p
  split at p
  · obtain ⟨c, p⟩ := p.guard
    have c := of_decide_eq_true c
    exact ⟨_, _, r1, r2, c, p.here rs rfl⟩
  · exact p.elim
def oMod : Op2
  | .int a, .int b, S => guardR (decide (b ≠ 0)) (.ok (.int (a.fmod b)) S)
  | _, _, _ => .stuck
theorem ot_mod {X : Cx} {G : Gm} : OpR X (binaryOp .Mod) (rI (fun _ j => j ≠ 0) fun i j => .int (i.fmod j)) ∧ OpT G (rI (fun _ j => j ≠ 0) fun i j => .int (i.fmod j)) oMod := by
  refine ⟨op_modN, fun m H S x y d1 d2 E Q rs r1 r2 p => ?_⟩
  unfold oMod at p
  split at p
  · obtain ⟨c, p⟩ := p.guard
    exact ⟨_, _, r1, r2, of_decide_eq_true c, p.here rs rfl⟩
  · exact p.elim
def CPowW (i j : Int) : Prop := 0 ≤ j ∧ (Builtin.Int.intBits i : Int) * j ≤ 2 ^ 27
theorem op_powW {X : Cx} : OpR X (binaryOp .Pow) (rI CPowW fun i j => .int (i ^ j.toNat)) := opI fun _ _ _ _ _ _ _ hc q => pow_int hc.1 hc.2 q
def oPow : Op2
  | .int a, .int b, S => guardR (decide (0 ≤ b ∧ (Builtin.Int.intBits a : Int) * b ≤ 2 ^ 27)) (.ok (.int (a ^ b.toNat)) S)
  | _, _, _ => .stuck
theorem ot_pow {X : Cx} {G : Gm} : OpR X (binaryOp .Pow) (rI CPowW fun i j => .int (i ^ j.toNat)) ∧ OpT G (rI CPowW fun i j => .int (i ^ j.toNat)) oPow := by
  refine ⟨op_powW, fun m H S x y d1 d2 E Q rs r1 r2 p => ?_⟩
  unfold oPow at p
  split at p
  · obtain ⟨c, p⟩ := p.guard
    have c := of_decide_eq_true c
    exact ⟨_, _, r1, r2, c, p.here rs rfl⟩
  · exact p.elim
/-! order -/
def strLt (i j : Str) : Bool := decide (i.cps.toList < j.cps.toList)
def oLt : Op2
  | .int a, .int b, S => .ok (.bl (decide (a < b))) S
  | _, _, _ => .stuck
def oLe : Op2
  | .int a, .int b, S => .ok (.bl (decide (a ≤ b))) S
  | _, _, _ => .stuck
def oGt : Op2
  | .int a, .int b, S => .ok (.bl (decide (b < a))) S
  | _, _, _ => .stuck
def oGe : Op2
  | .int a, .int b, S => .ok (.bl (decide (b ≤ a))) S
  | _, _, _ => .stuck
theorem ot_lt {X : Cx} {G : Gm} : OpR X (compareOp .Lt) (rI0 fun i j => .bl (decide (i < j))) ∧ OpT G (rI0 fun i j => .bl (decide (i < j))) oLt := by
  refine ⟨op_lt, fun m H S x y d1 d2 E Q rs r1 r2 p => ?_⟩
  unfold oLt at p
  split at p
  · exact ⟨_, _, r1, r2, p.here rs rfl⟩
  · exact p.elim
theorem ot_le {X : Cx} {G : Gm} : OpR X (compareOp .LtE) (rI0 fun i j => .bl (decide (i ≤ j))) ∧ OpT G (rI0 fun i j => .bl (decide (i ≤ j))) oLe := by
  refine ⟨op_le, fun m H S x y d1 d2 E Q rs r1 r2 p => ?_⟩
  unfold oLe at p
  split at p
  · exact ⟨_, _, r1, r2, p.here rs rfl⟩
  · exact p.elim
theorem ot_gt {X : Cx} {G : Gm} : OpR X (compareOp .Gt) (rI0 fun i j => .bl (decide (j < i))) ∧ OpT G (rI0 fun i j => .bl (decide (j < i))) oGt := by
  refine ⟨op_gt, fun m H S x y d1 d2 E Q rs r1 r2 p => ?_⟩
  unfold oGt at p
  split at p
  · exact ⟨_, _, r1, r2, p.here rs rfl⟩
  · exact p.elim
theorem ot_ge {X : Cx} {G : Gm} : OpR X (compareOp .GtE) (rI0 fun i j => .bl (decide (j ≤ i))) ∧ OpT G (rI0 fun i j => .bl (decide (j ≤ i))) oGe := by
  refine ⟨op_ge, fun m H S x y d1 d2 E Q rs r1 r2 p => ?_⟩
  unfold oGe at p
  split at p
  · exact ⟨_, _, r1, r2, p.here rs rfl⟩
  · exact p.elim
end Den

namespace Den
open PySem PySem.Spec PyProof.Rows L2
/-! ## more operators, tests -/
theorem op_repS {X : Cx} : OpR X (binaryOp .Mult) (fun x y H Q => ∃ z n, x = .str z ∧ y = .int n ∧ MulOk z n ∧ Q (.str (Txt.mul z n)) H) := by
  intro pins s σ H x y v u Q I rx ry h
  obtain ⟨i, j, rfl, rfl, hz, q⟩ := h
  obtain ⟨t, rfl⟩ := rx
  obtain ⟨t', rfl⟩ := ry
  exact PySem.SB.mul hz (fun t' tk => ⟨.str (Txt.mul i j), H, I.tok _, ⟨_, rfl⟩, q⟩)
def rMulT : R2 := fun x y H Q => rI CMulX (fun i j => .int (i * j)) x y H Q ∨ (∃ z n, x = .str z ∧ y = .int n ∧ MulOk z n ∧ Q (.str (Txt.mul z n)) H) ∨ rRep x y H Q
def strMul (z : Str) (n : Int) : Bool := decide (-(2 ^ 63) ≤ n ∧ n < 2 ^ 63 ∧ z.length * n.toNat ≤ sizeLine)
theorem strMul_ok {z : Str} {n : Int} (h : strMul z n = true) : MulOk z n := by
  obtain ⟨h1, h2, h3⟩ := of_decide_eq_true h
  have hs : sizeLine = 16777216 := sizeLine_eq
  refine ⟨?_, fun h4 _ => ?_, fun _ _ => ?_⟩
  · rw [decide_eq_false (by omega), decide_eq_false (by omega)]
    rfl
  · have h5 : (0 : Int) < n := by omega
    have h6 : ((z.length * n.toNat : Nat) : Int) = (z.length : Int) * n := by
      rw [Int.natCast_mul, Int.toNat_of_nonneg (by omega)]
    have h7 : (z.length : Int) * n ≤ 2 ^ 63 - 1 := by omega
    have := (Int.le_ediv_iff_mul_le h5).mpr h7
    omega
  · unfold Builtin.Str.tooLong
    exact decide_eq_false (by omega)
/-- factors of together at most 2 ^ 27 bits -/
def mulOkX (i j : Int) : Bool := decide ((Builtin.Int.intBits i : Int) + (Builtin.Int.intBits j : Int) ≤ 134217728)
def oMulT : Op2
  | .int a, .int b, S => guardR (mulOkX a b) (.ok (.int (a * b)) S)
  | .str z, .int n, S => guardR (strMul z n) (.ok (.str (Txt.mul z n)) S)
  | x, .int n, S => match x.itemsL S with
    | some a => guardR (decide (-(2 ^ 63) ≤ n ∧ n < 2 ^ 63 ∧ a.length * n.toNat ≤ sizeLine)) (.ok (.lst (List.replicate n.toNat a).flatten) S)
    | _ => .stuck
  | _, _, _ => .stuck
theorem ot_mul {X : Cx} {G : Gm} : OpR X (binaryOp .Mult) rMulT ∧ OpT G rMulT oMulT := by
  refine ⟨.or op_mulX (.or op_repS op_rep), fun m H S x y d1 d2 E Q rs r1 r2 p => ?_⟩
  unfold oMulT at p
  split at p
  · obtain ⟨c, p⟩ := p.guard
    have c : (Builtin.Int.intBits _ : Int) + (Builtin.Int.intBits _ : Int) ≤ 134217728 := of_decide_eq_true c
    exact .inl ⟨_, _, r1, r2, c, p.here rs rfl⟩
  · obtain ⟨c, p⟩ := p.guard
    exact .inr (.inl ⟨_, _, r1, r2, strMul_ok c, p.here rs rfl⟩)
  · split at p
    · rename_i e
      obtain ⟨c, p⟩ := p.guard
      obtain ⟨h1, h2, h3⟩ := of_decide_eq_true c
      obtain ⟨a, vs, rfl, ha, ra⟩ := itemsL_sq rs r1 e
      rw [ra.length] at h3
      exact .inr (.inr ⟨a, _, vs, rfl, r2, ha, h1, h2, h3, fun q hq => p.lst rs (ra.rep _) q hq⟩)
    · exact p.elim
  · exact p.elim
/-! is -/
def D.isNon : D → Bool
  | .non => true
  | _ => false
def D.isRaw : D → Bool
  | .raw _ => true
  | _ => false
def D.bl? : D → Option Bool
  | .bl b => some b
  | _ => none
def oIs : Op2 := fun x y S => match y with
  | .non => guardR (!x.isRaw) (.ok (.bl x.isNon) S)
  | .bl b => match x with
    | .bl a => .ok (.bl (decide (a = b))) S
    | _ => .stuck
  | _ => .stuck
def oIsNot : Op2 := fun x y S => match y with
  | .non => guardR (!x.isRaw) (.ok (.bl (!x.isNon)) S)
  | .bl b => match x with
    | .bl a => .ok (.bl (!decide (a = b))) S
    | _ => .stuck
  | _ => .stuck
def rIs : R2 := fun x y H Q => (y = .non ∧ Q (.bl (decide (x = .non))) H) ∨ rIsB x y H Q
def rIsNot : R2 := fun x y H Q => (y = .non ∧ Q (.bl (!decide (x = .non))) H) ∨ rNotB x y H Q
theorem isNon_v {G : Gm} {m : Mp} {H : Hp} {d : D} {v : V} (r : Rep G m H d v) (h : (!d.isRaw) = true) : decide (v = .non) = d.isNon := by
  cases d with
  | non => rw [show v = .non from r]; rfl
  | bl b => rw [show v = .bl b from r]; rfl
  | int i => rw [show v = .int i from r]; rfl
  | str z => rw [show v = .str z from r]; rfl
  | raw u => cases h
  | lst ds => obtain ⟨a, vs, rfl, _⟩ := r; rfl
  | tup ds => obtain ⟨a, vs, rfl, _⟩ := r; rfl
  | ins c ns ds => obtain ⟨a, _, _, _, rfl, _⟩ := r; rfl
  | hnd i => obtain ⟨a, _, rfl⟩ := r; rfl
  | dct ks ds => obtain ⟨a, vs, rfl, _⟩ := r; rfl
  | scr ns => obtain ⟨a, rfl, _⟩ := r; rfl
theorem ot_is {X : Cx} {G : Gm} : OpR X (compareOp .Is) rIs ∧ OpT G rIs oIs := by
  refine ⟨.or op_isN op_isBl, fun m H S x y d1 d2 E Q rs r1 r2 p => ?_⟩
  unfold oIs at p
  split at p
  · obtain ⟨c, p⟩ := p.guard
    exact .inl ⟨r2, p.here rs (isNon_v r1 c ▸ rfl)⟩
  · split at p
    · exact .inr ⟨_, _, r1, r2, p.here rs rfl⟩
    · exact p.elim
  · exact p.elim
theorem ot_isnot {X : Cx} {G : Gm} : OpR X (compareOp .IsNot) rIsNot ∧ OpT G rIsNot oIsNot := by
  refine ⟨.or op_notN op_notBl, fun m H S x y d1 d2 E Q rs r1 r2 p => ?_⟩
  unfold oIsNot at p
  split at p
  · obtain ⟨c, p⟩ := p.guard
    exact .inl ⟨r2, p.here rs (isNon_v r1 c ▸ rfl)⟩
  · split at p
    · exact .inr ⟨_, _, r1, r2, p.here rs rfl⟩
    · exact p.elim
  · exact p.elim
/-! data -/
def pyAll (f : D → Option PyData) : List D → Option (List PyData)
  | [] => some []
  | d :: ds => match f d, pyAll f ds with
    | some p, some ps => some (p :: ps)
    | _, _ => none
def D.py (S : Sd) : Nat → D → Option PyData
  | _, .non => some .none
  | _, .bl b => some (.bool b)
  | _, .int i => some (.int i)
  | _, .str z => some (.str z)
  | n + 1, .lst ds => (pyAll (D.py S n) ds).map .list
  | n + 1, .tup ds => (pyAll (D.py S n) ds).map .tuple
  | n + 1, .hnd i => match S[i]? with
    | some (.lst ds) => (pyAll (D.py S n) ds).map .list
    | _ => none
  | _, _ => none
section
variable {G : Gm} {E : XK} {m m' : Mp} {H H' : Hp} {S : Sd}
theorem pyAll_dp {f : D → Option PyData} (hf : ∀ d v p, Rep G m H d v → f d = some p → Dp G.K H v p) : ∀ {ds : List D} {vs : List V} {ps : List PyData}, Reps G m H ds vs → pyAll f ds = some ps → DpAll G.K H vs ps
  | [], vs, ps, h, e => by
    cases e
    rw [show vs = [] from h]
    exact .nil
  | d :: ds, vs, ps, h, e => by
    obtain ⟨v, r, rfl, h1, h2⟩ := h
    unfold pyAll at e
    split at e
    · rename_i p q e1 e2
      cases e
      exact .cons (hf d v p h1 e1) (pyAll_dp hf h2 e2)
    · cases e
theorem py_dp (rs : RepS G m H S) : ∀ (n : Nat) (d : D) (v : V) (p : PyData), Rep G m H d v → D.py S n d = some p → Dp G.K H v p := by
  intro n
  induction n with
  | zero =>
    intro d v p r e
    cases d with
    | non => cases e; rw [show v = .non from r]; exact .non
    | bl b => cases e; rw [show v = .bl b from r]; exact .bl b
    | int i => cases e; rw [show v = .int i from r]; exact .int i
    | str z => cases e; rw [show v = .str z from r]; exact .str z
    | _ => cases e
  | succ n ih =>
    intro d v p r e
    cases d with
    | non => cases e; rw [show v = .non from r]; exact .non
    | bl b => cases e; rw [show v = .bl b from r]; exact .bl b
    | int i => cases e; rw [show v = .int i from r]; exact .int i
    | str z => cases e; rw [show v = .str z from r]; exact .str z
    | lst ds =>
      obtain ⟨ps, e1, rfl⟩ := Option.map_eq_some_iff.mp (show (pyAll (D.py S n) ds).map .list = some p from e)
      obtain ⟨a, vs, rfl, h, q⟩ := r
      exact .lst h.sq (pyAll_dp ih q e1)
    | tup ds =>
      obtain ⟨ps, e1, rfl⟩ := Option.map_eq_some_iff.mp (show (pyAll (D.py S n) ds).map .tuple = some p from e)
      obtain ⟨a, vs, rfl, h, q⟩ := r
      exact .tup h.sq (pyAll_dp ih q e1)
    | hnd i =>
      change (match S[i]? with | some (.lst ds) => (pyAll (D.py S n) ds).map .list | _ => none) = some p at e
      split at e
      · rename_i ds q
        obtain ⟨ps, e1, rfl⟩ := Option.map_eq_some_iff.mp e
        obtain ⟨a, ha, rfl⟩ := r
        obtain ⟨b, hb, vs, hv, rv⟩ := rs.at_ i _ q
        rw [ha] at hb
        cases hb
        exact .lst (.of hv) (pyAll_dp ih rv e1)
      · cases e
    | _ => cases e
end
/-- own ==: the class, what its __eq__ gives -/
abbrev Eqs := List (String × Fn)
def oEqI (F : Fn) (x y : D) (S : Sd) (neg : Bool) : R D := (noX (F [x, y] S)).bind fun r S' => match r with
  | .bl b => .ok (.bl (if neg then !b else b)) S'
  | _ => .stuck
def oEqN (neg : Bool) (eqs : Eqs) : Op2 := fun x y S => match x with
  | .ins c _ _ => match eqs.lookup c with
    | some F => if (y.kn S).isSome = true then oEqI F x y S neg else .stuck
    | none => .stuck
  | _ => match x.py S 9, y.py S 9 with
    | some p, some q => guardR (SeqAt.shaped p && SeqAt.shaped q) (.ok (.bl (if neg then !PyData.eqv p q else PyData.eqv p q)) S)
    | _, _ => .stuck
abbrev oEq (eqs : Eqs) : Op2 := oEqN false eqs
abbrev oNe (eqs : Eqs) : Op2 := oEqN true eqs
theorem ot_eqD {X : Cx} {G : Gm} (hu : X.A.units + 64 < cLine) (hK : X.K = G.K := by rfl) : OpR X (compareOp .Eq) (rEqD G.K) ∧ OpT G (rEqD G.K) (oEq []) := by
  refine ⟨by rw [← hK]; exact op_eqD hu, fun m H S x y d1 d2 E Q rs r1 r2 p => ?_⟩
  unfold oEq oEqN at p
  split at p
  · exact p.elim
  · split at p
    · rename_i a b e1 e2
      obtain ⟨c, p⟩ := p.guard
      obtain ⟨c1, c2⟩ := Bool.and_eq_true_iff.mp c
      exact ⟨a, b, py_dp rs _ _ _ _ r1 e1, py_dp rs _ _ _ _ r2 e2, c1, c2, p.here rs rfl⟩
    · exact p.elim
theorem ot_neD {X : Cx} {G : Gm} (hu : X.A.units + 64 < cLine) (hK : X.K = G.K := by rfl) : OpR X (compareOp .NotEq) (rNeD G.K) ∧ OpT G (rNeD G.K) (oNe []) := by
  refine ⟨by rw [← hK]; exact op_neD hu, fun m H S x y d1 d2 E Q rs r1 r2 p => ?_⟩
  unfold oNe oEqN at p
  split at p
  · exact p.elim
  · split at p
    · rename_i a b e1 e2
      obtain ⟨c, p⟩ := p.guard
      obtain ⟨c1, c2⟩ := Bool.and_eq_true_iff.mp c
      exact ⟨a, b, py_dp rs _ _ _ _ r1 e1, py_dp rs _ _ _ _ r2 e2, c1, c2, p.here rs rfl⟩
    · exact p.elim
/-! in -/
def D.toV : D → Option V
  | .non => some .non
  | .bl b => some (.bl b)
  | .int i => some (.int i)
  | .str z => some (.str z)
  | _ => none
def toVs : List D → Option (List V)
  | [] => some []
  | d :: ds => match d.toV, toVs ds with
    | some v, some vs => some (v :: vs)
    | _, _ => none
theorem toV_rep {G : Gm} {m : Mp} {H : Hp} {d : D} {v u : V} (r : Rep G m H d v) (e : d.toV = some u) : v = u ∧ flatV u = true := by
  cases d with
  | non => cases e; exact ⟨r, rfl⟩
  | bl b => cases e; exact ⟨r, rfl⟩
  | int i => cases e; exact ⟨r, rfl⟩
  | str z => cases e; exact ⟨r, rfl⟩
  | _ => cases e
theorem toVs_rep {G : Gm} {m : Mp} {H : Hp} : ∀ {ds : List D} {vs us : List V}, Reps G m H ds vs → toVs ds = some us → vs = us ∧ us.all flatV = true
  | [], vs, us, r, e => by cases e; exact ⟨r, rfl⟩
  | d :: ds, vs, us, r, e => by
    obtain ⟨v, w, rfl, h1, h2⟩ := r
    unfold toVs at e
    split at e
    · rename_i a b e1 e2
      cases e
      obtain ⟨rfl, f1⟩ := toV_rep h1 e1
      obtain ⟨rfl, f2⟩ := toVs_rep h2 e2
      exact ⟨rfl, by rw [List.all_cons, f1, f2]; rfl⟩
    · cases e
def oInN (neg : Bool) : Op2 := fun x y S => match y.items S with
  | some ds => match x.toV, toVs ds with
    | some v, some vs => .ok (.bl (if neg then !inV v vs else inV v vs)) S
    | _, _ => match x.py S 9, y.itemsL S, y.py S 9 with
      | some p, some _, some (.list ps) => guardR (SeqAt.shaped p && SeqAt.shaped (.list ps)) (.ok (.bl (if neg then !(ps.any fun z => PyData.eqv z p) else (ps.any fun z => PyData.eqv z p))) S)
      | _, _, _ => .stuck
  | none => .stuck
def rInT (K : PySem.W.Frag) (neg : Bool) : R2 := fun x y H Q => rIn K neg x y H Q ∨ ∃ d ds, Dp K H x d ∧ Dp K H y (.list ds) ∧ SeqAt.shaped d = true ∧ SeqAt.shaped (.list ds) = true ∧ Q (.bl (if neg then !(ds.any fun z => PyData.eqv z d) else (ds.any fun z => PyData.eqv z d))) H
theorem oT_in (neg : Bool) (G : Gm) : OpT G (rInT G.K neg) (oInN neg) := by
  intro m H S x y d1 d2 E Q rs r1 r2 p
  unfold oInN at p
  split at p
  · rename_i ds e
    split at p
    · rename_i v vs e1 e2
      obtain ⟨a, us, rfl, hs, rv⟩ := items_sq rs r2 e
      obtain ⟨rfl, f1⟩ := toV_rep r1 e1
      obtain ⟨rfl, f2⟩ := toVs_rep rv e2
      exact .inl ⟨a, _, rfl, hs, f1, f2, p.here rs rfl⟩
    · split at p
      · rename_i q _ ps e3 e4 e5
        obtain ⟨c, p⟩ := p.guard
        obtain ⟨c1, c2⟩ := Bool.and_eq_true_iff.mp c
        exact .inr ⟨q, ps, py_dp rs _ _ _ _ r1 e3, py_dp rs _ _ _ _ r2 e5, c1, c2, p.here rs rfl⟩
      · exact p.elim
  · exact p.elim
theorem ot_in {X : Cx} {G : Gm} (hu : X.A.units + 65 < cLine) (hK : X.K = G.K := by rfl) : OpR X (compareOp .In) (rInT G.K false) ∧ OpT G (rInT G.K false) (oInN false) :=
  ⟨by rw [← hK]; exact .or op_in_seq (op_inD hu), oT_in false G⟩
theorem ot_notin {X : Cx} {G : Gm} (hu : X.A.units + 65 < cLine) (hK : X.K = G.K := by rfl) : OpR X (compareOp .NotIn) (rInT G.K true) ∧ OpT G (rInT G.K true) (oInN true) :=
  ⟨by rw [← hK]; exact .or op_notIn_seq (op_notInD hu), oT_in true G⟩
/-! ### truth -/
def D.truth (S : Sd) : D → Option Bool
  | .non => some false
  | .bl b => some b
  | .int i => some (i != 0)
  | .str z => if z.length ≤ sizeLine then some ((z.length : Int) != 0) else none
  | .hnd i => match S[i]? with
    | some (.lst ds) => some (!ds.isEmpty)
    | some (.dK ks _) => some (!ks.isEmpty)
    | _ => none
  | d => (d.items S).map fun ds => !ds.isEmpty
theorem Reps.empty {G : Gm} {m : Mp} {H : Hp} {ds : List D} {vs : List V} (h : Reps G m H ds vs) : vs.isEmpty = ds.isEmpty := by
  cases ds with
  | nil => rw [show vs = [] from h]; rfl
  | cons d ds => obtain ⟨v, r, rfl, _⟩ := h; rfl
theorem truth_v {G : Gm} {m : Mp} {H : Hp} {S : Sd} {d : D} {v : V} {k : Bool} (rs : RepS G m H S) (r : Rep G m H d v) (e : d.truth S = some k) : TruV G.K v H k := by
  have seq : ∀ ds, d.items S = some ds → TruV G.K v H (!ds.isEmpty) := fun ds h => by
    obtain ⟨a, us, rfl, hs, rv⟩ := items_sq rs r h
    rw [← rv.empty]
    rcases hs with hs | hs
    · exact .inl ⟨us, hs, rfl⟩
    · exact .inr (.inl ⟨us, hs, rfl⟩)
  cases d with
  | non => cases e; rw [show v = .non from r]; rfl
  | bl b => rw [show v = .bl b from r]; exact (Option.some.inj e).symm
  | int i => cases e; rw [show v = .int i from r]; rfl
  | str z =>
    rw [show v = .str z from r]
    change (if z.length ≤ sizeLine then some ((z.length : Int) != 0) else none) = some k at e
    split at e
    · rename_i h
      cases e
      exact ⟨h, rfl⟩
    · cases e
  | hnd i =>
    change (match S[i]? with | some (.lst ds) => some (!ds.isEmpty) | some (.dK ks _) => some (!ks.isEmpty) | _ => none) = some k at e
    split at e
    · rename_i ds q
      cases e
      exact seq ds (by show (match S[i]? with | some (.lst ds) => some ds | _ => none) = some ds; rw [q])
    · rename_i ks ds q
      cases e
      obtain ⟨a, ha, rfl⟩ := r
      obtain ⟨b, hb, vs, hv, hl, rv⟩ := rs.at_ i _ q
      rw [ha] at hb
      cases hb
      refine .inr (.inr ⟨_, hv, ?_⟩)
      have := rv.length
      cases ks with
      | nil => rfl
      | cons k ks =>
        cases vs with
        | nil => cases ds <;> simp_all
        | cons _ _ => rfl
    · cases e
  | lst ds => cases e; exact seq _ rfl
  | tup ds => cases e; exact seq _ rfl
  | scr ds => cases e; exact seq _ rfl
  | _ => cases e
def truthR (d : D) (S : Sd) : R Bool := match d.truth S with
  | some b => .ok b S
  | none => .stuck
def cTru (φ : TX) : TC := fun env S => (φ env S).bind truthR
def blR (d : D) (S : Sd) : R Bool := match d with
  | .bl b => .ok b S
  | _ => .stuck
def cB (φ : TX) : TC := fun env S => (φ env S).bind blR
def cNot (c : TC) : TC := fun env S => (c env S).bind fun b S' => .ok (!b) S'
def cAnd (c c' : TC) : TC := fun env S => (c env S).bind fun b S' => if b = true then c' env S' else .ok false S'
def cOr (c c' : TC) : TC := fun env S => (c env S).bind fun b S' => if b = true then .ok true S' else c' env S'
def xIf (c : TC) (a b : TX) : TX := fun env S => (c env S).bind fun k S' => if k = true then a env S' else b env S'
def xNot (a : TX) : TX := fun env S => (a env S).bind fun d S' => (truthR d S').bind fun b S2 => .ok (.bl (!b)) S2
def xAnd (a b : TX) : TX := fun env S => (a env S).bind fun d S' => (truthR d S').bind fun k S2 => if k = true then b env S2 else .ok d S2
def xOr (a b : TX) : TX := fun env S => (a env S).bind fun d S' => (truthR d S').bind fun k S2 => if k = true then .ok d S2 else b env S2
def xChain (o o' : Op2) (a b c : TX) : TX := fun env S => (a env S).bind fun x S1 => (b env S1).bind fun y S2 => (o x y S2).bind fun r S3 => (blR r S3).bind fun k S4 => if k = true then (c env S4).bind fun z S5 => o' y z S5 else .ok (.bl false) S4
section
variable {X : Cx} {G : Gm} {E : XK} {a b c : Expr} {φ χ ψ : TX} {κ μ : TC} {pos : PySem.Pos} {rest : List Expr}
theorem PoC.bindR {m : Mp} {H : Hp} {β : Type} {P : Mp → Hp → R β → Prop} {d : D} {v : V} {S : Sd} {k : Bool → Sd → R β} (n : Nice G E P) (p : P m H ((truthR d S).bind k)) (rs : RepS G m H S) (r : Rep G m H d v) : ∃ b, TruV G.K v H b ∧ P m H (k b S) := by
  unfold truthR at p
  cases e : d.truth S with
  | none => rw [e] at p; exact (n.st p).elim
  | some b => rw [e] at p; exact ⟨b, truth_v rs r e, p⟩
theorem ct_tru (ha : PE X a (tT G E φ)) (he : ∀ whole, isTrue a X.env whole = (do let v ← whole; standAt a.pos; holding [v] (truthy v)) := by intro _; rfl) (hK : X.K = G.K := by rfl) : PT X a (tTc G E (cTru φ)) := PT.imp (pt_truth ha he) fun σ H Q h => by
  obtain ⟨m, env, S, rs, re, p⟩ := h
  refine ⟨m, env, S, rs, re, partE (nC Q) p fun d S1 m1 H1 v g rs1 rv p1 => ?_⟩
  have p2 : PoC G m1 H1 E ((truthR d S1).bind fun b S => .ok b S) Q := by
    unfold truthR at p1 ⊢
    cases e : d.truth S1 with
    | none => rw [e] at p1; exact p1
    | some b => rw [e] at p1; exact p1
  obtain ⟨b, t, p3⟩ := PoC.bindR (nC Q) p2 rs1 rv
  rw [hK]
  exact ⟨b, t, p3.here rs1⟩
theorem PoC.ofB {m : Mp} {H : Hp} {β : Type} {P : Mp → Hp → R β → Prop} {d : D} {v : V} {S : Sd} {k : Bool → Sd → R β} (n : Nice G E P) (p : P m H ((blR d S).bind k)) (r : Rep G m H d v) : ∃ b, v = .bl b ∧ P m H (k b S) := by
  cases d with
  | bl b => exact ⟨b, r, p⟩
  | _ => exact (n.st p).elim
theorem ct_cmp {op : CmpOp} {r : R2} {o : Op2} (ho : OpR X (compareOp op) r ∧ OpT G r o) (ha : PE X a (tT G E φ)) (hb : PE X b (tT G E χ)) (hm : behindInMarks op b = false) : PT X (.Compare a [op] [b] pos) (tTc G E (cB (xBin o φ χ))) := PT.imp (pt_cmpR ho.1 ha hb hm) fun σ H Q h => by
  obtain ⟨m, env, S, rs, re, p⟩ := h
  have p' : PoC G m H E ((φ env S).bind fun x S1 => (χ env S1).bind fun y S2 => (o x y S2).bind fun r S3 => (blR r S3).bind fun b S4 => .ok b S4) Q := by
    unfold cB xBin at p
    cases e1 : φ env S with
    | ok x S1 =>
      rw [e1] at p
      simp only [R.bind_ok] at p ⊢
      cases e2 : χ env S1 with
      | ok y S2 =>
        rw [e2] at p
        simp only [R.bind_ok] at p ⊢
        cases e3 : o x y S2 with
        | ok z S3 =>
          rw [e3] at p
          simp only [R.bind_ok] at p ⊢
          cases z <;> exact p
        | _ => rw [e3] at p; exact p
      | _ => rw [e2] at p; exact p
    | _ => rw [e1] at p; exact p
  refine two (nC Q) rs re p' fun d1 d2 S2 m' H' x y g rs' _ r1 r2 p2 => ho.2 m' H' S2 x y d1 d2 E _ rs' r1 r2 (partE (nC Q) p2 fun d3 S3 m3 H3 v g3 rs3 r3 p3 => ?_)
  obtain ⟨b, rfl, p4⟩ := PoC.ofB (nC Q) p3 r3
  exact ⟨b, rfl, p4.here rs3⟩
theorem ct_not (ha : PT X a (tTc G E κ)) : PT X (.UnaryOp .Not a pos) (tTc G E (cNot κ)) := PT.imp (pt_not ha) fun σ H Q h => by
  obtain ⟨m, env, S, rs, re, p⟩ := h
  exact ⟨m, env, S, rs, re, partC (nC Q) p fun b S1 m1 H1 g rs1 p1 => p1.here rs1⟩
theorem cw_and1 (ha : PT X a (tTc G E κ)) : PW X (.BoolOp .And [a] pos) (tTc G E κ) := pw_and1 ha
theorem cw_or1 (ha : PT X a (tTc G E κ)) : PW X (.BoolOp .Or [a] pos) (tTc G E κ) := pw_or1 ha
theorem cw_and (ha : PT X a (tTc G E κ)) (hb : PW X (.BoolOp .And (b :: rest) pos) (tTc G E μ)) : PW X (.BoolOp .And (a :: b :: rest) pos) (tTc G E (cAnd κ μ)) := PW.imp (pw_and ha hb) fun σ H Q h => by
  obtain ⟨m, env, S, rs, re, p⟩ := h
  refine ⟨m, env, S, rs, re, partC (nC Q) p fun b S1 m1 H1 g rs1 p1 => ?_⟩
  cases b with
  | true => exact iteT ⟨m1, env, S1, rs1, re.go g, p1⟩
  | false => exact iteF (PoC.here p1 rs1)
theorem cw_or (ha : PT X a (tTc G E κ)) (hb : PW X (.BoolOp .Or (b :: rest) pos) (tTc G E μ)) : PW X (.BoolOp .Or (a :: b :: rest) pos) (tTc G E (cOr κ μ)) := PW.imp (pw_or ha hb) fun σ H Q h => by
  obtain ⟨m, env, S, rs, re, p⟩ := h
  refine ⟨m, env, S, rs, re, partC (nC Q) p fun b S1 m1 H1 g rs1 p1 => ?_⟩
  cases b with
  | false => exact iteF ⟨m1, env, S1, rs1, re.go g, p1⟩
  | true => exact iteT (PoC.here p1 rs1)
theorem te_if (hc : PT X c (tTc G E κ)) (ha : PE X a (tT G E φ)) (hb : PE X b (tT G E χ)) : PE X (.IfExp c a b pos) (tT G E (xIf κ φ χ)) := PE.imp (pe_ifExp hc ha hb) fun σ H Q h => by
  obtain ⟨m, env, S, rs, re, p⟩ := h
  refine ⟨m, env, S, rs, re, partC (nE Q) p fun b S1 m1 H1 g rs1 p1 => ?_⟩
  cases b with
  | true => exact iteT ⟨m1, env, S1, rs1, re.go g, p1⟩
  | false => exact iteF ⟨m1, env, S1, rs1, re.go g, p1⟩
theorem te_not (ha : PE X a (tT G E φ)) (hK : X.K = G.K := by rfl) : PE X (.UnaryOp .Not a pos) (tT G E (xNot φ)) := PE.imp (pe_notT ha) fun σ H Q h => by
  obtain ⟨m, env, S, rs, re, p⟩ := h
  refine ⟨m, env, S, rs, re, partE (nE Q) p fun d S1 m1 H1 v g rs1 rv p1 => ?_⟩
  obtain ⟨b, t, p2⟩ := PoC.bindR (nE Q) p1 rs1 rv
  rw [hK]
  exact ⟨b, t, p2.here rs1 rfl⟩
theorem te_and (ha : PE X a (tT G E φ)) (hb : PE X (.BoolOp .And (b :: rest) pos) (tT G E χ)) (hK : X.K = G.K := by rfl) : PE X (.BoolOp .And (a :: b :: rest) pos) (tT G E (xAnd φ χ)) := PE.imp (pe_andT ha hb) fun σ H Q h => by
  obtain ⟨m, env, S, rs, re, p⟩ := h
  refine ⟨m, env, S, rs, re, partE (nE Q) p fun d S1 m1 H1 v g rs1 rv p1 => ?_⟩
  obtain ⟨b, t, p2⟩ := PoC.bindR (nE Q) p1 rs1 rv
  rw [hK]
  refine ⟨b, t, ?_⟩
  cases b with
  | true => exact iteT ⟨m1, env, S1, rs1, re.go g, p2⟩
  | false => exact iteF (Po.here p2 rs1 rv)
theorem te_or (ha : PE X a (tT G E φ)) (hb : PE X (.BoolOp .Or (b :: rest) pos) (tT G E χ)) (hK : X.K = G.K := by rfl) : PE X (.BoolOp .Or (a :: b :: rest) pos) (tT G E (xOr φ χ)) := PE.imp (pe_orT ha hb) fun σ H Q h => by
  obtain ⟨m, env, S, rs, re, p⟩ := h
  refine ⟨m, env, S, rs, re, partE (nE Q) p fun d S1 m1 H1 v g rs1 rv p1 => ?_⟩
  obtain ⟨b, t, p2⟩ := PoC.bindR (nE Q) p1 rs1 rv
  rw [hK]
  refine ⟨b, t, ?_⟩
  cases b with
  | true => exact iteT (Po.here p2 rs1 rv)
  | false => exact iteF ⟨m1, env, S1, rs1, re.go g, p2⟩
theorem te_chain {op op' : CmpOp} {r r' : R2} {o o' : Op2} (ho : OpR X (compareOp op) r ∧ OpT G r o) (ho' : OpR X (compareOp op') r' ∧ OpT G r' o') (ha : PE X a (tT G E φ)) (hb : PE X b (tT G E χ)) (hc : PE X c (tT G E ψ)) (hm : lastMarks [op, op'] [b, c] = false := by with_unfolding_all rfl) :
    PE X (.Compare a [op, op'] [b, c] pos) (tT G E (xChain o o' φ χ ψ)) := PE.imp (pe_chain ho.1 ho'.1 ha hb hc hm) fun σ H Q h => by
  obtain ⟨m, env, S, rs, re, p⟩ := h
  refine two (nE Q) rs re p fun d1 d2 S2 m' H' x y g rs' re' r1 r2 p2 => ho.2 m' H' S2 x y d1 d2 E _ rs' r1 r2 (partE (nE Q) p2 fun d3 S3 m3 H3 v g3 rs3 r3 p3 => ?_)
  obtain ⟨k, rfl, p4⟩ := PoC.ofB (nE Q) p3 r3
  refine ⟨k, rfl, ?_⟩
  cases k with
  | true => exact iteT ⟨m3, env, S3, rs3, re'.go g3, partE (nE Q) p4 fun d5 S5 m5 H5 z g5 rs5 r5 p5 => ho'.2 m5 H5 S5 y z d2 d5 E Q rs5 (Rep.go (g3.trans g5) _ _ r2) r5 p5⟩
  | false => exact iteF (Po.here p4 rs3 rfl)
theorem ct_chain {op op' : CmpOp} {r r' : R2} {o o' : Op2} (ho : OpR X (compareOp op) r ∧ OpT G r o) (ho' : OpR X (compareOp op') r' ∧ OpT G r' o') (ha : PE X a (tT G E φ)) (hb : PE X b (tT G E χ)) (hc : PE X c (tT G E ψ)) (hm : lastMarks [op, op'] [b, c] = false := by with_unfolding_all rfl) :
    PT X (.Compare a [op, op'] [b, c] pos) (tTc G E (cB (xChain o o' φ χ ψ))) := by
  have h1 : PE X (.Compare a [op, op'] [b, c] pos) (tT G E (xChain o o' φ χ ψ)) := te_chain ho ho' ha hb hc hm
  refine PT.imp (pt_chain ho.1 ho'.1 ha hb hc hm) fun σ H Q h => ?_
  have : tT G E (xChain o o' φ χ ψ) σ H fun x H' => ∃ k, x = .bl k ∧ Q k H' := by
    obtain ⟨m, env, S, rs, re, p⟩ := h
    have p' : PoC G m H E ((xChain o o' φ χ ψ env S).bind fun r S3 => (blR r S3).bind fun b S4 => .ok b S4) Q := by
      unfold cB at p
      cases e1 : xChain o o' φ χ ψ env S with
      | ok x S1 =>
        rw [e1] at p
        simp only [R.bind_ok] at p ⊢
        cases x <;> exact p
      | _ => rw [e1] at p; exact p
    refine ⟨m, env, S, rs, re, partE (nC Q) p' fun d3 S3 m3 H3 v g3 rs3 r3 p3 => ?_⟩
    obtain ⟨b, rfl, p4⟩ := PoC.ofB (nC Q) p3 r3
    exact ⟨b, rfl, p4.here rs3⟩
  obtain ⟨m, env, S, rs, re, p⟩ := this
  refine two (nE _) rs re p fun d1 d2 S2 m' H' x y g rs' re' r1 r2 p2 => ho.2 m' H' S2 x y d1 d2 E _ rs' r1 r2 (partE (nE _) p2 fun d3 S3 m3 H3 v g3 rs3 r3 p3 => ?_)
  obtain ⟨k, rfl, p4⟩ := PoC.ofB (nE _) p3 r3
  refine ⟨k, rfl, ?_⟩
  cases k with
  | true => exact iteT ⟨m3, env, S3, rs3, re'.go g3, partE (nE _) p4 fun d5 S5 m5 H5 z g5 rs5 r5 p5 => ho'.2 m5 H5 S5 y z d2 d5 E _ rs5 (Rep.go (g3.trans g5) _ _ r2) r5 p5⟩
  | false => exact iteF (Po.here p4 rs3 rfl)
end
end Den

namespace Den
open PySem PySem.Spec PyProof.Rows L2
/-! ## arguments, displays, subscripts, calls of what is built in -/
def xsNil : TXs := fun _ S => .ok [] S
def xsCons (a : TX) (r : TXs) : TXs := fun env S => (a env S).bind fun d S1 => (r env S1).bind fun ds S2 => .ok (d :: ds) S2
def xsOf : List TX → TXs
  | [] => xsNil
  | a :: r => xsCons a (xsOf r)
section
variable {X : Cx} {G : Gm} {E : XK} {a b c e : Expr} {es : List Expr} {φ χ ψ : TX} {φs : TXs} {pos : PySem.Pos}
theorem Pol.cons {m m' : Mp} {H H' : Hp} {S : Sd} {d : D} {v : V} {ds : List D} {vs : List V} (g : Go m H m' H') (r : Rep G m H d v) (rs : Reps G m' H' ds vs) : Reps G m' H' (d :: ds) (v :: vs) := ⟨v, vs, rfl, Rep.go g _ _ r, rs⟩
theorem ta_nil : PA X [] (tTs G E xsNil) := PA.imp pa_nil fun σ H Q h => by
  obtain ⟨m, env, S, rs, re, p⟩ := h
  exact Pol.here (d := []) p rs rfl
theorem ta_cons (ha : PE X e (tT G E φ)) (hr : PA X es (tTs G E φs)) (hs : starEach (e :: es) X.env = (false, eval e X.env) :: starEach es X.env := by rfl) : PA X (e :: es) (tTs G E (xsCons φ φs)) := PA.imp (pa_cons ha hr hs) fun σ H Q h => by
  obtain ⟨m, env, S, rs, re, p⟩ := h
  refine ⟨m, env, S, rs, re, partE (nL Q) p fun d S1 m1 H1 v g1 rs1 r1 p1 => ⟨m1, env, S1, rs1, re.go g1, partL (nL Q) p1 fun ds S2 m2 H2 vs g2 rs2 r2 p2 => ?_⟩⟩
  exact p2.here rs2 (Pol.cons (S := S2) g2 r1 r2)
def xTup (φs : TXs) : TX := fun env S => (φs env S).bind fun ds S1 => guardR (decide (ds.length ≤ sizeLine)) (.ok (.tup ds) S1)
def xLst (φs : TXs) : TX := fun env S => (φs env S).bind fun ds S1 => guardR (decide (ds.length ≤ sizeLine)) (.ok (.lst ds) S1)
/-- a list that will be changed -/
def xLstH (φs : TXs) : TX := fun env S => (φs env S).bind fun ds S1 => guardR (decide (ds.length ≤ sizeLine)) (.ok (.hnd S1.length) (S1 ++ [.lst ds]))
theorem te_tup {x1} (h : PA X es (tTs G E φs)) : PE X (.Tuple es x1 pos) (tT G E (xTup φs)) := PE.imp (pe_tup h) fun σ H Q h => by
  obtain ⟨m, env, S, rs, re, p⟩ := h
  refine ⟨m, env, S, rs, re, partL (nE Q) p fun ds S1 m1 H1 vs g rs1 rv p1 => ?_⟩
  obtain ⟨c, p2⟩ := p1.guard
  have c := of_decide_eq_true c
  rw [rv.length] at c
  exact ⟨c, fun q hq => p2.tup rs1 rv q hq⟩
theorem te_lst (h : PA X es (tTs G E φs)) : PE X (.List es pos) (tT G E (xLst φs)) := PE.imp (pe_lst h) fun σ H Q h => by
  obtain ⟨m, env, S, rs, re, p⟩ := h
  refine ⟨m, env, S, rs, re, partL (nE Q) p fun ds S1 m1 H1 vs g rs1 rv p1 => ?_⟩
  obtain ⟨c, p2⟩ := p1.guard
  have c := of_decide_eq_true c
  rw [rv.length] at c
  exact ⟨c, fun q hq => p2.lst rs1 rv q hq⟩
theorem te_lstH (h : PA X es (tTs G E φs)) : PE X (.List es pos) (tT G E (xLstH φs)) := PE.imp (pe_lst h) fun σ H Q h => by
  obtain ⟨m, env, S, rs, re, p⟩ := h
  refine ⟨m, env, S, rs, re, partL (nE Q) p fun ds S1 m1 H1 vs g rs1 rv p1 => ?_⟩
  obtain ⟨c, p2⟩ := p1.guard
  have c := of_decide_eq_true c
  rw [rv.length] at c
  exact ⟨c, fun q hq => p2.hnd rs1 rv q hq⟩
end
/-! ### subscripts -/
def okR (o : Option D) (S : Sd) : R D := match o with
  | some d => .ok d S
  | none => .stuck
def oIx : Op2 := fun x y S => match y with
  | .int i => match x with
    | .str z => guardR (decide (z.length ≤ sizeLine)) (okR ((atI z.cps.toList i).map fun c => .str ⟨#[c]⟩) S)
    | _ => okR ((x.items S).bind fun ds => atI ds i) S
  | _ => .stuck
theorem atI_rep {G : Gm} {m : Mp} {H : Hp} {ds : List D} {vs : List V} {i : Int} {d : D} (r : Reps G m H ds vs) (e : atI ds i = some d) : ∃ v, atI vs i = some v ∧ Rep G m H d v := by
  unfold atI at e ⊢
  rw [← r.length]
  cases q : ixN ds.length i with
  | none => rw [q] at e; cases e
  | some j =>
    rw [q] at e
    obtain ⟨v, e1, e2⟩ := r.get (show ds[j]? = some d from e)
    exact ⟨v, e1, e2⟩
theorem ix_all {X : Cx} {K : PySem.W.Frag} (hK : X.K = K := by rfl) : IxR X (rIx K) := by subst hK; exact ix_seq
theorem oT_ix (G : Gm) : OpT G (rIx G.K) oIx := by
  intro m H S x y d1 d2 E Q rs r1 r2 p
  unfold oIx at p
  split at p
  · split at p
    · obtain ⟨c, p⟩ := p.guard
      have c := of_decide_eq_true c
      unfold okR at p
      split at p
      · rename_i d e
        obtain ⟨k, e1, rfl⟩ := Option.map_eq_some_iff.mp e
        exact .inr (.inr ⟨_, _, k, r1, r2, c, e1, p.here rs rfl⟩)
      · exact p.elim
    · unfold okR at p
      split at p
      · rename_i d e
        obtain ⟨ds, e1, e2⟩ := Option.bind_eq_some_iff.mp e
        obtain ⟨a, vs, rfl, hs, rv⟩ := items_sq rs r1 e1
        obtain ⟨v, e3, rd⟩ := atI_rep rv e2
        rcases hs with hs | hs
        · exact .inl ⟨a, vs, _, v, rfl, r2, hs, e3, p.here rs rd⟩
        · exact .inr (.inl ⟨a, vs, _, v, rfl, r2, hs, e3, p.here rs rd⟩)
      · exact p.elim
  · exact p.elim
section
variable {X : Cx} {G : Gm} {E : XK} {a b c e : Expr} {es : List Expr} {φ χ ψ : TX} {φs : TXs} {pos p2 : PySem.Pos}
theorem te_ix (ha : PE X a (tT G E φ)) (hb : PE X b (tT G E χ)) (hs : PlainIx b := by exact fun _ _ => rfl) (hK : X.K = G.K := by rfl) : PE X (.Subscript a b pos) (tT G E (xBin oIx φ χ)) := PE.imp (pe_ix (ix_all hK) ha hb hs) fun σ H Q h => by
  obtain ⟨m, env, S, rs, re, p⟩ := h
  exact two (nE Q) rs re p fun d1 d2 S2 m' H' x y g rs' _ r1 r2 p' => oT_ix G _ _ _ _ _ _ _ _ _ rs' r1 r2 p'
/-! slices -/
def cutD (ds : List D) (lo hi : Option Int) : List D := (ds.drop (HT.sIx ds.length 0 lo)).take (HT.sIx ds.length ds.length hi - HT.sIx ds.length 0 lo)
theorem cut_rep {m : Mp} {H : Hp} {ds : List D} {vs : List V} (r : Reps G m H ds vs) (lo hi : Option Int) : Reps G m H (cutD ds lo hi) (cutV vs lo hi) := by
  unfold cutD cutV
  rw [r.length]
  exact (r.drop _).take _
def oSl (x : D) (lo hi : Option Int) (S : Sd) : R D := match x with
  | .str z => guardR (decide (z.length ≤ sizeLine)) (.ok (.str (Txt.slice z lo hi)) S)
  | .tup ds => .ok (.tup (cutD ds lo hi)) S
  | .scr ns => .ok (.lst (cutD (ns.map D.int) lo hi)) S
  | _ => match x.itemsL S with
    | some ds => .ok (.lst (cutD ds lo hi)) S
    | none => .stuck
def rSl (K : PySem.W.Frag) : V → Option Int → Option Int → Hp → VK → Prop := fun x lo hi H Q => rSlL K x lo hi H Q ∨ rSlA K x lo hi H Q ∨ C8.rSlX x lo hi H Q
theorem sl_all (hK : X.K = G.K := by rfl) : SlR X (rSl G.K) := by
  rw [← hK]
  exact .or sl_list (.or sl_tupA C8.sl_txt)
theorem oT_sl {m : Mp} {H : Hp} {S : Sd} {x : V} {d : D} {lo hi : Option Int} {E : XK} {Q : VK} (rs : RepS G m H S) (r : Rep G m H d x) (p : Po G m H E (oSl d lo hi S) Q) : rSl G.K x lo hi H Q := by
  unfold oSl at p
  split at p
  · obtain ⟨c, p⟩ := p.guard
    exact .inr (.inr ⟨_, r, of_decide_eq_true c, p.here rs rfl⟩)
  · rename_i ds
    obtain ⟨a, vs, rfl, ht, rv⟩ := id r
    refine .inr (.inl ⟨a, vs, rfl, ht.sq, fun w => ?_, fun _ q hq => p.tup rs (cut_rep rv lo hi) q hq⟩)
    have e : cutD ds lo hi = ds := by
      unfold cutD
      rw [rv.length, w.1, w.2, List.drop_zero, Nat.sub_zero, ← rv.length, List.take_length]
    rw [e] at p
    exact p.here rs r
  · rename_i ns
    obtain ⟨a, rfl, ht⟩ := id r
    exact .inl ⟨a, _, rfl, ht.sq, fun q hq => p.lst rs (cut_rep (ints_reps ns) lo hi) q hq⟩
  · split at p
    · rename_i ds e
      obtain ⟨a, vs, rfl, hs, rv⟩ := itemsL_sq rs r e
      exact .inl ⟨a, vs, rfl, .of hs, fun q hq => p.lst rs (cut_rep rv lo hi) q hq⟩
    · exact p.elim
abbrev TP2 := En → Sd → R (Option Int)
def pNo : TP2 := fun _ S => .ok none S
def pAt (φ : TX) : TP2 := fun env S => (φ env S).bind fun d S1 => match d with
  | .int i => .ok (some i) S1
  | _ => .stuck
structure PO2 (X : Cx) (G : Gm) (E : XK) (o : Option Expr) (κ : TP2) : Prop where
  ok : ∃ t : TO, PO X o t ∧ ∀ {β : Type} {P : Mp → Hp → R β → Prop} {m : Mp} {H : Hp} {env : En} {S : Sd} {σ : L2.St} {k : Option Int → Sd → R β} {Q : Option Int → Hp → Prop}, Nice G E P → RepS G m H S → RepE G m H env σ → P m H ((κ env S).bind k) →
    (∀ o S' m' H', Go m H m' H' → RepS G m' H' S' → P m' H' (k o S') → Q o H') → t σ H Q
theorem po2_no : PO2 X G E none pNo := ⟨_, po_none, fun n rs re p h => h none _ _ _ (.refl _ _) rs p⟩
theorem po2_at (ha : PE X e (tT G E φ)) : PO2 X G E (some e) (pAt φ) := ⟨_, po_some ha, fun {β P m H env S σ k Q} n rs re p h => by
  have p' : P m H ((φ env S).bind fun d S1 => R.bind (match d with | .int i => .ok (some i) S1 | _ => .stuck) k) := by
    unfold pAt at p
    cases e1 : φ env S with
    | ok x S1 => rw [e1] at p; exact p
    | _ => rw [e1] at p; exact p
  refine ⟨m, env, S, rs, re, partE n p' fun d S1 m1 H1 v g rs1 r1 p1 => ?_⟩
  cases d with
  | int i => exact ⟨i, r1, h _ _ _ _ g rs1 p1⟩
  | _ => exact (n.st p1).elim⟩
def xSl (φ : TX) (lo hi : TP2) : TX := fun env S => (φ env S).bind fun x S1 => (lo env S1).bind fun l S2 => (hi env S2).bind fun h S3 => oSl x l h S3
theorem te_sl {lo hi : Option Expr} {κ μ : TP2} (ha : PE X a (tT G E φ)) (hl : PO2 X G E lo κ) (hh : PO2 X G E hi μ) (hK : X.K = G.K := by rfl) : PE X (.Subscript a (.Slice lo hi none p2) pos) (tT G E (xSl φ κ μ)) := by
  obtain ⟨tl, h1, k1⟩ := hl.ok
  obtain ⟨th, h2, k2⟩ := hh.ok
  refine PE.imp (pe_slice (sl_all hK) ha h1 h2) fun σ H Q h => ?_
  obtain ⟨m, env, S, rs, re, p⟩ := h
  refine ⟨m, env, S, rs, re, partE (nE Q) p fun d S1 m1 H1 v g1 rs1 r1 p1 => k1 (nE Q) rs1 (re.go g1) p1 fun l S2 m2 H2 g2 rs2 p2 => k2 (nE Q) rs2 (re.go (g1.trans g2)) p2 fun h S3 m3 H3 g3 rs3 p3 => ?_⟩
  exact oT_sl rs3 (Rep.go (g2.trans g3) _ _ r1) p3
/-- xs[::-1] -/
def oRev (x : D) (S : Sd) : R D := match x.itemsL S with
  | some ds => .ok (.lst ds.reverse) S
  | none => .stuck
def xUn (o : D → Sd → R D) (φ : TX) : TX := fun env S => (φ env S).bind fun x S1 => o x S1
theorem te_rev {k : Nat} {p1 p2 p3 : PySem.Pos} (ha : PE X e (tT G E φ)) (hK : X.K = G.K := by rfl) : PE X (.Subscript e (.Slice none none (some (.UnaryOp .USub (.Constant (.int 1) k p1) p2)) p3) pos) (tT G E (xUn oRev φ)) := PE.imp (pe_revL ha) fun σ H Q h => by
  obtain ⟨m, env, S, rs, re, p⟩ := h
  refine ⟨m, env, S, rs, re, partE (nE Q) p fun d S1 m1 H1 v g rs1 rv p1 => ?_⟩
  unfold oRev at p1
  split at p1
  · rename_i ds e1
    obtain ⟨a, vs, rfl, hs, rr⟩ := itemsL_sq rs1 rv e1
    exact ⟨a, vs, rfl, .of hs, fun q hq => p1.lst rs1 rr.rev q hq⟩
  · exact p1.elim
/-- - x -/
def oNeg (x : D) (S : Sd) : R D := match x with
  | .int i => .ok (.int (-i)) S
  | _ => .stuck
theorem te_neg (ha : PE X a (tT G E φ)) : PE X (.UnaryOp .USub a pos) (tT G E (xUn oNeg φ)) := PE.imp (pe_un un_neg ha) fun σ H Q h => by
  obtain ⟨m, env, S, rs, re, p⟩ := h
  refine ⟨m, env, S, rs, re, partE (nE Q) p fun d S1 m1 H1 v g rs1 rv p1 => ?_⟩
  unfold oNeg at p1
  split at p1
  · exact ⟨_, rv, p1.here rs1 rfl⟩
  · exact p1.elim
end
/-! ### calls of what is built in -/
abbrev OpL := List D → Sd → R D
def CallT (G : Gm) (r : List V → Hp → VK → Prop) (o : OpL) : Prop := ∀ (m : Mp) (H : Hp) (S : Sd) (xs : List V) (ds : List D) (E : XK) (Q : VK), RepS G m H S → Reps G m H ds xs → Po G m H E (o ds S) Q → r xs H Q
def xCall (o : OpL) (φs : TXs) : TX := fun env S => (φs env S).bind fun ds S1 => o ds S1
theorem CallR.or {X : Cx} {f : Value} {r r' : List V → Hp → VK → Prop} (h : CallR X f r) (h' : CallR X f r') : CallR X f (fun xs H Q => r xs H Q ∨ r' xs H Q) := fun pins s σ H xs us Q I rx q => q.elim (h pins s σ H xs us Q I rx) (h' pins s σ H xs us Q I rx)
section
variable {X : Cx} {G : Gm} {E : XK} {a b c e : Expr} {es : List Expr} {φ χ ψ : TX} {φs : TXs} {pos p : PySem.Pos} {x : Str} {id T : String} {r : List V → Hp → VK → Prop} {o : OpL}
theorem tcb_in (ho : CallT G r o) (σ : L2.St) (H : Hp) (Q : VK) (h : tT G E (xCall o φs) σ H Q) : tTs G E φs σ H fun vs H1 => r vs H1 Q := by
  obtain ⟨m, env, S, rs, re, p⟩ := h
  exact ⟨m, env, S, rs, re, partL (nE Q) p fun ds S1 m1 H1 vs g rs1 rv p1 => ho _ _ _ _ _ _ _ rs1 rv p1⟩
theorem te_callB (ho : CallR X (.builtin id) r ∧ CallT G r o) (hg : Gl X x) (hm : X.mg x = none) (hv : bootBuiltins x = some (.builtin id)) (ha : PA X (e :: es) (tTs G E φs)) (hn : x ≠ "__name__" := by decide) (hdb : (x == ("__debug__" : Str)) = false := by decide)
    (he : starEach (e :: es) X.env = (false, eval e X.env) :: starEach es X.env := by rfl) (hpl : (backTo pos (starEach es X.env)).any (·.1) = false := by rfl) : PE X (.Call (.Name x p) (e :: es) [] pos) (tT G E (xCall o φs)) :=
  PE.imp (pe_callB ho.1 hg hm hv ha hn hdb he hpl) fun σ H Q h => tcb_in ho.2 σ H Q h
theorem te_callTy (ho : CallR X (.type T) r ∧ CallT G r o) (hg : Gl X x) (hm : X.mg x = none) (hv : bootBuiltins x = some (.type T)) (ha : PA X (e :: es) (tTs G E φs)) (hn : x ≠ "__name__" := by decide) (hdb : (x == ("__debug__" : Str)) = false := by decide)
    (he : starEach (e :: es) X.env = (false, eval e X.env) :: starEach es X.env := by rfl) (hpl : (backTo pos (starEach es X.env)).any (·.1) = false := by rfl) : PE X (.Call (.Name x p) (e :: es) [] pos) (tT G E (xCall o φs)) :=
  PE.imp (pe_callTy ho.1 hg hm hv ha hn hdb he hpl) fun σ H Q h => tcb_in ho.2 σ H Q h
end
theorem reps1 {G : Gm} {m : Mp} {H : Hp} {d : D} {vs : List V} (h : Reps G m H [d] vs) : ∃ v, vs = [v] ∧ Rep G m H d v := by
  obtain ⟨v, r, rfl, h1, h2⟩ := h
  exact ⟨v, by rw [show r = [] from h2], h1⟩
theorem reps2 {G : Gm} {m : Mp} {H : Hp} {d e : D} {vs : List V} (h : Reps G m H [d, e] vs) : ∃ v u, vs = [v, u] ∧ Rep G m H d v ∧ Rep G m H e u := by
  obtain ⟨v, r, rfl, h1, h2⟩ := h
  obtain ⟨u, rfl, h3⟩ := reps1 h2
  exact ⟨v, u, rfl, h1, h3⟩
/-! len -/
def oLen : OpL := fun ds S => match ds with
  | [.str z] => guardR (decide (z.length ≤ sizeLine)) (.ok (.int z.length) S)
  | [d] => match d.items S with
    | some xs => .ok (.int xs.length) S
    | none => .stuck
  | _ => .stuck
def rLen (K : PySem.W.Frag) : List V → Hp → VK → Prop := fun xs H Q => (∃ p ys, xs = [.ref p] ∧ (SqL K H p ys ∨ SqT K H p ys) ∧ Q (.int ys.length) H) ∨ ∃ z, xs = [.str z] ∧ z.length ≤ sizeLine ∧ Q (.int z.length) H
theorem ot_len {X : Cx} {G : Gm} (hK : X.K = G.K := by rfl) : CallR X (.builtin "len") (rLen G.K) ∧ CallT G (rLen G.K) oLen := by
  refine ⟨by rw [← hK]; exact .or call_len_seq call_len_str, fun m H S xs ds E Q rs r p => ?_⟩
  unfold oLen at p
  split at p
  · obtain ⟨v, rfl, r1⟩ := reps1 r
    obtain ⟨c, p⟩ := p.guard
    exact .inr ⟨_, by rw [show v = _ from r1], of_decide_eq_true c, p.here rs rfl⟩
  · obtain ⟨v, rfl, r1⟩ := reps1 r
    split at p
    · rename_i e
      obtain ⟨a, vs, rfl, hs, rv⟩ := items_sq rs r1 e
      rw [rv.length] at p
      exact .inl ⟨a, vs, rfl, hs, p.here rs rfl⟩
    · exact p.elim
  · exact p.elim
def oAbs : OpL := fun ds S => match ds with
  | [.int i] => .ok (.int (if i < 0 then -i else i)) S
  | _ => .stuck
theorem ot_abs {X : Cx} {G : Gm} : CallR X (.builtin "abs") (fun xs H Q => ∃ i, xs = [.int i] ∧ Q (.int (if i < 0 then -i else i)) H) ∧ CallT G (fun xs H Q => ∃ i, xs = [.int i] ∧ Q (.int (if i < 0 then -i else i)) H) oAbs := by
  refine ⟨call_abs, fun m H S xs ds E Q rs r p => ?_⟩
  unfold oAbs at p
  split at p
  · obtain ⟨v, rfl, r1⟩ := reps1 r
    exact ⟨_, by rw [show v = _ from r1], p.here rs rfl⟩
  · exact p.elim
def oInt : OpL := fun ds S => match ds with
  | [.int i] => .ok (.int i) S
  | [.bl b] => .ok (.int (if b then 1 else 0)) S
  | [.str z] => match PySem.intText? z with
    | some n => guardR (decide (z.length ≤ 640)) (.ok (.int n) S)
    | none => .stuck
  | _ => .stuck
def rInt : List V → Hp → VK → Prop := fun xs H Q => ((∃ i, xs = [.int i] ∧ Q (.int i) H) ∨ ∃ k, xs = [.bl k] ∧ Q (.int (if k then 1 else 0)) H) ∨ ∃ a n, xs = [.str a] ∧ PySem.intText? a = some n ∧ a.length ≤ 640 ∧ Q (.int n) H
theorem ot_int {X : Cx} {G : Gm} : CallR X (.type "int") rInt ∧ CallT G rInt oInt := by
  refine ⟨.or call_int1 call_int_str, fun m H S xs ds E Q rs r p => ?_⟩
  unfold oInt at p
  split at p
  · obtain ⟨v, rfl, r1⟩ := reps1 r
    exact .inl (.inl ⟨_, by rw [show v = _ from r1], p.here rs rfl⟩)
  · obtain ⟨v, rfl, r1⟩ := reps1 r
    exact .inl (.inr ⟨_, by rw [show v = _ from r1], p.here rs rfl⟩)
  · obtain ⟨v, rfl, r1⟩ := reps1 r
    split at p
    · rename_i n e
      obtain ⟨c, p⟩ := p.guard
      exact .inr ⟨_, n, by rw [show v = _ from r1], e, of_decide_eq_true c, p.here rs rfl⟩
    · exact p.elim
  · exact p.elim
def oStrI : OpL := fun ds S => match ds with
  | [.int i] => guardR (decide (i.natAbs.log2 < 1920)) (.ok (.str (toString i)) S)
  | _ => .stuck
theorem ot_strI {X : Cx} {G : Gm} : CallR X (.type "str") (fun xs H Q => ∃ i, xs = [.int i] ∧ i.natAbs.log2 < 1920 ∧ Q (.str (toString i)) H) ∧ CallT G (fun xs H Q => ∃ i : Int, xs = [.int i] ∧ i.natAbs.log2 < 1920 ∧ Q (.str (toString i)) H) oStrI := by
  refine ⟨call_str_int, fun m H S xs ds E Q rs r p => ?_⟩
  unfold oStrI at p
  split at p
  · obtain ⟨v, rfl, r1⟩ := reps1 r
    obtain ⟨c, p⟩ := p.guard
    exact ⟨_, by rw [show v = _ from r1], of_decide_eq_true c, p.here rs rfl⟩
  · exact p.elim
def oTuple : OpL := fun ds S => match ds with
  | [.tup xs] => .ok (.tup xs) S
  | [d] => match d.items S with
    | some xs => .ok (.tup xs) S
    | none => .stuck
  | _ => .stuck
def rTu (K : PySem.W.Frag) : List V → Hp → VK → Prop := fun xs H Q => ∃ p ys, xs = [.ref p] ∧ ((SqL K H p ys ∧ ∀ l, H l = none → Q (.ref l) (upd H l (.tup ys))) ∨ (SqT K H p ys ∧ Q (.ref p) H))
theorem items_l {d : D} {S : Sd} {ds : List D} (e : d.items S = some ds) (h : ∀ xs, d ≠ .tup xs) {G : Gm} {m : Mp} {H : Hp} {v : V} (rs : RepS G m H S) (r : Rep G m H d v) : ∃ a vs, v = .ref a ∧ SqL G.K H a vs ∧ Reps G m H ds vs := by
  cases d with
  | tup xs => exact absurd rfl (h xs)
  | scr ns =>
    cases e
    obtain ⟨a, rfl, q⟩ := r
    exact ⟨a, _, rfl, q.sq, ints_reps ns⟩
  | lst xs =>
    obtain ⟨a, vs, e1, e2, e3⟩ := itemsL_sq rs r e
    exact ⟨a, vs, e1, .of e2, e3⟩
  | hnd i =>
    obtain ⟨a, vs, e1, e2, e3⟩ := itemsL_sq rs r e
    exact ⟨a, vs, e1, .of e2, e3⟩
  | _ => cases e
theorem ot_tuple {X : Cx} {G : Gm} (hK : X.K = G.K := by rfl) : CallR X (.type "tuple") (rTu G.K) ∧ CallT G (rTu G.K) oTuple := by
  refine ⟨by rw [← hK]; exact call_tuple_of, fun m H S xs ds E Q rs r p => ?_⟩
  unfold oTuple at p
  split at p
  · obtain ⟨v, rfl, r1⟩ := reps1 r
    obtain ⟨a, vs, rfl, ht, rv⟩ := id r1
    exact ⟨a, vs, rfl, .inr ⟨ht.sq, p.here rs r1⟩⟩
  · rename_i hn
    obtain ⟨v, rfl, r1⟩ := reps1 r
    split at p
    · rename_i e
      obtain ⟨a, vs, rfl, hs, rv⟩ := items_l e (fun xs z => hn xs (by rw [z])) rs r1
      exact ⟨a, vs, rfl, .inl ⟨hs, fun q hq => p.tup rs rv q hq⟩⟩
    · exact p.elim
  · exact p.elim
def oList : OpL := fun ds S => match ds with
  | [d] => match d.items S with
    | some xs => .ok (.lst xs) S
    | none => .stuck
  | _ => .stuck
/-- .. that will be changed -/
def oListH : OpL := fun ds S => match ds with
  | [d] => match d.items S with
    | some xs => .ok (.hnd S.length) (S ++ [.lst xs])
    | none => .stuck
  | _ => .stuck
def rLi (K : PySem.W.Frag) : List V → Hp → VK → Prop := fun xs H Q => ∃ p ys, xs = [.ref p] ∧ (SqL K H p ys ∨ SqT K H p ys) ∧ ∀ l, H l = none → Q (.ref l) (upd H l (.lst ys))
theorem ot_list {X : Cx} {G : Gm} (hK : X.K = G.K := by rfl) : CallR X (.type "list") (rLi G.K) ∧ CallT G (rLi G.K) oList := by
  refine ⟨by rw [← hK]; exact call_list_of, fun m H S xs ds E Q rs r p => ?_⟩
  unfold oList at p
  split at p
  · obtain ⟨v, rfl, r1⟩ := reps1 r
    split at p
    · rename_i e
      obtain ⟨a, vs, rfl, hs, rv⟩ := items_sq rs r1 e
      exact ⟨a, vs, rfl, hs, fun q hq => p.lst rs rv q hq⟩
    · exact p.elim
  · exact p.elim
theorem ot_listH {X : Cx} {G : Gm} (hK : X.K = G.K := by rfl) : CallR X (.type "list") (rLi G.K) ∧ CallT G (rLi G.K) oListH := by
  refine ⟨by rw [← hK]; exact call_list_of, fun m H S xs ds E Q rs r p => ?_⟩
  unfold oListH at p
  split at p
  · obtain ⟨v, rfl, r1⟩ := reps1 r
    split at p
    · rename_i e
      obtain ⟨a, vs, rfl, hs, rv⟩ := items_sq rs r1 e
      exact ⟨a, vs, rfl, hs, fun q hq => p.hnd rs rv q hq⟩
    · exact p.elim
  · exact p.elim
/-! all, any, sum, max of what is listed -/
def D.int? : D → Option Int
  | .int i => some i
  | _ => none
def allOf {α β : Type} (f : α → Option β) : List α → Option (List β)
  | [] => some []
  | d :: ds => match f d, allOf f ds with
    | some p, some ps => some (p :: ps)
    | _, _ => none
theorem bls_rep {G : Gm} {m : Mp} {H : Hp} : ∀ {ds : List D} {vs : List V} {bs : List Bool}, Reps G m H ds vs → allOf D.bl? ds = some bs → vs = bs.map V.bl
  | [], vs, bs, r, e => by cases e; exact r
  | d :: ds, vs, bs, r, e => by
    obtain ⟨v, w, rfl, h1, h2⟩ := r
    unfold allOf at e
    split at e
    · rename_i b cs e1 e2
      cases e
      rw [bls_rep h2 e2]
      cases d with
      | bl k => rw [show v = .bl k from h1, Option.some.inj (show some k = some b from e1)]; rfl
      | _ => cases e1
    · cases e
theorem ints_rep {G : Gm} {m : Mp} {H : Hp} : ∀ {ds : List D} {vs : List V} {bs : List Int}, Reps G m H ds vs → allOf D.int? ds = some bs → vs = bs.map V.int
  | [], vs, bs, r, e => by cases e; exact r
  | d :: ds, vs, bs, r, e => by
    obtain ⟨v, w, rfl, h1, h2⟩ := r
    unfold allOf at e
    split at e
    · rename_i b cs e1 e2
      cases e
      rw [ints_rep h2 e2]
      cases d with
      | int k => rw [show v = .int k from h1, Option.some.inj (show some k = some b from e1)]; rfl
      | _ => cases e1
    · cases e
def oAll : OpL := fun ds S => match ds with
  | [d] => match (d.itemsL S).bind (allOf D.bl?) with
    | some bs => .ok (.bl (bs.all id)) S
    | none => .stuck
  | _ => .stuck
def oAny : OpL := fun ds S => match ds with
  | [d] => match (d.itemsL S).bind (allOf D.bl?) with
    | some bs => .ok (.bl (bs.any id)) S
    | none => .stuck
  | _ => .stuck
def oSum : OpL := fun ds S => match ds with
  | [d] => match (d.itemsL S).bind (allOf D.int?) with
    | some bs => .ok (.int bs.sum) S
    | none => .stuck
  | _ => .stuck
theorem ot_all {X : Cx} {G : Gm} (hc : X.calm = true := by rfl) (hK : X.K = G.K := by rfl) : CallR X (.builtin "all") (rAll G.K) ∧ CallT G (rAll G.K) oAll := by
  refine ⟨by rw [← hK]; exact cr_all hc, fun m H S xs ds E Q rs r p => ?_⟩
  unfold oAll at p
  split at p
  · obtain ⟨v, rfl, r1⟩ := reps1 r
    split at p
    · rename_i bs e
      obtain ⟨es, e1, e2⟩ := Option.bind_eq_some_iff.mp e
      obtain ⟨a, vs, rfl, hs, rv⟩ := itemsL_sq rs r1 e1
      exact ⟨a, bs, rfl, .of (by rw [hs, bls_rep rv e2]), p.here rs rfl⟩
    · exact p.elim
  · exact p.elim
theorem ot_any {X : Cx} {G : Gm} (hc : X.calm = true := by rfl) (hK : X.K = G.K := by rfl) : CallR X (.builtin "any") (rAny G.K) ∧ CallT G (rAny G.K) oAny := by
  refine ⟨by rw [← hK]; exact cr_any hc, fun m H S xs ds E Q rs r p => ?_⟩
  unfold oAny at p
  split at p
  · obtain ⟨v, rfl, r1⟩ := reps1 r
    split at p
    · rename_i bs e
      obtain ⟨es, e1, e2⟩ := Option.bind_eq_some_iff.mp e
      obtain ⟨a, vs, rfl, hs, rv⟩ := itemsL_sq rs r1 e1
      exact ⟨a, bs, rfl, .of (by rw [hs, bls_rep rv e2]), p.here rs rfl⟩
    · exact p.elim
  · exact p.elim
theorem ot_sum {X : Cx} {G : Gm} (hc : X.calm = true := by rfl) (hK : X.K = G.K := by rfl) : CallR X (.builtin "sum") (rSum G.K) ∧ CallT G (rSum G.K) oSum := by
  refine ⟨by rw [← hK]; exact cr_sum hc, fun m H S xs ds E Q rs r p => ?_⟩
  unfold oSum at p
  split at p
  · obtain ⟨v, rfl, r1⟩ := reps1 r
    split at p
    · rename_i bs e
      obtain ⟨es, e1, e2⟩ := Option.bind_eq_some_iff.mp e
      obtain ⟨a, vs, rfl, hs, rv⟩ := itemsL_sq rs r1 e1
      exact ⟨a, bs, rfl, .of (by rw [hs, ints_rep rv e2]), p.here rs rfl⟩
    · exact p.elim
  · exact p.elim
end Den

namespace Den
open PySem PySem.Spec PyProof.Rows L2
/-! ## walks -/
/-- what is walked, and whether it still is as it was -/
structure Wl where
  l : List D
  p : Sd → Bool
def anyS : Sd → Bool := fun _ => true
abbrev TW := En → Sd → R Wl
structure Wk (G : Gm) (J : It) (m : Mp) (H : Hp) (ds : List D) (p : Sd → Bool) : Prop where
  step : ∀ m' H' S' (i : Nat) (d : D), Mv m H m' H' → RepS G m' H' S' → p S' = true → ds[i]? = some d → J.go i H' ∧ ∀ x H'', J.yld i H' x H'' → Same H' H'' ∧ Rep G m' H'' d x
  stop : ∀ m' H' S', Mv m H m' H' → RepS G m' H' S' → p S' = true → J.stop ds.length H'
structure PIT (X : Cx) (G : Gm) (E : XK) (tg iter : Expr) (κ : TW) (wi : TI) : Prop where
  pi : PI X tg iter wi
  ok : ∀ {β : Type} {P : Mp → Hp → R β → Prop} {m : Mp} {H : Hp} {env : En} {S : Sd} {σ : L2.St} {k : Wl → Sd → R β} {Q : It → Hp → Prop}, Nice G E P → RepS G m H S → RepE G m H env σ → P m H ((κ env S).bind k) →
    (∀ ds w S' m' H' J, Go m H m' H' → RepS G m' H' S' → Wk G J m' H' ds w → P m' H' (k ⟨ds, w⟩ S') → Q J H') → wi σ H Q
def D.walk : D → Option (List D)
  | .lst ds => some ds
  | .tup ds => some ds
  | .scr ns => some (ns.map D.int)
  | .str z => some (z.cps.toList.map fun c => .str ⟨#[c]⟩)
  | _ => none
open Classical in
noncomputable def stillS (i : Nat) (ds : List D) (S : Sd) : Bool := decide (S[i]? = some (.lst ds))
open Classical in
theorem stillS_ok {i : Nat} {ds : List D} {S : Sd} (h : stillS i ds S = true) : S[i]? = some (.lst ds) := by unfold stillS at h; exact of_decide_eq_true h
open Classical in
theorem stillS_at {i : Nat} {ds : List D} {S : Sd} (h : S[i]? = some (.lst ds)) : stillS i ds S = true := by unfold stillS; exact decide_eq_true h
noncomputable def walkR (d : D) (S : Sd) : R Wl := match d.walk with
  | some ds => .ok ⟨ds, anyS⟩ S
  | none => match d with
    | .hnd i => match S[i]? with
      | some (.lst ds) => .ok ⟨ds, stillS i ds⟩ S
      | _ => .stuck
    | _ => .stuck
noncomputable def wOf (φ : TX) : TW := fun env S => (φ env S).bind walkR
def iAll (K : PySem.W.Frag) (tl : TE) : TI := fun σ H R => iList K tl σ H R ∨ iTup K tl σ H R ∨ iStr tl σ H R
theorem pi_all {X : Cx} {tg l : Expr} {tl : TE} (K : PySem.W.Frag) (hl : PE X l tl) (h : X.K = K := by rfl) : PI X tg l (iAll K tl) := by
  subst h
  exact ⟨fun pins s σ H R I z => z.elim ((pi_list hl).run pins s σ H R I) fun z => z.elim ((pi_tup hl).run pins s σ H R I) ((pi_str hl).run pins s σ H R I)⟩
section
variable {G : Gm} {E : XK} {m : Mp} {H : Hp}
theorem wk_list {a : Addr} {ds : List D} {vs : List V} {w : Sd → Bool} (h : LsA m H a vs) (r : Reps G m H ds vs) : Wk G (Itl G.K a) m H ds w := ⟨fun m' H' S' i d g rs _ e => by
  obtain ⟨x, e1, rx⟩ := r.get e
  have q : SqL G.K H' a vs := (g.ls h).sq
  refine ⟨⟨vs, x, q, e1⟩, fun y H'' ⟨eh, hy⟩ => ?_⟩
  subst eh
  rw [hy vs q] at e1
  cases e1
  exact ⟨Same.refl _, Rep.mv g _ _ rx⟩, fun m' H' _ g _ _ => ⟨vs, (g.ls h).sq, by rw [r.length]; exact Nat.le_refl _⟩⟩
theorem wk_scr {a : Addr} {ns : List Int} {w : Sd → Bool} (h : ScA G m H a (ns.map V.int)) : Wk G (Itl G.K a) m H (ns.map D.int) w := ⟨fun m' H' S' i d g rs _ e => by
  obtain ⟨x, e1, rx⟩ := (ints_reps (G := G) (m := m) (H := H) ns).get e
  have q : SqL G.K H' a (ns.map V.int) := (g.sc h).sq
  refine ⟨⟨_, x, q, e1⟩, fun y H'' ⟨eh, hy⟩ => ?_⟩
  subst eh
  rw [hy _ q] at e1
  cases e1
  exact ⟨Same.refl _, Rep.mv g _ _ rx⟩, fun m' H' _ g _ _ => ⟨_, (g.sc h).sq, by rw [List.length_map, List.length_map]; exact Nat.le_refl _⟩⟩
theorem wk_tup {a : Addr} {ds : List D} {vs : List V} {w : Sd → Bool} (h : TpA G m H a vs) (r : Reps G m H ds vs) : Wk G (Itt G.K a) m H ds w := ⟨fun m' H' S' i d g rs _ e => by
  obtain ⟨x, e1, rx⟩ := r.get e
  have q : SqT G.K H' a vs := (g.tp h).sq
  refine ⟨⟨vs, x, q, e1⟩, fun y H'' ⟨eh, hy⟩ => ?_⟩
  subst eh
  rw [hy vs q] at e1
  cases e1
  exact ⟨Same.refl _, Rep.mv g _ _ rx⟩, fun m' H' _ g _ _ => ⟨vs, (g.tp h).sq, by rw [r.length]; exact Nat.le_refl _⟩⟩
/-- a list that may be changed, as long as it is not -/
theorem wk_hnd {i0 : Nat} {a : Addr} {ds : List D} {w : Sd → Bool} (ha : m.hs[i0]? = some a) (hw : ∀ S, w S = true → S[i0]? = some (.lst ds)) : Wk G (Itl G.K a) m H ds w := by
  have key : ∀ m' H' S', Mv m H m' H' → RepS G m' H' S' → w S' = true → ∃ vs, H' a = some (.lst vs) ∧ Reps G m' H' ds vs := fun m' H' S' g rs p => by
    obtain ⟨b, e, vs, h1, h2⟩ := rs.at_ i0 _ (hw S' p)
    rw [g.ix ha] at e
    cases e
    exact ⟨vs, h1, h2⟩
  refine ⟨fun m' H' S' i d g rs p e => ?_, fun m' H' S' g rs p => ?_⟩
  · obtain ⟨vs, h1, r⟩ := key m' H' S' g rs p
    obtain ⟨x, e1, rx⟩ := r.get e
    have q : SqL G.K H' a vs := .of h1
    refine ⟨⟨vs, x, q, e1⟩, fun y H'' ⟨eh, hy⟩ => ?_⟩
    subst eh
    rw [hy vs q] at e1
    cases e1
    exact ⟨Same.refl _, rx⟩
  · obtain ⟨vs, h1, r⟩ := key m' H' S' g rs p
    exact ⟨vs, .of h1, by rw [r.length]; exact Nat.le_refl _⟩
theorem wk_str {w : Sd → Bool} (z : Str) : Wk G (Its z) m H (z.cps.toList.map fun c => D.str ⟨#[c]⟩) w := ⟨fun m' H' S' i d g rs _ e => by
  rw [List.getElem?_map] at e
  obtain ⟨c, e1, rfl⟩ := Option.map_eq_some_iff.mp e
  have e2 : z.cps[i]? = some c := by rw [← Array.getElem?_toList]; exact e1
  refine ⟨(Array.getElem?_eq_some_iff.mp e2).1, fun y H'' ⟨eh, c', e3, hy⟩ => ?_⟩
  subst eh hy
  rw [e2] at e3
  cases e3
  exact ⟨Same.refl _, rfl⟩, fun m' H' _ g _ _ => by show _ ≤ _; simp⟩
theorem wk_rng {w : Sd → Bool} (lo : Int) (n : Nat) : Wk G (Itr lo n) m H ((List.range n).map fun k => D.int (lo + (k : Nat))) w := ⟨fun m' H' S' i d g rs _ e => by
  rw [List.getElem?_map] at e
  obtain ⟨c, e1, rfl⟩ := Option.map_eq_some_iff.mp e
  obtain ⟨h1, h2⟩ := List.getElem?_eq_some_iff.mp e1
  rw [List.getElem_range] at h2
  subst h2
  rw [List.length_range] at h1
  refine ⟨h1, fun y H'' ⟨eh, hy⟩ => ?_⟩
  subst eh hy
  exact ⟨Same.refl _, rfl⟩, fun m' H' _ g _ _ => by show _ ≤ _; simp⟩
end
section
variable {X : Cx} {G : Gm} {E : XK} {tg a b : Expr} {φ χ : TX} {φs : TXs} {pos p : PySem.Pos}
theorem wt_of (ha : PE X a (tT G E φ)) (hK : X.K = G.K := by rfl) : PIT X G E tg a (wOf φ) (iAll G.K (tT G E φ)) := ⟨pi_all G.K ha hK, fun {β P m H env S σ k Q} n rs re p h => by
  have p' : P m H ((φ env S).bind fun d S1 => (walkR d S1).bind k) := by
    unfold wOf at p
    cases e1 : φ env S with
    | ok x S1 => rw [e1] at p; exact p
    | _ => rw [e1] at p; exact p
  cases e : φ env S with
  | ok d S1 =>
    have st : ∀ {t : V → Hp → Prop}, (∀ m' H' v, Go m H m' H' → RepS G m' H' S1 → Rep G m' H' d v → P m' H' ((walkR d S1).bind k) → t v H') → tT G E φ σ H t := fun {t} ht => by
      rw [e] at p'
      refine ⟨m, env, S, rs, re, ?_⟩
      rw [e]
      exact fun m' H' v g rs' rv => ht m' H' v g rs' rv (n.go g p')
    cases d with
    | lst ds => exact .inl (st fun m' H' v g rs' rv p2 => by
        obtain ⟨c, vs, rfl, hc, rr⟩ := rv
        exact ⟨c, rfl, ⟨vs, hc.sq⟩, h ds _ S1 m' H' _ g rs' (wk_list hc rr) p2⟩)
    | scr ns => exact .inl (st fun m' H' v g rs' rv p2 => by
        obtain ⟨c, rfl, hc⟩ := rv
        exact ⟨c, rfl, ⟨_, hc.sq⟩, h _ _ S1 m' H' _ g rs' (wk_scr hc) p2⟩)
    | tup ds => exact .inr (.inl (st fun m' H' v g rs' rv p2 => by
        obtain ⟨c, vs, rfl, hc, rr⟩ := rv
        exact ⟨c, rfl, ⟨vs, hc.sq⟩, h ds _ S1 m' H' _ g rs' (wk_tup hc rr) p2⟩))
    | str z => exact .inr (.inr (st fun m' H' v g rs' rv p2 => ⟨z, rv, h _ _ S1 m' H' _ g rs' (wk_str z) p2⟩))
    | hnd i =>
      cases es : S1[i]? with
      | none =>
        rw [e, R.bind_ok, show walkR (.hnd i) S1 = .stuck by (show (match S1[i]? with | some (.lst ds) => R.ok (⟨ds, stillS i ds⟩ : Wl) S1 | _ => .stuck) = _; rw [es])] at p'
        exact (n.st p').elim
      | some o =>
        cases o with
        | lst ds =>
          exact .inl (st fun m' H' v g rs' rv p2 => by
            obtain ⟨a, ha, rfl⟩ := rv
            obtain ⟨b, hb, vs, h1, h2⟩ := rs'.at_ i _ es
            rw [ha] at hb
            cases hb
            have e3 : walkR (.hnd i) S1 = .ok ⟨ds, stillS i ds⟩ S1 := by
              show (match S1[i]? with | some (.lst ds) => R.ok (⟨ds, stillS i ds⟩ : Wl) S1 | _ => .stuck) = _
              rw [es]
            rw [e3, R.bind_ok] at p2
            exact ⟨a, rfl, ⟨vs, .of h1⟩, h ds _ S1 m' H' _ g rs' (wk_hnd ha fun S z => stillS_ok z) p2⟩)
        | _ =>
          rw [e, R.bind_ok, show walkR (.hnd i) S1 = .stuck by (show (match S1[i]? with | some (.lst ds) => R.ok (⟨ds, stillS i ds⟩ : Wl) S1 | _ => .stuck) = _; rw [es])] at p'
          exact (n.st p').elim
    | _ => rw [e] at p'; exact (n.st p').elim
  | err x S1 =>
    rw [e] at p'
    exact .inl ⟨m, env, S, rs, re, by rw [e]; exact n.err p'⟩
  | stuck =>
    rw [e] at p'
    exact (n.st p').elim⟩
def rng (lo : Int) (n : Nat) : List D := (List.range n).map fun k => D.int (lo + (k : Nat))
def inRng (j : Int) : Bool := Nat.ble j.natAbs 4611686018427387903
theorem inRng_ok {j : Int} (h : inRng j = true) : -(2 ^ 62) ≤ j ∧ j < 2 ^ 62 := by
  have h1 : j.natAbs ≤ 4611686018427387903 := Nat.le_of_ble_eq_true h
  rw [show ((2 : Int) ^ 62) = 4611686018427387904 from rfl]
  omega
def wRng1 (φs : TXs) : TW := fun env S => (φs env S).bind fun ds S1 => match ds with
  | [.int j] => guardR (inRng j) (.ok ⟨rng 0 j.toNat, anyS⟩ S1)
  | _ => .stuck
def wRng2 (φs : TXs) : TW := fun env S => (φs env S).bind fun ds S1 => match ds with
  | [.int i, .int j] => guardR (inRng i && inRng j) (.ok ⟨rng i (j - i).toNat, anyS⟩ S1)
  | _ => .stuck
theorem bind_assoc {α β γ : Type} (r : R α) (f : α → Sd → R β) (g : β → Sd → R γ) : (r.bind f).bind g = r.bind fun a S => (f a S).bind g := by
  cases r <;> rfl
theorem nice_guard {β α : Type} {P : Mp → Hp → R β → Prop} {m : Mp} {H : Hp} {c : Bool} {r : R α} {k : α → Sd → R β} (n : Nice G E P) (p : P m H ((guardR c r).bind k)) : c = true ∧ P m H (r.bind k) := by
  cases c with
  | true => exact ⟨rfl, p⟩
  | false => exact (n.st p).elim
theorem wt_rng1 (hg : Gl X "range") (hm : X.mg "range" = none) (ha : PA X [a] (tTs G E φs)) (hs : starEach [a] X.env = [(false, eval a X.env)] := by rfl) : PIT X G E tg (.Call (.Name "range" p) [a] [] pos) (wRng1 φs) (iRng1 (tTs G E φs)) := ⟨pi_range1 hg hm ha hs, fun {β P m H env S σ k Q} n rs re p h => by
  unfold wRng1 at p
  rw [bind_assoc] at p
  refine ⟨m, env, S, rs, re, partL n p fun ds S1 m1 H1 vs g rs1 rv p1 => ?_⟩
  split at p1
  · rename_i j
    obtain ⟨c, p2⟩ := nice_guard n p1
    obtain ⟨c1, c2⟩ := inRng_ok c
    obtain ⟨v, rfl, r1⟩ := reps1 rv
    exact ⟨j, by rw [show v = _ from r1], c1, c2, h _ _ S1 m1 H1 _ g rs1 (wk_rng 0 _) p2⟩
  · exact (n.st p1).elim⟩
theorem wt_rng2 (hg : Gl X "range") (hm : X.mg "range" = none) (ha : PA X [a, b] (tTs G E φs)) (hs : starEach [a, b] X.env = [(false, eval a X.env), (false, eval b X.env)] := by rfl) (hs2 : starEach [b] X.env = [(false, eval b X.env)] := by rfl) : PIT X G E tg (.Call (.Name "range" p) [a, b] [] pos) (wRng2 φs) (iRng2 (tTs G E φs)) := ⟨pi_range2 hg hm ha hs hs2, fun {β P m H env S σ k Q} n rs re p h => by
  unfold wRng2 at p
  rw [bind_assoc] at p
  refine ⟨m, env, S, rs, re, partL n p fun ds S1 m1 H1 vs g rs1 rv p1 => ?_⟩
  split at p1
  · rename_i i j
    obtain ⟨c, p2⟩ := nice_guard n p1
    obtain ⟨c1, c2⟩ := Bool.and_eq_true_iff.mp c
    obtain ⟨c3, c4⟩ := inRng_ok c1
    obtain ⟨c5, c6⟩ := inRng_ok c2
    obtain ⟨v, u, rfl, r1, r2⟩ := reps2 rv
    exact ⟨i, j, by rw [show v = _ from r1, show u = _ from r2], ⟨c3, c4, c5, c6⟩, h _ _ S1 m1 H1 _ g rs1 (wk_rng i _) p2⟩
  · exact (n.st p1).elim⟩
end
/-! ## targets -/
abbrev TGt := D → En → Sd → R En
structure PGT (X : Cx) (G : Gm) (E : XK) (target : Expr) (γ : TGt) (is : List Nat) (g : TG) : Prop where
  pg : PG X target g
  ok : ∀ {β : Type} {P : Mp → Hp → R β → Prop} {m : Mp} {H : Hp} {env : En} {S : Sd} {σ : L2.St} {d : D} {v : V} {k : En → Sd → R β} {Q : L2.St → Hp → Prop}, Nice G E P → RepS G m H S → RepE G m H env σ → Rep G m H d v → P m H ((γ d env S).bind k) →
    (∀ env' S' m' H' σ', Go m H m' H' → RepS G m' H' S' → RepE G m' H' env' σ' → (∀ vs : List Nat, (∀ i ∈ is, i ∈ vs) → wipe σ' vs = wipe σ vs) → P m' H' (k env' S') → Q σ' H') → g v σ H Q
theorem wipe_set {σ : L2.St} {i : Nat} {o : Option V} : ∀ {vs : List Nat}, i ∈ vs → wipe (σ.set i o) vs = wipe σ vs
  | [], h => (List.not_mem_nil h).elim
  | v :: vs, h => by
    show (wipe (σ.set i o) vs).set v none = (wipe σ vs).set v none
    by_cases hi : i ∈ vs
    · rw [wipe_set hi]
    · have e : i = v := (List.mem_cons.mp h).elim id fun z => absurd z hi
      subst e
      have comm : ∀ us : List Nat, i ∉ us → wipe (σ.set i o) us = (wipe σ us).set i o := fun us => by
        induction us with
        | nil => intro _; rfl
        | cons u us ih =>
          intro hn
          show (wipe (σ.set i o) us).set u none = ((wipe σ us).set u none).set i o
          rw [ih fun z => hn (List.mem_cons_of_mem _ z), List.set_comm _ _ fun z => hn (by rw [z]; exact List.mem_cons_self)]
      rw [comm vs hi, List.set_set]
def tName (i : Nat) : TGt := fun d env S => .ok (env.set i (some d)) S
/-- a tuple or a list taken apart -/
def tMany : List TGt → List D → En → Sd → R En
  | [], [], env, S => .ok env S
  | γ :: γs, d :: ds, env, S => (γ d env S).bind fun env' S' => tMany γs ds env' S'
  | _, _, _, _ => .stuck
def tTup (γs : List TGt) : TGt := fun d env S => match (match d with | .tup ds => some ds | d => d.itemsL S) with
  | some ds => if ds.length = γs.length then tMany γs ds env S else .stuck
  | none => .stuck
structure PGTs (X : Cx) (G : Gm) (E : XK) (es : List Expr) (γs : List TGt) (is : List Nat) (g : TGs) : Prop where
  len : es.length = γs.length
  pg : PGs X es g
  ok : ∀ {β : Type} {P : Mp → Hp → R β → Prop} {m : Mp} {H : Hp} {env : En} {S : Sd} {σ : L2.St} {ds : List D} {vs : List V} {k : En → Sd → R β} {Q : L2.St → Hp → Prop}, Nice G E P → RepS G m H S → RepE G m H env σ → Reps G m H ds vs → P m H ((tMany γs ds env S).bind k) →
    (∀ env' S' m' H' σ', Go m H m' H' → RepS G m' H' S' → RepE G m' H' env' σ' → (∀ vs : List Nat, (∀ i ∈ is, i ∈ vs) → wipe σ' vs = wipe σ vs) → P m' H' (k env' S') → Q σ' H') → g vs σ H Q
section
variable {X : Cx} {G : Gm} {E : XK} {e : Expr} {es : List Expr} {γ : TGt} {γs : List TGt} {is js : List Nat} {pos : PySem.Pos}
theorem gt_name (i : Nat) {x : Str} (hN : X.N.Nodup) (hi : X.N[i]? = some x := by rfl) (hx : Loc X.env.scope x := by first | exact Or.inl rfl | exact Or.inr rfl) (hf : X.fn x = true ∨ X.env.scope.names.lookup x = some .local := by first | exact .inl rfl | exact .inr rfl) : PGT X G E (.Name x pos) (tName i) [i] (gName i) :=
  ⟨pg_name hN hi hx hf, fun n rs re r p h => h _ _ _ _ _ (.refl _ _) rs (re.set r i) (fun vs hv => wipe_set (hv i (List.mem_singleton.mpr rfl))) p⟩
theorem gts_nil : PGTs X G E [] [] [] gNil := ⟨rfl, pgs_nil, fun {β P m H env S σ ds vs k Q} n rs re r p h => by
  cases ds with
  | nil => exact ⟨r, h _ _ _ _ _ (.refl _ _) rs re (fun _ _ => rfl) p⟩
  | cons d ds => exact (n.st p).elim⟩
theorem gts_cons {g : TG} {gs : TGs} (h1 : PGT X G E e γ is g) (h2 : PGTs X G E es γs js gs) (hs : (assignEach (e :: es) X.env).map (·.2) = assign e X.env :: (assignEach es X.env).map (·.2) := by rfl) : PGTs X G E (e :: es) (γ :: γs) (is ++ js) (gCons g gs) := by
  have k1 := @h1.ok
  have k2 := @h2.ok
  refine ⟨congrArg (· + 1) h2.len, pgs_cons h1.pg h2.pg hs, fun {β P m H env S σ ds vs k Q} n rs re r p h => ?_⟩
  cases ds with
  | nil => exact (n.st p).elim
  | cons d ds =>
    obtain ⟨v, us, rfl, r1, r2⟩ := r
    have p' : P m H ((γ d env S).bind fun env' S' => (tMany γs ds env' S').bind k) := by rw [← bind_assoc]; exact p
    refine ⟨v, us, rfl, k1 n rs re r1 p' fun env1 S1 m1 H1 σ1 g1 rs1 re1 w1 q1 => k2 n rs1 re1 (Reps.go g1 _ _ r2) q1 fun env2 S2 m2 H2 σ2 g2 rs2 re2 w2 q2 => ?_⟩
    exact h _ _ _ _ _ (g1.trans g2) rs2 re2 (fun vs hv => (w2 vs fun i hi => hv i (List.mem_append_right _ hi)).trans (w1 vs fun i hi => hv i (List.mem_append_left _ hi))) q2
theorem PG.or {X : Cx} {e : Expr} {g g' : TG} (h : PG X e g) (h' : PG X e g') : PG X e (fun v σ H Q => g v σ H Q ∨ g' v σ H Q) := ⟨fun pins s σ H v u Q I r q => q.elim (h.run pins s σ H v u Q I r) (h'.run pins s σ H v u Q I r)⟩
def gOr (K : PySem.W.Frag) (n : Nat) (g : TGs) : TG := fun v σ H Q => gTup K n g v σ H Q ∨ gUnl K n g v σ H Q
theorem gt_tup {kk : Nat} {g : TGs} (hc : X.calm = true) (h : PGTs X G E es γs is g) (hn : (assignEach es X.env).length = γs.length := by rfl) (hst : (assignEach es X.env).findIdx? (·.1) = none := by rfl) (hK : X.K = G.K := by rfl) : PGT X G E (.Tuple es kk pos) (tTup γs) is (gOr G.K γs.length g) := by
  have k1 := @h.ok
  refine ⟨by rw [← hK]; exact PG.or (pg_tup hc h.pg hn hst) (pg_unl hc h.pg hn hst), fun {β P m H env S σ d v k Q} n rs re r p h => ?_⟩
  cases e : (match d with | .tup ds => some ds | d => d.itemsL S) with
  | none =>
    unfold tTup at p
    rw [e] at p
    exact (n.st p).elim
  | some ds =>
    unfold tTup at p
    rw [e] at p
    simp only at p
    by_cases hl : ds.length = γs.length
    · rw [if_pos hl] at p
      split at e
      · rename_i ds'
        cases e
        obtain ⟨a, vs, rfl, ht, rv⟩ := r
        exact .inl ⟨a, vs, rfl, ht.sq, by rw [← rv.length]; exact hl, k1 n rs re rv p h⟩
      · obtain ⟨a, vs, rfl, hs, rv⟩ := itemsL_sq rs r e
        exact .inr ⟨a, vs, rfl, .of hs, by rw [← rv.length]; exact hl, k1 n rs re rv p h⟩
    · rw [if_neg hl] at p
      exact (n.st p).elim
end
/-! ## statements -/
inductive Out where
  | nx (env : En) | ret (d : D) | brk (env : En) | ct (env : En)
abbrev TSt := En → Sd → R Out
def PoS (G : Gm) (m : Mp) (H : Hp) (E : XK) (r : R Out) (Dn : Ends) : Prop := match r with
  | .ok (.nx env) S => ∀ m' H' σ', Go m H m' H' → RepS G m' H' S → RepE G m' H' env σ' → Dn.nx σ' H'
  | .ok (.brk env) S => ∀ m' H' σ', Go m H m' H' → RepS G m' H' S → RepE G m' H' env σ' → Dn.bk σ' H'
  | .ok (.ct env) S => ∀ m' H' σ', Go m H m' H' → RepS G m' H' S → RepE G m' H' env σ' → Dn.ct σ' H'
  | .ok (.ret d) S => ∀ m' H' v, Go m H m' H' → RepS G m' H' S → Rep G m' H' d v → Dn.rt v H'
  | .err e S => PoE G m H e S E
  | .stuck => False
def tS (G : Gm) (E : XK) (ψ : TSt) : TS := fun Dn σ H => ∃ m env S, RepS G m H S ∧ RepE G m H env σ ∧ PoS G m H E (ψ env S) Dn
section
variable {G : Gm} {E : XK} {m m' : Mp} {H H' : Hp} {Dn : Ends}
theorem PoS.go {r : R Out} (g : Go m H m' H') (h : PoS G m H E r Dn) : PoS G m' H' E r Dn := by
  cases r with
  | ok o S =>
    cases o with
    | nx env => exact fun m2 H2 v g2 => h m2 H2 v (g.trans g2)
    | ret env => exact fun m2 H2 v g2 => h m2 H2 v (g.trans g2)
    | brk env => exact fun m2 H2 v g2 => h m2 H2 v (g.trans g2)
    | ct env => exact fun m2 H2 v g2 => h m2 H2 v (g.trans g2)
  | err e S => exact PoE.go g h
  | stuck => exact h
theorem nS (Dn : Ends) : Nice G E (fun m H r => PoS G m H E r Dn) := ⟨PoS.go, fun h => h, fun h => h⟩
theorem PoS.nx {env : En} {S : Sd} {σ : L2.St} (p : PoS G m H E (.ok (.nx env) S) Dn) (rs : RepS G m H S) (re : RepE G m H env σ) : Dn.nx σ H := p m H σ (.refl m H) rs re
end
def sNext : TSt := fun env S => .ok (.nx env) S
def sSeq (a b : TSt) : TSt := fun env S => (a env S).bind fun o S1 => match o with
  | .nx env' => b env' S1
  | o => .ok o S1
def sBlk : List TSt → TSt
  | [] => sNext
  | a :: r => sSeq a (sBlk r)
def sAsg (φ : TX) (γ : TGt) : TSt := fun env S => (φ env S).bind fun d S1 => (γ d env S1).bind fun env' S2 => .ok (.nx env') S2
def sSet (i : Nat) (φ : TX) : TSt := sAsg φ (tName i)
def sExpr (φ : TX) : TSt := fun env S => (φ env S).bind fun _ S1 => .ok (.nx env) S1
def sRet (φ : TX) : TSt := fun env S => (φ env S).bind fun d S1 => .ok (.ret d) S1
def sIf (c : TC) (a b : TSt) : TSt := fun env S => (c env S).bind fun k S1 => if k = true then a env S1 else b env S1
def sBrk : TSt := fun env S => .ok (.brk env) S
def sCt : TSt := fun env S => .ok (.ct env) S
def forL (γ : TGt) (ψ : TSt) (w : Sd → Bool) : List D → En → Sd → R Out
  | [], env, S => guardR (w S) (.ok (.nx env) S)
  | d :: ds, env, S => guardR (w S) ((γ d env S).bind fun env1 S1 => (ψ env1 S1).bind fun o S2 => match o with
    | .nx e => forL γ ψ w ds e S2
    | .ct e => forL γ ψ w ds e S2
    | .brk e => .ok (.nx e) S2
    | .ret d => .ok (.ret d) S2)
def sFor (κ : TW) (γ : TGt) (ψ : TSt) : TSt := fun env S => (κ env S).bind fun ds S1 => forL γ ψ ds.p ds.l env S1
def whL (c : TC) (ψ : TSt) : Nat → En → Sd → R Out
  | 0, _, _ => .stuck
  | n + 1, env, S => (c env S).bind fun b S1 => if b = true then (ψ env S1).bind fun o S2 => match o with
    | .nx e => whL c ψ n e S2
    | .ct e => whL c ψ n e S2
    | .brk e => .ok (.nx e) S2
    | .ret d => .ok (.ret d) S2 else .ok (.nx env) S1
def fuel : Nat := 2 ^ 10000
def sWh (c : TC) (ψ : TSt) : TSt := whL c ψ fuel
section
variable {X : Cx} {G : Gm} {E : XK} {e tg iter c : Expr} {st : Stmt} {sts rest body : List Stmt} {φ : TX} {γ : TGt} {ψ χ : TSt} {κ : TW} {κc : TC} {is : List Nat} {pos : PySem.Pos}
theorem st_nil : PSs X [] (tS G E sNext) := PSs.imp pss_nil fun Dn σ H h => by
  obtain ⟨m, env, S, rs, re, p⟩ := h
  exact PoS.nx p rs re
theorem st_pass : PS X (.Pass pos) (tS G E sNext) := PS.imp ps_pass fun Dn σ H h => by
  obtain ⟨m, env, S, rs, re, p⟩ := h
  exact PoS.nx p rs re
theorem st_break : PS X (.Break pos) (tS G E sBrk) := PS.imp ps_break fun Dn σ H h => by
  obtain ⟨m, env, S, rs, re, p⟩ := h
  exact p m H σ (.refl _ _) rs re
theorem st_cont : PS X (.Continue pos) (tS G E sCt) := PS.imp ps_continue fun Dn σ H h => by
  obtain ⟨m, env, S, rs, re, p⟩ := h
  exact p m H σ (.refl _ _) rs re
theorem st_cons (h1 : PS X st (tS G E ψ)) (h2 : PSs X rest (tS G E χ)) : PSs X (st :: rest) (tS G E (sSeq ψ χ)) := PSs.imp (pss_cons h1 h2) fun Dn σ H h => by
  obtain ⟨m, env, S, rs, re, p⟩ := h
  refine ⟨m, env, S, rs, re, ?_⟩
  unfold sSeq at p
  cases e : ψ env S with
  | ok o S1 =>
    rw [e] at p
    cases o with
    | nx env' => exact fun m' H' σ' g rs' re' => ⟨m', env', S1, rs', re', PoS.go g p⟩
    | ret d => exact p
    | brk d => exact p
    | ct d => exact p
  | err x S1 => rw [e] at p; exact p
  | stuck => rw [e] at p; exact p
theorem st_asg {g : TG} (he : PE X e (tT G E φ)) (hg : PGT X G E tg γ is g) (hs : swapsWithSole [tg] e pos.line X.env = pure false := by rfl) (hw : swappedStores [tg] e X.env = pure none := by rfl)
    (h1 : (assignEach [tg] X.env).map (·.2) = [assign tg X.env] := by rfl) : PS X (.Assign [tg] e pos) (tS G E (sAsg φ γ)) := by
  have k1 := @hg.ok
  refine PS.imp (ps_asg he hg.pg hs hw h1) fun Dn σ H h => ?_
  obtain ⟨m, env, S, rs, re, p⟩ := h
  exact ⟨m, env, S, rs, re, partE (nS Dn) p fun d S1 m1 H1 v g1 rs1 r1 p1 => k1 (nS Dn) rs1 (re.go g1) r1 p1 fun env' S' m' H' σ' g2 rs2 re2 _ p2 => PoS.nx p2 rs2 re2⟩
theorem st_set (i : Nat) {x : Str} {p' : PySem.Pos} (hN : X.N.Nodup) (he : PE X e (tT G E φ)) (hi : X.N[i]? = some x := by rfl) (hx : Loc X.env.scope x := by first | exact Or.inl rfl | exact Or.inr rfl) (hs : swapsWith e (some (.Name x p')) pos.line X.env = pure false := by rfl) (hf : X.fn x = true ∨ X.env.scope.names.lookup x = some .local := by first | exact .inl rfl | exact .inr rfl) :
    PS X (.Assign [.Name x p'] e pos) (tS G E (sSet i φ)) := PS.imp (ps_set hN hi hx he hs hf) fun Dn σ H h => by
  obtain ⟨m, env, S, rs, re, p⟩ := h
  exact ⟨m, env, S, rs, re, partE (nS Dn) p fun d S1 m1 H1 v g1 rs1 r1 p1 => PoS.nx (show PoS G m1 H1 E (.ok (.nx (env.set i (some d))) S1) Dn from p1) rs1 ((re.go g1).set r1 i)⟩
theorem st_expr (he : PE X e (tT G E φ)) (hs : swapsWith e none pos.line X.env = pure false := by rfl) : PS X (.Expr e pos) (tS G E (sExpr φ)) := PS.imp (ps_expr he hs) fun Dn σ H h => by
  obtain ⟨m, env, S, rs, re, p⟩ := h
  exact ⟨m, env, S, rs, re, partE (nS Dn) p fun d S1 m1 H1 v g1 rs1 r1 p1 => PoS.nx p1 rs1 (re.go g1)⟩
theorem st_ret (he : PE X e (tT G E φ)) : PS X (.Return (some e) pos) (tS G E (sRet φ)) := PS.imp (ps_ret he) fun Dn σ H h => by
  obtain ⟨m, env, S, rs, re, p⟩ := h
  exact ⟨m, env, S, rs, re, partE (nS Dn) p fun d S1 m1 H1 v g1 rs1 r1 p1 => p1 m1 H1 v (.refl _ _) rs1 r1⟩
theorem st_retN : PS X (.Return none pos) (tS G E (sRet (xC .non))) := PS.imp ps_retN fun Dn σ H h => by
  obtain ⟨m, env, S, rs, re, p⟩ := h
  exact p m H .non (.refl _ _) rs rfl
theorem st_if {a b : List Stmt} (hc : PT X c (tTc G E κc)) (ha : PSs X a (tS G E ψ)) (hb : PSs X b (tS G E χ)) : PS X (.If c a b pos) (tS G E (sIf κc ψ χ)) := PS.imp (ps_if hc ha hb) fun Dn σ H h => by
  obtain ⟨m, env, S, rs, re, p⟩ := h
  refine ⟨m, env, S, rs, re, partC (nS Dn) p fun b S1 m1 H1 g rs1 p1 => ?_⟩
  cases b with
  | true => exact iteT ⟨m1, env, S1, rs1, re.go g, p1⟩
  | false => exact iteF ⟨m1, env, S1, rs1, re.go g, p1⟩
theorem st_for (hp : PassesOwn (model X.prog X.w) X.A X.env X.xe) (hc : X.calm = true) {g : TG} {wi : TI} (hi : PIT X G E tg iter κ wi) (hg : PGT X G E tg γ is g) (hb : PSs X body (tS G E ψ)) (hs : ∀ x, foldedSetIterable iter X.env x = pure x := by intro _; rfl) : PS X (.For tg iter body [] pos) (tS G E (sFor κ γ ψ)) := by
  have k1 := @hi.ok
  have k2 := @hg.ok
  refine PS.imp (ps_for hp hc hi.pi hg.pg hb hs) fun Dn σ H h => ?_
  obtain ⟨m, env, S, rs, re, p⟩ := h
  refine k1 (nS Dn) rs re p fun ds w S1 m1 H1 J g1 rs1 wk p1 => ?_
  refine ⟨fun i n σ H => n = ds.length - i ∧ i ≤ ds.length ∧ ∃ m' env' S', Go m1 H1 m' H ∧ RepS G m' H S' ∧ RepE G m' H env' σ ∧ PoS G m' H E (forL γ ψ w (ds.drop i) env' S') Dn, ⟨_, rfl, Nat.zero_le _, m1, env, S1, .refl _ _, rs1, re.go g1, p1⟩, ?_⟩
  rintro i n σ2 H2 ⟨rfl, hi, m2, env2, S2, g2, rs2, re2, p2⟩
  by_cases hlt : i < ds.length
  · have ed : ds.drop i = ds[i] :: ds.drop (i + 1) := List.drop_eq_getElem_cons hlt
    rw [ed] at p2
    have cw : w S2 = true := by
      cases q : w S2 with
      | true => rfl
      | false => unfold forL at p2; rw [q] at p2; exact p2.elim
    have p2 : PoS G m2 H2 E ((γ ds[i] env2 S2).bind fun env1 S1 => (ψ env1 S1).bind fun o S2 => match o with
      | .nx e => forL γ ψ w (ds.drop (i + 1)) e S2
      | .ct e => forL γ ψ w (ds.drop (i + 1)) e S2
      | .brk e => .ok (.nx e) S2
      | .ret d => .ok (.ret d) S2) Dn := by unfold forL at p2; rw [cw] at p2; exact p2
    obtain ⟨go, st⟩ := wk.step m2 H2 S2 i _ g2.mv rs2 cw (List.getElem?_eq_getElem hlt)
    refine .inr ⟨go, fun σ H => i + 1 ≤ ds.length ∧ ∃ m' env' S', Go m1 H1 m' H ∧ RepS G m' H S' ∧ RepE G m' H env' σ ∧ PoS G m' H E (forL γ ψ w (ds.drop (i + 1)) env' S') Dn, fun σ' H' w => ⟨_, by omega, rfl, w⟩, fun x H3 y => ?_⟩
    obtain ⟨s3, r3⟩ := st x H3 y
    have g3 : Go m2 H2 m2 H3 := .of s3
    have p3 : PoS G m2 H3 E ((γ ds[i] env2 S2).bind fun env1 S1 => (ψ env1 S1).bind fun o S2 => match o with
      | .nx e => forL γ ψ w (ds.drop (i + 1)) e S2
      | .ct e => forL γ ψ w (ds.drop (i + 1)) e S2
      | .brk e => .ok (.nx e) S2
      | .ret d => .ok (.ret d) S2) Dn := PoS.go g3 p2
    refine k2 (nS Dn) (rs2.same s3) (re2.go g3) r3 p3 fun env4 S4 m4 H4 σ4 g4 rs4 re4 _ p4 => ⟨m4, env4, S4, rs4, re4, ?_⟩
    cases e : ψ env4 S4 with
    | ok o S5 =>
      rw [e] at p4
      cases o with
      | nx env5 => exact fun m' H' σ' g' rs' re' => ⟨hlt, m', env5, S5, ((g2.trans g3).trans g4).trans g', rs', re', PoS.go g' p4⟩
      | ct env5 => exact fun m' H' σ' g' rs' re' => ⟨hlt, m', env5, S5, ((g2.trans g3).trans g4).trans g', rs', re', PoS.go g' p4⟩
      | brk env5 => exact p4
      | ret d => exact p4
    | err x S5 => rw [e] at p4; exact p4
    | stuck => rw [e] at p4; exact p4
  · have e : i = ds.length := by omega
    subst e
    rw [List.drop_length] at p2
    have cw : w S2 = true := by
      cases q : w S2 with
      | true => rfl
      | false => unfold forL at p2; rw [q] at p2; exact p2.elim
    have p2 : PoS G m2 H2 E (.ok (.nx env2) S2) Dn := by unfold forL at p2; rw [cw] at p2; exact p2
    exact .inl ⟨wk.stop m2 H2 S2 g2.mv rs2 cw, PoS.nx p2 rs2 re2⟩
theorem st_while (hp : PassesOwn (model X.prog X.w) X.A X.env X.xe) (hc : PT X c (tTc G E κc)) (hb : PSs X body (tS G E ψ)) : PS X (.While c body [] pos) (tS G E (sWh κc ψ)) := PS.imp (ps_while hp hc hb) fun Dn σ H h => by
  obtain ⟨m, env, S, rs, re, p⟩ := h
  refine ⟨fun n σ H => ∃ m env S, RepS G m H S ∧ RepE G m H env σ ∧ PoS G m H E (whL κc ψ n env S) Dn, ⟨_, m, env, S, rs, re, p⟩, ?_⟩
  rintro n σ1 H1 ⟨m1, env1, S1, rs1, re1, p1⟩
  cases n with
  | zero => exact p1.elim
  | succ n =>
    refine ⟨m1, env1, S1, rs1, re1, partC (nS Dn) p1 fun b S2 m2 H2 g2 rs2 p2 => ?_⟩
    cases b with
    | false => exact iteF (PoS.nx p2 rs2 (re1.go g2))
    | true =>
      refine iteT ⟨fun σ H => ∃ m env S, RepS G m H S ∧ RepE G m H env σ ∧ PoS G m H E (whL κc ψ n env S) Dn, fun σ' H' w => ⟨n, Nat.lt_succ_self n, w⟩, m2, env1, S2, rs2, re1.go g2, ?_⟩
      cases e : ψ env1 S2 with
      | ok o S5 =>
        simp only [if_true, e, R.bind_ok] at p2
        cases o with
        | nx env5 => exact fun m' H' σ' g' rs' re' => ⟨m', env5, S5, rs', re', PoS.go g' p2⟩
        | ct env5 => exact fun m' H' σ' g' rs' re' => ⟨m', env5, S5, rs', re', PoS.go g' p2⟩
        | brk env5 => exact p2
        | ret d => exact p2
      | err x S5 => simp only [if_true, e, R.bind_err] at p2; exact p2
      | stuck => simp only [if_true, e, R.bind_stuck] at p2; exact p2
end
end Den

namespace Den
open PySem PySem.Spec PyProof.Rows L2
/-! ## comprehensions -/
def wipeE (env : En) : List Nat → En
  | [] => env
  | v :: vs => (wipeE env vs).set v none
def lcL (γ : TGt) (c : TC) (φ : TX) (env0 : En) (w : Sd → Bool) : List D → Sd → R (List D)
  | [], S => guardR (w S) (.ok [] S)
  | d :: ds, S => guardR (w S) ((noX (γ d env0 S)).bind fun env1 S1 => (noX (c env1 S1)).bind fun b S2 => if b = true then (noX (φ env1 S2)).bind fun y S3 => (lcL γ c φ env0 w ds S3).bind fun ys S4 => .ok (y :: ys) S4 else lcL γ c φ env0 w ds S2)
def cYes : TC := fun _ S => .ok true S
def xLc (κ : TW) (γ : TGt) (c : TC) (φ : TX) (vs : List Nat) : TX := fun env S => (κ env S).bind fun ds S1 => guardR (decide (ds.l.length ≤ sizeLine)) ((lcL γ c φ (wipeE env vs) ds.p ds.l S1).bind fun ys S2 => .ok (.lst ys) S2)
def xLcH (κ : TW) (γ : TGt) (c : TC) (φ : TX) (vs : List Nat) : TX := fun env S => (κ env S).bind fun ds S1 => guardR (decide (ds.l.length ≤ sizeLine)) ((lcL γ c φ (wipeE env vs) ds.p ds.l S1).bind fun ys S2 => .ok (.hnd S2.length) (S2 ++ [.lst ys]))
section
variable {G : Gm} {E : XK} {m m' : Mp} {H H' : Hp} {S : Sd} {β : Type}
theorem partXE {r : R D} {k : D → Sd → R β} {P : R β → Prop} {Q : VK} (n : ¬ P .stuck) (p : P ((noX r).bind k)) (h : ∀ d S' m' H' v, Go m H m' H' → RepS G m' H' S' → Rep G m' H' d v → r = .ok d S' → Q v H') : Po G m H E0 r Q := by
  cases r with
  | ok d S' => exact fun m' H' v g rs rv => h d S' m' H' v g rs rv rfl
  | err e S' => exact (n p).elim
  | stuck => exact n p
theorem partXC {r : R Bool} {k : Bool → Sd → R β} {P : R β → Prop} {Q : Bool → Hp → Prop} (n : ¬ P .stuck) (p : P ((noX r).bind k)) (h : ∀ d S' m' H', Go m H m' H' → RepS G m' H' S' → r = .ok d S' → Q d H') : PoC G m H E0 r Q := by
  cases r with
  | ok d S' => exact fun m' H' g rs => h d S' m' H' g rs rfl
  | err e S' => exact (n p).elim
  | stuck => exact n p
theorem RepE.wipe {env : En} {σ : L2.St} (r : RepE G m H env σ) : ∀ vs : List Nat, RepE G m H (wipeE env vs) (wipe σ vs)
  | [] => r
  | v :: vs => by
    have ih := RepE.wipe r vs
    refine ⟨by show ((wipeE env vs).set v none).length = ((L2.wipe σ vs).set v none).length; rw [List.length_set, List.length_set]; exact ih.len, fun j d h => ?_⟩
    have h' : ((wipeE env vs).set v none)[j]? = some (some d) := h
    show ∃ u, ((L2.wipe σ vs).set v none)[j]? = some (some u) ∧ _
    by_cases hj : v = j
    · subst hj
      rw [List.getElem?_set_self'] at h'
      cases q : (wipeE env vs)[v]? with
      | none => rw [q] at h'; cases h'
      | some w => rw [q] at h'; cases h'
    · rw [List.getElem?_set_ne hj] at h' ⊢
      exact ih.at_ j d h'
theorem wipe_wipe {σ : L2.St} : ∀ {us vs : List Nat}, (∀ i ∈ us, i ∈ vs) → wipe (wipe σ us) vs = wipe σ vs
  | [], vs, h => rfl
  | u :: us, vs, h => by
    show wipe ((wipe σ us).set u none) vs = wipe σ vs
    rw [wipe_set (h u List.mem_cons_self), wipe_wipe fun i hi => h i (List.mem_cons_of_mem _ hi)]
/-- the list that a comprehension fills is nobody's -/
def Mp.gst (m : Mp) (a : Addr) : Mp := ⟨m.hs, a :: m.gh⟩
theorem gst_mv {a : Addr} {o : HO} (ha : H a = none) : Mv m H (m.gst a) (upd H a o) := ⟨fun {b u} h nb => by
  have e : b ≠ a := ne_of_none h ha
  refine ⟨by rw [upd_ne e]; exact h, fun z => ?_⟩
  rcases z with z | z
  · exact nb (.inl z)
  · rcases List.mem_cons.mp z with z | z
    · exact e z
    · exact nb (.inr z), fun h => h⟩
theorem gst_rs {a : Addr} {o : HO} (rs : RepS G m H S) (ha : H a = none) : RepS G (m.gst a) (upd H a o) S := ⟨rs.nd, rs.len, fun b h => by
  rcases List.mem_cons.mp h with e | h
  · subst e
    exact ⟨⟨o, upd_same⟩, fun z => rs.new_out ha (.inl z)⟩
  · refine ⟨(rs.gh b h).1.elim fun u e => ⟨u, by rw [upd_ne (ne_of_none e ha)]; exact e⟩, (rs.gh b h).2⟩, fun i u h => by
  obtain ⟨b, e, q⟩ := rs.at_ i u h
  exact ⟨b, e, q.mv (gst_mv ha) fun w e => by rw [upd_ne (ne_of_none e ha)]; exact e⟩⟩
/-- it is filled -/
theorem gst_fill {a : Addr} {o : HO} (rs : RepS G m H S) (hm : a ∈ m.gh) : Mv m H m (upd H a o) ∧ RepS G m (upd H a o) S := by
  have mv : Mv m H m (upd H a o) := ⟨fun {b u} h nb => by
    have e : b ≠ a := fun z => nb (by rw [z]; exact .inr hm)
    exact ⟨by rw [upd_ne e]; exact h, nb⟩, fun h => h⟩
  refine ⟨mv, rs.nd, rs.len, fun b h => ⟨?_, (rs.gh b h).2⟩, fun i u h => ?_⟩
  · by_cases e : b = a
    · exact ⟨o, by rw [e, upd_same]⟩
    · rw [upd_ne e]
      exact (rs.gh b h).1
  · obtain ⟨b, e, q⟩ := rs.at_ i u h
    refine ⟨b, e, q.mv mv fun w h => ?_⟩
    have : b ≠ a := fun z => (rs.gh a hm).2 (by rw [← z]; exact List.mem_of_getElem? e)
    rw [upd_ne this]
    exact h
/-- .. and given away -/
theorem gst_out {a : Addr} {gh : List Addr} (e : m.gh = a :: gh) : Mv m H ⟨m.hs, gh⟩ H := ⟨fun h nb => ⟨h, fun z => nb (z.elim .inl fun z => .inr (by rw [e]; exact List.mem_cons_of_mem _ z))⟩, fun h => h⟩
theorem gst_outS {a : Addr} {gh : List Addr} (rs : RepS G m H S) (e : m.gh = a :: gh) : RepS G ⟨m.hs, gh⟩ H S := ⟨rs.nd, rs.len, fun b h => rs.gh b (by rw [e]; exact List.mem_cons_of_mem _ h), fun i u h => by
  obtain ⟨b, e1, q⟩ := rs.at_ i u h
  exact ⟨b, e1, q.mv (gst_out e) fun _ h => h⟩⟩
end
/-- the same while a list at a is filled -/
structure GoD (m : Mp) (H : Hp) (da : Addr) (m' : Mp) (H' : Hp) : Prop where
  ext : ∃ n, m' = ⟨m.hs ++ n, da :: m.gh⟩ ∧ ∀ a ∈ n, H a = none ∧ a ≠ da
  fr : ∀ a o, H a = some o → a ∉ m.hs → H' a = some o
  dm : ∀ a, H a ≠ none → H' a ≠ none
section
variable {X : Cx} {G : Gm} {E : XK} {m m1 m2 : Mp} {H H1 H2 : Hp} {S : Sd} {da : Addr}
theorem GoD.start (hD : H da = none) (o : HO) : GoD m H da (m.gst da) (upd H da o) := ⟨⟨[], by rw [List.append_nil]; rfl, fun _ h => (List.not_mem_nil h).elim⟩, fun a u h _ => by rw [upd_ne (ne_of_none h hD)]; exact h, fun a h => by
  by_cases q : a = da
  · rw [q, upd_same]; exact fun z => nomatch z
  · rw [upd_ne q]; exact h⟩
theorem GoD.gh (g : GoD m H da m1 H1) : m1.gh = da :: m.gh := by
  obtain ⟨n, e, _⟩ := g.ext
  rw [e]
theorem GoD.trans (g : GoD m H da m1 H1) (hD : ∃ o, H1 da = some o) (k : Go m1 H1 m2 H2) : GoD m H da m2 H2 := by
  obtain ⟨n, e, f⟩ := g.ext
  obtain ⟨n', e', f'⟩ := k.ext
  refine ⟨⟨n ++ n', by rw [e', e]; simp only [List.append_assoc], fun a h => ?_⟩, fun a o h na => ?_, fun a h => k.dm _ (g.dm _ h)⟩
  · rcases List.mem_append.mp h with h | h
    · exact f a h
    · refine ⟨?_, fun z => ?_⟩
      · cases q : H a with
        | none => rfl
        | some o => exact absurd (f' a h) (g.dm a (by rw [q]; exact fun z => nomatch z))
      · obtain ⟨o, q⟩ := hD
        rw [← z, f' a h] at q
        cases q
  · refine k.fr _ _ (g.fr _ _ h na) fun z => ?_
    rw [e] at z
    rcases List.mem_append.mp z with z | z
    · exact na z
    · rw [(f a z).1] at h
      cases h
theorem GoD.fill (g : GoD m H da m1 H1) (hD : H da = none) (o : HO) : GoD m H da m1 (upd H1 da o) := ⟨g.ext, fun a u h na => by
  rw [upd_ne (ne_of_none h hD)]
  exact g.fr a u h na, fun a h => by
  by_cases q : a = da
  · rw [q, upd_same]; exact fun z => nomatch z
  · rw [upd_ne q]; exact g.dm a h⟩
theorem GoD.mv (g : GoD m H da m1 H1) (hD : H da = none) : Mv m H m1 H1 := ⟨fun {a o} h na => by
  obtain ⟨n, e, f⟩ := g.ext
  refine ⟨g.fr _ _ h fun z => na (.inl z), fun z => ?_⟩
  rw [e] at z
  rcases z with z | z
  · rcases List.mem_append.mp z with z | z
    · exact na (.inl z)
    · rw [(f a z).1] at h
      cases h
  · rcases List.mem_cons.mp z with z | z
    · rw [z, hD] at h
      cases h
    · exact na (.inr z), fun {i a} h => by
  obtain ⟨n, e, _⟩ := g.ext
  rw [e]
  show (m.hs ++ n)[i]? = some a
  rw [List.getElem?_append_left (List.getElem?_eq_some_iff.mp h).1]
  exact h⟩
/-- what a comprehension leaves -/
theorem lc_end {acc : List Den.D} {vs : List V} (hD : H da = none) (rs0 : RepS G m H (S0 : Sd)) (g : GoD m H da m1 H1) (rs : RepS G m1 H1 S) (rv : Reps G m1 H1 acc vs) :
    Go m H ⟨m1.hs, m.gh⟩ H1 ∧ RepS G ⟨m1.hs, m.gh⟩ H1 S ∧ Reps G ⟨m1.hs, m.gh⟩ H1 acc vs ∧ (da ∉ (⟨m1.hs, m.gh⟩ : Mp)) := by
  obtain ⟨n, e, f⟩ := g.ext
  have eg : m1.gh = da :: m.gh := by rw [e]
  have eh : m1.hs = m.hs ++ n := by rw [e]
  refine ⟨⟨⟨n, by rw [eh], fun a h => (f a h).1⟩, g.fr, g.dm⟩, gst_outS rs eg, Reps.mv (gst_out eg) _ _ rv, fun z => ?_⟩
  rcases z with z | z
  · exact (rs.gh da (by rw [eg]; exact List.mem_cons_self)).2 z
  · obtain ⟨⟨u, e2⟩, _⟩ := rs0.gh da z
    rw [hD] at e2
    cases e2
theorem lc_in {tg : Expr} {κ : TW} {γ : TGt} {c : TC} {φ : TX} {is vs : List Nat} {g : TG} {tt : TT} {wi : TI} {fin : List D → Sd → R D} {Y : Cx}
    (hi : ∀ {β : Type} {P : Mp → Hp → R β → Prop} {m : Mp} {H : Hp} {env : En} {S : Sd} {σ : L2.St} {k : Wl → Sd → R β} {Q : It → Hp → Prop}, Nice G E P → RepS G m H S → RepE G m H env σ → P m H ((κ env S).bind k) →
      (∀ ds w S' m' H' J, Go m H m' H' → RepS G m' H' S' → Wk G J m' H' ds w → P m' H' (k ⟨ds, w⟩ S') → Q J H') → wi σ H Q)
    (hg : PGT Y G E0 tg γ is g) (hin : ∀ i ∈ is, i ∈ vs) (ht : ∀ σ H Q, tTc G E0 c σ H Q → tt σ H Q) {σ : L2.St} {H : Hp} {Q : VK} {m : Mp} {env : En} {S : Sd} (rs : RepS G m H S) (re : RepE G m H env σ)
    (hfin : ∀ (ds : List D) (S' : Sd) (m' : Mp) (H' : Hp) (a : Addr) (us : List V) (m1 : Mp) (H1 : Hp) (r : R D), Po G m1 H1 E r Q → r = fin ds S' → Go m1 H1 m' H' → RepS G m' H' S' → H' a = some (.lst us) → H1 a = none → Reps G m' H' ds us → a ∉ m' → (∃ mg : Mp, mg.hs = m'.hs ∧ mg.gh = a :: m'.gh ∧ RepS G mg H' S' ∧ Reps G mg H' ds us) → Q (.ref a) H')
    (p : Po G m H E ((κ env S).bind fun ds S1 => guardR (decide (ds.l.length ≤ sizeLine)) ((lcL γ c φ (wipeE env vs) ds.p ds.l S1).bind fin)) Q) : tLc wi g tt (tT G E0 φ) vs σ H Q := by
  have k2 := @hg.ok
  refine hi (nE Q) rs re p fun ds w S1 m1 H1 J g1 rs1 wk p1 => ?_
  obtain ⟨c0, p2⟩ := p1.guard
  have c0 : ds.length ≤ sizeLine := of_decide_eq_true c0
  intro da hD
  have re1 := re.go g1
  refine ⟨fun i n Hc => n = ds.length - i ∧ i ≤ ds.length ∧ ∃ m' S' acc us, GoD m1 H1 da m' Hc ∧ RepS G m' Hc S' ∧ Hc da = some (.lst us) ∧ Reps G m' Hc acc us ∧ acc.length ≤ i ∧
    Po G m1 H1 E ((lcL γ c φ (wipeE env vs) w (ds.drop i) S').bind fun ys S2 => fin (acc ++ ys) S2) Q, ⟨_, rfl, Nat.zero_le _, m1.gst da, S1, [], [], .start hD _, gst_rs rs1 hD, upd_same, rfl, Nat.le_refl _, p2⟩, ?_⟩
  rintro i n H2 ⟨rfl, hi, m2, S2, acc, us, g2, rs2, hD2, ra, la, p3⟩
  have e0 : m2.gh = da :: m1.gh := g2.gh
  have gAll : Mv m1 H1 m2 H2 := g2.mv hD
  by_cases hlt : i < ds.length
  · have ed : ds.drop i = ds[i] :: ds.drop (i + 1) := List.drop_eq_getElem_cons hlt
    rw [ed, lcL] at p3
    obtain ⟨cw, p3⟩ := nice_guard (nE Q) p3
    obtain ⟨go, st⟩ := wk.step m2 H2 S2 i _ gAll rs2 cw (List.getElem?_eq_getElem hlt)
    refine .inr ⟨go, fun Hc => i + 1 ≤ ds.length ∧ ∃ m' S' acc us, GoD m1 H1 da m' Hc ∧ RepS G m' Hc S' ∧ Hc da = some (.lst us) ∧ Reps G m' Hc acc us ∧ acc.length ≤ i + 1 ∧
      Po G m1 H1 E ((lcL γ c φ (wipeE env vs) w (ds.drop (i + 1)) S').bind fun ys S2 => fin (acc ++ ys) S2) Q, fun H' w => ⟨_, by omega, rfl, w⟩, fun x H3 y => ?_⟩
    obtain ⟨s3, r3⟩ := st x H3 y
    have g3 : Go m2 H2 m2 H3 := .of s3
    have rs3 := rs2.same s3
    rw [bind_assoc] at p3
    cases eγ : γ ds[i] (wipeE env vs) S2 with
    | err e S' => rw [eγ] at p3; exact p3.elim
    | stuck => rw [eγ] at p3; exact p3.elim
    | ok env1 S1' =>
      rw [eγ, noX_ok, R.bind_ok, bind_assoc] at p3
      have re3 : RepE G m2 H3 (wipeE env vs) (L2.wipe σ vs) := ⟨(re1.wipe vs).len, fun j d h => by
        obtain ⟨v, e1, q⟩ := (re1.wipe vs).at_ j d h
        exact ⟨v, e1, Rep.go g3 _ _ (Rep.mv gAll _ _ q)⟩⟩
      refine k2 (P := fun _ _ r => r = R.ok env1 S1') (k := fun e S => .ok e S) ⟨fun _ h => h, (fun h => nomatch h), (fun h => nomatch h)⟩ rs3 re3 r3 (by rw [eγ]; rfl) fun env' S' m4 H4 σ4 g4 rs4 re4 w4 h4 => ?_
      cases h4
      refine ⟨by rw [w4 vs hin, wipe_wipe fun _ h => h], ht _ _ _ ⟨m4, env1, S1', rs4, re4, partXC (P := fun r => Po G m1 H1 E r Q) (fun z => z) p3 fun b S5 m5 H5 g5 rs5 ec => ?_⟩⟩
      rw [ec, noX_ok, R.bind_ok] at p3
      have g25 := (g3.trans g4).trans g5
      cases b with
      | false =>
        refine iteF ⟨hlt, m5, S5, acc, us, g2.trans ⟨_, hD2⟩ g25, rs5, ?_, Reps.go g25 _ _ ra, by omega, p3⟩
        exact g25.fr _ _ hD2 fun z => (rs2.gh da (by rw [e0]; exact List.mem_cons_self)).2 z
      | true =>
        simp only [if_true] at p3
        rw [bind_assoc] at p3
        refine iteT ⟨m5, env1, S5, rs5, re4.go g5, partXE (P := fun r => Po G m1 H1 E r Q) (fun z => z) p3 fun d S6 m6 H6 v g6 rs6 rv ed => ?_⟩
        rw [ed, noX_ok, R.bind_ok, bind_assoc] at p3
        have g26 := g25.trans g6
        have hD6 : H6 da = some (.lst us) := g26.fr _ _ hD2 fun z => (rs2.gh da (by rw [e0]; exact List.mem_cons_self)).2 z
        have e6 : da ∈ m6.gh := by
          obtain ⟨n, e, _⟩ := g26.ext
          rw [e]
          show da ∈ m2.gh
          rw [e0]
          exact List.mem_cons_self
        obtain ⟨mv, rs7⟩ := gst_fill (o := .lst (us ++ [v])) rs6 e6
        have ra6 := Reps.go g26 _ _ ra
        refine ⟨us, hD6, ?_, hlt, m6, S6, acc ++ [d], us ++ [v], ?_, rs7, upd_same, Reps.mv mv _ _ (ra6.app (.one rv)), by rw [List.length_append, List.length_singleton]; omega, ?_⟩
        · rw [← ra.length]
          omega
        · exact (g2.trans ⟨_, hD2⟩ g26).fill hD _
        · have : ∀ ys S, fin ((acc ++ [d]) ++ ys) S = fin (acc ++ (d :: ys)) S := fun ys S => by rw [List.append_assoc]; rfl
          simp only [this]
          exact p3
  · have e : i = ds.length := by omega
    subst e
    rw [List.drop_length, lcL] at p3
    obtain ⟨cw, p3⟩ := nice_guard (nE Q) p3
    obtain ⟨g4, rs4, rv4, nd⟩ := lc_end hD rs1 g2 rs2 ra
    refine .inl ⟨wk.stop _ H2 S2 g4.mv rs4 cw, ?_⟩
    have p4 : Po G m1 H1 E (fin acc S2) Q := by
      have : (R.ok ([] : List D) S2).bind (fun ys S2 => fin (acc ++ ys) S2) = fin (acc ++ []) S2 := rfl
      rw [this, List.append_nil] at p3
      exact p3
    exact hfin acc S2 _ H2 da us m1 H1 _ p4 rfl g4 rs4 hD2 hD rv4 nd ⟨m2, rfl, e0, rs2, ra⟩
end
section
variable {X : Cx} {G : Gm} {E : XK} {elt tg iter : Expr} {κ : TW} {γ : TGt} {κc : TC} {φ : TX} {is : List Nat} {g : TG} {scope : Scope} {own : List (Str × Nat)} {pos : PySem.Pos} {e : Expr}
/-- [elt for tg in iter] -/
theorem te_lc (hc : X.calm = true) (hN : X.N.Nodup) {wi : TI} (hi : PIT X G E tg iter κ wi) (ok : BlkOk X.N X.env.scope scope own)
    (hg : ∀ (s : Shared) (H : Hp) (C : Addr) (cl : List (Str × Addr)) (fp : List Addr), PGT (X.blk s H scope (compEnvC scope cl C X.env) fp) G E0 tg γ is g)
    (he : ∀ (s : Shared) (H : Hp) (C : Addr) (cl : List (Str × Addr)) (fp : List Addr), PE (X.blk s H scope (compEnvC scope cl C X.env) fp) elt (tT G E0 φ))
    (hin : ∀ i ∈ is, i ∈ own.map (·.2) := by decide) (hs : ∀ x, foldedSetIterable iter X.env x = pure x := by intro _; rfl) : PE X (.ListComp elt [⟨tg, iter, [], 0⟩] scope pos) (tT G E (xLc κ γ cYes φ (own.map (·.2)))) := by
  have k1 := @hi.ok
  refine PE.imp (pe_lc hc hN hi.pi ok (fun s H C cl fp => (hg s H C cl fp).pg) (fun _ _ _ _ _ => pts_nil) he hs) fun σ H Q h => ?_
  obtain ⟨m, env, S, rs, re, p⟩ := h
  exact lc_in (c := cYes) k1 (hg X.s_0 H 0 [] []) hin (fun σ H Q h => by
    obtain ⟨m, env, S, rs, re, p⟩ := h
    exact PoC.here p rs) rs re (fun ds S' m' H' a us m1 H1 r pr er g rs' ha hn ru na _ => by
    subst er
    exact pr m' H' _ g rs' ⟨a, us, rfl, ⟨ha, na⟩, ru⟩) p
/-- [elt for tg in iter if c] -/
theorem te_lcC {c : Expr} (hc : X.calm = true) (hN : X.N.Nodup) {wi : TI} (hi : PIT X G E tg iter κ wi) (ok : BlkOk X.N X.env.scope scope own)
    (hg : ∀ (s : Shared) (H : Hp) (C : Addr) (cl : List (Str × Addr)) (fp : List Addr), PGT (X.blk s H scope (compEnvC scope cl C X.env) fp) G E0 tg γ is g)
    (ht : ∀ (s : Shared) (H : Hp) (C : Addr) (cl : List (Str × Addr)) (fp : List Addr), PT (X.blk s H scope (compEnvC scope cl C X.env) fp) c (tTc G E0 κc))
    (he : ∀ (s : Shared) (H : Hp) (C : Addr) (cl : List (Str × Addr)) (fp : List Addr), PE (X.blk s H scope (compEnvC scope cl C X.env) fp) elt (tT G E0 φ))
    (hin : ∀ i ∈ is, i ∈ own.map (·.2) := by decide) (hs : ∀ x, foldedSetIterable iter X.env x = pure x := by intro _; rfl) : PE X (.ListComp elt [⟨tg, iter, [c], 0⟩] scope pos) (tT G E (xLc κ γ κc φ (own.map (·.2)))) := by
  have k1 := @hi.ok
  refine PE.imp (pe_lc hc hN hi.pi ok (fun s H C cl fp => (hg s H C cl fp).pg) (fun s H C cl fp => pts_one (ht s H C cl fp)) he hs) fun σ H Q h => ?_
  obtain ⟨m, env, S, rs, re, p⟩ := h
  exact lc_in (c := κc) k1 (hg X.s_0 H 0 [] []) hin (fun σ H Q h => h) rs re (fun ds S' m' H' a us m1 H1 r pr er g rs' ha hn ru na _ => by
    subst er
    exact pr m' H' _ g rs' ⟨a, us, rfl, ⟨ha, na⟩, ru⟩) p
end
end Den

namespace Den
open PySem PySem.Spec PyProof.Rows L2
/-! ## defs -/
theorem ofString_inj {a b : String} (h : Str.ofString a = Str.ofString b) : a = b := by
  rw [Str.ofString_eq_toList, Str.ofString_eq_toList] at h
  have h : a.toList.map Char.toNat = b.toList.map Char.toNat := by simpa using congrArg (fun z : Str => z.cps.toList) h
  have : a.toList = b.toList := by
    have inj : ∀ (xs ys : List Char), xs.map Char.toNat = ys.map Char.toNat → xs = ys := fun xs => by
      induction xs with
      | nil => intro ys h; cases ys with
        | nil => rfl
        | cons _ _ => cases h
      | cons x xs ih => intro ys h; cases ys with
        | nil => cases h
        | cons y ys =>
          rw [List.map_cons, List.map_cons, List.cons.injEq] at h
          rw [ih ys h.2, Char.ext (UInt32.toNat_inj.mp h.1)]
    exact inj _ _ h
  exact String.ext this
/-! ### what is given back: things of one's own are let go -/
mutual
def mapH (g : Nat → Option D) : D → Option D
  | .hnd i => g i
  | .lst ds => (mapHs g ds).map .lst
  | .tup ds => (mapHs g ds).map .tup
  | .ins c ns ds => (mapHs g ds).map (.ins c ns)
  | .dct ks ds => (mapHs g ds).map (.dct ks)
  | .non => some .non
  | .bl b => some (.bl b)
  | .int i => some (.int i)
  | .str z => some (.str z)
  | .raw v => some (.raw v)
  | .scr ns => some (.scr ns)
def mapHs (g : Nat → Option D) : List D → Option (List D)
  | [] => some []
  | d :: ds => match mapH g d, mapHs g ds with
    | some e, some es => some (e :: es)
    | _, _ => none
end
def resH (S : Sd) (n : Nat) : Nat → Nat → Option D
  | 0, i => if i < n then some (.hnd i) else none
  | k + 1, i => if i < n then some (.hnd i) else match S[i]? with
    | some (.lst ds) => (mapHs (resH S n k) ds).map .lst
    | some (.ins c ns ds) => (mapHs (resH S n k) ds).map (.ins c ns)
    | some (.dK ks ds) => (mapHs (resH S n k) ds).map (.dct ks)
    | _ => none
def fz (S : Sd) (n : Nat) (d : D) : Option D := mapH (resH S n 8) d
/-- nothing of it is changed from outside -/
def MO.ds : MO → List D
  | .lst ds => ds
  | .ins _ _ ds => ds
  | .dK _ ds => ds
  | .dT _ ds => ds
  | .dead => []
def lowG (n : Nat) (i : Nat) : Option D := if i < n then some (.hnd i) else none
def MO.low (n : Nat) (o : MO) : Prop := mapHs (lowG n) o.ds = some o.ds
def KeepOk (S S' : Sd) : Prop := ∀ (i : Nat) (o : MO), i < S.length → S'[i]? = some o → S[i]? = some o ∨ o.low S.length
open Classical in
noncomputable def exitR (S : Sd) (r : R D) : R D := match r with
  | .ok d S' => if S'.length = S.length then .ok d S' else if S.length ≤ S'.length ∧ KeepOk S S' then (match fz S' S.length d with
    | some e => .ok e (S'.take S.length)
    | none => .stuck) else .stuck
  | .err d S' => if S'.length = S.length then .err d S' else if S.length ≤ S'.length ∧ KeepOk S S' then (match fz S' S.length d with
    | some e => .err e (S'.take S.length)
    | none => .stuck) else .stuck
  | .stuck => .stuck
def Mp.cut (m : Mp) (n : Nat) : Mp := ⟨m.hs.take n, m.gh⟩
section
variable {G : Gm} {E : XK} {m m' : Mp} {H H' : Hp} {S S' : Sd}
theorem cut_mem {a : Addr} {n : Nat} (h : a ∈ m.cut n) : a ∈ m := h.elim (fun h => .inl (List.mem_of_mem_take h)) .inr
/-- a thing that is let go is a tree -/
theorem let_go (rs : RepS G m H S) {n : Nat} (hn : n ≤ S.length) {g : Nat → Option D} (hg : ∀ i d v, g i = some d → Rep G m H (.hnd i) v → Rep G (m.cut n) H d v) :
    (∀ d e v, mapH g d = some e → Rep G m H d v → Rep G (m.cut n) H e v) ∧ (∀ ds es vs, mapHs g ds = some es → Reps G m H ds vs → Reps G (m.cut n) H es vs) := by
  have key : ∀ (k : Nat), (∀ d e v, sizeOf d < k → mapH g d = some e → Rep G m H d v → Rep G (m.cut n) H e v) ∧ (∀ ds es vs, sizeOf ds < k → mapHs g ds = some es → Reps G m H ds vs → Reps G (m.cut n) H es vs) := by
    intro k
    induction k with
    | zero => exact ⟨fun d e v h => absurd h (Nat.not_lt_zero _), fun d e v h => absurd h (Nat.not_lt_zero _)⟩
    | succ k ih =>
      constructor
      · intro d e v hk h r
        cases d with
        | hnd i => exact hg i e v h r
        | non => cases h; exact r
        | bl b => cases h; exact r
        | int b => cases h; exact r
        | str b => cases h; exact r
        | raw b => cases h; exact r
        | scr ns =>
          cases h
          obtain ⟨a, e, l⟩ := r
          exact ⟨a, e, l.imp (fun l => ⟨l.1, fun z => l.2 (cut_mem z)⟩) id⟩
        | lst ds =>
          obtain ⟨es, h1, rfl⟩ := Option.map_eq_some_iff.mp (show (mapHs g ds).map .lst = some e from h)
          obtain ⟨a, vs, e1, l, q⟩ := r
          exact ⟨a, vs, e1, ⟨l.1, fun z => l.2 (cut_mem z)⟩, ih.2 ds es vs (by simp only [D.lst.sizeOf_spec] at hk; omega) h1 q⟩
        | tup ds =>
          obtain ⟨es, h1, rfl⟩ := Option.map_eq_some_iff.mp (show (mapHs g ds).map .tup = some e from h)
          obtain ⟨a, vs, e1, l, q⟩ := r
          exact ⟨a, vs, e1, l.imp (fun l => ⟨l.1, fun z => l.2 (cut_mem z)⟩) id, ih.2 ds es vs (by simp only [D.tup.sizeOf_spec] at hk; omega) h1 q⟩
        | ins c ns ds =>
          obtain ⟨es, h1, rfl⟩ := Option.map_eq_some_iff.mp (show (mapHs g ds).map (.ins c ns) = some e from h)
          obtain ⟨a, C, dx, vs, e1, na, ha, hc, hl, q⟩ := r
          have q2 := ih.2 ds es vs (by simp only [D.ins.sizeOf_spec] at hk; omega) h1 q
          exact ⟨a, C, dx, vs, e1, fun z => na (cut_mem z), ha, hc, by rw [hl, q.length, q2.length], q2⟩
        | dct ks ds =>
          obtain ⟨es, h1, rfl⟩ := Option.map_eq_some_iff.mp (show (mapHs g ds).map (.dct ks) = some e from h)
          obtain ⟨a, vs, e1, l, hl, q⟩ := r
          have q2 := ih.2 ds es vs (by simp only [D.dct.sizeOf_spec] at hk; omega) h1 q
          exact ⟨a, vs, e1, ⟨l.1, fun z => l.2 (cut_mem z)⟩, by rw [hl, q.length, q2.length], q2⟩
      · intro ds es vs hk h r
        cases ds with
        | nil => cases h; exact r
        | cons d ds =>
          obtain ⟨v, us, rfl, r1, r2⟩ := r
          unfold mapHs at h
          split at h
          · rename_i e' es' e1 e2
            cases h
            exact ⟨v, us, rfl, ih.1 d e' v (by simp only [List.cons.sizeOf_spec] at hk; omega) e1 r1, ih.2 ds es' us (by simp only [List.cons.sizeOf_spec] at hk; omega) e2 r2⟩
          · cases h
  exact ⟨fun d e v => (key _).1 d e v (Nat.lt_succ_self _), fun d e v => (key _).2 d e v (Nat.lt_succ_self _)⟩
theorem cut_ix {n i : Nat} {a : Addr} (h : m.hs[i]? = some a) (hi : i < n) : (m.cut n).hs[i]? = some a := by
  show (m.hs.take n)[i]? = some a
  rw [List.getElem?_take_of_lt hi]
  exact h
theorem cut_out (rs : RepS G m H S) {n i : Nat} {a : Addr} (h : m.hs[i]? = some a) (hi : n ≤ i) : a ∉ m.cut n := fun z => by
  rcases z with z | z
  · obtain ⟨j, hj⟩ := List.getElem?_of_mem z
    have hj' : (m.hs.take n)[j]? = some a := hj
    have lt : j < n := by
      have := (List.getElem?_eq_some_iff.mp hj').1
      rw [List.length_take] at this
      omega
    rw [List.getElem?_take_of_lt lt] at hj'
    have := (List.getElem?_inj (List.getElem?_eq_some_iff.mp h).1 rs.nd).mp (h.trans hj'.symm)
    omega
  · exact (rs.gh a z).2 (List.mem_of_getElem? h)
theorem resH_ok (rs : RepS G m H S) {n : Nat} (hn : n ≤ S.length) : ∀ (k i : Nat) (d : D) (v : V), resH S n k i = some d → Rep G m H (.hnd i) v → Rep G (m.cut n) H d v := by
  intro k
  induction k with
  | zero =>
    intro i d v h r
    unfold resH at h
    split at h
    · cases h
      obtain ⟨a, e, rfl⟩ := r
      exact ⟨a, cut_ix e (by assumption), rfl⟩
    · cases h
  | succ k ih =>
    intro i d v h r
    unfold resH at h
    split at h
    · cases h
      obtain ⟨a, e, rfl⟩ := r
      exact ⟨a, cut_ix e (by assumption), rfl⟩
    · rename_i hi
      obtain ⟨a, e, rfl⟩ := r
      have na := cut_out rs e (Nat.le_of_not_lt hi)
      have L := (let_go rs hn ih).2
      split at h
      · rename_i ds q
        obtain ⟨es, h1, rfl⟩ := Option.map_eq_some_iff.mp h
        obtain ⟨b, e2, vs, hv, rv⟩ := rs.at_ i _ q
        rw [e] at e2
        cases e2
        exact ⟨a, vs, rfl, ⟨hv, na⟩, L ds es vs h1 rv⟩
      · rename_i c ns ds q
        obtain ⟨es, h1, rfl⟩ := Option.map_eq_some_iff.mp h
        obtain ⟨b, e2, C, dx, vs, hv, hc, hl, rv⟩ := rs.at_ i _ q
        rw [e] at e2
        cases e2
        have q2 := L ds es vs h1 rv
        exact ⟨a, C, dx, vs, rfl, na, hv, hc, by rw [hl, rv.length, q2.length], q2⟩
      · rename_i ks ds q
        obtain ⟨es, h1, rfl⟩ := Option.map_eq_some_iff.mp h
        obtain ⟨b, e2, vs, hv, hl, rv⟩ := rs.at_ i _ q
        rw [e] at e2
        cases e2
        have q2 := L ds es vs h1 rv
        exact ⟨a, vs, rfl, ⟨.inl hv, na⟩, by rw [hl, rv.length, q2.length], q2⟩
      · cases h
theorem fz_ok (rs : RepS G m H S) {n : Nat} (hn : n ≤ S.length) {d e : D} {v : V} (h : fz S n d = some e) (r : Rep G m H d v) : Rep G (m.cut n) H e v := (let_go rs hn (resH_ok rs hn 8)).1 d e v h r
theorem lowG_ok (rs : RepS G m H S) {n : Nat} : ∀ (i : Nat) (d : D) (v : V), lowG n i = some d → Rep G m H (.hnd i) v → Rep G (m.cut n) H d v := fun i d v h r => by
  unfold lowG at h
  split at h
  · cases h
    obtain ⟨a, e, rfl⟩ := r
    exact ⟨a, cut_ix e (by assumption), rfl⟩
  · cases h
mutual
theorem rep_low : ∀ (d : D) (v : V), Rep G m H d v → mapH (lowG m.hs.length) d = some d
  | .hnd i, v, r => by
    obtain ⟨a, e, _⟩ := r
    show lowG m.hs.length i = _
    unfold lowG
    rw [if_pos (List.getElem?_eq_some_iff.mp e).1]
  | .non, v, r => rfl
  | .bl b, v, r => rfl
  | .int b, v, r => rfl
  | .str b, v, r => rfl
  | .raw b, v, r => rfl
  | .scr b, v, r => rfl
  | .lst ds, v, r => by
    obtain ⟨a, vs, _, _, q⟩ := r
    show (mapHs _ ds).map D.lst = _
    rw [reps_low ds vs q]
    rfl
  | .tup ds, v, r => by
    obtain ⟨a, vs, _, _, q⟩ := r
    show (mapHs _ ds).map D.tup = _
    rw [reps_low ds vs q]
    rfl
  | .ins c ns ds, v, r => by
    obtain ⟨a, C, dx, vs, _, _, _, _, _, q⟩ := r
    show (mapHs _ ds).map (D.ins c ns) = _
    rw [reps_low ds vs q]
    rfl
  | .dct ks ds, v, r => by
    obtain ⟨a, vs, _, _, _, q⟩ := r
    show (mapHs _ ds).map (D.dct ks) = _
    rw [reps_low ds vs q]
    rfl
theorem reps_low : ∀ (ds : List D) (vs : List V), Reps G m H ds vs → mapHs (lowG m.hs.length) ds = some ds
  | [], vs, r => rfl
  | d :: ds, vs, r => by
    obtain ⟨v, us, _, h1, h2⟩ := r
    unfold mapHs
    rw [rep_low d v h1, reps_low ds us h2]
end
theorem repO_low {a : Addr} {o : MO} (rs : RepS G m H S) (r : RepO G m H a o) : o.low S.length := by
  unfold MO.low
  rw [← rs.len]
  cases o with
  | lst ds => obtain ⟨vs, _, q⟩ := r; exact reps_low _ _ q
  | ins c ns ds => obtain ⟨_, _, vs, _, _, _, q⟩ := r; exact reps_low _ _ q
  | dK ks ds => obtain ⟨vs, _, _, q⟩ := r; exact reps_low _ _ q
  | dT ks ds => obtain ⟨vs, _, _, q⟩ := r; exact reps_low _ _ q
  | dead => rfl
/-- what a def leaves -/
theorem exit_rs (rs : RepS G m H S) (g : Go m H m' H') (rs' : RepS G m' H' S') (hl : S.length ≤ S'.length) (k : KeepOk S S') : m'.cut S.length = m ∧ RepS G m H' (S'.take S.length) ∧ Go m H m H' := by
  obtain ⟨n, e, f⟩ := g.ext
  have ec : m'.cut S.length = m := by
    rw [e]
    show (⟨(m.hs ++ n).take S.length, m.gh⟩ : Mp) = m
    rw [← rs.len, List.take_left]
  have low := (let_go rs' hl (lowG_ok rs' (n := S.length))).2
  refine ⟨ec, ⟨rs.nd, by rw [rs.len, List.length_take]; omega, fun a h => ⟨?_, (rs.gh a h).2⟩, fun i o h => ?_⟩, ⟨⟨[], by rw [List.append_nil], fun _ h => (List.not_mem_nil h).elim⟩, g.fr, g.dm⟩⟩
  · cases q : H' a with
    | some u => exact ⟨u, rfl⟩
    | none =>
      obtain ⟨u, e⟩ := (rs.gh a h).1
      exact absurd q (g.dm a (by rw [e]; exact fun z => nomatch z))
  · have hi : i < S.length := by
      have := (List.getElem?_eq_some_iff.mp h).1
      rw [List.length_take] at this
      omega
    rw [List.getElem?_take_of_lt hi] at h
    obtain ⟨a, e1, ro⟩ := rs'.at_ i o h
    obtain ⟨b, e2, _⟩ := rs.at_ i _ (List.getElem?_eq_getElem hi)
    have e3 := g.ix e2
    rw [e1] at e3
    cases e3
    refine ⟨a, e2, ?_⟩
    have q : o.low S.length := by
      rcases k i o hi h with q | q
      · obtain ⟨b', e4, ro0⟩ := rs.at_ i o q
        exact repO_low rs ro0
      · exact q
    have up : ∀ vs, Reps G m' H' o.ds vs → Reps G m H' o.ds vs := fun vs r => by
      have := low o.ds o.ds vs q r
      rwa [ec] at this
    cases o with
    | lst ds => obtain ⟨vs, hv, rv⟩ := ro; exact ⟨vs, hv, up vs rv⟩
    | ins c ns ds => obtain ⟨C, dx, vs, hv, hc, hl, rv⟩ := ro; exact ⟨C, dx, vs, hv, hc, hl, up vs rv⟩
    | dK ks ds => obtain ⟨vs, hv, hl, rv⟩ := ro; exact ⟨vs, hv, hl, up vs rv⟩
    | dT ks ds => obtain ⟨vs, hv, hl, rv⟩ := ro; exact ⟨vs, hv, hl, up vs rv⟩
    | dead => exact ro
theorem same_len (g : Go m H m' H') (rs : RepS G m H S) (rs' : RepS G m' H' S') (hl : S'.length = S.length) : m' = m := by
  obtain ⟨n, e, _⟩ := g.ext
  have : n = [] := by
    have h1 := rs'.len
    rw [e] at h1
    have h2 : (m.hs ++ n).length = S'.length := h1
    rw [List.length_append, rs.len, hl] at h2
    exact List.length_eq_zero_iff.mp (by omega)
  rw [e, this, List.append_nil]
theorem repX_cut {e e' : D} {cls : Value} {dx : Option Addr} {n : Nat} (rs : RepS G m H S) (hn : n ≤ S.length) (h : fz S n e = some e') (r : RepX G m H e cls dx) : RepX G (m.cut n) H e' cls dx := by
  cases e with
  | ins c ns ds =>
    obtain ⟨es, h1, rfl⟩ := Option.map_eq_some_iff.mp (show (mapHs (resH S n 8) ds).map (.ins c ns) = some e' from h)
    obtain ⟨C, a, vs, e1, e2, e3, e4, e5, q, na⟩ := r
    have q2 := (let_go rs hn (resH_ok rs hn 8)).2 ds es vs h1 q
    exact ⟨C, a, vs, e1, e2, e3, e4, by rw [e5, q.length, q2.length], q2, fun z => na (cut_mem z)⟩
  | _ => exact r.elim
/-- a wish behind a def: of what it gives back -/
theorem Po.exit {r : R D} {Q : VK} (rs : RepS G m H S) (p : Po G m H E (exitR S r) Q) : (∀ d S' m' H' v, r = .ok d S' → Go m H m' H' → RepS G m' H' S' → Rep G m' H' d v → Q v H') ∧ (∀ e S', r = .err e S' → PoE G m H e S' E) ∧ r ≠ .stuck := by
  refine ⟨fun d S' m' H' v er g rs' rv => ?_, fun e S' er m' H' cls dx g rs' rx => ?_, fun er => ?_⟩
  · subst er
    unfold exitR at p
    simp only at p
    split at p
    · rename_i hl
      have em := same_len g rs rs' hl
      exact p m' H' v g rs' rv
    · split at p
      · rename_i hk
        split at p
        · rename_i d' hf
          obtain ⟨ec, rs2, g2⟩ := exit_rs rs g rs' hk.1 hk.2
          have := fz_ok rs' hk.1 hf rv
          rw [ec] at this
          exact p m H' v g2 rs2 this
        · exact p.elim
      · exact p.elim
  · subst er
    unfold exitR at p
    simp only at p
    split at p
    · exact p m' H' cls dx g rs' rx
    · split at p
      · rename_i hk
        split at p
        · rename_i d' hf
          obtain ⟨ec, rs2, g2⟩ := exit_rs rs g rs' hk.1 hk.2
          have := repX_cut rs' hk.1 hf rx
          rw [ec] at this
          exact p m H' cls dx g2 rs2 this
        · exact p.elim
      · exact p.elim
  · subst er
    exact p
end
/-! ### a def's promise -/
def spT (G : Gm) (F : Fn) (n : Nat) : Sp := fun vs H Q E => ∃ m ds S, RepS G m H S ∧ Reps G m H ds vs ∧ ds.length = n ∧ Po G m H E (F ds S) Q
def startE (n : Nat) (ds : List D) : En := ds.map some ++ List.replicate (n - ds.length) none
def outR (r : R Out) : R D := match r with
  | .ok (.nx _) S => .ok .non S
  | .ok (.ret d) S => .ok d S
  | .ok _ _ => .stuck
  | .err e S => .err e S
  | .stuck => .stuck
noncomputable def fnOf (n : Nat) (ψ : TSt) : Fn := fun ds S => exitR S (outR (ψ (startE n ds) S))
theorem start_rep {G : Gm} {m : Mp} {H : Hp} {N : List Str} {ds : List D} {vs : List V} (r : Reps G m H ds vs) : RepE G m H (startE N.length ds) (L2.start N vs) := by
  have hl := r.length
  refine ⟨by unfold startE L2.start; rw [List.length_append, List.length_append, List.length_map, List.length_map, List.length_replicate, List.length_replicate, hl], fun i d h => ?_⟩
  unfold startE at h
  unfold L2.start
  by_cases hi : i < ds.length
  · rw [List.getElem?_append_left (by rw [List.length_map]; exact hi), List.getElem?_map] at h
    obtain ⟨d', e1, e2⟩ := Option.map_eq_some_iff.mp h
    cases e2
    obtain ⟨v, e3, rv⟩ := r.get e1
    refine ⟨v, ?_, rv⟩
    rw [List.getElem?_append_left (by rw [List.length_map, ← hl]; exact hi), List.getElem?_map, e3]
    rfl
  · rw [List.getElem?_append_right (by rw [List.length_map]; omega)] at h
    have := List.mem_of_getElem? h
    have := (List.mem_replicate.mp this).2
    cases this
/-- a def as it stands behind the top, whatever its defaults are -/
structure FunA (K : PySem.W.Frag) (x qual : Str) (st : Stmt) (f : Addr) (fd : FuncData) : Prop where
  ex : ∃ (dvs : List V) (kws : List (Str × V)), L2.FunD K x qual (defArgs st) (defBody st) (defScope st) dvs kws f fd
section
variable {P : Program} {w : World} {K : PySem.W.Frag} {mg : Str → Option Value} {base : Heap} {G : Gm}
theorem fn_ok {x qual : Str} {st : Stmt} {f : Addr} {fd : FuncData} {N ps : List Str} {k : Nat} {ψ : TSt} (F : FunA K x qual st f fd) (S : FnScope N ps (defScope st))
    (hbody : ∀ (cdv : Value) (A : Around) (outer : List Env) (s : Shared) (H : Hp) (E : XK), Room k (A.deeper (envOfC qual (defScope st) s.heap.objs.size f cdv)) →
      PSs (cxOf (L2.CX P w) P w K mg base N qual (defScope st) f cdv A outer s H E) (defBody st) (tS G E ψ)) : FnOk P w K mg base (L2.CX P w) (k + 1) f fd ps (spT G (fnOf N.length ψ) ps.length) := by
  obtain ⟨dvs, kws, F⟩ := F.ex
  refine F.ok S (fun vs H Q E h => ?_) (fun cdv A outer s H vs Q E hr h => ⟨_, hbody cdv A outer s H E hr, ?_⟩)
  · obtain ⟨m, ds, S, rs, rv, hl, _⟩ := h
    rw [← rv.length, hl]
  · obtain ⟨m, ds, S, rs, rv, hl, p⟩ := h
    refine ⟨m, _, S, rs, start_rep rv, ?_⟩
    obtain ⟨p1, p2, p3⟩ := p.exit rs
    cases e : ψ (startE N.length ds) S with
    | ok o S' =>
      rw [e] at p1 p2 p3
      cases o with
      | nx env => exact fun m' H' σ' g rs' re' => p1 .non S' m' H' .non rfl g rs' rfl
      | ret d => exact fun m' H' v g rs' rv' => p1 d S' m' H' v rfl g rs' rv'
      | brk env => exact absurd rfl p3
      | ct env => exact absurd rfl p3
    | err x S' => rw [e] at p2; exact p2 x S' rfl
    | stuck => rw [e] at p3; exact absurd rfl p3
/-- a def whose own changed things stay such things behind it -/
def fnOfK (n : Nat) (ψ : TSt) : Fn := fun ds S => outR (ψ (startE n ds) S)
theorem fn_okK {x qual : Str} {st : Stmt} {f : Addr} {fd : FuncData} {N ps : List Str} {k : Nat} {ψ : TSt} (F : FunA K x qual st f fd) (S : FnScope N ps (defScope st))
    (hbody : ∀ (cdv : Value) (A : Around) (outer : List Env) (s : Shared) (H : Hp) (E : XK), Room k (A.deeper (envOfC qual (defScope st) s.heap.objs.size f cdv)) →
      PSs (cxOf (L2.CX P w) P w K mg base N qual (defScope st) f cdv A outer s H E) (defBody st) (tS G E ψ)) : FnOk P w K mg base (L2.CX P w) (k + 1) f fd ps (spT G (fnOfK N.length ψ) ps.length) := by
  obtain ⟨dvs, kws, F⟩ := F.ex
  refine F.ok S (fun vs H Q E h => ?_) (fun cdv A outer s H vs Q E hr h => ⟨_, hbody cdv A outer s H E hr, ?_⟩)
  · obtain ⟨m, ds, S, rs, rv, hl, _⟩ := h
    rw [← rv.length, hl]
  · obtain ⟨m, ds, S, rs, rv, hl, p⟩ := h
    refine ⟨m, _, S, rs, start_rep rv, ?_⟩
    change Po G m H E (outR (ψ (startE N.length ds) S)) Q at p
    cases e : ψ (startE N.length ds) S with
    | ok o S' =>
      rw [e] at p
      cases o with
      | nx env => exact fun m' H' σ' g rs' re' => p m' H' .non g rs' rfl
      | ret d => exact fun m' H' v g rs' rv' => p m' H' v g rs' rv'
      | brk env => exact p.elim
      | ct env => exact p.elim
    | err x S' => rw [e] at p; exact p
    | stuck => rw [e] at p; exact p.elim
/-- a def that may be called by its name -/
structure Cl (P : Program) (w : World) (K : PySem.W.Frag) (mg : Str → Option Value) (base : Heap) (G : Gm) (k : Nat) (x : Str) (ps : List Str) (F : Fn) : Prop where
  ex : ∃ (f : Addr) (fd : FuncData), mg x = some (.ref f) ∧ PySem.W.keepIn K (.ref f) = true ∧ Binds K fd ps [] ∧ FnOk P w K mg base (L2.CX P w) k f fd ps (spT G F ps.length)
end
def XsLen (φs : TXs) (n : Nat) : Prop := ∀ env S ds S', φs env S = .ok ds S' → ds.length = n
theorem xl_nil : XsLen xsNil 0 := fun env S ds S' h => by cases h; rfl
theorem xl_cons {φ : TX} {φs : TXs} {n : Nat} (h : XsLen φs n) : XsLen (xsCons φ φs) (n + 1) := fun env S ds S' e => by
  unfold xsCons at e
  cases e1 : φ env S with
  | ok d S1 =>
    rw [e1] at e
    simp only [R.bind_ok] at e
    cases e2 : φs env S1 with
    | ok es S2 =>
      rw [e2] at e
      cases e
      rw [List.length_cons, h _ _ _ _ e2]
    | err x S2 => rw [e2] at e; cases e
    | stuck => rw [e2] at e; cases e
  | err x S1 => rw [e1] at e; cases e
  | stuck => rw [e1] at e; cases e
def xFn (F : Fn) (φs : TXs) : TX := fun env S => (φs env S).bind F
section
variable {X : Cx} {G : Gm} {E : XK} {e : Expr} {es : List Expr} {φs : TXs} {pos p : PySem.Pos} {x : Str} {k : Nat} {ps : List Str} {F : Fn}
theorem te_call (C : Cl X.prog X.w X.K X.mg X.base G k x ps F) (hr : Room k X.A) (hx : Passes (L2.CX X.prog X.w) X E) (ha : PA X (e :: es) (tTs G E φs)) (hn : XsLen φs ps.length := by first | exact xl_nil | (repeat (refine xl_cons ?_)); exact xl_nil) (hg : Gl X x := by rfl) (hdb : (x == ("__debug__" : Str)) = false := by decide)
    (he : starEach (e :: es) X.env = (false, eval e X.env) :: starEach es X.env := by rfl) (hpl : (backTo pos (starEach es X.env)).any (·.1) = false := by rfl) : PE X (.Call (.Name x p) (e :: es) [] pos) (tT G E (xFn F φs)) := by
  obtain ⟨f, fd, hm, hk, hb, G1⟩ := C.ex
  refine PE.imp (pe_call G1 hr hg hm hk hb .nil hx ha hdb he hpl) fun σ H Q h => ?_
  obtain ⟨m, env, S, rs, re, p⟩ := h
  unfold xFn at p
  refine ⟨m, env, S, rs, re, ?_⟩
  cases e1 : φs env S with
  | ok ds S1 =>
    rw [e1] at p
    intro m1 H1 vs g rs1 rv
    rw [List.append_nil]
    exact ⟨m1, ds, S1, rs1, rv, hn _ _ _ _ e1, Po.go g p⟩
  | err x S1 => rw [e1] at p; exact p
  | stuck => rw [e1] at p; exact p
end
end Den

namespace Den
open PySem PySem.Spec PyProof.Rows L2
/-! ## own classes -/
/-- what a class of its own must be like, so that its instances may be looked at -/
structure CI (K : PySem.W.Frag) (C : Addr) : Prop where
  cls : Cls K C
  ha : PySem.W.findIn K (.ref C) "__class__" = some (some (.builtin "object.__class__"))
  hn : PySem.W.specialIn K (.builtin "object.__class__") "__get__" = some (some (.builtin "getset_descriptor.__get__"))
  ht : PySem.W.takesIn K (.builtin "object.__class__") = some true
  hm : PySem.W.mroIn K C (.type "object") = some true
  kt : ∀ k : BK, PySem.W.kitOne K (.ref C) (.type k.nm) = some false
structure Gok (G : Gm) : Prop where
  ci : ∀ c ∈ G.cs, ∀ C, G.mg (Str.ofString c) = some (.ref C) → CI G.K C
/-! ### fields -/
def fldOf (f : String) (ns : List String) (ds : List D) : Option D := (ns.zip ds).lookup f
def D.fld (S : Sd) (f : String) : D → Option D
  | .ins _ ns ds => fldOf f ns ds
  | .hnd i => match S[i]? with
    | some (.ins _ ns ds) => fldOf f ns ds
    | _ => none
  | _ => none
def oFld (f : String) (d : D) (S : Sd) : R D := match d.fld S f with
  | some e => .ok e S
  | none => .stuck
theorem beq_ofString {a b : String} : (Str.ofString a == Str.ofString b) = (a == b) := by
  by_cases h : a = b
  · subst h
    rw [beq_self_eq_true, beq_self_eq_true]
  · rw [beq_eq_false_iff_ne.mpr h, beq_eq_false_iff_ne.mpr fun z => h (ofString_inj z)]
theorem fld_rep {G : Gm} {m : Mp} {H : Hp} {f : String} {d : D} : ∀ {ns : List String} {ds : List D} {vs : List V}, Reps G m H ds vs → fldOf f ns ds = some d → f ∈ ns ∧ ∃ v, ((sN ns).zip vs).lookup (Str.ofString f) = some v ∧ Rep G m H d v
  | [], ds, vs, r, e => by cases ds <;> cases e
  | n :: ns, [], vs, r, e => by cases e
  | n :: ns, d :: ds, vs, r, e => by
    obtain ⟨v, us, rfl, h1, h2⟩ := r
    unfold fldOf at e
    rw [List.zip_cons_cons, List.lookup_cons] at e
    show _ ∧ ∃ w, ((Str.ofString n :: sN ns).zip (v :: us)).lookup _ = some w ∧ _
    rw [List.zip_cons_cons, List.lookup_cons, beq_ofString]
    cases q : f == n with
    | true =>
      rw [q] at e
      cases e
      exact ⟨by rw [beq_iff_eq.mp q]; exact List.mem_cons_self, v, rfl, h1⟩
    | false =>
      rw [q] at e
      obtain ⟨a, b⟩ := fld_rep (ns := ns) h2 e
      exact ⟨List.mem_cons_of_mem _ a, b⟩
/-- an instance: where it stands, its class -/
theorem ins_at {G : Gm} {m : Mp} {H : Hp} {S : Sd} {d : D} {v : V} {f : String} {e : D} (rs : RepS G m H S) (r : Rep G m H d v) (h : d.fld S f = some e) : ∃ a C dx fs u c, v = .ref a ∧ H a = some (.ins C dx fs) ∧ G.mg (Str.ofString c) = some (.ref C) ∧ c ∈ G.cs ∧ NoAttr G.K C (Str.ofString f) ∧ fs.lookup (Str.ofString f) = some u ∧ Rep G m H e u := by
  cases d with
  | ins c ns ds =>
    obtain ⟨a, C, dx, vs, rfl, na, ha, ⟨hc, hm, hf⟩, hl, q⟩ := r
    obtain ⟨h1, u, h2, h3⟩ := fld_rep q h
    exact ⟨a, C, dx, _, u, c, rfl, ha, hc, hm, hf f h1, h2, h3⟩
  | hnd i =>
    obtain ⟨a, e1, rfl⟩ := r
    change (match S[i]? with | some (.ins _ ns ds) => fldOf f ns ds | _ => none) = some e at h
    split at h
    · rename_i c ns ds q
      obtain ⟨b, e2, C, dx, vs, hv, ⟨hc, hm, hf⟩, hl, rv⟩ := rs.at_ i _ q
      rw [e1] at e2
      cases e2
      obtain ⟨h1, u, h2, h3⟩ := fld_rep rv h
      exact ⟨a, C, dx, _, u, c, rfl, hv, hc, hm, hf f h1, h2, h3⟩
    · cases h
  | _ => cases h
section
variable {X : Cx} {G : Gm} {E : XK} {e o value : Expr} {es : List Expr} {φ χ : TX} {φs : TXs} {pos p apos : PySem.Pos} {x : Str} {k : Nat} {ps : List Str} {F : Fn}
theorem te_fld (f : String) (hG : Gok G) (he : PE X e (tT G E φ)) (hb : attributeBase e (Str.ofString f) X.env (eval e X.env) = eval e X.env := by rfl) (hK : X.K = G.K := by rfl) : PE X (.Attribute e (Str.ofString f) pos) (tT G E (xUn (oFld f) φ)) := PE.imp (pe_fld he hb) fun σ H Q h => by
  obtain ⟨m, env, S, rs, re, p⟩ := h
  refine ⟨m, env, S, rs, re, partE (nE Q) p fun d S1 m1 H1 v g rs1 rv p1 => ?_⟩
  unfold oFld at p1
  split at p1
  · rename_i d' q
    obtain ⟨a, C, dx, fs, u, c, rfl, ha, hc, hm, hn, hl, ru⟩ := ins_at rs1 rv q
    rw [hK]
    exact ⟨a, C, dx, fs, u, rfl, ha, (hG.ci c hm C hc).cls, hn, hl, p1.here rs1 ru⟩
  · exact p1.elim
/-! ### self.f = e -/
def putD (f : String) (d : D) : List String → List D → List String × List D
  | n :: ns, e :: es => if n = f then (n :: ns, d :: es) else (n :: (putD f d ns es).1, e :: (putD f d ns es).2)
  | _, _ => ([f], [d])
theorem putD_rep {m : Mp} {H : Hp} {f : String} {d : D} {v : V} (r : Rep G m H d v) : ∀ {ns : List String} {ds : List D} {vs : List V}, ns.length = ds.length → Reps G m H ds vs →
    ∃ us, putF (Str.ofString f) v ((sN ns).zip vs) = (sN (putD f d ns ds).1).zip us ∧ (putD f d ns ds).1.length = (putD f d ns ds).2.length ∧ Reps G m H (putD f d ns ds).2 us ∧ ∀ g ∈ (putD f d ns ds).1, g = f ∨ g ∈ ns
  | [], [], vs, hl, q => by
    rw [show vs = [] from q]
    exact ⟨[v], rfl, rfl, .one r, fun g h => .inl (List.mem_singleton.mp h)⟩
  | [], e :: es, vs, hl, q => nomatch hl
  | n :: ns, [], vs, hl, q => nomatch hl
  | n :: ns, e :: es, vs, hl, q => by
    obtain ⟨u, us, rfl, h1, h2⟩ := q
    show ∃ ws, putF (Str.ofString f) v ((Str.ofString n, u) :: (sN ns).zip us) = _ ∧ _
    unfold putD putF
    by_cases h : n = f
    · subst h
      simp only [if_true]
      exact ⟨v :: us, rfl, by simpa using hl, ⟨v, us, rfl, r, h2⟩, fun g hg => (List.mem_cons.mp hg).imp id (List.mem_cons_of_mem _)⟩
    · rw [if_neg fun z => h (ofString_inj z), if_neg h]
      obtain ⟨ws, e1, e2, e3, e4⟩ := putD_rep r (ns := ns) (by simpa using hl) h2
      exact ⟨u :: ws, by rw [e1]; rfl, congrArg (· + 1) e2, ⟨u, ws, rfl, h1, e3⟩, fun g hg => (List.mem_cons.mp hg).elim (fun z => .inr (by rw [z]; exact List.mem_cons_self)) fun z => (e4 g z).imp id (List.mem_cons_of_mem _)⟩
/-- an instance of the class c that is being made gets a field -/
def sFldR (c f : String) (d t : D) (env : En) (S : Sd) : R Out := match t with
  | .hnd i => match S[i]? with
    | some (.ins c' ns ds) => guardR (decide (c' = c ∧ ns.length < 1000)) (.ok (.nx env) (S.set i (.ins c' (putD f d ns ds).1 (putD f d ns ds).2)))
    | _ => .stuck
  | _ => .stuck
def sFldT (c f : String) (o φ : TX) : TSt := fun env S => (φ env S).bind fun d S1 => (o env S1).bind fun t S2 => sFldR c f d t env S2
theorem st_fld (c f : String) (hG : Gok G) (ho : PE X o (tT G E χ)) (hv : PE X value (tT G E φ)) (hn : ∀ C, G.mg (Str.ofString c) = some (.ref C) → NoAttr G.K C (Str.ofString f)) (hs : swapsWith value (some (.Attribute o (Str.ofString f) p)) pos.line X.env = pure false := by rfl) (hK : X.K = G.K := by rfl) :
    PS X (.Assign [.Attribute o (Str.ofString f) p] value pos) (tS G E (sFldT c f χ φ)) := PS.imp (ps_fld ho hv hs) fun Dn σ H h => by
  obtain ⟨m, env, S, rs, re, p⟩ := h
  refine two (nS Dn) rs re p fun d t S2 m2 H2 y x g rs2 re2 ry rx p2 => ?_
  unfold sFldR at p2
  split at p2
  · rename_i i
    split at p2
    · rename_i c' ns ds q
      cases hq : decide (c' = c ∧ ns.length < 1000) with
      | false => rw [hq] at p2; exact p2.elim
      | true =>
        rw [hq] at p2
        obtain ⟨rfl, hlen⟩ := of_decide_eq_true hq
        obtain ⟨a, e1, rfl⟩ := rx
        obtain ⟨b, e2, C, dx, vs, hv, ⟨hc, hm, hf⟩, hl, rv⟩ := rs2.at_ i _ q
        rw [e1] at e2
        cases e2
        have na := hn C hc
        have hlz : ((sN ns).zip vs).length < 1000 := by
          rw [List.length_zip]
          unfold sN
          rw [List.length_map]
          omega
        rw [hK]
        refine ⟨a, C, dx, _, rfl, hv, (hG.ci c' hm C hc).cls, na, hlz, ?_⟩
        obtain ⟨us, e3, e4, e5, e6⟩ := putD_rep (f := f) ry hl rv
        rw [e3]
        have up : Go m2 H2 m2 (upd H2 a (.ins C dx ((sN (putD f d ns ds).1).zip us))) := by
          refine ⟨⟨[], by rw [List.append_nil], fun _ h => (List.not_mem_nil h).elim⟩, fun b o h nb => ?_, fun b h => ?_⟩
          · rw [upd_ne fun z => nb (by rw [z]; exact List.mem_of_getElem? e1)]
            exact h
          · by_cases e : b = a
            · rw [e, upd_same]; exact fun z => nomatch z
            · rw [upd_ne e]; exact h
        obtain ⟨rs3, g3⟩ := rs2.set (o := .ins c' (putD f d ns ds).1 (putD f d ns ds).2) (u := .ins C dx ((sN (putD f d ns ds).1).zip us)) e1 ⟨C, dx, us, upd_same, ⟨hc, hm, fun g hg => (e6 g hg).elim (fun z => by rw [z]; exact na) (hf g)⟩, e4, Reps.go up _ _ e5⟩
        exact p2 m2 _ σ g3 rs3 (re2.go g3)
    · exact p2.elim
  · exact p2.elim
/-! ### methods -/
def D.clsOf (S : Sd) : D → Option (String × List String)
  | .ins c ns _ => some (c, ns)
  | .hnd i => match S[i]? with
    | some (.ins c ns _) => some (c, ns)
    | _ => none
  | _ => none
abbrev MTab := List (String × Fn)
/-- the method that a thing has -/
def methOf (tab : MTab) (m : String) (d : D) (S : Sd) : Option Fn := match d.clsOf S with
  | some (c, ns) => if m ∈ ns then none else tab.lookup c
  | none => none
def xMeth (tab : MTab) (m : String) (o : TX) (φs : TXs) : TX := fun env S => (o env S).bind fun d S1 => match methOf tab m d S1 with
  | some F => (φs env S1).bind fun ds S2 => F (d :: ds) S2
  | none => .stuck
/-- a method that may be called -/
structure Mt (P : Program) (w : World) (K : PySem.W.Frag) (mg : Str → Option Value) (base : Heap) (G : Gm) (k : Nat) (c m : String) (ps : List Str) (F : Fn) : Prop where
  ex : ∃ (C f : Addr) (fd : FuncData), mg (Str.ofString c) = some (.ref C) ∧ c ∈ G.cs ∧ Meth K C (Str.ofString m) f ∧ Binds K fd ps [] ∧ FnOk P w K mg base (L2.CX P w) k f fd ps (spT G F ps.length)
theorem zip_none {m : String} : ∀ {ns : List String} {vs : List V}, m ∉ ns → ((sN ns).zip vs).lookup (Str.ofString m) = none
  | [], vs, h => by cases vs <;> rfl
  | n :: ns, [], h => rfl
  | n :: ns, v :: vs, h => by
    show ((Str.ofString n :: sN ns).zip (v :: vs)).lookup _ = none
    rw [List.zip_cons_cons, List.lookup_cons, beq_ofString, beq_eq_false_iff_ne.mpr fun z => h (by rw [z]; exact List.mem_cons_self)]
    exact zip_none fun z => h (List.mem_cons_of_mem _ z)
theorem cls_at {m : Mp} {H : Hp} {S : Sd} {d : D} {v : V} {c : String} {ns : List String} (rs : RepS G m H S) (r : Rep G m H d v) (h : d.clsOf S = some (c, ns)) : ∃ a C dx vs, v = .ref a ∧ H a = some (.ins C dx ((sN ns).zip vs)) ∧ G.mg (Str.ofString c) = some (.ref C) ∧ c ∈ G.cs := by
  cases d with
  | ins c' ns' ds =>
    cases h
    obtain ⟨a, C, dx, vs, rfl, na, ha, ⟨hc, hm, hf⟩, hl, q⟩ := r
    exact ⟨a, C, dx, vs, rfl, ha, hc, hm⟩
  | hnd i =>
    obtain ⟨a, e1, rfl⟩ := r
    change (match S[i]? with | some (.ins c ns _) => some (c, ns) | _ => none) = some (c, ns) at h
    split at h
    · rename_i c' ns' ds q
      cases h
      obtain ⟨b, e2, C, dx, vs, hv, ⟨hc, hm, hf⟩, hl, rv⟩ := rs.at_ i _ q
      rw [e1] at e2
      cases e2
      exact ⟨a, C, dx, vs, rfl, hv, hc, hm⟩
    · cases h
  | _ => cases h
theorem XsLen.at {n : Nat} (h : XsLen φs n) {env : En} {S : Sd} {ds : List D} {S' : Sd} (e : φs env S = .ok ds S') : ds.length = n := h _ _ _ _ e
theorem te_meth {c m : String} {pl : Sem Bool} (M : Mt X.prog X.w X.K X.mg X.base G k c m ps F) (hG : Gok G) (he : PE X o (tT G E χ)) (hr : Room k X.A) (hx : Passes (L2.CX X.prog X.w) X E) (ha : PA X (e :: es) (tTs G E φs)) (hn : XsLen φs (ps.length - 1) := by first | exact xl_nil | (repeat (refine xl_cons ?_)); exact xl_nil)
    (hp : 0 < ps.length := by decide) (hK : X.K = G.K := by rfl) (hmg : X.mg = G.mg := by rfl)
    (hst : starEach (e :: es) X.env = (false, eval e X.env) :: starEach es X.env := by rfl) (hpl : (backTo pos (starEach es X.env)).any (·.1) = false := by rfl)
    (ht : eval (.Call (.Attribute o (Str.ofString m) apos) (e :: es) [] pos) X.env = (do
      let ov ← eval o X.env
      standAt apos.atName
      let (f, first) ← holding [ov] (getMethod ov (Str.ofString m) pl)
      callWith pos f first (backTo pos (starEach (e :: es) X.env)) (backToKw pos (keywordEach [] X.env))) := by rfl) : PE X (.Call (.Attribute o (Str.ofString m) apos) (e :: es) [] pos) (tT G E (xMeth [(c, F)] m χ φs)) := by
  obtain ⟨C, f, fd, hc, hm, M1, hb, G1⟩ := M.ex
  have cl : Cls X.K C := by rw [hK]; exact (hG.ci c hm C (by rw [← hmg]; exact hc)).cls
  refine PE.imp (pe_meth he cl M1 G1 hr hb .nil hx ha hst hpl ht) fun σ H Q h => ?_
  obtain ⟨m0, env, S, rs, re, p⟩ := h
  refine ⟨m0, env, S, rs, re, partE (nE Q) p fun d S1 m1 H1 v g rs1 rv p1 => ?_⟩
  unfold methOf at p1
  cases q : d.clsOf S1 with
  | none => rw [q] at p1; exact p1.elim
  | some cn =>
    obtain ⟨c', ns⟩ := cn
    rw [q] at p1
    simp only at p1
    split at p1
    · rename_i F' eF
      split at eF
      · cases eF
      · rename_i hns
        rw [List.lookup_cons] at eF
        cases ec : c' == c with
        | false => rw [ec] at eF; cases eF
        | true =>
          rw [ec] at eF
          cases eF
          obtain rfl := beq_iff_eq.mp ec
          obtain ⟨a, C', dx, vs, rfl, hv, hc', _⟩ := cls_at rs1 rv q
          rw [hmg] at hc
          rw [hc] at hc'
          cases hc'
          refine ⟨a, dx, _, rfl, hv, zip_none hns, m1, env, S1, rs1, re.go g, ?_⟩
          cases e1 : φs env S1 with
          | ok ds S2 =>
            rw [e1] at p1
            intro m2 H2 us g2 rs2 ru
            rw [List.append_nil]
            exact ⟨m2, d :: ds, S2, rs2, ⟨_, us, rfl, Rep.go g2 _ _ rv, ru⟩, by rw [List.length_cons, hn.at e1]; omega, Po.go g2 p1⟩
          | err x S2 => rw [e1] at p1; exact p1
          | stuck => rw [e1] at p1; exact p1.elim
    · exact p1.elim
theorem te_meth0 {c m : String} {pl : Sem Bool} (M : Mt X.prog X.w X.K X.mg X.base G k c m ps F) (hG : Gok G) (he : PE X o (tT G E χ)) (hr : Room k X.A) (hx : Passes (L2.CX X.prog X.w) X E)
    (hp : ps.length = 1 := by rfl) (hK : X.K = G.K := by rfl) (hmg : X.mg = G.mg := by rfl)
    (ht : eval (.Call (.Attribute o (Str.ofString m) apos) [] [] pos) X.env = (do
      let ov ← eval o X.env
      standAt apos.atName
      let (f, first) ← holding [ov] (getMethod ov (Str.ofString m) pl)
      callWith pos f first (backTo pos (starEach [] X.env)) (backToKw pos (keywordEach [] X.env))) := by rfl) : PE X (.Call (.Attribute o (Str.ofString m) apos) [] [] pos) (tT G E (xMeth [(c, F)] m χ xsNil)) := by
  obtain ⟨C, f, fd, hc, hm, M1, hb, G1⟩ := M.ex
  have cl : Cls X.K C := by rw [hK]; exact (hG.ci c hm C (by rw [← hmg]; exact hc)).cls
  refine PE.imp (pe_meth0 he cl M1 G1 hr hb .nil hx ht) fun σ H Q h => ?_
  obtain ⟨m0, env, S, rs, re, p⟩ := h
  refine ⟨m0, env, S, rs, re, partE (nE Q) p fun d S1 m1 H1 v g rs1 rv p1 => ?_⟩
  unfold methOf at p1
  cases q : d.clsOf S1 with
  | none => rw [q] at p1; exact p1.elim
  | some cn =>
    obtain ⟨c', ns⟩ := cn
    rw [q] at p1
    simp only at p1
    split at p1
    · rename_i F' eF
      split at eF
      · cases eF
      · rename_i hns
        rw [List.lookup_cons] at eF
        cases ec : c' == c with
        | false => rw [ec] at eF; cases eF
        | true =>
          rw [ec] at eF
          cases eF
          obtain rfl := beq_iff_eq.mp ec
          obtain ⟨a, C', dx, vs, rfl, hv, hc', _⟩ := cls_at rs1 rv q
          rw [hmg] at hc
          rw [hc] at hc'
          cases hc'
          exact ⟨a, dx, _, rfl, hv, zip_none hns, m1, [d], S1, rs1, .one rv, hp.symm, p1⟩
    · exact p1.elim
theorem methOf_app {t1 t2 : MTab} {m : String} {d : D} {S : Sd} : methOf (t1 ++ t2) m d S = (methOf t1 m d S).or (methOf t2 m d S) := by
  unfold methOf
  cases d.clsOf S with
  | none => rfl
  | some cn =>
    obtain ⟨c, ns⟩ := cn
    simp only
    split
    · rfl
    · induction t1 with
      | nil => rfl
      | cons x t1 ih =>
        obtain ⟨n, F⟩ := x
        rw [List.cons_append, List.lookup_cons, List.lookup_cons]
        cases c == n with
        | true => rfl
        | false => exact ih
theorem te_methOr {t1 t2 : MTab} {m : String} {e : Expr} (h1 : PE X e (tT G E (xMeth t1 m χ φs))) (h2 : PE X e (tT G E (xMeth t2 m χ φs))) : PE X e (tT G E (xMeth (t1 ++ t2) m χ φs)) := ⟨fun pins s σ H Q I h => by
  obtain ⟨m0, env, S, rs, re, p⟩ := h
  unfold xMeth at p
  cases e1 : χ env S with
  | ok d S1 =>
    rw [e1] at p
    simp only [R.bind_ok] at p
    rw [methOf_app] at p
    cases e2 : methOf t1 m d S1 with
    | some F =>
      rw [e2] at p
      exact h1.run pins s σ H Q I ⟨m0, env, S, rs, re, by unfold xMeth; rw [e1]; simp only [R.bind_ok]; rw [e2]; exact p⟩
    | none =>
      rw [e2] at p
      exact h2.run pins s σ H Q I ⟨m0, env, S, rs, re, by unfold xMeth; rw [e1]; simp only [R.bind_ok]; exact p⟩
  | err x S1 => rw [e1] at p; exact h1.run pins s σ H Q I ⟨m0, env, S, rs, re, by unfold xMeth; rw [e1]; exact p⟩
  | stuck => rw [e1] at p; exact p.elim⟩
end
end Den

namespace Den
open PySem PySem.Spec PyProof.Rows L2
/-! ### C(..) -/
open Classical in
/-- a new instance: __init__ fills it, then it is a tree -/
noncomputable def newR (c : String) (F : Fn) (ds : List D) (S : Sd) : R D :=
  exitR S ((F (.hnd S.length :: ds) (S ++ [.ins c [] []])).bind fun r S2 => match r with
    | .non => .ok (.hnd S.length) S2
    | _ => .stuck)
noncomputable def xNew (c : String) (F : Fn) (φs : TXs) : TX := fun env S => (φs env S).bind (newR c F)
/-- a class that may be called -/
structure Mc (P : Program) (w : World) (K : PySem.W.Frag) (mg : Str → Option Value) (base : Heap) (G : Gm) (k : Nat) (c : String) (ps : List Str) (F : Fn) : Prop where
  ex : ∃ (C f : Addr) (fd : FuncData), mg (Str.ofString c) = some (.ref C) ∧ c ∈ G.cs ∧ Mk K C f ∧ Binds K fd ps [] ∧ FnOk P w K mg base (L2.CX P w) k f fd ps (spT G F ps.length)
theorem made_go {m : Mp} {H : Hp} {G : Gm} {S : Sd} {x dx C : Addr} {c : String} (rs : RepS G m H S) (hx : H x = none) (hd : H dx = none) (ne : dx ≠ x) (hc : G.mg (Str.ofString c) = some (.ref C)) (hm : c ∈ G.cs) :
    Go m H (m.add x) (upd (upd H dx (.own x)) x (.ins C dx [])) ∧ RepS G (m.add x) (upd (upd H dx (.own x)) x (.ins C dx [])) (S ++ [.ins c [] []]) := by
  have s1 : Same H (upd H dx (.own x)) := same_upd hd
  have hx1 : upd H dx (.own x) x = none := by rw [upd_ne ne.symm]; exact hx
  obtain ⟨rs2, g2⟩ := (rs.same s1).new (o := .ins c [] []) (u := .ins C dx []) hx1 ⟨C, dx, [], upd_same, ⟨hc, hm, fun f h => (List.not_mem_nil h).elim⟩, rfl, rfl⟩
  exact ⟨(Go.of s1).trans g2, rs2⟩
section
variable {X : Cx} {G : Gm} {E : XK} {e o value : Expr} {es : List Expr} {φ χ : TX} {φs : TXs} {pos p apos : PySem.Pos} {x : Str} {k : Nat} {ps : List Str} {F : Fn}
theorem make_in {m : Mp} {H : Hp} {S : Sd} {ds : List D} {vs : List V} {C : Addr} {c : String} {Q : VK} (rs : RepS G m H S) (rv : Reps G m H ds vs) (hl : (ds.length + 1) = ps.length) (hc : G.mg (Str.ofString c) = some (.ref C)) (hm : c ∈ G.cs) (p : Po G m H E (newR c F ds S) Q) :
    ∀ x dx, H x = none → H dx = none → dx ≠ x → spT G F ps.length (.ref x :: vs) (upd (upd H dx (.own x)) x (.ins C dx [])) (fun v H2 => v = .non ∧ Q (.ref x) H2) E := fun x dx hx hd ne => by
  obtain ⟨g, rs2⟩ := made_go rs hx hd ne hc hm
  obtain ⟨p1, p2, p3⟩ := p.exit rs
  have hself : Rep G (m.add x) (upd (upd H dx (.own x)) x (.ins C dx [])) (.hnd S.length) (.ref x) := ⟨x, by
    show (m.hs ++ [x])[S.length]? = some x
    rw [← rs.len, List.getElem?_append_right (Nat.le_refl _), Nat.sub_self]
    rfl, rfl⟩
  refine ⟨m.add x, .hnd S.length :: ds, S ++ [.ins c [] []], rs2, ⟨.ref x, vs, rfl, hself, Reps.go g _ _ rv⟩, by rw [List.length_cons]; exact hl, ?_⟩
  cases e : F (.hnd S.length :: ds) (S ++ [.ins c [] []]) with
  | ok r S2 =>
    rw [e] at p1 p2 p3
    intro m2 H2 v g2 rs3 rr
    cases r with
    | non => exact ⟨rr, p1 (.hnd S.length) S2 m2 H2 (.ref x) rfl (g.trans g2) rs3 (Rep.go g2 _ _ hself)⟩
    | _ => exact absurd rfl p3
  | err z S2 =>
    rw [e] at p2
    exact fun m2 H2 cls dx2 g2 => p2 z S2 rfl m2 H2 cls dx2 (g.trans g2)
  | stuck => rw [e] at p3; exact absurd rfl p3
theorem te_make {c : String} (M : Mc X.prog X.w X.K X.mg X.base G k c ps F) (hr : Room (k + 1) X.A) (hx : Passes (L2.CX X.prog X.w) X E) (ha : PA X (e :: es) (tTs G E φs)) (hn : XsLen φs (ps.length - 1) := by first | exact xl_nil | (repeat (refine xl_cons ?_)); exact xl_nil)
    (hp : 0 < ps.length := by decide) (hmg : X.mg = G.mg := by rfl) (hg : Gl X (Str.ofString c) := by rfl) (hdb : (Str.ofString c == ("__debug__" : Str)) = false := by decide)
    (he : starEach (e :: es) X.env = (false, eval e X.env) :: starEach es X.env := by rfl) (hpl : (backTo pos (starEach es X.env)).any (·.1) = false := by rfl) : PE X (.Call (.Name (Str.ofString c) p) (e :: es) [] pos) (tT G E (xNew c F φs)) := by
  obtain ⟨C, f, fd, hc, hm, M1, hb, G1⟩ := M.ex
  refine PE.imp (pe_make M1 G1 hr hg hc hb .nil hx ha hdb he hpl) fun σ H Q h => ?_
  obtain ⟨m0, env, S, rs, re, p⟩ := h
  unfold xNew at p
  refine ⟨m0, env, S, rs, re, ?_⟩
  cases e1 : φs env S with
  | ok ds S1 =>
    rw [e1] at p
    intro m1 H1 vs g rs1 rv
    rw [List.append_nil]
    exact make_in rs1 rv (by rw [hn.at e1]; omega) (by rw [← hmg]; exact hc) hm (Po.go g p)
  | err x S1 => rw [e1] at p; exact p
  | stuck => rw [e1] at p; exact p
/-! ### raise -/
def sRaise (c : String) (ns : List String) (φs : TXs) : TSt := fun env S => (φs env S).bind fun ds S1 => if ds.length = ns.length then .err (.ins c ns.reverse ds.reverse) S1 else .stuck
def spIn1 (K : PySem.W.Frag) (f : Str) : Sp := fun vs H Q _ => ∃ (a C : Addr) (v : V), vs = [.ref a, v] ∧ OexC K C ∧ PySem.W.findIn K (.ref C) f = some none ∧ H a = some (exo a C none) ∧
  ∀ dx, H dx = none → dx ≠ a → Q .non (upd (upd H dx (exd dx [(f, v)])) a (exo a C (some dx)))
def spIn2 (K : PySem.W.Frag) (f g : Str) : Sp := fun vs H Q _ => ∃ (a C : Addr) (v u : V), vs = [.ref a, v, u] ∧ OexC K C ∧ PySem.W.findIn K (.ref C) f = some none ∧ PySem.W.findIn K (.ref C) g = some none ∧ H a = some (exo a C none) ∧
  ∀ dx, H dx = none → dx ≠ a → Q .non (upd (upd (upd H dx (exd dx [(f, v)])) a (exo a C (some dx))) dx (exd dx [(g, u), (f, v)]))
/-- an error's class -/
structure Ec (P : Program) (w : World) (K : PySem.W.Frag) (mg : Str → Option Value) (base : Heap) (G : Gm) (c : String) (ps : List Str) (sp : Sp) (fs : List Str) : Prop where
  ex : ∃ (C f : Addr) (fd : FuncData), mg (Str.ofString c) = some (.ref C) ∧ OexC K C ∧ PySem.W.findIn K (.ref C) "__init__" = some (some (.ref f)) ∧ PySem.W.typeIn K (.ref f) = some (.type "function") ∧ Binds K fd ps [] ∧ FnOk P w K mg base CX0 1 f fd ps sp ∧ ∀ g ∈ fs, PySem.W.findIn K (.ref C) g = some none
theorem raise_end {m : Mp} {H : Hp} {S : Sd} {a dx : Addr} {fs : List (Str × V)} {H3 : Hp} (rs : RepS G m H S) (ha : H a = none) (hd : H dx = none) (ne : dx ≠ a) (k : ∀ b, b ≠ a → b ≠ dx → H3 b = H b) : Go m H m (upd (del H3 a) dx (.xd fs)) ∧ RepS G m (upd (del H3 a) dx (.xd fs)) S ∧ dx ∉ m := by
  have s : Same H (upd (del H3 a) dx (.xd fs)) := fun b o e => by
    have b1 : b ≠ dx := ne_of_none e hd
    have b2 : b ≠ a := ne_of_none e ha
    rw [upd_ne b1, del_ne b2, k b b2 b1]
    exact e
  exact ⟨.of s, rs.same s, rs.new_out hd⟩
theorem st_raise1 {c f : String} {pos' : PySem.Pos} (C : Ec X.prog X.w X.K X.mg X.base G c ["self", Str.ofString f] (spIn1 X.K (Str.ofString f)) [Str.ofString f]) (hc : X.calm = true) (tk : Takes X fun cls d _ H => E cls d H) (hr : Room 2 X.A) (h0 : Passes CX0 X (fun _ _ _ => False)) (ha : PA X [e] (tTs G E φs)) (hn : XsLen φs 1 := by exact xl_cons xl_nil)
    (hmg : X.mg = G.mg := by rfl) (hg : Gl X (Str.ofString c) := by rfl) (hdb : (Str.ofString c == ("__debug__" : Str)) = false := by decide) (he : starEach [e] X.env = (false, eval e X.env) :: starEach [] X.env := by rfl) (hpl : (backTo pos (starEach [] X.env)).any (·.1) = false := by rfl) :
    PS X (.Raise (some (.Call (.Name (Str.ofString c) p) [e] [] pos)) none pos') (tS G E (sRaise c [f] φs)) := by
  obtain ⟨A, fI, fd, hm, T, iC, tI, hb, G1, hf⟩ := C.ex
  refine PS.imp (ps_raise hc tk (pmk_oex T iC tI G1 hr hb .nil h0 hg hm ha hdb he hpl)) fun Dn σ H h => ?_
  obtain ⟨m, env, S, rs, re, p⟩ := h
  refine ⟨m, env, S, rs, re, partL (nS Dn) p fun ds S1 m1 H1 vs g rs1 rv p1 => ?_⟩
  split at p1
  · rename_i hl
    obtain ⟨d, rfl⟩ := List.length_eq_one_iff.mp hl
    obtain ⟨v, rfl, r1⟩ := reps1 rv
    refine ⟨by show 1 ≤ 1000; decide, fun a na => ?_⟩
    refine ⟨a, A, v, rfl, T, hf _ List.mem_cons_self, upd_same, fun dx hdx ne => ?_⟩
    have hdx' : H1 dx = none := by rw [upd_ne ne] at hdx; exact hdx
    refine ⟨rfl, dx, _, upd_same, by rw [upd_ne ne]; exact upd_same, hdx', ?_⟩
    obtain ⟨g3, rs3, no⟩ := raise_end (fs := [(Str.ofString f, v)]) (H3 := upd (upd (upd H1 a (exo a A none)) dx (exd dx [(Str.ofString f, v)])) a (exo a A (some dx))) rs1 na hdx' ne fun b b1 b2 => by rw [upd_ne b1, upd_ne b2, upd_ne b1]
    exact p1 m1 _ (.ref A) (some dx) g3 rs3 ⟨A, dx, [v], rfl, by rw [← hmg]; exact hm, rfl, upd_same, rfl, .one (Rep.go g3 _ _ r1), no⟩
  · exact p1.elim
theorem st_raise2 {c f f2 : String} {e2 : Expr} {pos' : PySem.Pos} (C : Ec X.prog X.w X.K X.mg X.base G c ["self", Str.ofString f, Str.ofString f2] (spIn2 X.K (Str.ofString f) (Str.ofString f2)) [Str.ofString f, Str.ofString f2]) (hc : X.calm = true) (tk : Takes X fun cls d _ H => E cls d H) (hr : Room 2 X.A) (h0 : Passes CX0 X (fun _ _ _ => False)) (ha : PA X [e, e2] (tTs G E φs)) (hn : XsLen φs 2 := by exact xl_cons (xl_cons xl_nil))
    (hmg : X.mg = G.mg := by rfl) (hg : Gl X (Str.ofString c) := by rfl) (hdb : (Str.ofString c == ("__debug__" : Str)) = false := by decide) (he : starEach [e, e2] X.env = (false, eval e X.env) :: starEach [e2] X.env := by rfl) (hpl : (backTo pos (starEach [e2] X.env)).any (·.1) = false := by rfl) :
    PS X (.Raise (some (.Call (.Name (Str.ofString c) p) [e, e2] [] pos)) none pos') (tS G E (sRaise c [f, f2] φs)) := by
  obtain ⟨A, fI, fd, hm, T, iC, tI, hb, G1, hf⟩ := C.ex
  refine PS.imp (ps_raise hc tk (pmk_oex T iC tI G1 hr hb .nil h0 hg hm ha hdb he hpl)) fun Dn σ H h => ?_
  obtain ⟨m, env, S, rs, re, p⟩ := h
  refine ⟨m, env, S, rs, re, partL (nS Dn) p fun ds S1 m1 H1 vs g rs1 rv p1 => ?_⟩
  split at p1
  · rename_i hl
    obtain ⟨d, d2, rfl⟩ : ∃ a b, ds = [a, b] := match ds, hl with | [a, b], _ => ⟨a, b, rfl⟩
    obtain ⟨v, u, rfl, r1, r2⟩ := reps2 rv
    refine ⟨by show 2 ≤ 1000; decide, fun a na => ?_⟩
    refine ⟨a, A, v, u, rfl, T, hf _ List.mem_cons_self, hf _ (List.mem_cons_of_mem _ List.mem_cons_self), upd_same, fun dx hdx ne => ?_⟩
    have hdx' : H1 dx = none := by rw [upd_ne ne] at hdx; exact hdx
    refine ⟨rfl, dx, _, by rw [upd_ne ne.symm]; exact upd_same, upd_same, hdx', ?_⟩
    obtain ⟨g3, rs3, no⟩ := raise_end (fs := [(Str.ofString f2, u), (Str.ofString f, v)]) (H3 := upd (upd (upd (upd H1 a (exo a A none)) dx (exd dx [(Str.ofString f, v)])) a (exo a A (some dx))) dx (exd dx [(Str.ofString f2, u), (Str.ofString f, v)])) rs1 na hdx' ne fun b b1 b2 => by rw [upd_ne b2, upd_ne b1, upd_ne b2, upd_ne b1]
    exact p1 m1 _ (.ref A) (some dx) g3 rs3 ⟨A, dx, [u, v], rfl, by rw [← hmg]; exact hm, rfl, upd_same, rfl, ⟨u, [v], rfl, Rep.go g3 _ _ r2, .one (Rep.go g3 _ _ r1)⟩, no⟩
  · exact p1.elim
end
/-! ### isinstance -/
def isB : BK → BK → Bool
  | .bl, .int => true
  | a, b => decide (a = b)
theorem isB_ok {K : PySem.W.Frag} : ∀ a b : BK, PySem.W.kitOne K (.type a.nm) (.type b.nm) = some (isB a b) := fun a b => by
  cases a <;> cases b <;> exact kit_ty (by decide +kernel)
def Kn.val (G : Gm) : Kn → Value → Prop
  | .b k, t => t = .type k.nm
  | .own c, t => ∃ C, t = .ref C ∧ G.mg (Str.ofString c) = some (.ref C) ∧ c ∈ G.cs
theorem ty_ins {K : PySem.W.Frag} {H : Hp} {a C dx : Addr} {fs : List (Str × V)} (I : CI K C) (e : H a = some (.ins C dx fs)) : TyX K H (.ref a) (.ref C) := .base (.ins e I.cls I.ha I.hn I.ht I.hm)
theorem kn_ty {G : Gm} {m : Mp} {H : Hp} {S : Sd} {d : D} {v : V} {k : Kn} (hG : Gok G) (rs : RepS G m H S) (r : Rep G m H d v) (h : d.kn S = some k) : ∃ t, TyX G.K H v t ∧ k.val G t := by
  cases d with
  | non => cases h; rw [show v = _ from r]; exact ⟨_, .base .non, rfl⟩
  | bl b => cases h; rw [show v = _ from r]; exact ⟨_, .base (.bl b), rfl⟩
  | int b => cases h; rw [show v = _ from r]; exact ⟨_, .base (.int b), rfl⟩
  | str b => cases h; rw [show v = _ from r]; exact ⟨_, .base (.str b), rfl⟩
  | raw u => cases h
  | lst ds => cases h; obtain ⟨a, vs, rfl, ha, _⟩ := r; exact ⟨_, .base (.lst ha.1), rfl⟩
  | tup ds =>
    cases h
    obtain ⟨a, vs, rfl, ha, _⟩ := r
    rcases ha with ⟨ha | ⟨u, ha⟩, _⟩ | ha
    · exact ⟨_, .base (.tup ha), rfl⟩
    · exact ⟨_, .fTuple ha, rfl⟩
    · rcases ha with (z | ⟨_, z⟩) | ⟨o, its, n, e1, e2, _⟩
      · cases z
      · cases z
      · exact ⟨_, .kTuple e1 e2, rfl⟩
  | dct ks ds =>
    cases h
    obtain ⟨a, vs, rfl, ⟨ha | ⟨u, ha⟩, _⟩, _⟩ := r
    · exact ⟨_, .base (.dK ha), rfl⟩
    · exact ⟨_, .fDict ha, rfl⟩
  | scr ns =>
    cases h
    obtain ⟨a, rfl, ⟨ha | ⟨u, ha⟩, _⟩ | ha⟩ := r
    · exact ⟨_, .base (.lst ha), rfl⟩
    · exact ⟨_, .base (.frz ha), rfl⟩
    · rcases ha with (z | ⟨_, z⟩) | ⟨o, its, n, e1, e2, _⟩
      · cases z
      · cases z
      · exact ⟨_, .kList e1 e2, rfl⟩
  | ins c ns ds =>
    cases h
    obtain ⟨a, C, dx, vs, rfl, na, ha, ⟨hc, hm, hf⟩, hl, q⟩ := r
    exact ⟨_, ty_ins (hG.ci c hm C hc) ha, C, rfl, hc, hm⟩
  | hnd i =>
    obtain ⟨a, e1, rfl⟩ := r
    change (match S[i]? with | some (.lst _) => some (.b .list) | some (.dK _ _) => some (.b .dict) | some (.dT _ _) => some (.b .dict) | some (.ins c _ _) => some (.own c) | _ => none) = some k at h
    split at h
    · rename_i q
      cases h
      obtain ⟨b, e2, vs, hv, _⟩ := rs.at_ i _ q
      rw [e1] at e2; cases e2
      exact ⟨_, .base (.lst hv), rfl⟩
    · rename_i q
      cases h
      obtain ⟨b, e2, vs, hv, _⟩ := rs.at_ i _ q
      rw [e1] at e2; cases e2
      exact ⟨_, .base (.dK hv), rfl⟩
    · rename_i q
      cases h
      obtain ⟨b, e2, vs, hv, _⟩ := rs.at_ i _ q
      rw [e1] at e2; cases e2
      exact ⟨_, .base (.dT hv), rfl⟩
    · rename_i q
      cases h
      obtain ⟨b, e2, C, dx, vs, hv, ⟨hc, hm, hf⟩, _⟩ := rs.at_ i _ q
      rw [e1] at e2; cases e2
      exact ⟨_, ty_ins (hG.ci _ hm C hc) hv, C, rfl, hc, hm⟩
    · cases h
def Kn.isK (k : Kn) (b : BK) : Bool := match k with
  | .b a => isB a b
  | .own _ => false
/-- isinstance(x, (K1, K2, ..)) of what is built in -/
def oIsi (bs : List BK) (d : D) (S : Sd) : R D := match d.kn S with
  | some k => .ok (.bl (bs.any k.isK)) S
  | none => .stuck
theorem kn_one {G : Gm} (hG : Gok G) {k : Kn} {t : Value} (h : k.val G t) (b : BK) : PySem.W.kitOne G.K t (.type b.nm) = some (k.isK b) := by
  cases k with
  | b a => rw [show t = _ from h]; exact isB_ok a b
  | own c => obtain ⟨C, rfl, hc, hm⟩ := h; exact (hG.ci c hm C hc).kt b
theorem kn_any {G : Gm} (hG : Gok G) {k : Kn} {t : Value} (h : k.val G t) : ∀ bs : List BK, PySem.W.kitAny G.K t (bs.map fun b => .type b.nm) = some (bs.any k.isK)
  | [] => rfl
  | b :: bs => by
    refine kitAny_cons (kn_one hG h b) (fun z => ?_) fun z => ?_
    · rw [kn_any hG h bs, List.any_cons, z]
      rfl
    · rw [List.any_cons, z]
      rfl
section
variable {X : Cx} {G : Gm} {E : XK} {e o value : Expr} {es : List Expr} {φ χ : TX} {φs : TXs} {pos p p2 apos : PySem.Pos} {x y : Str}
theorem te_isi (b : BK) (hG : Gok G) (hm : X.mg "isinstance" = none) (hy : X.mg (Str.ofString b.nm) = none) (he : PE X e (tT G E φ)) (ht : PE X (.Name y p2) (tC (.ty b.nm))) (hg : Gl X "isinstance" := by rfl) (hK : X.K = G.K := by rfl)
    (h1 : starEach [e, .Name y p2] X.env = (false, eval e X.env) :: starEach [.Name y p2] X.env := by rfl) (h2 : starEach [.Name y p2] X.env = (false, eval (.Name y p2) X.env) :: starEach [] X.env := by rfl) (hpl : (backTo pos (starEach [.Name y p2] X.env)).any (·.1) = false := by rfl) :
    PE X (.Call (.Name "isinstance" p) [e, .Name y p2] [] pos) (tT G E (xUn (oIsi [b]) φ)) :=
  PE.imp (pe_callB call_isi hg hm boot_isinstance (pa_cons he (pa_cons ht pa_nil h2) h1) (he := h1) (hpl := hpl)) fun σ H Q h => by
    obtain ⟨m, env, S, rs, re, p⟩ := h
    refine ⟨m, env, S, rs, re, partE (nE Q) p fun d S1 m1 H1 v g rs1 rv p1 => ?_⟩
    unfold oIsi at p1
    split at p1
    · rename_i k q
      obtain ⟨t, ty, kv⟩ := kn_ty hG rs1 rv q
      rw [hK]
      refine ⟨v, .ty b.nm, t, .type b.nm, _, rfl, .ty _, ty, kn_one hG kv b, ?_⟩
      have : [b].any k.isK = k.isK b := by rw [List.any_cons, List.any_nil, Bool.or_false]
      rw [this] at p1
      exact p1.here rs1 rfl
    · exact p1.elim
/-- the classes of a tuple -/
theorem te_isi2 (b b2 : BK) {y2 : Str} {kk : Nat} {p3 p4 : PySem.Pos} (hG : Gok G) (hm : X.mg "isinstance" = none) (he : PE X e (tT G E φ)) (ht : PE X (.Name y p2) (tC (.ty b.nm))) (ht2 : PE X (.Name y2 p3) (tC (.ty b2.nm))) (hg : Gl X "isinstance" := by rfl) (hK : X.K = G.K := by rfl)
    (h1 : starEach [e, .Tuple [.Name y p2, .Name y2 p3] kk p4] X.env = (false, eval e X.env) :: starEach [.Tuple [.Name y p2, .Name y2 p3] kk p4] X.env := by rfl) (h2 : starEach [.Tuple [.Name y p2, .Name y2 p3] kk p4] X.env = (false, eval (.Tuple [.Name y p2, .Name y2 p3] kk p4) X.env) :: starEach [] X.env := by rfl) (hpl : (backTo pos (starEach [.Tuple [.Name y p2, .Name y2 p3] kk p4] X.env)).any (·.1) = false := by rfl) :
    PE X (.Call (.Name "isinstance" p) [e, .Tuple [.Name y p2, .Name y2 p3] kk p4] [] pos) (tT G E (xUn (oIsi [b, b2]) φ)) :=
  PE.imp (pe_callB call_isiT hg hm boot_isinstance (pa_cons he (pa_cons (pe_tup (pa_cons ht (pa_cons ht2 pa_nil))) pa_nil h2) h1) (he := h1) (hpl := hpl)) fun σ H Q h => by
    obtain ⟨m, env, S, rs, re, p⟩ := h
    refine ⟨m, env, S, rs, re, partE (nE Q) p fun d S1 m1 H1 v g rs1 rv p1 => ?_⟩
    unfold oIsi at p1
    split at p1
    · rename_i k q
      refine ⟨by show 2 ≤ sizeLine; decide, fun a ha => ?_⟩
      have s := same_upd (o := .tup [.ty b.nm, .ty b2.nm]) ha
      have g2 : Go m1 H1 m1 (upd H1 a (.tup [.ty b.nm, .ty b2.nm])) := .of s
      have rs2 := rs1.same s
      have rv2 := Rep.go g2 _ _ rv
      obtain ⟨t, ty, kv⟩ := kn_ty hG rs2 rv2 q
      rw [hK]
      exact ⟨v, a, _, t, _, _, rfl, upd_same, .cons (.ty _) (.cons (.ty _) .nil), ty, kn_any hG kv [b, b2], p1 m1 _ _ g2 rs2 rfl⟩
    · exact p1.elim
/-- isinstance(x, C), a class of one's own; subs: the classes below it -/
structure Ko (G : Gm) (c : String) (subs : List String) : Prop where
  ex : ∃ C, G.mg (Str.ofString c) = some (.ref C) ∧ (∀ k : BK, PySem.W.kitOne G.K (.type k.nm) (.ref C) = some false) ∧ ∀ c' ∈ G.cs, ∀ C', G.mg (Str.ofString c') = some (.ref C') → PySem.W.kitOne G.K (.ref C') (.ref C) = some (subs.contains c')
def oIso (subs : List String) (d : D) (S : Sd) : R D := match d.kn S with
  | some (.b _) => .ok (.bl false) S
  | some (.own c) => .ok (.bl (subs.contains c)) S
  | none => .stuck
theorem te_iso {c : String} {subs : List String} (O : Ko G c subs) (hG : Gok G) (hm : X.mg "isinstance" = none) (he : PE X e (tT G E φ)) (hgc : Gl X (Str.ofString c) := by rfl) (hdb : (Str.ofString c == ("__debug__" : Str)) = false := by decide) (hg : Gl X "isinstance" := by rfl) (hK : X.K = G.K := by rfl) (hmg : X.mg = G.mg := by rfl)
    (h1 : starEach [e, .Name (Str.ofString c) p2] X.env = (false, eval e X.env) :: starEach [.Name (Str.ofString c) p2] X.env := by rfl) (h2 : starEach [.Name (Str.ofString c) p2] X.env = (false, eval (.Name (Str.ofString c) p2) X.env) :: starEach [] X.env := by rfl) (hpl : (backTo pos (starEach [.Name (Str.ofString c) p2] X.env)).any (·.1) = false := by rfl) :
    PE X (.Call (.Name "isinstance" p) [e, .Name (Str.ofString c) p2] [] pos) (tT G E (xUn (oIso subs) φ)) := by
  obtain ⟨C, hc, hk, hs⟩ := O.ex
  refine PE.imp (pe_callB call_isi hg hm boot_isinstance (pa_cons he (pa_cons (pe_glob (v := .ref C) hgc (by rw [hmg]; exact hc) rfl hdb) pa_nil h2) h1) (he := h1) (hpl := hpl)) fun σ H Q h => ?_
  obtain ⟨m, env, S, rs, re, p⟩ := h
  refine ⟨m, env, S, rs, re, partE (nE Q) p fun d S1 m1 H1 v g rs1 rv p1 => ?_⟩
  unfold oIso at p1
  split at p1
  · rename_i k q
    obtain ⟨t, ty, kv⟩ := kn_ty hG rs1 rv q
    rw [hK]
    refine ⟨v, .ref C, t, .ref C, _, rfl, .own C, ty, ?_, p1.here rs1 rfl⟩
    rw [show t = _ from kv]
    exact hk k
  · rename_i k q
    obtain ⟨t, ty, kv⟩ := kn_ty hG rs1 rv q
    rw [hK]
    obtain ⟨C', rfl, hc', hm'⟩ := kv
    exact ⟨v, .ref C, _, .ref C, _, rfl, .own C, ty, hs _ hm' C' hc', p1.here rs1 rfl⟩
  · exact p1.elim
end
end Den

namespace Den
open PySem PySem.Spec PyProof.Rows L2
/-! ### a call of a def in places where no expression stands -/
section
variable {X : Cx} {k : Nat} {f : Addr} {fd : FuncData} {ps : List Str} {sp : Sp}
theorem Env0.around {P : Program} {w : World} {K : PySem.W.Frag} {mg : Str → Option Value} {base : Heap} {A A' : Around} {st : List Env} {s : Shared} {H : Hp} (e : Env0 P w K mg base A st s H) (h : A'.frames = A.frames) : Env0 P w K mg base A' st s H := ⟨by rw [h]; exact e.frames, e.mod, e.bs, e.bsz, e.funs, e.frf, e.hok, e.bare⟩
theorem run_at {A : Around} {pins : List (Addr × Obj)} {σ : L2.St} {H : Hp} {s : Shared} {Q : VK} {us : List Value} {vs : List V} (F : FnOk X.prog X.w X.K X.mg X.base (L2.CX X.prog X.w) k f fd ps sp) (hr : Room k A) (hf : A.frames = X.A.frames) (hb : Binds X.K fd ps [])
    (I : Inv X pins σ H s) (r : Vals vs us) (h : sp vs H Q (fun _ _ _ => False)) : wpAny (model X.prog X.w) A (call (.ref f) us) (EP X pins σ Q) X.xe s := by
  have hl := F.len _ _ _ _ h
  refine wpAny_call (codeAny_mono (F.run A X.stack s H ⟨us, []⟩ us vs Q _ hr (Env0.around I.env0 hf) (by
    have := hb s us I.kIn (by rw [List.append_nil, ← r.length]; exact hl)
    rw [List.append_nil] at this
    exact this) r h) fun r s' hq => ?_)
  cases r with
  | error e =>
    obtain ⟨_, _, _, _, _, _, _, _, _, _, _, _, z⟩ := (show L2.CX X.prog X.w X.stack H s (fun _ _ _ => False) e s' from hq)
    exact z.elim
  | ok fl =>
    cases fl with
    | ret u => exact I.after hq
    | next => exact False.elim hq
    | brk => exact False.elim hq
    | cont => exact False.elim hq
end
section
variable {prog : Program} {w : World} {A : Around} {E : Value → Shared → Prop} {h : Heap} {g : Array GenState} {d : Drawn} {t : Nat} {os : OsState} {K : PySem.W.Frag} {x C : Addr} {ob : Obj} {od : Option Obj}
theorem special_in {name : Str} {id : String} {args : List Value} {Q : Option Value → Shared → Prop} (Y : K.In h) (J : PySem.W.InstAt h x ob C od) (ha : PySem.W.findIn K (.ref C) name = some (some (.builtin id))) (S : Slot "object" name id)
    (go : wpAny (model prog w) A (call (.builtin id) (.ref x :: args)) (fun v => Q (some v)) E ⟨h, g, d, t, os⟩) : wpAny (model prog w) A (callSpecialIfBound? (.ref x) name args) Q E ⟨h, g, d, t, os⟩ := by
  simp only [callSpecialIfBound?, bindSpecialIfBound?]
  refine wpAny_holding (wpAny_bind (wpAny_bind ?_))
  unfold specialOf
  refine wpAny_bind (J.type.at ((PySem.W.looks_findIn Y ha).at ?_))
  simp only [S.bind]
  refine wpAny_bind (wpAny_askSetting (wpAny_ite ?_))
  have fin : wpAny (model prog w) A (call (.builtin id) ([.ref x] ++ args) >>= fun v => pure (some v)) Q E ⟨h, g, d, t, os⟩ :=
    wpAny_bind (wpAny_mono go (fun v z hz => wpAny_pure hz) fun _ _ hz => hz)
  split
  · exact wpAny_bind (wpAny_pure (wpAny_pure fin))
  · exact wpAny_tryCatch (wpAny_bind (wpAny_pure (wpAny_pure fin)))
end
def rEqI (K : PySem.W.Frag) (C : Addr) (sp : Sp) : R2 := fun x y H Q => ∃ (a dx : Addr) (fs : List (Str × V)) (tb : Value), x = .ref a ∧ H a = some (.ins C dx fs) ∧ TyX K H y tb ∧ PySem.W.notFirst K C tb = true ∧ sp [.ref a, y] H (fun r H' => ∃ b : Bool, r = .bl b ∧ Q (.bl b) H') (fun _ _ _ => False)
def rNeI (K : PySem.W.Frag) (C : Addr) (sp : Sp) : R2 := fun x y H Q => ∃ (a dx : Addr) (fs : List (Str × V)) (tb : Value), x = .ref a ∧ H a = some (.ins C dx fs) ∧ TyX K H y tb ∧ PySem.W.notFirst K C tb = true ∧ sp [.ref a, y] H (fun r H' => ∃ b : Bool, r = .bl b ∧ Q (.bl (!b)) H') (fun _ _ _ => False)
section
variable {X : Cx} {C fE : Addr} {fd : FuncData} {sp : Sp} {k : Nat}
theorem ins_inst {pins : List (Addr × Obj)} {σ : L2.St} {H : Hp} {s : Shared} {a dx : Addr} {fs : List (Str × V)} (I : Inv X pins σ H s) (h : H a = some (.ins C dx fs)) : ∃ (ob : Obj) (od : Obj), PySem.W.InstAt s.heap a ob C (some od) := by
  obtain ⟨mA, J, _⟩ := ins_get I.hok h
  obtain ⟨od, J, _⟩ := J.look
  exact ⟨_, od, J⟩
theorem ty_look {pins : List (Addr × Obj)} {σ : L2.St} {H : Hp} {s : Shared} {y : V} {u tb : Value} (I : Inv X pins σ H s) (ry : RelV y u) (t : TyX X.K H y tb) : PySem.W.Looks (model X.prog X.w) s.heap (typeOf u) tb := by
  obtain ⟨P, Z, p, _⟩ := kit_of I ry t
  exact Z.ty _ _ I.kIn p
theorem rc_own {A' : Around} {pins : List (Addr × Obj)} {σ : L2.St} {H : Hp} {s : Shared} {a dx : Addr} {fs : List (Str × V)} {y : V} {u tb : Value} {Q : VK} (G : FnOk X.prog X.w X.K X.mg X.base (L2.CX X.prog X.w) k fE fd ["self", "other"] sp) (hs : PySem.W.findIn X.K (.ref C) "__eq__" = some (some (.ref fE))) (hf : PySem.W.isFn X.K (.ref fE) = true) (hb : Binds X.K fd ["self", "other"] []) (hr : Room (k + 1) A') (hA : A'.frames = X.A.frames)
    (I : Inv X pins σ H s) (ry : RelV y u) (ha : H a = some (.ins C dx fs)) (ht : TyX X.K H y tb) (nf : PySem.W.notFirst X.K C tb = true) (h : sp [.ref a, y] H (fun r H' => ∃ b : Bool, r = .bl b ∧ Q (.bl b) H') (fun _ _ _ => False)) :
    wpAny (model X.prog X.w) A' (richCompare .Eq (.ref a) u) (fun r s' => ∃ b, r = .bool b ∧ ∃ H', Inv X pins σ H' s' ∧ Q (.bl b) H') X.xe s := by
  obtain ⟨ob, od, J⟩ := ins_inst I ha
  obtain ⟨m, hF⟩ := I.fr
  refine PySem.W.cmp_K (op := .Eq) (tb := tb) hr.units0 hF I.ok.mod.kin J (ty_look I ry ht) nf hs hf ?_
  refine wpAny_mono (run_at (vs := [.ref a, y]) (us := [.ref a, u]) G (hr.mono (Nat.le_succ k)) hA hb I (.cons rfl (.cons ry .nil)) h) (fun r s' hq => ?_) fun _ _ z => z
  obtain ⟨v, H', I', rv, b, ev, q'⟩ := hq
  subst ev
  obtain rfl : r = Value.bool b := rv
  exact ⟨b, rfl, H', I', q'⟩
theorem op_eqI (G : FnOk X.prog X.w X.K X.mg X.base (L2.CX X.prog X.w) k fE fd ["self", "other"] sp) (hs : PySem.W.findIn X.K (.ref C) "__eq__" = some (some (.ref fE))) (hf : PySem.W.isFn X.K (.ref fE) = true) (hb : Binds X.K fd ["self", "other"] []) (hr : Room (k + 1) X.A) : OpR X (compareOp .Eq) (rEqI X.K C sp) := by
  intro pins s σ H x y v u Q I rx ry h
  obtain ⟨a, dx, fs, tb, rfl, ha, ht, nf, h⟩ := h
  obtain rfl : v = Value.ref a := rx
  show wpAny _ _ (richCompare .Eq (.ref a) u) _ _ s
  refine wpAny_mono (rc_own G hs hf hb hr rfl I ry ha ht nf h) (fun r s' hq => ?_) fun _ _ z => z
  obtain ⟨b, rfl, H', I', q⟩ := hq
  exact ⟨.bl b, H', I', rfl, q⟩
theorem op_neI (G : FnOk X.prog X.w X.K X.mg X.base (L2.CX X.prog X.w) k fE fd ["self", "other"] sp) (hs : PySem.W.findIn X.K (.ref C) "__eq__" = some (some (.ref fE))) (hf : PySem.W.isFn X.K (.ref fE) = true) (hb : Binds X.K fd ["self", "other"] []) (hne : PySem.W.findIn X.K (.ref C) "__ne__" = some (some (.builtin "object.__ne__"))) (hm : PySem.W.mroIn X.K C (.type "object") = some true) (hr : Room (k + 2) X.A) : OpR X (compareOp .NotEq) (rNeI X.K C sp) := by
  intro pins s σ H x y v u Q I rx ry h
  obtain ⟨a, dx, fs, tb, rfl, ha, ht, nf, h⟩ := h
  obtain rfl : v = Value.ref a := rx
  obtain ⟨ob, od, J⟩ := ins_inst I ha
  have L := ty_look I ry ht
  have hu : X.A.units + 1 < cLine := by
    have := hr.un
    omega
  have isO : PySem.W.Looks (model X.prog X.w) s.heap (isInstance (.ref a) (.type "object")) true := J.type.andThen (PySem.W.looks_mroIn I.kIn hm)
  have neDone : ∀ {Q' : Fin → Shared → Prop}, (∀ s' b, (∃ H', Inv X pins σ H' s' ∧ Q (.bl (!b)) H') → Q' (.done (.ret (.bool (!b)))) s') → wpAny (model X.prog X.w) X.A.in1 (Builtin.«object.__ne__» ⟨[.ref a, u], []⟩) Q' X.xe s := fun {Q'} k' => by
    unfold Builtin.«object.__ne__»
    have go : wpAny (model X.prog X.w) X.A.in1 (callSpecialIfBound? (.ref a) (Str.ofString "__eq__") [u]) (fun r s' => ∃ b, r = some (.bool b) ∧ ∃ H', Inv X pins σ H' s' ∧ Q (.bl (!b)) H') X.xe s :=
      PySem.W.ifBound_K I.kIn J hs hf (wpAny_mono (run_at (A := X.A.in1) (vs := [.ref a, y]) (us := [.ref a, u]) G (hr.mono (Nat.le_succ (k + 1))).in1 rfl hb I (.cons rfl (.cons ry .nil)) h) (fun r s' hq => by
        obtain ⟨v, H', I', rv, b, ev, q'⟩ := hq
        subst ev
        obtain rfl : r = Value.bool b := rv
        exact ⟨b, rfl, H', I', q'⟩) fun _ _ z => z)
    repeat (first
      | with_reducible refine wpAny_cRoomFor (show X.A.in1.units < cLine from hu) ?_
      | (refine wpAny_bind (m := callSpecialIfBound? (.ref a) (Str.ofString "__eq__") [u]) (wpAny_mono go (fun r s' hr => by
          obtain ⟨b, rfl, hq⟩ := hr
          have z := k' s' b hq
          repeat (first | exact z | exact wpAny_pure z | exact wpAny_truthy_bool z | (refine wpAny_bind (m := truthy (.bool _)) (wpAny_truthy_bool ?_)) | wp_step)) fun _ _ e => e))
      | wp_step)
  have tryDone : wpAny (model X.prog X.w) X.A (tryCompare (.ref a) "__ne__" u) (fun r s' => ∃ b, r = some (.bool (!b)) ∧ ∃ H', Inv X pins σ H' s' ∧ Q (.bl (!b)) H') X.xe s := by
    simp only [tryCompare]
    obtain ⟨hp', g, d, t, os⟩ := s
    refine wpAny_bind (special_in I.kIn J hne F.cmp_object.ne (wpAny_call (codeAny_call_builtin F.cmp_object.ne.plain F.cmpEntry_ne (PySem.W.check_slot F.cmpKind_ne F.cmpSplit_ne isO (F.cmpArgs_ne _ _) (neDone (fun s' b hq => ?_))))))
    exact wpAny_pure ⟨b, rfl, hq⟩
  show wpAny _ _ (richCompare .NotEq (.ref a) u) _ _ s
  unfold richCompare
  simp only [oneThing_ref, cmpInfo_NotEq]
  refine wpAny_holding (wpAny_bind (wpAny_cRoomFor (Nat.lt_of_succ_lt hu) ?_))
  refine wpAny_bind (J.type.here (wpAny_bind (L.here ?_)))
  split
  · rename_i q'
    have e : PySem.W.subIn X.K tb (.ref C) = some false := by
      unfold PySem.W.notFirst at nf
      rcases Bool.or_eq_true_iff.mp nf with e | e
      · rw [beq_iff_eq.mp e] at q'; simp at q'
      · exact beq_iff_eq.mp e
    refine wpAny_bind ((PySem.W.looks_subIn I.kIn e).here ?_)
    simp only [Bool.false_eq_true, if_false]
    refine wpAny_bind (wpAny_mono tryDone (fun r s' z => ?_) fun _ _ e => e)
    obtain ⟨b, rfl, H', I', hq⟩ := z
    exact wpAny_pure ⟨.bl (!b), H', I', rfl, hq⟩
  · refine wpAny_bind (wpAny_pure ?_)
    simp only [Bool.false_eq_true, if_false]
    refine wpAny_bind (wpAny_mono tryDone (fun r s' z => ?_) fun _ _ e => e)
    obtain ⟨b, rfl, H', I', hq⟩ := z
    exact wpAny_pure ⟨.bl (!b), H', I', rfl, hq⟩
end
/-! ### len(x) by an own __len__ -/
def rLenI (C : Addr) (sp : Sp) : List V → Hp → VK → Prop := fun xs H Q => ∃ (a dx : Addr) (fs : List (Str × V)), xs = [.ref a] ∧ H a = some (.ins C dx fs) ∧ sp [.ref a] H (fun r H' => ∃ n : Nat, r = .int n ∧ n ≤ 1000000 ∧ Q (.int n) H') (fun _ _ _ => False)
section
variable {X : Cx} {C fE : Addr} {fd : FuncData} {sp : Sp} {k : Nat}
theorem call_lenI (G : FnOk X.prog X.w X.K X.mg X.base (L2.CX X.prog X.w) k fE fd ["self"] sp) (hs : PySem.W.findIn X.K (.ref C) "__len__" = some (some (.ref fE))) (hf : PySem.W.isFn X.K (.ref fE) = true) (hb : Binds X.K fd ["self"] []) (hr : Room (k + 1) X.A) : CallR X (.builtin "len") (rLenI C sp) := by
  intro pins s σ H xs us Q I r h
  obtain ⟨a, dx, fs, rfl, ha, h⟩ := h
  obtain ⟨u, rfl, ru⟩ := vals1 r
  obtain rfl : u = Value.ref a := ru
  obtain ⟨ob, od, J⟩ := ins_inst I ha
  refine Calls.call_function_entry (by kernel_rfl) (by decide +kernel) entry_len (by kernel_rfl) ?_
  unfold Builtin.«len»
  refine wpAny_bind (m := oneArg "len" _) (wpAny_pure ?_)
  refine wpAny_bind (m := callSpecial? (.ref a) (Str.ofString "__len__")) (PySem.W.special_fn I.kIn J hs (beq_iff_eq.mp hf) (wpAny_mono (run_at (A := X.A.in1) (vs := [.ref a]) (us := [.ref a]) G hr.in1 rfl hb I (.cons rfl .nil) h) (fun r s' hq => ?_) fun _ _ z => z))
  obtain ⟨v, H', I', rv, n, ev, hn, q⟩ := hq
  subst ev
  obtain ⟨t, rfl⟩ := rv
  refine wpAny_bind (wpAny_holding (wpAny_pure ?_))
  refine wpAny_bind (wpAny_letGo ?_)
  show wpAny _ _ (if ((n : Nat) : Int) < 0 then _ else _) _ _ _
  rw [if_neg (by omega)]
  show wpAny _ _ (if ((n : Nat) : Int) ≥ 2 ^ 63 then _ else _) _ _ _
  rw [if_neg (by omega)]
  exact wpAny_bind (wpAny_mkInt (wpAny_pure ⟨_, rfl, .int n, H', I'.tok _, ⟨_, rfl⟩, q⟩))
end
def rStrI (C : Addr) (sp : Sp) : List V → Hp → VK → Prop := fun xs H Q => ∃ (a dx : Addr) (fs : List (Str × V)), xs = [.ref a] ∧ H a = some (.ins C dx fs) ∧ sp [.ref a] H (fun r H' => ∃ z : Str, r = .str z ∧ Q (.str z) H') (fun _ _ _ => False)
section
variable {X : Cx} {C fS : Addr} {fd : FuncData} {sp : Sp} {k : Nat}
theorem call_strI (G : FnOk X.prog X.w X.K X.mg X.base (L2.CX X.prog X.w) k fS fd ["self"] sp) (hs : PySem.W.findIn X.K (.ref C) "__str__" = some (some (.ref fS))) (hf : PySem.W.isFn X.K (.ref fS) = true) (hb : Binds X.K fd ["self"] []) (hr : Room (k + 2) X.A) : CallR X (.type "str") (rStrI C sp) := by
  intro pins s σ H xs us Q I r h
  obtain ⟨a, dx, fs, rfl, ha, h⟩ := h
  obtain ⟨u, rfl, ru⟩ := vals1 r
  obtain rfl : u = Value.ref a := ru
  obtain ⟨ob, od, J⟩ := ins_inst I ha
  have hu : X.A.in1.in1.units < cLine := by
    have := hr.un
    show X.A.units + 1 + 1 < cLine
    omega
  refine PySem.W.kso_call hu I.kIn J hs hf (wpAny_mono (run_at (A := X.A.in1.in1) (vs := [.ref a]) (us := [.ref a]) G hr.in1.in1 rfl hb I (.cons rfl .nil) h) (fun r s' hq => ?_) fun _ _ z => z)
  obtain ⟨v, H', I', rv, z, ev, q'⟩ := hq
  subst ev
  obtain ⟨t, rfl⟩ := rv
  exact ⟨.str z, H', I', ⟨t, rfl⟩, q'⟩
end

/-! ## == and != of instances -/
structure EqC (P : Program) (w : World) (K : PySem.W.Frag) (mg : Str → Option Value) (base : Heap) (G : Gm) (k : Nat) (c : String) (F : Fn) : Prop where
  ex : ∃ (C f : Addr) (fd : FuncData), mg (Str.ofString c) = some (.ref C) ∧ c ∈ G.cs ∧ PySem.W.findIn K (.ref C) "__eq__" = some (some (.ref f)) ∧ PySem.W.isFn K (.ref f) = true ∧ Binds K fd ["self", "other"] [] ∧ FnOk P w K mg base (L2.CX P w) k f fd ["self", "other"] (spT G F 2) ∧
    PySem.W.findIn K (.ref C) "__ne__" = some (some (.builtin "object.__ne__")) ∧ PySem.W.mroIn K C (.type "object") = some true ∧ (∀ k : BK, PySem.W.notFirst K C (.type k.nm) = true) ∧ ∀ c' ∈ G.cs, ∀ C', G.mg (Str.ofString c') = some (.ref C') → PySem.W.notFirst K C (.ref C') = true
section
variable {X : Cx} {G : Gm} {k : Nat} {c : String} {F : Fn}
theorem eqI_in {m : Mp} {H : Hp} {S : Sd} {x y : V} {d1 d2 : D} {E : XK} {Q : VK} {neg : Bool} (C1 : EqC X.prog X.w X.K X.mg X.base G k c F) (hG : Gok G) (hK : X.K = G.K) (hmg : X.mg = G.mg) (rs : RepS G m H S) (r1 : Rep G m H d1 x) (r2 : Rep G m H d2 y) (hc : ∃ ns ds, d1 = .ins c ns ds) (kn : d2.kn S ≠ none)
    (p : Po G m H E (oEqI F d1 d2 S neg) Q) : ∀ (C f : Addr) (fd : FuncData), X.mg (Str.ofString c) = some (.ref C) → (∀ k : BK, PySem.W.notFirst X.K C (.type k.nm) = true) → (∀ c' ∈ G.cs, ∀ C', G.mg (Str.ofString c') = some (.ref C') → PySem.W.notFirst X.K C (.ref C') = true) →
      ∃ (a dx : Addr) (fs : List (Str × V)) (tb : Value), x = .ref a ∧ H a = some (.ins C dx fs) ∧ TyX X.K H y tb ∧ PySem.W.notFirst X.K C tb = true ∧ spT G F 2 [.ref a, y] H (fun r H' => ∃ b : Bool, r = .bl b ∧ Q (.bl (if neg then !b else b)) H') (fun _ _ _ => False) := fun C f fd hC nb no => by
  obtain ⟨ns, ds, rfl⟩ := hc
  obtain ⟨a, C', dx, vs, rfl, na, ha, ⟨hc', hm, hf⟩, hl, q⟩ := id r1
  rw [hmg, hc'] at hC
  cases hC
  cases e : d2.kn S with
  | none => exact absurd e kn
  | some kk =>
    obtain ⟨t, ty, kv⟩ := kn_ty hG rs r2 e
    refine ⟨a, dx, _, t, rfl, ha, by rw [hK]; exact ty, ?_, m, [.ins c ns ds, d2], S, rs, ⟨_, _, rfl, r1, .one r2⟩, rfl, ?_⟩
    · cases kk with
      | b k => rw [show t = _ from kv]; exact nb k
      | own c2 => obtain ⟨C2, rfl, h2, h3⟩ := kv; exact no c2 h3 C2 h2
    · unfold oEqI at p
      cases eF : F [.ins c ns ds, d2] S with
      | ok r S' =>
        rw [eF] at p
        intro m' H' v g rs' rv
        cases r with
        | bl b => exact ⟨b, rv, p m' H' _ g rs' rfl⟩
        | _ => exact p.elim
      | err z S' => rw [eF] at p; exact p.elim
      | stuck => rw [eF] at p; exact p.elim
/-- one class more -/
theorem ot_eqI {eqs : Eqs} {r : R2} (C1 : EqC X.prog X.w X.K X.mg X.base G k c F) (hG : Gok G) (hr : Room (k + 2) X.A) (h : OpR X (compareOp .Eq) r ∧ OpT G r (oEq eqs)) (hK : X.K = G.K := by rfl) (hmg : X.mg = G.mg := by rfl) : ∃ r', OpR X (compareOp .Eq) r' ∧ OpT G r' (oEq ((c, F) :: eqs)) := by
  obtain ⟨C, f, fd, h1, h2, h3, h4, h5, h6, h7, h8, h9, h10⟩ := C1.ex
  refine ⟨_, .or (op_eqI h6 h3 h4 h5 (hr.mono (Nat.le_succ _))) h.1, fun m H S x y d1 d2 E Q rs r1 r2 p => ?_⟩
  cases d1 with
  | ins c' ns ds =>
    change Po G m H E (match ((c, F) :: eqs).lookup c' with | some F => if (d2.kn S).isSome = true then oEqI F (.ins c' ns ds) d2 S false else .stuck | none => .stuck) Q at p
    rw [List.lookup_cons] at p
    cases ec : c' == c with
    | true =>
      rw [ec] at p
      simp only at p
      obtain rfl := beq_iff_eq.mp ec
      split at p
      · rename_i hk
        exact .inl (eqI_in (neg := false) C1 hG hK hmg rs r1 r2 ⟨_, _, rfl⟩ (fun z => by rw [z] at hk; cases hk) p C f fd h1 h9 h10)
      · exact p.elim
    | false =>
      rw [ec] at p
      exact .inr (h.2 m H S x y _ d2 E Q rs r1 r2 p)
  | _ => exact .inr (h.2 m H S x y _ d2 E Q rs r1 r2 p)
theorem ot_neI {eqs : Eqs} {r : R2} (C1 : EqC X.prog X.w X.K X.mg X.base G k c F) (hG : Gok G) (hr : Room (k + 2) X.A) (h : OpR X (compareOp .NotEq) r ∧ OpT G r (oNe eqs)) (hK : X.K = G.K := by rfl) (hmg : X.mg = G.mg := by rfl) : ∃ r', OpR X (compareOp .NotEq) r' ∧ OpT G r' (oNe ((c, F) :: eqs)) := by
  obtain ⟨C, f, fd, h1, h2, h3, h4, h5, h6, h7, h8, h9, h10⟩ := C1.ex
  refine ⟨_, .or (op_neI h6 h3 h4 h5 h7 h8 hr) h.1, fun m H S x y d1 d2 E Q rs r1 r2 p => ?_⟩
  cases d1 with
  | ins c' ns ds =>
    change Po G m H E (match ((c, F) :: eqs).lookup c' with | some F => if (d2.kn S).isSome = true then oEqI F (.ins c' ns ds) d2 S true else .stuck | none => .stuck) Q at p
    rw [List.lookup_cons] at p
    cases ec : c' == c with
    | true =>
      rw [ec] at p
      simp only at p
      obtain rfl := beq_iff_eq.mp ec
      split at p
      · rename_i hk
        exact .inl (eqI_in (neg := true) C1 hG hK hmg rs r1 r2 ⟨_, _, rfl⟩ (fun z => by rw [z] at hk; cases hk) p C f fd h1 h9 h10)
      · exact p.elim
    | false =>
      rw [ec] at p
      exact .inr (h.2 m H S x y _ d2 E Q rs r1 r2 p)
  | _ => exact .inr (h.2 m H S x y _ d2 E Q rs r1 r2 p)
end
end Den

namespace Den
open PySem PySem.Spec PyProof.Rows L2
/-! ## texts -/
abbrev OpS := Str → List D → Sd → R D
def xS0 (o : Str → D) (φ : TX) : TX := fun env S => (φ env S).bind fun d S1 => match d with
  | .str z => .ok (o z) S1
  | _ => .stuck
def xS1 (o : OpS) (φ χ : TX) : TX := fun env S => (φ env S).bind fun d S1 => match d with
  | .str z => (χ env S1).bind fun e S2 => o z [e] S2
  | _ => .stuck
def MtS (G : Gm) (r : V → List V → Hp → VK → Prop) (o : OpS) : Prop := ∀ (m : Mp) (H : Hp) (S : Sd) (z : Str) (xs : List V) (ds : List D) (E : XK) (Q : VK), RepS G m H S → Reps G m H ds xs → Po G m H E (o z ds S) Q → r (.str z) xs H Q
section
variable {X : Cx} {G : Gm} {E : XK} {o e : Expr} {es : List Expr} {φ χ : TX} {φs : TXs} {pos apos : PySem.Pos} {id : String} {name : Str}
theorem te_s0 {g : Str → D} {r : V → List V → Hp → VK → Prop} (slot : Slot "str" name id) (ty : typeOf (.builtin id) = pure (.type "method_descriptor")) (rule : MtR X id r) (hr : ∀ m H z (Q : VK) v, Rep G m H (g z) v → Q v H → r (.str z) [] H Q) (hv : ∀ m H z, ∃ v, Rep G m H (g z) v) (ho : PE X o (tT G E φ))
    (hbase : attributeBase o name X.env (eval o X.env) = eval o X.env := by rfl) (hline : (apos.endLine == pos.line) = true := by rfl) : PE X (.Call (.Attribute o name apos) [] [] pos) (tT G E (xS0 g φ)) := PE.imp (pe_m0 slot ty rule ho hbase hline) fun σ H Q h => by
  obtain ⟨m, env, S, rs, re, p⟩ := h
  refine ⟨m, env, S, rs, re, partE (nE Q) p fun d S1 m1 H1 v g1 rs1 rv p1 => ?_⟩
  cases d with
  | str z =>
    obtain ⟨u, ru⟩ := hv m1 H1 z
    rw [show v = _ from rv]
    exact ⟨⟨z, rfl⟩, hr m1 H1 z Q u ru (Po.here p1 rs1 ru)⟩
  | _ => exact p1.elim
theorem te_s1 {g : OpS} {r : V → List V → Hp → VK → Prop} (slot : Slot "str" name id) (ty : typeOf (.builtin id) = pure (.type "method_descriptor")) (rule : MtR X id r) (hr : MtS G r g) (ho : PE X o (tT G E φ)) (he : PE X e (tT G E χ))
    (hs : starEach [e] X.env = [(false, eval e X.env)] := by rfl) (hbase : attributeBase o name X.env (eval o X.env) = eval o X.env := by rfl) (hline : (apos.endLine == pos.line) = true := by rfl) : PE X (.Call (.Attribute o name apos) [e] [] pos) (tT G E (xS1 g φ χ)) := PE.imp (pe_m1 slot ty rule ho he hs hbase hline) fun σ H Q h => by
  obtain ⟨m, env, S, rs, re, p⟩ := h
  refine ⟨m, env, S, rs, re, partE (nE Q) p fun d S1 m1 H1 v g1 rs1 rv p1 => ?_⟩
  cases d with
  | str z =>
    rw [show v = _ from rv]
    exact ⟨⟨z, rfl⟩, m1, env, S1, rs1, re.go g1, partE (nE Q) p1 fun d2 S2 m2 H2 u g2 rs2 ru p2 => hr m2 H2 S2 z _ _ E Q rs2 (.one ru) p2⟩
  | _ => exact p1.elim
theorem te_isascii (ho : PE X o (tT G E φ)) (hbase : attributeBase o "isascii" X.env (eval o X.env) = eval o X.env := by rfl) (hline : (apos.endLine == pos.line) = true := by rfl) : PE X (.Call (.Attribute o "isascii" apos) [] [] pos) (tT G E (xS0 (fun z => .bl (Txt.isascii z)) φ)) :=
  te_s0 PySem.F.slot_str_isascii PySem.F.type_str_isascii mt_isascii (fun m H z Q v rv q => ⟨z, rfl, rfl, trivial, by rw [← show v = _ from rv]; exact q⟩) (fun m H z => ⟨_, rfl⟩) ho hbase hline
theorem te_isdigit (ho : PE X o (tT G E φ)) (hbase : attributeBase o "isdigit" X.env (eval o X.env) = eval o X.env := by rfl) (hline : (apos.endLine == pos.line) = true := by rfl) : PE X (.Call (.Attribute o "isdigit" apos) [] [] pos) (tT G E (xS0 (fun z => .bl (Txt.isdigit z)) φ)) :=
  te_s0 PySem.F.slot_str_isdigit PySem.F.type_str_isdigit mt_isdigit (fun m H z Q v rv q => ⟨z, rfl, rfl, trivial, by rw [← show v = _ from rv]; exact q⟩) (fun m H z => ⟨_, rfl⟩) ho hbase hline
def oStarts : OpS := fun z ds S => match ds with
  | [.str y] => .ok (.bl (Txt.startswith z y)) S
  | _ => .stuck
theorem te_startswith (ho : PE X o (tT G E φ)) (he : PE X e (tT G E χ)) (hs : starEach [e] X.env = [(false, eval e X.env)] := by rfl) (hbase : attributeBase o "startswith" X.env (eval o X.env) = eval o X.env := by rfl) (hline : (apos.endLine == pos.line) = true := by rfl) : PE X (.Call (.Attribute o "startswith" apos) [e] [] pos) (tT G E (xS1 oStarts φ χ)) :=
  te_s1 PySem.F.slot_str_startswith PySem.F.type_str_startswith mt_startswith (fun m H S z xs ds E Q rs rv p => by
    unfold oStarts at p
    split at p
    · obtain ⟨v, rfl, r1⟩ := reps1 rv
      exact ⟨z, _, rfl, by rw [show v = _ from r1], p.here rs rfl⟩
    · exact p.elim) ho he hs hbase hline
def oSplit : OpS := fun z ds S => match ds with
  | [.str y] => guardR ((!(y.length == 0)) && decide (z.length + 2 ≤ sizeLine)) (.ok (.lst ((Txt.split z y).map .str)) S)
  | _ => .stuck
theorem strs_reps {m : Mp} {H : Hp} : ∀ zs : List Str, Reps G m H (zs.map D.str) (zs.map V.str)
  | [] => rfl
  | z :: zs => ⟨.str z, zs.map V.str, rfl, rfl, strs_reps zs⟩
theorem te_split (ho : PE X o (tT G E φ)) (he : PE X e (tT G E χ)) (hs : starEach [e] X.env = [(false, eval e X.env)] := by rfl) (hbase : attributeBase o "split" X.env (eval o X.env) = eval o X.env := by rfl) (hline : (apos.endLine == pos.line) = true := by rfl) : PE X (.Call (.Attribute o "split" apos) [e] [] pos) (tT G E (xS1 oSplit φ χ)) :=
  te_s1 PySem.F.slot_str_split PySem.F.type_str_split mt_split (fun m H S z xs ds E Q rs rv p => by
    unfold oSplit at p
    split at p
    · obtain ⟨v, rfl, r1⟩ := reps1 rv
      obtain ⟨c, p⟩ := p.guard
      obtain ⟨c1, c2⟩ := Bool.and_eq_true_iff.mp c
      exact ⟨z, _, rfl, by rw [show v = _ from r1], by simpa using c1, of_decide_eq_true c2, fun q hq => p.lst rs (strs_reps _) q hq⟩
    · exact p.elim) ho he hs hbase hline
def D.str? : D → Option Str
  | .str z => some z
  | _ => none
theorem strs_rep {m : Mp} {H : Hp} : ∀ {ds : List D} {vs : List V} {bs : List Str}, Reps G m H ds vs → allOf D.str? ds = some bs → vs = bs.map V.str
  | [], vs, bs, r, e => by cases e; exact r
  | d :: ds, vs, bs, r, e => by
    obtain ⟨v, w, rfl, h1, h2⟩ := r
    unfold allOf at e
    split at e
    · rename_i b cs e1 e2
      cases e
      rw [strs_rep h2 e2]
      cases d with
      | str k => rw [show v = .str k from h1, Option.some.inj (show some k = some b from e1)]; rfl
      | _ => cases e1
    · cases e
def oJoin : OpS := fun z ds S => match ds with
  | [d] => match (d.items S).bind (allOf D.str?) with
    | some ys => guardR (decide ((ys.map (·.length)).sum + ys.length * z.length ≤ 16777216)) (.ok (.str (Txt.join z ys)) S)
    | none => .stuck
  | _ => .stuck
theorem te_join (ho : PE X o (tT G E φ)) (he : PE X e (tT G E χ)) (hs : starEach [e] X.env = [(false, eval e X.env)] := by rfl) (hbase : attributeBase o "join" X.env (eval o X.env) = eval o X.env := by rfl) (hline : (apos.endLine == pos.line) = true := by rfl) (hK : X.K = G.K := by rfl) : PE X (.Call (.Attribute o "join" apos) [e] [] pos) (tT G E (xS1 oJoin φ χ)) :=
  te_s1 PySem.F.slot_str_join PySem.F.type_str_join mt_join (fun m H S z xs ds E Q rs rv p => by
    unfold oJoin at p
    split at p
    · obtain ⟨v, rfl, r1⟩ := reps1 rv
      split at p
      · rename_i ys e
        obtain ⟨c, p⟩ := p.guard
        obtain ⟨es, e1, e2⟩ := Option.bind_eq_some_iff.mp e
        obtain ⟨a, vs, rfl, hs, rr⟩ := items_sq rs r1 e1
        rw [strs_rep rr e2] at hs
        rw [hK]
        exact ⟨z, a, ys, rfl, rfl, hs, of_decide_eq_true c, p.here rs rfl⟩
      · exact p.elim
    · exact p.elim) ho he hs hbase hline
/-! f-strings -/
def oFmt (d : D) (S : Sd) : R D := match d with
  | .str y => guardR (decide (y.length ≤ sizeLine)) (.ok (.str y) S)
  | .int i => guardR (decide (i.natAbs.log2 < 1920)) (.ok (.str (toString i)) S)
  | _ => .stuck
theorem te_fmt (he : PE X e (tT G E φ)) : PE X (.FormattedValue e (-1) none pos) (tT G E (xUn oFmt φ)) := PE.imp (pe_fmt he) fun σ H Q h => by
  obtain ⟨m, env, S, rs, re, p⟩ := h
  refine ⟨m, env, S, rs, re, partE (nE Q) p fun d S1 m1 H1 v g rs1 rv p1 => ?_⟩
  unfold oFmt at p1
  split at p1
  · obtain ⟨c, p2⟩ := p1.guard
    exact .inl ⟨_, rv, of_decide_eq_true c, p2.here rs1 rfl⟩
  · obtain ⟨c, p2⟩ := p1.guard
    exact .inr ⟨_, rv, of_decide_eq_true c, p2.here rs1 rfl⟩
  · exact p1.elim
def fstL : List TX → Str → TX
  | [], acc, _, S => .ok (.str acc) S
  | φ :: φs, acc, env, S => (φ env S).bind fun d S1 => match d with
    | .str y => guardR (decide ((acc ++ y).length ≤ sizeLine)) (fstL φs (acc ++ y) env S1)
    | _ => .stuck
def xFst (φs : List TX) : TX := fstL φs Str.empty
inductive PJT (X : Cx) (G : Gm) (E : XK) : List Expr → List TX → Prop where
  | nil : PJT X G E [] []
  | cons {e : Expr} {φ : TX} {es : List Expr} {φs : List TX} (h : PE X e (tT G E φ)) (r : PJT X G E es φs) : PJT X G E (e :: es) (φ :: φs)
theorem PJT.pj {es : List Expr} {φs : List TX} (h : PJT X G E es φs) : PJ X es (φs.map (tT G E)) := by
  induction h with
  | nil => exact .nil
  | cons h _ ih => exact .cons h ih
theorem fst_in {Q : VK} : ∀ (φs : List TX) (acc : Str) {σ : L2.St} {H : Hp} {m : Mp} {env : En} {S : Sd}, RepS G m H S → RepE G m H env σ → Po G m H E (fstL φs acc env S) Q → tJs (φs.map (tT G E)) acc σ H fun out H1 => Q (.str out) H1
  | [], acc, σ, H, m, env, S, rs, re, p => Po.here p rs rfl
  | φ :: φs, acc, σ, H, m, env, S, rs, re, p => ⟨m, env, S, rs, re, partE (nE Q) p fun d S1 m1 H1 v g rs1 rv p1 => by
    cases d with
    | str y =>
      obtain ⟨c, p2⟩ := Po.guard p1
      exact ⟨y, rv, of_decide_eq_true c, fst_in φs _ rs1 (re.go g) p2⟩
    | _ => exact p1.elim⟩
theorem te_fst {v1 v2 : Expr} {rest : List Expr} {φs : List TX} (h : PJT X G E (v1 :: v2 :: rest) φs) : PE X (.JoinedStr (v1 :: v2 :: rest) pos) (tT G E (xFst φs)) := PE.imp (pe_joined h.pj) fun σ H Q h => by
  obtain ⟨m, env, S, rs, re, p⟩ := h
  exact fst_in φs _ rs re p
/-! ## things that are changed -/
def lstAt (S : Sd) (d : D) : Option (Nat × List D) := match d with
  | .hnd i => match S[i]? with
    | some (.lst ds) => some (i, ds)
    | _ => none
  | _ => none
theorem lst_at {m : Mp} {H : Hp} {S : Sd} {d : D} {v : V} {i : Nat} {ds : List D} (rs : RepS G m H S) (r : Rep G m H d v) (h : lstAt S d = some (i, ds)) : ∃ a vs, v = .ref a ∧ m.hs[i]? = some a ∧ H a = some (.lst vs) ∧ Reps G m H ds vs := by
  unfold lstAt at h
  split at h
  · split at h
    · rename_i q
      cases h
      obtain ⟨a, e1, rfl⟩ := r
      obtain ⟨b, e2, vs, hv, rv⟩ := rs.at_ _ _ q
      rw [e1] at e2
      cases e2
      exact ⟨a, vs, rfl, e1, hv, rv⟩
    · cases h
  · cases h
theorem set_lst {m : Mp} {H : Hp} {S : Sd} {i : Nat} {a : Addr} {ds : List D} {vs : List V} (rs : RepS G m H S) (ha : m.hs[i]? = some a) (rv : Reps G m H ds vs) : RepS G m (upd H a (.lst vs)) (S.set i (.lst ds)) ∧ Go m H m (upd H a (.lst vs)) := by
  have up : Go m H m (upd H a (.lst vs)) := by
    refine ⟨⟨[], by rw [List.append_nil], fun _ h => (List.not_mem_nil h).elim⟩, fun b o h nb => ?_, fun b h => ?_⟩
    · rw [upd_ne fun z => nb (by rw [z]; exact List.mem_of_getElem? ha)]
      exact h
    · by_cases e : b = a
      · rw [e, upd_same]; exact fun z => nomatch z
      · rw [upd_ne e]; exact h
  exact rs.set ha ⟨vs, upd_same, Reps.go up _ _ rv⟩
/-- xs.append(e) -/
def xApp (φ χ : TX) : TX := fun env S => (φ env S).bind fun t S1 => match lstAt S1 t with
  | some _ => (χ env S1).bind fun d S2 => match lstAt S2 t with
    | some (i, ds) => guardR (decide (ds.length < sizeLine)) (.ok .non (S2.set i (.lst (ds ++ [d]))))
    | none => .stuck
  | none => .stuck
theorem te_append (ho : PE X o (tT G E φ)) (he : PE X e (tT G E χ)) (hbase : attributeBase o "append" X.env (eval o X.env) = eval o X.env := by rfl)
    (hfew : ((backTo pos (starEach [e] X.env)).all (fun x => !x.1) && (backToKw pos (keywordEach [] X.env)).all (fun x => x.1.isSome) && decide ([e].length + ([] : List Keyword).length + (if ([] : List Keyword).isEmpty then 0 else 1) < 30)) = true := by rfl)
    (hline : (apos.endLine == pos.line) = true := by rfl) (hs : starEach [e] X.env = (false, eval e X.env) :: starEach [] X.env := by rfl) (hplain : (backTo pos (starEach [] X.env)).any (·.1) = false := by rfl) :
    PE X (.Call (.Attribute o "append" apos) [e] [] pos) (tT G E (xApp φ χ)) := PE.imp (pe_bm PySem.F.plainAttrs_list PySem.F.slot_list_append PySem.F.type_list_append mt_append ho (pa_cons he pa_nil hs) hbase hfew hline hs hplain) fun σ H Q h => by
  obtain ⟨m, env, S, rs, re, p⟩ := h
  refine ⟨m, env, S, rs, re, partE (nE Q) p fun t S1 m1 H1 x g rs1 rx p1 => ?_⟩
  split at p1
  · rename_i w q
    obtain ⟨i, ds⟩ := w
    obtain ⟨a, vs, rfl, ha, hv, rv⟩ := lst_at rs1 rx q
    refine ⟨.inl ⟨rfl, vs, .of hv⟩, m1, env, S1, rs1, re.go g, partE (nE Q) p1 fun d S2 m2 H2 y g2 rs2 ry p2 => ?_⟩
    split at p2
    · rename_i j es q2
      obtain ⟨c, p3⟩ := p2.guard
      obtain ⟨b, us, e1, hb, hu, ru⟩ := lst_at rs2 (Rep.go g2 _ _ rx) q2
      cases e1
      have c' := of_decide_eq_true c
      rw [ru.length] at c'
      obtain ⟨rs3, g3⟩ := set_lst rs2 hb (ru.app (.one ry))
      exact ⟨a, us, y, rfl, rfl, hu, c', p3 m2 _ .non g3 rs3 rfl⟩
    · exact p2.elim
  · exact p1.elim
/-- o[i] = .. -/
def setR (t k d : D) (env : En) (S : Sd) : R En := match k with
  | .int j => match lstAt S t with
    | some (i, ds) => match ixN ds.length j with
      | some n => .ok env (S.set i (.lst (ds.set n d)))
      | none => .stuck
    | none => .stuck
  | _ => .stuck
def tSub (o i : TX) : TGt := fun d env S => (o env S).bind fun t S1 => (i env S1).bind fun k S2 => setR t k d env S2
theorem set_in {m : Mp} {H : Hp} {S : Sd} {t k d : D} {x y z : V} {env : En} {β : Type} {P : Mp → Hp → R β → Prop} {κ : En → Sd → R β} {Q : Hp → Prop} (n : Nice G E P) (rs : RepS G m H S) (rt : Rep G m H t x) (rk : Rep G m H k y) (rd : Rep G m H d z) (p : P m H ((setR t k d env S).bind κ))
    (h : ∀ S' H', Go m H m H' → RepS G m H' S' → P m H' (κ env S') → Q H') : rSetL x y z H Q := by
  unfold setR at p
  split at p
  · split at p
    · rename_i i ds q
      split at p
      · rename_i n' e
        obtain ⟨a, vs, rfl, ha, hv, rv⟩ := lst_at rs rt q
        obtain ⟨rs3, g3⟩ := set_lst rs ha (rv.set n' rd)
        exact ⟨a, vs, _, n', rfl, rk, hv, by rw [← rv.length]; exact e, h _ _ g3 rs3 (n.go g3 p)⟩
      · exact (n.st p).elim
    · exact (n.st p).elim
  · exact (n.st p).elim
theorem gt_sub {i : Expr} (ho : PE X o (tT G E φ)) (hi : PE X i (tT G E χ)) (ha : ∀ v, assign (.Subscript o i pos) X.env v = (do
      let ov ← holding [v] (eval o X.env)
      let iv ← holding [v, ov] (eval i X.env)
      standAt pos
      holding [v, ov, iv] (setItem ov iv v)
      release [v, ov, iv] []) := by intro _; rfl) : PGT X G E (.Subscript o i pos) (tSub φ χ) [] (gSub (tT G E φ) (tT G E χ) rSetL) :=
  ⟨pg_sub ho hi set_list ha, fun {β P m H env S σ d v k Q} n rs re r p h => by
    have p' : P m H ((φ env S).bind fun t S1 => (χ env S1).bind fun k' S2 => (setR t k' d env S2).bind k) := by
      unfold tSub at p
      simp only [bind_assoc] at p
      exact p
    refine two n rs re p' fun t k' S2 m2 H2 x y g rs2 re2 rx ry p2 => ?_
    exact set_in n rs2 rx ry (Rep.go g _ _ r) p2 fun S3 H3 g3 rs3 p3 => h _ _ _ _ _ (g.trans g3) rs3 (re2.go g3) (fun _ _ => rfl) p3⟩
/-! += -/
def IpT (G : Gm) (t : TIp) (o : Op2) : Prop := ∀ (m : Mp) (H : Hp) (S : Sd) (x y : V) (d1 d2 : D) (E : XK) (Q : VK), RepS G m H S → Rep G m H d1 x → Rep G m H d2 y → Po G m H E (o d1 d2 S) Q → t x y H Q
theorem it_sub : PIp X .Sub (ipI fun i j => i - j) ∧ IpT G (ipI fun i j => i - j) oSub := ⟨ip_sub, fun m H S x y d1 d2 E Q rs r1 r2 p => by
  unfold oSub at p
  split at p
  · exact ⟨_, _, r1, r2, p.here rs rfl⟩
  · exact p.elim⟩
def oIAdd : Op2
  | .int a, .int b, S => .ok (.int (a + b)) S
  | _, _, _ => .stuck
theorem it_add : PIp X .Add (ipI fun i j => i + j) ∧ IpT G (ipI fun i j => i + j) oIAdd := ⟨ip_add, fun m H S x y d1 d2 E Q rs r1 r2 p => by
  unfold oIAdd at p
  split at p
  · exact ⟨_, _, r1, r2, p.here rs rfl⟩
  · exact p.elim⟩
def sAug (i : Nat) (o : Op2) (φ : TX) : TSt := fun env S => (xVar i env S).bind fun x S1 => (φ env S1).bind fun y S2 => (o x y S2).bind fun z S3 => .ok (.nx (env.set i (some z))) S3
theorem st_aug (i : Nat) {x : Str} {op : Operator} {ti : TIp} {ot : Op2} {pos' : PySem.Pos} (hN : X.N.Nodup) (he : PE X e (tT G E φ)) (ho : PIp X op ti ∧ IpT G ti ot) (hi : X.N[i]? = some x := by rfl) (hx : Loc X.env.scope x := by first | exact Or.inl rfl | exact Or.inr rfl) (hf : X.fn x = true ∨ X.env.scope.names.lookup x = some .local := by first | exact .inl rfl | exact .inr rfl) :
    PS X (.AugAssign (.Name x pos') op e pos) (tS G E (sAug i ot φ)) := PS.imp (ps_aug hN hi hx he ho.1 hf) fun Dn σ H h => by
  obtain ⟨m, env, S, rs, re, p⟩ := h
  unfold sAug xVar at p
  cases e1 : env[i]? with
  | none => rw [e1] at p; exact p.elim
  | some w =>
    cases w with
    | none => rw [e1] at p; exact p.elim
    | some d =>
      rw [e1] at p
      obtain ⟨v, ev, rv⟩ := re.at_ i d e1
      refine ⟨v, ev, m, env, S, rs, re, partE (nS Dn) p fun d2 S2 m2 H2 y g rs2 ry p2 => ?_⟩
      have : Po G m2 H2 E (ot d d2 S2) fun z H3 => Dn.nx (σ.set i (some z)) H3 := partE (nS Dn) p2 fun d3 S3 m3 H3 z g3 rs3 rz p3 => PoS.nx p3 rs3 ((re.go (g.trans g3)).set rz i)
      exact ho.2 m2 H2 S2 v y d d2 E _ rs2 (Rep.go g _ _ rv) ry this
end
end Den

namespace Den
open PySem PySem.Spec PyProof.Rows L2
section
abbrev Pos := PySem.Pos
/-! ### C.m(..), m a static method -/
structure SMet (K : PySem.W.Frag) (C : Addr) (m : Str) (g : Addr) : Prop where
  rd : ClX.CRead K C (.type "type")
  at_ : ∃ p, PySem.W.findCls K (.ref C) (.type "type") m = some (.get (.builtin "staticmethod.__get__") (.ref p) .none (.ref C)) ∧ ∃ rest, PySem.W.recIn K p "staticmethod" = some (.ref g :: rest)
  kp : PySem.W.keepIn K (.ref g) = true
section
variable {X : Cx} {pins : List (Addr × Obj)} {σ : L2.St} {H : Hp} {s : Shared} {C g : Addr} {m : Str} {A : Around} {E : Value → Shared → Prop}
theorem getsm_ok {pl : Sem Bool} {Q : Value × List Value → Shared → Prop} (I : Inv X pins σ H s) (k : SMet X.K C m g) (h : ∀ s', Inv X pins σ H s' → Q (.ref g, []) s') : wpAny (model X.prog X.w) A (getMethod (.ref C) m pl) Q E s := by
  obtain ⟨p, ha, rest, hp⟩ := k.at_
  refine PySem.W.method_cls I.kIn k.rd.ga ?_
  refine PySem.W.cls_bind I.kIn k.rd.rd ha ?_
  exact wpAny_call (PySem.W.sm_get (s := { s with toks := s.toks + 1 }) I.kIn hp (PySem.W.handed_on rfl (h _ (I.tok _))))
end
def tSMeth (C : Addr) (sp : Sp) (E : XK) (ta : TE) (t : TA) : TE := fun σ H Q => ta σ H fun x H1 => x = .ref C ∧ t σ H1 fun vs H2 => sp vs H2 Q E
def tSMethK (C : Addr) (nk : Nat) (sp : Sp) (gV : List V → List V → List V) (E : XK) (ta : TE) (tk : TA) : TE := fun σ H Q => ta σ H fun x H1 => x = .ref C ∧ tk σ H1 fun zs H2 => zs.length = nk ∧ sp (gV [] zs) H2 Q E
section
variable {X : Cx} {CX : CXT} {k : Nat} {C f : Addr} {fd : FuncData} {ps ks : List Str} {sp : Sp} {E : XK} {o e : Expr} {es : List Expr} {kws : List Keyword} {m : Str} {pos apos : Pos} {ta : TE} {t tk : TA} {g : List Value → List Value → List Value} {gV : List V → List V → List V}
theorem pe_smeth {pl : Sem Bool} (he : PE X o ta) (c : SMet X.K C m f) (F : FnOk X.prog X.w X.K X.mg X.base CX k f fd ps sp) (hr : Room k X.A) (hb : Binds X.K fd ps []) (hx : Passes CX X E) (ha : PA X (e :: es) t)
    (hst : starEach (e :: es) X.env = (false, eval e X.env) :: starEach es X.env := by rfl) (hpl : (backTo pos (starEach es X.env)).any (·.1) = false := by rfl)
    (ht : eval (.Call (.Attribute o m apos) (e :: es) [] pos) X.env = (do
      let ov ← eval o X.env
      standAt apos.atName
      let (f, first) ← holding [ov] (getMethod ov m pl)
      callWith pos f first (backTo pos (starEach (e :: es) X.env)) (backToKw pos (keywordEach [] X.env))) := by rfl) :
    PE X (.Call (.Attribute o m apos) (e :: es) [] pos) (tSMeth C sp E ta t) := by
  refine ⟨fun pins s σ H Q I h => ?_⟩
  refine PySem.W.methodCall_KW (pl := pl) (thn (he.run pins s σ H _ I h) fun u s1 ⟨x, H1, I1, rx, ex, q⟩ => ?_) ht
  subst ex
  obtain rfl : u = Value.ref C := rx
  refine getsm_ok I1 c fun s2 I2 => ?_
  refine PySem.W.callWith_K (h₀ := X.base) I2.ok.mod.kin c.kp (thn (ha.run pos pins s2 σ H1 _ I2 q) fun us s3 ⟨vs, H2, I3, rv, q2⟩ => ⟨I3.kIn, ?_⟩) hst hpl
  exact run_fn F hr hb .nil hx I3 rv (by rw [List.append_nil]; exact q2)
theorem pe_smethK {pl : Sem Bool} (he : PE X o ta) (c : SMet X.K C m f) (F : FnOk X.prog X.w X.K X.mg X.base CX k f fd ps sp) (hr : Room k X.A) (hb : KBn X.K fd ps 0 ks g gV) (hx : Passes CX X E) (hkw : PK X kws tk)
    (hall : (backToKw pos (keywordEach kws X.env)).all (·.1.isSome) = true := by rfl) (hks : (backToKw pos (keywordEach kws X.env)).filterMap (·.1) = ks := by rfl)
    (hpl : ((backTo pos (starEach [] X.env)).any (·.1) || (backToKw pos (keywordEach kws X.env)).any (·.1.isNone)) = false := by rfl)
    (ht : eval (.Call (.Attribute o m apos) [] kws pos) X.env = (do
      let ov ← eval o X.env
      standAt apos.atName
      let (f, first) ← holding [ov] (getMethod ov m pl)
      callWith pos f first (backTo pos (starEach [] X.env)) (backToKw pos (keywordEach kws X.env))) := by rfl) :
    PE X (.Call (.Attribute o m apos) [] kws pos) (tSMethK C ks.length sp gV E ta tk) := by
  refine ⟨fun pins s σ H Q I h => ?_⟩
  refine PySem.W.methodCall_KW (pl := pl) (thn (he.run pins s σ H _ I h) fun u s1 ⟨x, H1, I1, rx, ex, q⟩ => ?_) ht
  subst ex
  obtain rfl : u = Value.ref C := rx
  refine getsm_ok I1 c fun s2 I2 => ?_
  refine PySem.W.callWith_KW0 (h₀ := X.base) I2.ok.mod.kin c.kp hall ?_ hpl
  refine thn (hkw.run pos pins s2 σ H1 _ I2 q) fun ws s3 ⟨zs, H2, I3, rz, l2, q2⟩ => ⟨I3.kIn, ?_⟩
  rw [hks]
  exact run_fnN (us := []) (vs := []) F hr hb hx I3 .nil rz rfl l2 q2
end

end
theorem int_dp {K : PySem.W.Frag} {H : Hp} : ∀ ns : List Int, DpAll K H (ns.map V.int) (ns.map PyData.int)
  | [] => .nil
  | n :: ns => .cons (.int n) (int_dp ns)
/-! ### max of a tuple of numbers -/
def rMaxT (K : PySem.W.Frag) : List V → Hp → VK → Prop := fun vs H Q => ∃ (a : Addr) (n : Int) (ns : List Int), vs = [V.ref a] ∧ SqT K H a ((n :: ns).map V.int) ∧ Q (.int (ns.foldl max n)) H
theorem ints_depth : ∀ ns : List Int, PyData.depthAll (ns.map PyData.int) = 0
  | [] => rfl
  | n :: ns => by
    show max 0 (PyData.depthAll (ns.map PyData.int)) = 0
    rw [ints_depth ns]
    rfl
theorem call_maxT {X : Cx} {K : PySem.W.Frag} (hc : X.calm = true) (hu : X.A.units + 3 < cLine) (hK : X.K = K := by rfl) : CallR X (.builtin "max") (rMaxT K) := by
  subst hK
  intro pins s σ H xs us Q I r h
  obtain ⟨a, n, ns, rfl, ha, q⟩ := h
  obtain ⟨its, rv, hl, _⟩ := I.tuple ha
  rw [Vals.ref1 r]
  obtain ⟨as, rd⟩ := Dp.readsAll I _ _ _ (int_dp (K := X.K) (H := H) (n :: ns)) rv
  have al : PySem.W.AlikeAll (PyData.int n :: ns.map PyData.int) := ⟨fun x hx y hy => by
    have hx : x ∈ (n :: ns).map PyData.int := hx
    have hy : y ∈ (n :: ns).map PyData.int := hy
    obtain ⟨i, _, rfl⟩ := List.mem_map.mp hx
    obtain ⟨j, _, rfl⟩ := List.mem_map.mp hy
    rfl, fun x hx z => by
    have hx : x ∈ (n :: ns).map PyData.int := hx
    obtain ⟨i, _, rfl⟩ := List.mem_map.mp hx
    cases z⟩
  refine PySem.W.max_tuple_data (x := .int n) (xs := ns.map PyData.int) (as := as) (I.ok.hd hc) hl (by simpa using rd) al (by rw [show PyData.depthAll (PyData.int n :: ns.map PyData.int) = 0 from ints_depth (n :: ns)]; omega) fun i v h' tk bs hv rdv kk => ?_
  rw [PySem.W.maxD_ints] at rdv
  cases rdv
  exact ⟨.int _, H, I.kept kk, ⟨_, rfl⟩, q⟩

/-! ### gcd, max, min -/
def oGcd : OpL := fun ds S => match ds with
  | [.int a, .int b] => .ok (.int ((Nat.gcd a.natAbs b.natAbs : Nat) : Int)) S
  | _ => .stuck
theorem ot_gcd {X : Cx} {G : Gm} : CallR X (.builtin "math.gcd") rGcd ∧ CallT G rGcd oGcd := by
  refine ⟨cr_gcd, fun m H S xs ds E Q rs r p => ?_⟩
  unfold oGcd at p
  split at p
  · obtain ⟨v, u, rfl, r1, r2⟩ := reps2 r
    exact ⟨_, _, by rw [show v = _ from r1, show u = _ from r2], p.here rs rfl⟩
  · exact p.elim
def oMax : OpL := fun ds S => match ds with
  | [.int i, .int j] => .ok (.int (if j > i then j else i)) S
  | [.tup xs] => match allOf D.int? xs with
    | some (n :: ns) => .ok (.int (ns.foldl max n)) S
    | _ => .stuck
  | [d] => match (d.itemsL S).bind (allOf D.int?) with
    | some (n :: ns) => .ok (.int (ns.foldl max n)) S
    | _ => .stuck
  | _ => .stuck
def oMin : OpL := fun ds S => match ds with
  | [.int i, .int j] => .ok (.int (if j < i then j else i)) S
  | [d] => match (d.itemsL S).bind (allOf D.int?) with
    | some (n :: ns) => .ok (.int (ns.foldl min n)) S
    | _ => .stuck
  | _ => .stuck
def rMaxA (K : PySem.W.Frag) : List V → Hp → VK → Prop := fun xs H Q => (∃ i j, xs = [.int i, .int j] ∧ Q (.int (if j > i then j else i)) H) ∨ rMaxT K xs H Q ∨ rMax K xs H Q
def rMinA (K : PySem.W.Frag) : List V → Hp → VK → Prop := fun xs H Q => (∃ i j, xs = [.int i, .int j] ∧ Q (.int (if j < i then j else i)) H) ∨ rMin K xs H Q
theorem fold_max : ∀ (ns : List Int) (n M : Int), M ∈ n :: ns → (∀ y ∈ n :: ns, y ≤ M) → ns.foldl max n = M
  | [], n, M, h, _ => (List.mem_singleton.mp h).symm
  | a :: ns, n, M, h, hb => by
    rw [List.foldl_cons]
    refine fold_max ns (max n a) M ?_ fun y hy => ?_
    · have h1 := hb n List.mem_cons_self
      have h2 := hb a (List.mem_cons_of_mem _ List.mem_cons_self)
      rcases List.mem_cons.mp h with e | h
      · have : max n a = M := by omega
        rw [this]
        exact List.mem_cons_self
      · rcases List.mem_cons.mp h with e | h
        · have : max n a = M := by omega
          rw [this]
          exact List.mem_cons_self
        · exact List.mem_cons_of_mem _ h
    · rcases List.mem_cons.mp hy with e | hy
      · have h1 := hb n List.mem_cons_self
        have h2 := hb a (List.mem_cons_of_mem _ List.mem_cons_self)
        omega
      · exact hb y (List.mem_cons_of_mem _ (List.mem_cons_of_mem _ hy))
theorem fold_min : ∀ (ns : List Int) (n M : Int), M ∈ n :: ns → (∀ y ∈ n :: ns, M ≤ y) → ns.foldl min n = M
  | [], n, M, h, _ => (List.mem_singleton.mp h).symm
  | a :: ns, n, M, h, hb => by
    rw [List.foldl_cons]
    refine fold_min ns (min n a) M ?_ fun y hy => ?_
    · have h1 := hb n List.mem_cons_self
      have h2 := hb a (List.mem_cons_of_mem _ List.mem_cons_self)
      rcases List.mem_cons.mp h with e | h
      · have : min n a = M := by omega
        rw [this]
        exact List.mem_cons_self
      · rcases List.mem_cons.mp h with e | h
        · have : min n a = M := by omega
          rw [this]
          exact List.mem_cons_self
        · exact List.mem_cons_of_mem _ h
    · rcases List.mem_cons.mp hy with e | hy
      · have h1 := hb n List.mem_cons_self
        have h2 := hb a (List.mem_cons_of_mem _ List.mem_cons_self)
        omega
      · exact hb y (List.mem_cons_of_mem _ (List.mem_cons_of_mem _ hy))
theorem ot_max {X : Cx} {G : Gm} (hu : X.A.units + 3 < cLine) (hc : X.calm = true := by rfl) (hK : X.K = G.K := by rfl) : CallR X (.builtin "max") (rMaxA G.K) ∧ CallT G (rMaxA G.K) oMax := by
  refine ⟨by rw [← hK]; exact .or (call_max2 hc) (.or (call_maxT hc hu) (cr_max hc)), fun m H S xs ds E Q rs r p => ?_⟩
  unfold oMax at p
  split at p
  · obtain ⟨v, u, rfl, r1, r2⟩ := reps2 r
    exact .inl ⟨_, _, by rw [show v = _ from r1, show u = _ from r2], p.here rs rfl⟩
  · obtain ⟨v, rfl, r1⟩ := reps1 r
    split at p
    · rename_i n ns e
      obtain ⟨a, vs, rfl, ha, rv⟩ := r1
      refine .inr (.inl ⟨a, n, ns, rfl, ?_, p.here rs rfl⟩)
      rw [← ints_rep rv e]
      exact ha.sq
    · exact p.elim
  · obtain ⟨v, rfl, r1⟩ := reps1 r
    split at p
    · rename_i n ns e
      obtain ⟨es, e1, e2⟩ := Option.bind_eq_some_iff.mp e
      obtain ⟨a, vs, rfl, hs, rv⟩ := itemsL_sq rs r1 e1
      refine .inr (.inr ⟨a, n :: ns, rfl, .of (by rw [hs, ints_rep rv e2]), Nat.succ_pos _, fun M hM hb => ?_⟩)
      rw [fold_max ns n M hM hb] at p
      exact p.here rs rfl
    · exact p.elim
  · exact p.elim
theorem ot_min {X : Cx} {G : Gm} (hc : X.calm = true := by rfl) (hK : X.K = G.K := by rfl) : CallR X (.builtin "min") (rMinA G.K) ∧ CallT G (rMinA G.K) oMin := by
  refine ⟨by rw [← hK]; exact .or (call_min2 hc) (cr_min hc), fun m H S xs ds E Q rs r p => ?_⟩
  unfold oMin at p
  split at p
  · obtain ⟨v, u, rfl, r1, r2⟩ := reps2 r
    exact .inl ⟨_, _, by rw [show v = _ from r1, show u = _ from r2], p.here rs rfl⟩
  · obtain ⟨v, rfl, r1⟩ := reps1 r
    split at p
    · rename_i n ns e
      obtain ⟨es, e1, e2⟩ := Option.bind_eq_some_iff.mp e
      obtain ⟨a, vs, rfl, hs, rv⟩ := itemsL_sq rs r1 e1
      refine .inr ⟨a, n :: ns, rfl, .of (by rw [hs, ints_rep rv e2]), Nat.succ_pos _, fun M hM hb => ?_⟩
      rw [fold_min ns n M hM hb] at p
      exact p.here rs rfl
    · exact p.elim
  · exact p.elim
section
variable {X : Cx} {G : Gm} {E : XK} {e : Expr} {es : List Expr} {φs : TXs} {pos p : PySem.Pos} {x : Str} {id : String} {r : List V → Hp → VK → Prop} {o : OpL}
theorem te_callBf (ho : CallR X (.builtin id) r ∧ CallT G r o) (hg : Gl X x) (hm : X.mg x = some (.builtin id)) (ha : PA X (e :: es) (tTs G E φs)) (hdb : (x == ("__debug__" : Str)) = false := by decide)
    (he : starEach (e :: es) X.env = (false, eval e X.env) :: starEach es X.env := by rfl) (hpl : (backTo pos (starEach es X.env)).any (·.1) = false := by rfl) : PE X (.Call (.Name x p) (e :: es) [] pos) (tT G E (xCall o φs)) :=
  PE.imp (pe_callBfun ho.1 hg hm ha hdb he hpl) fun σ H Q h => tcb_in ho.2 σ H Q h
end
/-! ### str of an instance -/
abbrev Strs := List (String × Fn)
def oStrN (sts : Strs) : OpL := fun ds S => match ds with
  | [.ins c ns es] => match sts.lookup c with
    | some F => (noX (F [.ins c ns es] S)).bind fun r S' => match r with
      | .str z => .ok (.str z) S'
      | _ => .stuck
    | none => .stuck
  | ds => oStrI ds S
structure StC (P : Program) (w : World) (K : PySem.W.Frag) (mg : Str → Option Value) (base : Heap) (G : Gm) (k : Nat) (c : String) (F : Fn) : Prop where
  ex : ∃ (C f : Addr) (fd : FuncData), mg (Str.ofString c) = some (.ref C) ∧ c ∈ G.cs ∧ PySem.W.findIn K (.ref C) "__str__" = some (some (.ref f)) ∧ PySem.W.isFn K (.ref f) = true ∧ Binds K fd ["self"] [] ∧ FnOk P w K mg base (L2.CX P w) k f fd ["self"] (spT G F 1)
section
variable {X : Cx} {G : Gm} {k : Nat} {c : String} {F : Fn}
theorem ot_str0 : ∃ r, CallR X (.type "str") r ∧ CallT G r (oStrN []) := ⟨_, ot_strI (G := G).1, fun m H S xs ds E Q rs r p => (ot_strI (X := X) (G := G)).2 m H S xs ds E Q rs r (by
  unfold oStrN at p
  split at p
  · exact p.elim
  · exact p)⟩
theorem ot_strC {sts : Strs} {r : List V → Hp → VK → Prop} (C1 : StC X.prog X.w X.K X.mg X.base G k c F) (hr : Room (k + 2) X.A) (h : CallR X (.type "str") r ∧ CallT G r (oStrN sts)) (hmg : X.mg = G.mg := by rfl) : ∃ r', CallR X (.type "str") r' ∧ CallT G r' (oStrN ((c, F) :: sts)) := by
  obtain ⟨C, f, fd, h1, h2, h3, h4, h5, h6⟩ := C1.ex
  refine ⟨_, .or (call_strI h6 h3 h4 h5 hr) h.1, fun m H S xs ds E Q rs rv p => ?_⟩
  by_cases hi : ∃ c' ns es, ds = [.ins c' ns es]
  · obtain ⟨c', ns, es, rfl⟩ := hi
    change Po G m H E (match ((c, F) :: sts).lookup c' with | some F => (noX (F [.ins c' ns es] S)).bind fun r S' => (match r with | .str z => .ok (.str z) S' | _ => .stuck) | none => .stuck) Q at p
    rw [List.lookup_cons] at p
    cases ec : c' == c with
    | true =>
      rw [ec] at p
      simp only at p
      obtain rfl := beq_iff_eq.mp ec
      obtain ⟨v, rfl, r1⟩ := reps1 rv
      obtain ⟨a, C', dx, vs, rfl, na, ha, ⟨hc', hm, hf⟩, hl, q⟩ := id r1
      rw [hmg, hc'] at h1
      cases h1
      refine .inl ⟨a, dx, _, rfl, ha, m, _, S, rs, .one r1, rfl, ?_⟩
      cases eF : F [.ins c' ns es] S with
      | ok r S' =>
        rw [eF] at p
        intro m' H' v g rs' rv
        cases r with
        | str z => exact ⟨z, rv, p m' H' _ g rs' rfl⟩
        | _ => exact p.elim
      | err z S' => rw [eF] at p; exact p.elim
      | stuck => rw [eF] at p; exact p.elim
    | false =>
      rw [ec] at p
      exact .inr (h.2 m H S xs _ E Q rs rv p)
  · refine .inr (h.2 m H S xs ds E Q rs rv ?_)
    have ne : ∀ sts, oStrN sts ds S = oStrI ds S := fun sts => by
      unfold oStrN
      split
      · exact absurd ⟨_, _, _, rfl⟩ hi
      · rfl
    rw [ne] at p ⊢
    exact p
end
/-! ### keywords, defaults -/
structure KbD (G : Gm) (fd : FuncData) (ps : List Str) (n : Nat) (ks : List Str) (gD : List D → List D → List D) : Prop where
  ex : ∃ (g : List Value → List Value → List Value) (gV : List V → List V → List V), KBn G.K fd ps n ks g gV ∧ ∀ (m : Mp) (H : Hp) (ds : List D) (vs : List V) (es : List D) (us : List V), Reps G m H ds vs → Reps G m H es us → ds.length = n → es.length = ks.length → Reps G m H (gD ds es) (gV vs us) ∧ (gD ds es).length = ps.length
structure ClP (P : Program) (w : World) (K : PySem.W.Frag) (mg : Str → Option Value) (base : Heap) (G : Gm) (k : Nat) (x : Str) (ps : List Str) (n : Nat) (ks : List Str) (gD : List D → List D → List D) (F : Fn) : Prop where
  ex : ∃ (f : Addr) (fd : FuncData), mg x = some (.ref f) ∧ PySem.W.keepIn K (.ref f) = true ∧ KbD G fd ps n ks gD ∧ FnOk P w K mg base (L2.CX P w) k f fd ps (spT G F ps.length)
structure McP (P : Program) (w : World) (K : PySem.W.Frag) (mg : Str → Option Value) (base : Heap) (G : Gm) (k : Nat) (c : String) (ps : List Str) (n : Nat) (ks : List Str) (gD : List D → List D → List D) (F : Fn) : Prop where
  ex : ∃ (C f : Addr) (fd : FuncData), mg (Str.ofString c) = some (.ref C) ∧ c ∈ G.cs ∧ Mk K C f ∧ KbD G fd ps (n + 1) ks gD ∧ FnOk P w K mg base (L2.CX P w) k f fd ps (spT G F ps.length)
structure MtP (P : Program) (w : World) (K : PySem.W.Frag) (mg : Str → Option Value) (base : Heap) (G : Gm) (k : Nat) (c m : String) (ps : List Str) (ks : List Str) (gD : List D → List D → List D) (F : Fn) : Prop where
  ex : ∃ (C f : Addr) (fd : FuncData), mg (Str.ofString c) = some (.ref C) ∧ c ∈ G.cs ∧ Meth K C (Str.ofString m) f ∧ KbD G fd ps 1 ks gD ∧ FnOk P w K mg base (L2.CX P w) k f fd ps (spT G F ps.length)
/-- a static method -/
structure Sm (P : Program) (w : World) (K : PySem.W.Frag) (mg : Str → Option Value) (base : Heap) (G : Gm) (k : Nat) (c m : String) (ps : List Str) (F : Fn) : Prop where
  ex : ∃ (C f : Addr) (fd : FuncData), mg (Str.ofString c) = some (.ref C) ∧ SMet K C (Str.ofString m) f ∧ Binds K fd ps [] ∧ FnOk P w K mg base (L2.CX P w) k f fd ps (spT G F ps.length)
structure SmP (P : Program) (w : World) (K : PySem.W.Frag) (mg : Str → Option Value) (base : Heap) (G : Gm) (k : Nat) (c m : String) (ps : List Str) (ks : List Str) (gD : List D → List D → List D) (F : Fn) : Prop where
  ex : ∃ (C f : Addr) (fd : FuncData), mg (Str.ofString c) = some (.ref C) ∧ SMet K C (Str.ofString m) f ∧ KbD G fd ps 0 ks gD ∧ FnOk P w K mg base (L2.CX P w) k f fd ps (spT G F ps.length)
def xFnP (F : Fn) (gD : List D → List D → List D) (φs χs : TXs) : TX := fun env S => (φs env S).bind fun ds S1 => (χs env S1).bind fun es S2 => F (gD ds es) S2
noncomputable def newRP (c : String) (F : Fn) (gD : List D → List D → List D) (ds es : List D) (S : Sd) : R D :=
  exitR S ((F (gD (.hnd S.length :: ds) es) (S ++ [.ins c [] []])).bind fun r S2 => match r with
    | .non => .ok (.hnd S.length) S2
    | _ => .stuck)
noncomputable def xNewP (c : String) (F : Fn) (gD : List D → List D → List D) (φs χs : TXs) : TX := fun env S => (φs env S).bind fun ds S1 => (χs env S1).bind fun es S2 => newRP c F gD ds es S2
def xMethP (tab : MTab) (m : String) (gD : List D → List D → List D) (o : TX) (χs : TXs) : TX := fun env S => (o env S).bind fun d S1 => match methOf tab m d S1 with
  | some F => (χs env S1).bind fun es S2 => F (gD [d] es) S2
  | none => .stuck
section
variable {X : Cx} {G : Gm} {E : XK} {e o : Expr} {es : List Expr} {kws : List Keyword} {φ χ : TX} {φs χs : TXs} {pos p p2 kpos apos : PySem.Pos} {x : Str} {nm : Option Str} {k n : Nat} {ps ks : List Str} {F : Fn} {gD : List D → List D → List D}
theorem tk_nil : PK X [] (tTs G E xsNil) := ⟨fun pos pins s σ H Q I h => pk_nil.run pos pins s σ H Q I (by
  obtain ⟨m, env, S, rs, re, p⟩ := h
  exact Pol.here (d := []) p rs rfl)⟩
theorem tk_cons (ha : PE X e (tT G E φ)) (hr : PK X kws (tTs G E χs)) : PK X (⟨nm, e, kpos⟩ :: kws) (tTs G E (xsCons φ χs)) := ⟨fun pos pins s σ H Q I h => (pk_cons ha hr).run pos pins s σ H Q I (by
  obtain ⟨m, env, S, rs, re, p⟩ := h
  refine ⟨m, env, S, rs, re, partE (nL Q) p fun d S1 m1 H1 v g1 rs1 r1 p1 => ⟨m1, env, S1, rs1, re.go g1, partL (nL Q) p1 fun ds S2 m2 H2 vs g2 rs2 r2 p2 => ?_⟩⟩
  exact p2.here rs2 (Pol.cons (S := S2) g2 r1 r2))⟩
theorem two_l {β : Type} {P : Mp → Hp → R β → Prop} {κ : List D → List D → Sd → R β} {m : Mp} {H : Hp} {env : En} {S : Sd} {σ : L2.St} {Q : List V → List V → Hp → Prop} (nn : Nice G E P) (rs : RepS G m H S) (re : RepE G m H env σ)
    (p : P m H ((φs env S).bind fun ds S1 => (χs env S1).bind fun es S2 => κ ds es S2)) (l1 : XsLen φs n) (l2 : XsLen χs k) (h : ∀ ds es S2 m' H' vs us, Go m H m' H' → RepS G m' H' S2 → RepE G m' H' env σ → Reps G m' H' ds vs → Reps G m' H' es us → ds.length = n → es.length = k → P m' H' (κ ds es S2) → Q vs us H') :
    tTs G E φs σ H fun vs H1 => tTs G E χs σ H1 fun us H2 => Q vs us H2 := by
  refine ⟨m, env, S, rs, re, ?_⟩
  cases e1 : φs env S with
  | ok ds S1 =>
    rw [e1] at p
    intro m1 H1 vs g1 rs1 r1
    have p1 : P m1 H1 ((χs env S1).bind fun es S2 => κ ds es S2) := nn.go g1 p
    refine ⟨m1, env, S1, rs1, re.go g1, ?_⟩
    cases e2 : χs env S1 with
    | ok es S2 =>
      rw [e2] at p1
      exact fun m2 H2 us g2 rs2 r2 => h ds es S2 m2 H2 vs us (g1.trans g2) rs2 (re.go (g1.trans g2)) (Reps.go g2 _ _ r1) r2 (l1.at e1) (l2.at e2) (nn.go g2 p1)
    | err z S2 => rw [e2] at p1; exact nn.err p1
    | stuck => rw [e2] at p1; exact (nn.st p1).elim
  | err z S1 => rw [e1] at p; exact nn.err p
  | stuck => rw [e1] at p; exact (nn.st p).elim
/-- f(e, .., k = v, ..), with what is not said filled up -/
theorem te_callP (C : ClP X.prog X.w X.K X.mg X.base G k x ps n ks gD F) (hr : Room k X.A) (hx : Passes (L2.CX X.prog X.w) X E) (ha : PA X (e :: es) (tTs G E φs)) (hkw : PK X kws (tTs G E χs)) (hn : XsLen φs n := by first | exact xl_nil | (repeat (refine xl_cons ?_)); exact xl_nil) (hn2 : XsLen χs ks.length := by first | exact xl_nil | (repeat (refine xl_cons ?_)); exact xl_nil)
    (hall : (backToKw pos (keywordEach kws X.env)).all (·.1.isSome) = true := by rfl) (hks : (backToKw pos (keywordEach kws X.env)).filterMap (·.1) = ks := by rfl)
    (hg : Gl X x := by rfl) (hK : X.K = G.K := by rfl) (hdb : (x == ("__debug__" : Str)) = false := by decide) (he : starEach (e :: es) X.env = (false, eval e X.env) :: starEach es X.env := by rfl)
    (hpl : ((backTo pos (starEach (e :: es) X.env)).any (·.1) || (backToKw pos (keywordEach kws X.env)).any (·.1.isNone)) = false := by rfl) : PE X (.Call (.Name x p) (e :: es) kws pos) (tT G E (xFnP F gD φs χs)) := by
  obtain ⟨f, fd, hm, hk, ⟨g, gV, kb, hD⟩, G1⟩ := C.ex
  refine PE.imp (pe_callN G1 hr hg hm hk (by rw [hK]; exact kb) hx ha hkw hall hks hdb he hpl) fun σ H Q h => ?_
  obtain ⟨m, env, S, rs, re, p⟩ := h
  refine two_l (nE Q) rs re p hn hn2 fun ds es S2 m' H' vs us g' rs' _ r1 r2 l1 l2 p2 => ?_
  obtain ⟨r3, l3⟩ := hD m' H' ds vs es us r1 r2 l1 l2
  exact ⟨by rw [← r1.length]; exact l1, by rw [← r2.length]; exact l2, m', _, S2, rs', r3, l3, p2⟩
theorem make_inP {m : Mp} {H : Hp} {S : Sd} {ds es : List D} {vs us : List V} {C : Addr} {c : String} {Q : VK} {fd : FuncData} {gV : List V → List V → List V} (rs : RepS G m H S) (r1 : Reps G m H ds vs) (r2 : Reps G m H es us) (l1 : ds.length = n) (l2 : es.length = ks.length)
    (hD : ∀ (m : Mp) (H : Hp) (ds : List D) (vs : List V) (es : List D) (us : List V), Reps G m H ds vs → Reps G m H es us → ds.length = n + 1 → es.length = ks.length → Reps G m H (gD ds es) (gV vs us) ∧ (gD ds es).length = ps.length) (hc : G.mg (Str.ofString c) = some (.ref C)) (hm : c ∈ G.cs) (p : Po G m H E (newRP c F gD ds es S) Q) :
    ∀ x dx, H x = none → H dx = none → dx ≠ x → spT G F ps.length (gV (.ref x :: vs) us) (upd (upd H dx (.own x)) x (.ins C dx [])) (fun v H2 => v = .non ∧ Q (.ref x) H2) E := fun x dx hx hd ne => by
  obtain ⟨g, rs2⟩ := made_go rs hx hd ne hc hm
  obtain ⟨p1, p2, p3⟩ := p.exit rs
  have hself : Rep G (m.add x) (upd (upd H dx (.own x)) x (.ins C dx [])) (.hnd S.length) (.ref x) := ⟨x, by
    show (m.hs ++ [x])[S.length]? = some x
    rw [← rs.len, List.getElem?_append_right (Nat.le_refl _), Nat.sub_self]
    rfl, rfl⟩
  obtain ⟨r3, l3⟩ := hD (m.add x) _ (.hnd S.length :: ds) (.ref x :: vs) es us ⟨.ref x, vs, rfl, hself, Reps.go g _ _ r1⟩ (Reps.go g _ _ r2) (by rw [List.length_cons, l1]) l2
  refine ⟨m.add x, _, S ++ [.ins c [] []], rs2, r3, l3, ?_⟩
  cases e : F (gD (.hnd S.length :: ds) es) (S ++ [.ins c [] []]) with
  | ok r S2 =>
    rw [e] at p1 p2 p3
    intro m2 H2 v g2 rs3 rr
    cases r with
    | non => exact ⟨rr, p1 (.hnd S.length) S2 m2 H2 (.ref x) rfl (g.trans g2) rs3 (Rep.go g2 _ _ hself)⟩
    | _ => exact absurd rfl p3
  | err z S2 =>
    rw [e] at p2
    exact fun m2 H2 cls dx2 g2 => p2 z S2 rfl m2 H2 cls dx2 (g.trans g2)
  | stuck => rw [e] at p3; exact absurd rfl p3
theorem te_makeP {c : String} (M : McP X.prog X.w X.K X.mg X.base G k c ps n ks gD F) (hr : Room (k + 1) X.A) (hx : Passes (L2.CX X.prog X.w) X E) (ha : PA X (e :: es) (tTs G E φs)) (hkw : PK X kws (tTs G E χs)) (hn : XsLen φs n := by first | exact xl_nil | (repeat (refine xl_cons ?_)); exact xl_nil) (hn2 : XsLen χs ks.length := by first | exact xl_nil | (repeat (refine xl_cons ?_)); exact xl_nil)
    (hall : (backToKw pos (keywordEach kws X.env)).all (·.1.isSome) = true := by rfl) (hks : (backToKw pos (keywordEach kws X.env)).filterMap (·.1) = ks := by rfl)
    (hg : Gl X (Str.ofString c) := by rfl) (hK : X.K = G.K := by rfl) (hmg : X.mg = G.mg := by rfl) (hdb : (Str.ofString c == ("__debug__" : Str)) = false := by decide) (he : starEach (e :: es) X.env = (false, eval e X.env) :: starEach es X.env := by rfl)
    (hpl : ((backTo pos (starEach (e :: es) X.env)).any (·.1) || (backToKw pos (keywordEach kws X.env)).any (·.1.isNone)) = false := by rfl) : PE X (.Call (.Name (Str.ofString c) p) (e :: es) kws pos) (tT G E (xNewP c F gD φs χs)) := by
  obtain ⟨C, f, fd, hc, hm, M1, ⟨g, gV, kb, hD⟩, G1⟩ := M.ex
  refine PE.imp (pe_makeK M1 G1 hr hg hc (by rw [hK]; exact kb) hx ha hkw hall hks hdb he hpl) fun σ H Q h => ?_
  obtain ⟨m, env, S, rs, re, p⟩ := h
  refine two_l (nE Q) rs re p hn hn2 fun ds es S2 m' H' vs us g' rs' _ r1 r2 l1 l2 p2 => ?_
  exact ⟨by rw [← r1.length]; exact l1, by rw [← r2.length]; exact l2, make_inP (fd := fd) rs' r1 r2 l1 l2 hD (by rw [← hmg]; exact hc) hm p2⟩
theorem te_makeP0 {c : String} (M : McP X.prog X.w X.K X.mg X.base G k c ps 0 ks gD F) (hr : Room (k + 1) X.A) (hx : Passes (L2.CX X.prog X.w) X E) (hkw : PK X kws (tTs G E χs)) (hn2 : XsLen χs ks.length := by first | exact xl_nil | (repeat (refine xl_cons ?_)); exact xl_nil)
    (hall : (backToKw pos (keywordEach kws X.env)).all (·.1.isSome) = true := by rfl) (hks : (backToKw pos (keywordEach kws X.env)).filterMap (·.1) = ks := by rfl)
    (hg : Gl X (Str.ofString c) := by rfl) (hK : X.K = G.K := by rfl) (hmg : X.mg = G.mg := by rfl) (hdb : (Str.ofString c == ("__debug__" : Str)) = false := by decide)
    (hpl : ((backTo pos (starEach [] X.env)).any (·.1) || (backToKw pos (keywordEach kws X.env)).any (·.1.isNone)) = false := by rfl) : PE X (.Call (.Name (Str.ofString c) p) [] kws pos) (tT G E (xNewP c F gD xsNil χs)) := by
  obtain ⟨C, f, fd, hc, hm, M1, ⟨g, gV, kb, hD⟩, G1⟩ := M.ex
  refine PE.imp (pe_makeK0 M1 G1 hr hg hc (by rw [hK]; exact kb) hx hkw hall hks hdb hpl) fun σ H Q h => ?_
  obtain ⟨m, env, S, rs, re, p⟩ := h
  have t := two_l (Q := fun vs us H2 => vs.length = 0 ∧ us.length = ks.length ∧ ∀ x dx, H2 x = none → H2 dx = none → dx ≠ x → spT G F ps.length (gV (.ref x :: vs) us) (upd (upd H2 dx (.own x)) x (.ins C dx [])) (fun v H3 => v = .non ∧ Q (.ref x) H3) E) (nE Q) rs re p xl_nil hn2 fun ds es S2 m' H' vs us g' rs' _ r1 r2 l1 l2 p2 => ⟨by rw [← r1.length]; exact l1, by rw [← r2.length]; exact l2, make_inP (n := 0) (fd := fd) rs' r1 r2 l1 l2 hD (by rw [← hmg]; exact hc) hm p2⟩
  obtain ⟨m1, env1, S1, rs1, re1, q⟩ := t
  exact q m1 H [] (.refl _ _) rs1 rfl
/-- C.m(..), m a static method -/
theorem te_sm {c m : String} {pl : Sem Bool} (M : Sm X.prog X.w X.K X.mg X.base G k c m ps F) (hr : Room k X.A) (hx : Passes (L2.CX X.prog X.w) X E) (ha : PA X (e :: es) (tTs G E φs)) (hn : XsLen φs ps.length := by first | exact xl_nil | (repeat (refine xl_cons ?_)); exact xl_nil)
    (hg : Gl X (Str.ofString c) := by rfl) (hdb : (Str.ofString c == ("__debug__" : Str)) = false := by decide) (hst : starEach (e :: es) X.env = (false, eval e X.env) :: starEach es X.env := by rfl) (hpl : (backTo pos (starEach es X.env)).any (·.1) = false := by rfl)
    (ht : eval (.Call (.Attribute (.Name (Str.ofString c) p2) (Str.ofString m) apos) (e :: es) [] pos) X.env = (do
      let ov ← eval (.Name (Str.ofString c) p2) X.env
      standAt apos.atName
      let (f, first) ← holding [ov] (getMethod ov (Str.ofString m) pl)
      callWith pos f first (backTo pos (starEach (e :: es) X.env)) (backToKw pos (keywordEach [] X.env))) := by rfl) : PE X (.Call (.Attribute (.Name (Str.ofString c) p2) (Str.ofString m) apos) (e :: es) [] pos) (tT G E (xFn F φs)) := by
  obtain ⟨C, f, fd, hc, M1, hb, G1⟩ := M.ex
  refine PE.imp (pe_smeth (pe_glob (v := .ref C) hg hc rfl hdb) M1 G1 hr hb hx ha hst hpl ht) fun σ H Q h => ?_
  obtain ⟨m0, env, S, rs, re, p⟩ := h
  unfold xFn at p
  refine ⟨rfl, m0, env, S, rs, re, ?_⟩
  cases e1 : φs env S with
  | ok ds S1 =>
    rw [e1] at p
    intro m1 H1 vs g rs1 rv
    exact ⟨m1, ds, S1, rs1, rv, hn.at e1, Po.go g p⟩
  | err x S1 => rw [e1] at p; exact p
  | stuck => rw [e1] at p; exact p
theorem te_smP {c m : String} {pl : Sem Bool} (M : SmP X.prog X.w X.K X.mg X.base G k c m ps ks gD F) (hr : Room k X.A) (hx : Passes (L2.CX X.prog X.w) X E) (hkw : PK X kws (tTs G E χs)) (hn2 : XsLen χs ks.length := by first | exact xl_nil | (repeat (refine xl_cons ?_)); exact xl_nil)
    (hall : (backToKw pos (keywordEach kws X.env)).all (·.1.isSome) = true := by rfl) (hks : (backToKw pos (keywordEach kws X.env)).filterMap (·.1) = ks := by rfl)
    (hpl : ((backTo pos (starEach [] X.env)).any (·.1) || (backToKw pos (keywordEach kws X.env)).any (·.1.isNone)) = false := by rfl) (hg : Gl X (Str.ofString c) := by rfl) (hK : X.K = G.K := by rfl) (hdb : (Str.ofString c == ("__debug__" : Str)) = false := by decide)
    (ht : eval (.Call (.Attribute (.Name (Str.ofString c) p2) (Str.ofString m) apos) [] kws pos) X.env = (do
      let ov ← eval (.Name (Str.ofString c) p2) X.env
      standAt apos.atName
      let (f, first) ← holding [ov] (getMethod ov (Str.ofString m) pl)
      callWith pos f first (backTo pos (starEach [] X.env)) (backToKw pos (keywordEach kws X.env))) := by rfl) : PE X (.Call (.Attribute (.Name (Str.ofString c) p2) (Str.ofString m) apos) [] kws pos) (tT G E (xFnP F gD xsNil χs)) := by
  obtain ⟨C, f, fd, hc, M1, ⟨g, gV, kb, hD⟩, G1⟩ := M.ex
  refine PE.imp (pe_smethK (pe_glob (v := .ref C) hg hc rfl hdb) M1 G1 hr (by rw [hK]; exact kb) hx hkw hall hks hpl ht) fun σ H Q h => ?_
  obtain ⟨m0, env, S, rs, re, p⟩ := h
  have t := two_l (Q := fun vs us H2 => us.length = ks.length ∧ spT G F ps.length (gV [] us) H2 Q E) (nE Q) rs re p xl_nil hn2 fun ds es S2 m' H' vs us g' rs' _ r1 r2 l1 l2 p2 => by
    have : ds = [] := List.length_eq_zero_iff.mp l1
    subst this
    obtain ⟨r3, l3⟩ := hD m' H' [] [] es us rfl r2 rfl l2
    exact ⟨by rw [← r2.length]; exact l2, m', _, S2, rs', r3, l3, p2⟩
  obtain ⟨m1, env1, S1, rs1, re1, q⟩ := t
  exact ⟨rfl, q m1 H [] (.refl _ _) rs1 rfl⟩
end
end Den

namespace Den
open PySem PySem.Spec PyProof.Rows L2
/-! ## comprehensions with two sources -/
def lcL2 (γ : TGt) (c : TC) (κ1 : TW) (γ1 : TGt) (c1 : TC) (φ : TX) (vs1 : List Nat) (env0 : En) (w : Sd → Bool) : List D → Sd → R (List D)
  | [], S => guardR (w S) (.ok [] S)
  | d :: ds, S => guardR (w S) ((noX (γ d env0 S)).bind fun env1 S1 => (noX (c env1 S1)).bind fun b S2 => if b = true then (noX (κ1 env1 S2)).bind fun ds1 S3 => (lcL γ1 c1 φ (wipeE env1 vs1) ds1.p ds1.l S3).bind fun ys S4 => (lcL2 γ c κ1 γ1 c1 φ vs1 env0 w ds S4).bind fun zs S5 => .ok (ys ++ zs) S5 else lcL2 γ c κ1 γ1 c1 φ vs1 env0 w ds S2)
def xLc2 (κ : TW) (γ : TGt) (c : TC) (κ1 : TW) (γ1 : TGt) (c1 : TC) (φ : TX) (vs vs1 : List Nat) : TX := fun env S => (κ env S).bind fun ds S1 => (lcL2 γ c κ1 γ1 c1 φ vs1 (wipeE env vs) ds.p ds.l S1).bind fun ys S2 => guardR (decide (ys.length ≤ sizeLine)) (.ok (.lst ys) S2)
theorem guard_err {α : Type} {c : Bool} {r : R α} {e : D} {S' : Sd} (h : guardR c r = .err e S') : r = .err e S' := by cases c with | true => exact h | false => cases h
theorem lcL_noerr {γ : TGt} {c : TC} {φ : TX} {env0 : En} {w : Sd → Bool} : ∀ {ds : List D} {S : Sd} {e : D} {S' : Sd}, lcL γ c φ env0 w ds S ≠ .err e S'
  | [], S, e, S', h => by
    rw [lcL] at h
    cases guard_err h
  | d :: ds, S, e, S', h => by
    rw [lcL] at h
    replace h := guard_err h
    cases e1 : γ d env0 S with
    | ok env1 S1 =>
      rw [e1] at h
      simp only [noX_ok, R.bind_ok] at h
      cases e2 : c env1 S1 with
      | ok b S2 =>
        rw [e2] at h
        simp only [noX_ok, R.bind_ok] at h
        cases b with
        | false => exact lcL_noerr h
        | true =>
          simp only [if_true] at h
          cases e3 : φ env1 S2 with
          | ok y S3 =>
            rw [e3] at h
            simp only [noX_ok, R.bind_ok] at h
            cases e4 : lcL γ c φ env0 w ds S3 with
            | ok ys S4 => rw [e4] at h; cases h
            | err x S4 => exact lcL_noerr e4
            | stuck => rw [e4] at h; cases h
          | err x S3 => rw [e3] at h; cases h
          | stuck => rw [e3] at h; cases h
      | err x S2 => rw [e2] at h; cases h
      | stuck => rw [e2] at h; cases h
    | err x S1 => rw [e1] at h; cases h
    | stuck => rw [e1] at h; cases h
theorem lcL2_noerr {γ : TGt} {c : TC} {κ1 : TW} {γ1 : TGt} {c1 : TC} {φ : TX} {vs1 : List Nat} {env0 : En} {w : Sd → Bool} : ∀ {ds : List D} {S : Sd} {e : D} {S' : Sd}, lcL2 γ c κ1 γ1 c1 φ vs1 env0 w ds S ≠ .err e S'
  | [], S, e, S', h => by
    rw [lcL2] at h
    cases guard_err h
  | d :: ds, S, e, S', h => by
    rw [lcL2] at h
    replace h := guard_err h
    cases e1 : γ d env0 S with
    | ok env1 S1 =>
      rw [e1] at h
      simp only [noX_ok, R.bind_ok] at h
      cases e2 : c env1 S1 with
      | ok b S2 =>
        rw [e2] at h
        simp only [noX_ok, R.bind_ok] at h
        cases b with
        | false => exact lcL2_noerr h
        | true =>
          simp only [if_true] at h
          cases e3 : κ1 env1 S2 with
          | ok y S3 =>
            rw [e3] at h
            simp only [noX_ok, R.bind_ok] at h
            cases e4 : lcL γ1 c1 φ (wipeE env1 vs1) y.p y.l S3 with
            | ok ys S4 =>
              rw [e4] at h
              simp only [R.bind_ok] at h
              cases e5 : lcL2 γ c κ1 γ1 c1 φ vs1 env0 w ds S4 with
              | ok zs S5 => rw [e5] at h; cases h
              | err x S5 => exact lcL2_noerr e5
              | stuck => rw [e5] at h; cases h
            | err x S4 => exact lcL_noerr e4
            | stuck => rw [e4] at h; cases h
          | err x S3 => rw [e3] at h; cases h
          | stuck => rw [e3] at h; cases h
      | err x S2 => rw [e2] at h; cases h
      | stuck => rw [e2] at h; cases h
    | err x S1 => rw [e1] at h; cases h
    | stuck => rw [e1] at h; cases h
section
variable {G : Gm} {E : XK} {β : Type}
/-- a walk's list is there, or the wish is false -/
theorem partXW {m : Mp} {H : Hp} {κ : TW} {wi : TI} {Y : Cx} {tg iter : Expr} (hi : PIT Y G E0 tg iter κ wi) {P : R β → Prop} {k : Wl → Sd → R β} {env : En} {S : Sd} {σ : L2.St} {Q : It → Hp → Prop} (rs : RepS G m H S) (re : RepE G m H env σ) (n : ¬ P .stuck) (p : P ((noX (κ env S)).bind k))
    (h : ∀ ds w S' m' H' J, Go m H m' H' → RepS G m' H' S' → Wk G J m' H' ds w → κ env S = .ok ⟨ds, w⟩ S' → Q J H') : wi σ H Q := by
  cases e : κ env S with
  | ok ds S' =>
    exact hi.ok (P := fun _ _ r => r = R.ok ds S') (k := fun e S => .ok e S) ⟨fun _ h => h, (fun h => nomatch h), (fun h => nomatch h)⟩ rs re (by rw [e]; rfl) fun ds2 w2 S2 m2 H2 J g2 rs2 wk h2 => by
      cases h2
      exact h _ _ _ m2 H2 J g2 rs2 wk e
  | err x S' => rw [e] at p; exact (n p).elim
  | stuck => rw [e] at p; exact (n p).elim
theorem lc_in2 {tg tg1 iter iter1 : Expr} {κ κ1 : TW} {γ γ1 : TGt} {c c1 : TC} {φ : TX} {is is1 vs vs1 : List Nat} {g g1 : TG} {tt tt1 : TT} {wi wi1 : TI} {Y : Cx} {X : Cx}
    (hi : PIT X G E tg iter κ wi) (hi1 : PIT Y G E0 tg1 iter1 κ1 wi1) (hg : PGT Y G E0 tg γ is g) (hg1 : PGT Y G E0 tg1 γ1 is1 g1) (hin : ∀ i ∈ is, i ∈ vs) (hin1 : ∀ i ∈ is1, i ∈ vs1) (ht : ∀ σ H Q, tTc G E0 c σ H Q → tt σ H Q) (ht1 : ∀ σ H Q, tTc G E0 c1 σ H Q → tt1 σ H Q)
    {σ : L2.St} {H : Hp} {Q : VK} {m : Mp} {env : En} {S : Sd} (rs : RepS G m H S) (re : RepE G m H env σ) (p : Po G m H E (xLc2 κ γ c κ1 γ1 c1 φ vs vs1 env S) Q) : tLc2 wi g tt wi1 g1 tt1 (tT G E0 φ) vs vs1 σ H Q := by
  have k2 := @hg.ok
  have k21 := @hg1.ok
  refine hi.ok (nE Q) rs re p fun ds w S1 m1 H1 J g0 rs1 wk p1 => ?_
  intro da hD
  have re1 := re.go g0
  let fin : List D → Sd → R D := fun ys S2 => guardR (decide (ys.length ≤ sizeLine)) (.ok (.lst ys) S2)
  have room : ∀ {r : R (List D)} {acc : List D} {d : D} , (∀ e S', r ≠ .err e S') → Po G m1 H1 E (r.bind fun ys S2 => fin (acc ++ (d :: ys)) S2) Q → acc.length < sizeLine := fun {r acc d} ne q => by
    cases r with
    | ok ys S2 =>
      obtain ⟨c, _⟩ := Po.guard (show Po G m1 H1 E (guardR (decide ((acc ++ (d :: ys)).length ≤ sizeLine)) (.ok (.lst (acc ++ (d :: ys))) S2)) Q from q)
      have := of_decide_eq_true c
      rw [List.length_append, List.length_cons] at this
      omega
    | err e S' => exact absurd rfl (ne e S')
    | stuck => exact q.elim
  refine ⟨fun i n Hc => n = ds.length - i ∧ i ≤ ds.length ∧ ∃ m' S' acc us, GoD m1 H1 da m' Hc ∧ RepS G m' Hc S' ∧ Hc da = some (.lst us) ∧ Reps G m' Hc acc us ∧
    Po G m1 H1 E ((lcL2 γ c κ1 γ1 c1 φ vs1 (wipeE env vs) w (ds.drop i) S').bind fun ys S2 => fin (acc ++ ys) S2) Q, ⟨_, rfl, Nat.zero_le _, m1.gst da, S1, [], [], .start hD _, gst_rs rs1 hD, upd_same, rfl, p1⟩, ?_⟩
  rintro i n H2 ⟨rfl, hi', m2, S2, acc, us, g2, rs2, hD2, ra, p3⟩
  have e0 : m2.gh = da :: m1.gh := g2.gh
  have gAll : Mv m1 H1 m2 H2 := g2.mv hD
  by_cases hlt : i < ds.length
  · have ed : ds.drop i = ds[i] :: ds.drop (i + 1) := List.drop_eq_getElem_cons hlt
    rw [ed, lcL2] at p3
    obtain ⟨cw, p3⟩ := nice_guard (nE Q) p3
    obtain ⟨go, st⟩ := wk.step m2 H2 S2 i _ gAll rs2 cw (List.getElem?_eq_getElem hlt)
    refine .inr ⟨go, fun Hc => i + 1 ≤ ds.length ∧ ∃ m' S' acc us, GoD m1 H1 da m' Hc ∧ RepS G m' Hc S' ∧ Hc da = some (.lst us) ∧ Reps G m' Hc acc us ∧
      Po G m1 H1 E ((lcL2 γ c κ1 γ1 c1 φ vs1 (wipeE env vs) w (ds.drop (i + 1)) S').bind fun ys S2 => fin (acc ++ ys) S2) Q, fun H' w => ⟨_, by omega, rfl, w⟩, fun x H3 y => ?_⟩
    obtain ⟨s3, r3⟩ := st x H3 y
    have g3 : Go m2 H2 m2 H3 := .of s3
    have rs3 := rs2.same s3
    have nD : ∀ {m : Mp} {H : Hp}, Go m2 H2 m H → H da = some (.lst us) := fun g => g.fr _ _ hD2 fun z => (rs2.gh da (by rw [e0]; exact List.mem_cons_self)).2 z
    have nG : ∀ {m : Mp} {H : Hp}, Go m2 H2 m H → da ∈ m.gh := fun g => by
      obtain ⟨n, e, _⟩ := g.ext
      rw [e]
      show da ∈ m2.gh
      rw [e0]
      exact List.mem_cons_self
    rw [bind_assoc] at p3
    cases eγ : γ ds[i] (wipeE env vs) S2 with
    | err e S' => rw [eγ] at p3; exact p3.elim
    | stuck => rw [eγ] at p3; exact p3.elim
    | ok env1 S1' =>
      rw [eγ, noX_ok, R.bind_ok, bind_assoc] at p3
      have re3 : RepE G m2 H3 (wipeE env vs) (L2.wipe σ vs) := ⟨(re1.wipe vs).len, fun j d h => by
        obtain ⟨v, e1, q⟩ := (re1.wipe vs).at_ j d h
        exact ⟨v, e1, Rep.go g3 _ _ (Rep.mv gAll _ _ q)⟩⟩
      refine k2 (P := fun _ _ r => r = R.ok env1 S1') (k := fun e S => .ok e S) ⟨fun _ h => h, (fun h => nomatch h), (fun h => nomatch h)⟩ rs3 re3 r3 (by rw [eγ]; rfl) fun env' S' m4 H4 σ4 g4 rs4 re4 w4 h4 => ?_
      cases h4
      refine ⟨by rw [w4 vs hin, wipe_wipe fun _ h => h], ht _ _ _ ⟨m4, env1, S1', rs4, re4, partXC (P := fun r => Po G m1 H1 E r Q) (fun z => z) p3 fun b S5 m5 H5 g5 rs5 ec => ?_⟩⟩
      rw [ec, noX_ok, R.bind_ok] at p3
      have g25 := (g3.trans g4).trans g5
      cases b with
      | false => exact iteF ⟨hlt, m5, S5, acc, us, g2.trans ⟨_, hD2⟩ g25, rs5, nD g25, Reps.go g25 _ _ ra, p3⟩
      | true =>
        simp only [if_true] at p3
        rw [bind_assoc] at p3
        have re5 := re4.go g5
        refine iteT (partXW hi1 (P := fun r => Po G m1 H1 E r Q) rs5 re5 (fun z => z) p3 fun ds1 w1 S6 m6 H6 J1 g6 rs6 wk1 eκ => ?_)
        rw [eκ, noX_ok, R.bind_ok, bind_assoc] at p3
        have g26 := g25.trans g6
        refine ⟨fun j n Hc => n = ds1.length - j ∧ j ≤ ds1.length ∧ ∃ m' S' acc us, Mv m6 H6 m' Hc ∧ GoD m1 H1 da m' Hc ∧ RepS G m' Hc S' ∧ Hc da = some (.lst us) ∧ Reps G m' Hc acc us ∧
          Po G m1 H1 E ((lcL γ1 c1 φ (wipeE env1 vs1) w1 (ds1.drop j) S').bind fun ys S4 => ((lcL2 γ c κ1 γ1 c1 φ vs1 (wipeE env vs) w (ds.drop (i + 1)) S4).bind fun zs S5 => .ok (ys ++ zs) S5).bind fun ys S2 => fin (acc ++ ys) S2) Q,
          ⟨_, rfl, Nat.zero_le _, m6, S6, acc, us, ⟨fun h na => ⟨h, na⟩, fun h => h⟩, g2.trans ⟨_, hD2⟩ g26, rs6, nD g26, Reps.go g26 _ _ ra, p3⟩, ?_⟩
        rintro j n7 H7 ⟨rfl, hj, m7, S7, acc7, us7, mv7, g7, rs7, hD7, ra7, p7⟩
        have e7 : m7.gh = da :: m1.gh := g7.gh
        by_cases hjt : j < ds1.length
        · have ed1 : ds1.drop j = ds1[j] :: ds1.drop (j + 1) := List.drop_eq_getElem_cons hjt
          rw [ed1, lcL] at p7
          obtain ⟨cw1, p7⟩ := nice_guard (nE Q) p7
          obtain ⟨go1, st1⟩ := wk1.step m7 H7 S7 j _ mv7 rs7 cw1 (List.getElem?_eq_getElem hjt)
          refine .inr ⟨go1, fun Hc => j + 1 ≤ ds1.length ∧ ∃ m' S' acc us, Mv m6 H6 m' Hc ∧ GoD m1 H1 da m' Hc ∧ RepS G m' Hc S' ∧ Hc da = some (.lst us) ∧ Reps G m' Hc acc us ∧
            Po G m1 H1 E ((lcL γ1 c1 φ (wipeE env1 vs1) w1 (ds1.drop (j + 1)) S').bind fun ys S4 => ((lcL2 γ c κ1 γ1 c1 φ vs1 (wipeE env vs) w (ds.drop (i + 1)) S4).bind fun zs S5 => .ok (ys ++ zs) S5).bind fun ys S2 => fin (acc ++ ys) S2) Q, fun H' w => ⟨_, by omega, rfl, w⟩, fun x8 H8 y8 => ?_⟩
          obtain ⟨s8, r8⟩ := st1 x8 H8 y8
          have g8 : Go m7 H7 m7 H8 := .of s8
          have rs8 := rs7.same s8
          have nD7 : ∀ {m : Mp} {H : Hp}, Go m7 H7 m H → H da = some (.lst us7) := fun g => g.fr _ _ hD7 fun z => (rs7.gh da (by rw [e7]; exact List.mem_cons_self)).2 z
          have nG7 : ∀ {m : Mp} {H : Hp}, Go m7 H7 m H → da ∈ m.gh := fun g => by
            obtain ⟨n, e, _⟩ := g.ext
            rw [e]
            show da ∈ m7.gh
            rw [e7]
            exact List.mem_cons_self
          rw [bind_assoc] at p7
          cases eγ1 : γ1 ds1[j] (wipeE env1 vs1) S7 with
          | err e S' => rw [eγ1] at p7; exact p7.elim
          | stuck => rw [eγ1] at p7; exact p7.elim
          | ok env8 S8 =>
            rw [eγ1, noX_ok, R.bind_ok, bind_assoc] at p7
            have re8 : RepE G m7 H8 (wipeE env1 vs1) (L2.wipe σ4 vs1) := ⟨(re5.wipe vs1).len, fun j d h => by
              obtain ⟨v, e1, q⟩ := (re5.wipe vs1).at_ j d h
              exact ⟨v, e1, Rep.go g8 _ _ (Rep.mv mv7 _ _ (Rep.go g6 _ _ q))⟩⟩
            refine k21 (P := fun _ _ r => r = R.ok env8 S8) (k := fun e S => .ok e S) ⟨fun _ h => h, (fun h => nomatch h), (fun h => nomatch h)⟩ rs8 re8 r8 (by rw [eγ1]; rfl) fun env' S' m9 H9 σ9 g9 rs9 re9 w9 h9 => ?_
            cases h9
            refine ⟨by rw [w9 vs1 hin1, wipe_wipe fun _ h => h], ht1 _ _ _ ⟨m9, env8, S8, rs9, re9, partXC (P := fun r => Po G m1 H1 E r Q) (fun z => z) p7 fun b SA mA HA gA rsA ecA => ?_⟩⟩
            rw [ecA, noX_ok, R.bind_ok] at p7
            have g7A := (g8.trans g9).trans gA
            have mvA : Mv m6 H6 mA HA := ⟨fun h na => let ⟨a, b⟩ := mv7.out h na; g7A.out a b, fun h => g7A.ix (mv7.ix h)⟩
            cases b with
            | false => exact iteF ⟨hjt, mA, SA, acc7, us7, mvA, g7.trans ⟨_, hD7⟩ g7A, rsA, nD7 g7A, Reps.go g7A _ _ ra7, p7⟩
            | true =>
              simp only [if_true] at p7
              rw [bind_assoc] at p7
              refine iteT ⟨mA, env8, SA, rsA, re9.go gA, partXE (P := fun r => Po G m1 H1 E r Q) (fun z => z) p7 fun d SB mB HB v gB rsB rv ed => ?_⟩
              rw [ed, noX_ok, R.bind_ok, bind_assoc] at p7
              have g7B := g7A.trans gB
              obtain ⟨mv, rsC⟩ := gst_fill (o := .lst (us7 ++ [v])) rsB (nG7 g7B)
              have raB := Reps.go g7B _ _ ra7
              have hlen : acc7.length < sizeLine := by
                simp only [R.bind_ok] at p7
                cases eL : lcL γ1 c1 φ (wipeE env1 vs1) w1 (ds1.drop (j + 1)) SB with
                | ok ys S4 =>
                  rw [eL] at p7
                  simp only [R.bind_ok] at p7
                  cases eM : lcL2 γ c κ1 γ1 c1 φ vs1 (wipeE env vs) w (ds.drop (i + 1)) S4 with
                  | ok zs S5 =>
                    rw [eM] at p7
                    exact room (r := .ok (ys ++ zs) S5) (fun _ _ h => nomatch h) p7
                  | err z S5 => exact absurd eM lcL2_noerr
                  | stuck => rw [eM] at p7; exact p7.elim
                | err z S4 => exact absurd eL lcL_noerr
                | stuck => rw [eL] at p7; exact p7.elim
              refine ⟨us7, nD7 g7B, by rw [← ra7.length]; exact hlen, hjt, mB, SB, acc7 ++ [d], us7 ++ [v], ⟨fun h na => ?_, fun h => gB.ix (mvA.ix h)⟩, (g7.trans ⟨_, hD7⟩ g7B).fill hD _, rsC, upd_same, Reps.mv mv _ _ (raB.app (.one rv)), ?_⟩
              · obtain ⟨a, b⟩ := mvA.out h na
                obtain ⟨a, b⟩ := gB.out a b
                exact mv.out a b
              · have : ∀ ys S, fin ((acc7 ++ [d]) ++ ys) S = fin (acc7 ++ (d :: ys)) S := fun ys S => by rw [List.append_assoc]; rfl
                simp only [this]
                simp only [R.bind_ok] at p7
                have e2 : ∀ (ys : List D) (S4 : Sd), ((lcL2 γ c κ1 γ1 c1 φ vs1 (wipeE env vs) w (ds.drop (i + 1)) S4).bind fun zs S5 => R.ok (ys ++ zs) S5).bind (fun ys S2 => fin (acc7 ++ (d :: ys)) S2) = ((lcL2 γ c κ1 γ1 c1 φ vs1 (wipeE env vs) w (ds.drop (i + 1)) S4).bind fun zs S5 => R.ok (d :: ys ++ zs) S5).bind (fun ys S2 => fin (acc7 ++ ys) S2) := fun ys S4 => by
                  rw [bind_assoc, bind_assoc]
                  rfl
                simp only [e2]
                exact p7
        · have e : j = ds1.length := by omega
          subst e
          rw [List.drop_length, lcL] at p7
          obtain ⟨cw1, p7⟩ := nice_guard (nE Q) p7
          refine .inl ⟨wk1.stop m7 H7 S7 mv7 rs7 cw1, hlt, m7, S7, acc7, us7, g7, rs7, hD7, ra7, ?_⟩
          simp only [R.bind_ok, List.nil_append, bind_assoc] at p7
          exact p7
  · have e : i = ds.length := by omega
    subst e
    rw [List.drop_length, lcL2] at p3
    obtain ⟨cw, p3⟩ := nice_guard (nE Q) p3
    obtain ⟨g4, rs4, rv4, nd⟩ := lc_end hD rs1 g2 rs2 ra
    refine .inl ⟨wk.stop _ H2 S2 g4.mv rs4 cw, ?_⟩
    simp only [R.bind_ok, List.append_nil] at p3
    obtain ⟨c, p5⟩ := Po.guard (show Po G m1 H1 E (guardR (decide (acc.length ≤ sizeLine)) (.ok (.lst acc) S2)) Q from p3)
    exact p5 _ H2 _ g4 rs4 ⟨da, us, rfl, ⟨hD2, nd⟩, rv4⟩
end
section
variable {X : Cx} {G : Gm} {E : XK} {elt tg iter tg1 iter1 : Expr} {κ κ1 : TW} {γ γ1 : TGt} {φ : TX} {is is1 : List Nat} {g g1 : TG} {wi wi1 : TI} {scope : Scope} {own : List (Str × Nat)} {vs1 : List Nat} {pos : PySem.Pos} {e : Expr}
/-- [elt for tg in iter for tg1 in iter1] -/
theorem te_lc2 (hc : X.calm = true) (hN : X.N.Nodup) (hi : PIT X G E tg iter κ wi) (ok : BlkOk X.N X.env.scope scope own) (hv : ∀ i ∈ vs1, i ∈ own.map (·.2))
    (hg : ∀ (s : Shared) (H : Hp) (C : Addr) (cl : List (Str × Addr)) (fp : List Addr), PGT (X.blk s H scope (compEnvC scope cl C X.env) fp) G E0 tg γ is g)
    (hi1 : ∀ (s : Shared) (H : Hp) (C : Addr) (cl : List (Str × Addr)) (fp : List Addr), PIT (X.blk s H scope (compEnvC scope cl C X.env) fp) G E0 tg1 iter1 κ1 wi1)
    (hg1 : ∀ (s : Shared) (H : Hp) (C : Addr) (cl : List (Str × Addr)) (fp : List Addr), PGT (X.blk s H scope (compEnvC scope cl C X.env) fp) G E0 tg1 γ1 is1 g1)
    (he : ∀ (s : Shared) (H : Hp) (C : Addr) (cl : List (Str × Addr)) (fp : List Addr), PE (X.blk s H scope (compEnvC scope cl C X.env) fp) elt (tT G E0 φ))
    (hin : ∀ i ∈ is, i ∈ own.map (·.2) := by decide) (hin1 : ∀ i ∈ is1, i ∈ vs1 := by decide) (hs : ∀ x, foldedSetIterable iter X.env x = pure x := by intro _; rfl) (hs1 : ∀ env x, foldedSetIterable iter1 env x = pure x := by intro _ _; rfl) :
    PE X (.ListComp elt [⟨tg, iter, [], 0⟩, ⟨tg1, iter1, [], 0⟩] scope pos) (tT G E (xLc2 κ γ cYes κ1 γ1 cYes φ (own.map (·.2)) vs1)) :=
  PE.imp (pe_lc2 hc hN hi.pi ok hv (fun s H C cl fp => (hg s H C cl fp).pg) (fun _ _ _ _ _ => pts_nil) (fun s H C cl fp => (hi1 s H C cl fp).pi) (fun s H C cl fp => (hg1 s H C cl fp).pg) (fun _ _ _ _ _ => pts_nil) he hs hs1) fun σ H Q h => by
    obtain ⟨m, env, S, rs, re, p⟩ := h
    have yes : ∀ σ H Q, tTc G E0 cYes σ H Q → tYes σ H Q := fun σ H Q h => by
      obtain ⟨m, env, S, rs, re, p⟩ := h
      exact PoC.here p rs
    exact lc_in2 hi (hi1 X.s_0 H 0 [] []) (hg X.s_0 H 0 [] []) (hg1 X.s_0 H 0 [] []) hin hin1 yes yes rs re p
end
end Den

namespace Den
open PySem PySem.Spec PyProof.Rows L2
/-! ## what the derivations of a program lean on -/
structure Bn (mg : Str → Option Value) : Prop where
  isinstance : mg "isinstance" = none
  int : mg "int" = none
  bool : mg "bool" = none
  list : mg "list" = none
  tuple : mg "tuple" = none
  dict : mg "dict" = none
  all : mg "all" = none
  any : mg "any" = none
  len : mg "len" = none
  range : mg "range" = none
  abs : mg "abs" = none
  str : mg "str" = none
  sum : mg "sum" = none
  min : mg "min" = none
  max : mg "max" = none
  enumerate : mg "enumerate" = none
  zip : mg "zip" = none
  reversed : mg "reversed" = none
  sorted : mg "sorted" = none
  set : mg "set" = none
theorem hu64 {k : Nat} {A : Around} (hr : Room k A) : A.units + 64 < cLine := hr.units
theorem hu65 {k : Nat} {A : Around} (hr : Room k A) : A.units + 65 < cLine := by have := hr.un; omega
theorem hu3 {k : Nat} {A : Around} (hr : Room k A) : A.units + 3 < cLine := by have := hr.un; omega
section
variable {X : Cx} {G : Gm} {E : XK}
theorem pdef (hs : X.stack = X.env :: X.outer := by rfl) (hf : X.env.frame = some X.env.locals := by rfl) (hex : X.ex = [] := by rfl) {E₁ : Value → Shared → Prop}
    (hx : X.xe = fun e s' => wpAny (model X.prog X.w) X.A (leaving X.env e) (fun _ s'' => L2.CX X.prog X.w X.outer X.H_0 X.s_0 E e s'') E₁ s' := by rfl) : Passes (L2.CX X.prog X.w) X E := passes_call (takes_of hs hf hex hx) fun _ _ _ _ h => h
/-- a tuple of the module -/
def GTup (G : Gm) (x : Str) (ds : List D) : Prop := ∃ a vs, G.mg x = some (.ref a) ∧ SqT G.K hp0 a vs ∧ ∀ m H, Reps G m H ds vs
theorem te_gtupE {x : Str} {ds : List D} {pos : PySem.Pos} (hg : Gl X x) (h : GTup G x ds) (hmg : X.mg = G.mg := by rfl) (hd : (x == ("__debug__" : Str)) = false := by decide) : PE X (.Name x pos) (tT G E (xC (.tup ds))) := by
  obtain ⟨a, vs, h1, h2, h3⟩ := h
  exact te_gtup hg (by rw [hmg]; exact h1) h2 h3 hd
/-- a dict of the module, texts to texts -/
def GDct (K : PySem.W.Frag) (mg : Str → Option Value) (w : World) (x : Str) (tab : List (String × String)) : Prop := ∃ a, mg x = some (.ref a) ∧ ∀ p ∈ tab, KDct K w a (Str.ofString p.1) (.str (Str.ofString p.2))
def oGd (tab : List (String × String)) (d : D) (S : Sd) : R D := match d with
  | .str z => match tab.find? fun p => Str.ofString p.1 == z with
    | some p => .ok (.str (Str.ofString p.2)) S
    | none => .stuck
  | _ => .stuck
theorem te_gdct {x : Str} {tab : List (String × String)} {b : Expr} {φ : TX} {pos p : PySem.Pos} (hg : Gl X x) (h : GDct G.K G.mg X.w x tab) (hb : PE X b (tT G E φ)) (hs : PlainIx b := by exact fun _ _ => rfl) (hK : X.K = G.K := by rfl) (hmg : X.mg = G.mg := by rfl) (hd : (x == ("__debug__" : Str)) = false := by decide) :
    PE X (.Subscript (.Name x p) b pos) (tT G E (xUn (oGd tab) φ)) := by
  obtain ⟨a, h1, h2⟩ := h
  refine PE.imp (pe_ix ix_kdict (pe_glob (v := .ref a) hg (by rw [hmg]; exact h1) rfl hd) hb hs) fun σ H Q h => ?_
  obtain ⟨m, env, S, rs, re, p⟩ := h
  refine ⟨m, env, S, rs, re, partE (nE Q) p fun d S1 m1 H1 v g rs1 rv p1 => ?_⟩
  unfold oGd at p1
  split at p1
  · split at p1
    · rename_i z _ q e
      have hm := List.mem_of_find?_eq_some e
      have hz : Str.ofString q.1 = z := beq_iff_eq.mp (List.find?_some (p := fun p : String × String => Str.ofString p.1 == z) e)
      rw [hK]
      exact ⟨a, z, _, rfl, rv, by rw [← hz]; exact h2 q hm, p1.here rs1 rfl⟩
    · exact p1.elim
  · exact p1.elim
/-! name = [..] on one line -/
section
variable {elt tg iter tg1 iter1 : Expr} {κ κ1 : TW} {γ γ1 : TGt} {κc : TC} {φ : TX} {is is1 vs1 : List Nat} {g g1 : TG} {wi wi1 : TI} {scope : Scope} {own : List (Str × Nat)} {pos spos py : PySem.Pos} {y : Str}
theorem asg_in {te : TE} {φ : TX} {i : Nat} (h : ∀ σ H Q, tT G E φ σ H Q → te σ H Q) (Dn : Ends) (σ : L2.St) (H : Hp) (q : tS G E (sSet i φ) Dn σ H) : tAsg te (gName i) Dn σ H := by
  obtain ⟨m, env, S, rs, re, p⟩ := q
  refine h σ H _ ⟨m, env, S, rs, re, partE (nS Dn) p fun d S1 m1 H1 v g1 rs1 r1 p1 => ?_⟩
  exact PoS.nx (show PoS G m1 H1 E (.ok (.nx (env.set i (some d))) S1) Dn from p1) rs1 ((re.go g1).set r1 i)
theorem st_setlc (i : Nat) (hc : X.calm = true) (hN : X.N.Nodup) (hi : PIT X G E tg iter κ wi) (ok : BlkOk X.N X.env.scope scope own)
    (hg : ∀ (s : Shared) (H : Hp) (C : Addr) (cl : List (Str × Addr)) (fp : List Addr), PGT (X.blk s H scope (compEnvC scope cl C X.env) fp) G E0 tg γ is g)
    (he : ∀ (s : Shared) (H : Hp) (C : Addr) (cl : List (Str × Addr)) (fp : List Addr), PE (X.blk s H scope (compEnvC scope cl C X.env) fp) elt (tT G E0 φ))
    (hin : ∀ i ∈ is, i ∈ own.map (·.2) := by decide) (hy : X.N[i]? = some y := by rfl) (hyl : X.env.scope.names.lookup y = some .local := by rfl)
    (hsw : swapsWith (.ListComp elt [⟨tg, iter, [], 0⟩] scope pos) (some (.Name y py)) spos.line X.env = pure true := by exact sw_true rfl rfl rfl (by decide +kernel)) (hs : ∀ x, foldedSetIterable iter X.env x = pure x := by intro _; rfl) :
    PS X (.Assign [.Name y py] (.ListComp elt [⟨tg, iter, [], 0⟩] scope pos) spos) (tS G E (sSet i (xLc κ γ cYes φ (own.map (·.2))))) :=
  PS.imp (ps_setLc hc hN hy hyl hsw hi.pi ok (fun s H C cl fp => (hg s H C cl fp).pg) (fun _ _ _ _ _ => pts_nil) he hs) fun Dn σ H q => asg_in (fun σ H Q h => by
    obtain ⟨m, env, S, rs, re, p⟩ := h
    exact lc_in (c := cYes) (@hi.ok) (hg X.s_0 H 0 [] []) hin (fun σ H Q h => by
      obtain ⟨m, env, S, rs, re, p⟩ := h
      exact PoC.here p rs) rs re (fun ds S' m' H' a us m1 H1 r pr er g rs' ha hn ru na _ => by
      subst er
      exact pr m' H' _ g rs' ⟨a, us, rfl, ⟨ha, na⟩, ru⟩) p) Dn σ H q
theorem st_setlcC (i : Nat) {c : Expr} (hc : X.calm = true) (hN : X.N.Nodup) (hi : PIT X G E tg iter κ wi) (ok : BlkOk X.N X.env.scope scope own)
    (hg : ∀ (s : Shared) (H : Hp) (C : Addr) (cl : List (Str × Addr)) (fp : List Addr), PGT (X.blk s H scope (compEnvC scope cl C X.env) fp) G E0 tg γ is g)
    (ht : ∀ (s : Shared) (H : Hp) (C : Addr) (cl : List (Str × Addr)) (fp : List Addr), PT (X.blk s H scope (compEnvC scope cl C X.env) fp) c (tTc G E0 κc))
    (he : ∀ (s : Shared) (H : Hp) (C : Addr) (cl : List (Str × Addr)) (fp : List Addr), PE (X.blk s H scope (compEnvC scope cl C X.env) fp) elt (tT G E0 φ))
    (hin : ∀ i ∈ is, i ∈ own.map (·.2) := by decide) (hy : X.N[i]? = some y := by rfl) (hyl : X.env.scope.names.lookup y = some .local := by rfl)
    (hsw : swapsWith (.ListComp elt [⟨tg, iter, [c], 0⟩] scope pos) (some (.Name y py)) spos.line X.env = pure true := by exact sw_true rfl rfl rfl (by decide +kernel)) (hs : ∀ x, foldedSetIterable iter X.env x = pure x := by intro _; rfl) :
    PS X (.Assign [.Name y py] (.ListComp elt [⟨tg, iter, [c], 0⟩] scope pos) spos) (tS G E (sSet i (xLc κ γ κc φ (own.map (·.2))))) :=
  PS.imp (ps_setLc hc hN hy hyl hsw hi.pi ok (fun s H C cl fp => (hg s H C cl fp).pg) (fun s H C cl fp => pts_one (ht s H C cl fp)) he hs) fun Dn σ H q => asg_in (fun σ H Q h => by
    obtain ⟨m, env, S, rs, re, p⟩ := h
    exact lc_in (c := κc) (@hi.ok) (hg X.s_0 H 0 [] []) hin (fun σ H Q h => h) rs re (fun ds S' m' H' a us m1 H1 r pr er g rs' ha hn ru na _ => by
      subst er
      exact pr m' H' _ g rs' ⟨a, us, rfl, ⟨ha, na⟩, ru⟩) p) Dn σ H q
theorem hnd_out {m1 m' : Mp} {H1 H' : Hp} {ds : List D} {S' : Sd} {a : Addr} {us : List V} {Q : VK} (pr : Po G m1 H1 E (.ok (.hnd S'.length) (S' ++ [MO.lst ds])) Q) (g : Go m1 H1 m' H') (ha : H' a = some (.lst us)) (hn : H1 a = none) (na : a ∉ m')
    (hg : ∃ mg : Mp, mg.hs = m'.hs ∧ mg.gh = a :: m'.gh ∧ RepS G mg H' S' ∧ Reps G mg H' ds us) : Q (.ref a) H' := by
  obtain ⟨mg, eh, eg, rs, ru⟩ := hg
  have g2 : Go m1 H1 (m'.add a) H' := by
    obtain ⟨n, e, f⟩ := g.ext
    refine ⟨⟨n ++ [a], by rw [e]; show (⟨(m1.hs ++ n) ++ [a], m1.gh⟩ : Mp) = _; rw [List.append_assoc], fun b h => ?_⟩, g.fr, g.dm⟩
    rcases List.mem_append.mp h with h | h
    · exact f b h
    · rw [List.mem_singleton.mp h]; exact hn
  have mv : Mv mg H' (m'.add a) H' := ⟨fun {b o} h nb => ⟨h, fun z => by
    rcases z with z | z
    · rcases List.mem_append.mp z with z | z
      · exact nb (.inl (by rw [eh]; exact z))
      · exact nb (.inr (by rw [eg, List.mem_singleton.mp z]; exact List.mem_cons_self))
    · exact nb (.inr (by rw [eg]; exact List.mem_cons_of_mem _ z))⟩, fun {i b} h => by
    rw [eh] at h
    show (m'.hs ++ [a])[i]? = some b
    rw [List.getElem?_append_left (List.getElem?_eq_some_iff.mp h).1]
    exact h⟩
  have hl : m'.hs.length = S'.length := by rw [← eh]; exact rs.len
  have na1 : a ∉ m'.hs := fun z => na (.inl z)
  refine pr (m'.add a) H' _ g2 ⟨List.nodup_append.mpr ⟨by rw [← eh]; exact rs.nd, List.pairwise_singleton .., fun b hb c hc => ?_⟩, ?_, fun b h => ⟨?_, fun z => ?_⟩, fun i o h => ?_⟩ ⟨a, ?_, rfl⟩
  · rw [List.mem_singleton.mp hc]
    intro z
    subst z
    exact na1 hb
  · show (m'.hs ++ [a]).length = _
    rw [List.length_append, List.length_append, hl]
    rfl
  · exact (rs.gh b (by rw [eg]; exact List.mem_cons_of_mem _ h)).1
  · rcases List.mem_append.mp z with z | z
    · exact (rs.gh b (by rw [eg]; exact List.mem_cons_of_mem _ h)).2 (by rw [eh]; exact z)
    · rw [List.mem_singleton.mp z] at h
      exact na (.inr h)
  · by_cases hi : i < S'.length
    · rw [List.getElem?_append_left hi] at h
      obtain ⟨b, e1, q⟩ := rs.at_ i o h
      exact ⟨b, mv.ix e1, q.mv mv fun _ h => h⟩
    · rw [List.getElem?_append_right (Nat.le_of_not_lt hi)] at h
      have h0 : i = S'.length := by
        have := (List.getElem?_eq_some_iff.mp h).1
        simp at this
        omega
      subst h0
      rw [Nat.sub_self] at h
      cases h
      refine ⟨a, ?_, us, ha, Reps.mv mv _ _ ru⟩
      show (m'.hs ++ [a])[S'.length]? = some a
      rw [← hl, List.getElem?_append_right (Nat.le_refl _), Nat.sub_self]
      rfl
  · show (m'.hs ++ [a])[S'.length]? = some a
    rw [← hl, List.getElem?_append_right (Nat.le_refl _), Nat.sub_self]
    rfl
/-- .. that will be changed -/
theorem st_setlcH (i : Nat) (hc : X.calm = true) (hN : X.N.Nodup) (hi : PIT X G E tg iter κ wi) (ok : BlkOk X.N X.env.scope scope own)
    (hg : ∀ (s : Shared) (H : Hp) (C : Addr) (cl : List (Str × Addr)) (fp : List Addr), PGT (X.blk s H scope (compEnvC scope cl C X.env) fp) G E0 tg γ is g)
    (he : ∀ (s : Shared) (H : Hp) (C : Addr) (cl : List (Str × Addr)) (fp : List Addr), PE (X.blk s H scope (compEnvC scope cl C X.env) fp) elt (tT G E0 φ))
    (hin : ∀ i ∈ is, i ∈ own.map (·.2) := by decide) (hy : X.N[i]? = some y := by rfl) (hyl : X.env.scope.names.lookup y = some .local := by rfl)
    (hsw : swapsWith (.ListComp elt [⟨tg, iter, [], 0⟩] scope pos) (some (.Name y py)) spos.line X.env = pure true := by exact sw_true rfl rfl rfl (by decide +kernel)) (hs : ∀ x, foldedSetIterable iter X.env x = pure x := by intro _; rfl) :
    PS X (.Assign [.Name y py] (.ListComp elt [⟨tg, iter, [], 0⟩] scope pos) spos) (tS G E (sSet i (xLcH κ γ cYes φ (own.map (·.2))))) :=
  PS.imp (ps_setLc hc hN hy hyl hsw hi.pi ok (fun s H C cl fp => (hg s H C cl fp).pg) (fun _ _ _ _ _ => pts_nil) he hs) fun Dn σ H q => asg_in (fun σ H Q h => by
    obtain ⟨m, env, S, rs, re, p⟩ := h
    exact lc_in (c := cYes) (fin := fun ys S2 => .ok (.hnd S2.length) (S2 ++ [MO.lst ys])) (@hi.ok) (hg X.s_0 H 0 [] []) hin (fun σ H Q h => by
      obtain ⟨m, env, S, rs, re, p⟩ := h
      exact PoC.here p rs) rs re (fun ds S' m' H' a us m1 H1 r pr er g rs' ha hn ru na hx => by
      subst er
      exact hnd_out pr g ha hn na hx) p) Dn σ H q
theorem te_lcH (hc : X.calm = true) (hN : X.N.Nodup) (hi : PIT X G E tg iter κ wi) (ok : BlkOk X.N X.env.scope scope own)
    (hg : ∀ (s : Shared) (H : Hp) (C : Addr) (cl : List (Str × Addr)) (fp : List Addr), PGT (X.blk s H scope (compEnvC scope cl C X.env) fp) G E0 tg γ is g)
    (he : ∀ (s : Shared) (H : Hp) (C : Addr) (cl : List (Str × Addr)) (fp : List Addr), PE (X.blk s H scope (compEnvC scope cl C X.env) fp) elt (tT G E0 φ))
    (hin : ∀ i ∈ is, i ∈ own.map (·.2) := by decide) (hs : ∀ x, foldedSetIterable iter X.env x = pure x := by intro _; rfl) : PE X (.ListComp elt [⟨tg, iter, [], 0⟩] scope pos) (tT G E (xLcH κ γ cYes φ (own.map (·.2)))) :=
  PE.imp (pe_lc hc hN hi.pi ok (fun s H C cl fp => (hg s H C cl fp).pg) (fun _ _ _ _ _ => pts_nil) he hs) fun σ H Q h => by
    obtain ⟨m, env, S, rs, re, p⟩ := h
    exact lc_in (c := cYes) (fin := fun ys S2 => .ok (.hnd S2.length) (S2 ++ [MO.lst ys])) (@hi.ok) (hg X.s_0 H 0 [] []) hin (fun σ H Q h => by
      obtain ⟨m, env, S, rs, re, p⟩ := h
      exact PoC.here p rs) rs re (fun ds S' m' H' a us m1 H1 r pr er g rs' ha hn ru na hx => by
      subst er
      exact hnd_out pr g ha hn na hx) p
end
/-! a, b = x, y -/
theorem st_par2 (i j : Nat) {x y : Str} {a b : Expr} {φs : TXs} {px py pt pos : PySem.Pos} {kt k2 : Nat} {pt2 : PySem.Pos} (hN : X.N.Nodup) (ha : PA X [a, b] (tTs G E φs)) (hn : XsLen φs 2 := by exact xl_cons (xl_cons xl_nil)) (hc : X.calm = true := by rfl) (hi : X.N[i]? = some x := by rfl) (hj : X.N[j]? = some y := by rfl) (hij : i ≠ j := by decide)
    (hx : X.env.scope.names.lookup x = some .local := by rfl) (hy : X.env.scope.names.lookup y = some .local := by rfl)
    (hw : swappedStores [.Tuple [.Name x px, .Name y py] kt pt] (.Tuple [a, b] k2 pt2) X.env = pure (some [x, y]) := by rfl)
    (hs : swapsWithSole [.Tuple [.Name x px, .Name y py] kt pt] (.Tuple [a, b] k2 pt2) pos.line X.env = pure false := by rfl) :
    PS X (.Assign [.Tuple [.Name x px, .Name y py] kt pt] (.Tuple [a, b] k2 pt2) pos) (tS G E (sAsg (xTup φs) (tTup [tName i, tName j]))) := PS.imp (ps_par hc hN hi hj hij hx hy ha hw hs) fun Dn σ H h => by
  obtain ⟨m, env, S, rs, re, p⟩ := h
  unfold sAsg xTup at p
  rw [bind_assoc] at p
  refine ⟨m, env, S, rs, re, ?_⟩
  cases e : φs env S with
  | ok ds S1 =>
    rw [e] at p
    simp only [R.bind_ok] at p
    have hl := hn.at e
    match ds, hl with
    | [d1, d2], _ =>
      intro m1 H1 vs g rs1 rv
      obtain ⟨v, u, rfl, r1, r2⟩ := reps2 rv
      have p2 : PoS G m H E (.ok (.nx ((env.set i (some d1)).set j (some d2))) S1) Dn := by
        cases hq : decide ([d1, d2].length ≤ sizeLine) with
        | true => rw [hq] at p; exact p
        | false => rw [hq] at p; exact p.elim
      exact ⟨v, u, rfl, p2 m1 H1 _ g rs1 (((re.go g).set r1 i).set r2 j)⟩
  | err z S1 => rw [e] at p; exact p
  | stuck => rw [e] at p; exact p
theorem st_par3 (i j l : Nat) {x y z : Str} {a b c : Expr} {φs : TXs} {px py pz pt pos : PySem.Pos} {kt k2 : Nat} {pt2 : PySem.Pos} (hN : X.N.Nodup) (ha : PA X [a, b, c] (tTs G E φs)) (hn : XsLen φs 3 := by exact xl_cons (xl_cons (xl_cons xl_nil))) (hc : X.calm = true := by rfl) (hi : X.N[i]? = some x := by rfl) (hj : X.N[j]? = some y := by rfl) (hl : X.N[l]? = some z := by rfl) (hij : i ≠ j := by decide) (hil : i ≠ l := by decide) (hjl : j ≠ l := by decide)
    (hx : X.env.scope.names.lookup x = some .local := by rfl) (hy : X.env.scope.names.lookup y = some .local := by rfl) (hz : X.env.scope.names.lookup z = some .local := by rfl)
    (hw : swappedStores [.Tuple [.Name x px, .Name y py, .Name z pz] kt pt] (.Tuple [a, b, c] k2 pt2) X.env = pure (some [x, y, z]) := by rfl)
    (hs : swapsWithSole [.Tuple [.Name x px, .Name y py, .Name z pz] kt pt] (.Tuple [a, b, c] k2 pt2) pos.line X.env = pure false := by rfl) :
    PS X (.Assign [.Tuple [.Name x px, .Name y py, .Name z pz] kt pt] (.Tuple [a, b, c] k2 pt2) pos) (tS G E (sAsg (xTup φs) (tTup [tName i, tName j, tName l]))) := PS.imp (ps_par3 hc hN hi hj hl hij hil hjl hx hy hz ha hw hs) fun Dn σ H h => by
  obtain ⟨m, env, S, rs, re, p⟩ := h
  unfold sAsg xTup at p
  rw [bind_assoc] at p
  refine ⟨m, env, S, rs, re, ?_⟩
  cases e : φs env S with
  | ok ds S1 =>
    rw [e] at p
    simp only [R.bind_ok] at p
    have hl := hn.at e
    match ds, hl with
    | [d1, d2, d3], _ =>
      intro m1 H1 vs g rs1 rv
      obtain ⟨v, us, rfl, r1, rv2⟩ := rv
      obtain ⟨u, w, rfl, r2, r3⟩ := reps2 rv2
      have p2 : PoS G m H E (.ok (.nx (((env.set i (some d1)).set j (some d2)).set l (some d3))) S1) Dn := by
        cases hq : decide ([d1, d2, d3].length ≤ sizeLine) with
        | true => rw [hq] at p; exact p
        | false => rw [hq] at p; exact p.elim
      exact ⟨v, u, w, rfl, p2 m1 H1 _ g rs1 ((((re.go g).set r1 i).set r2 j).set r3 l)⟩
  | err z S1 => rw [e] at p; exact p
  | stuck => rw [e] at p; exact p
end
end Den

namespace Den
open PySem PySem.Spec PyProof.Rows L2
/-! ### o.m(k = v, ..) -/
def tMethK (C : Addr) (m : Str) (nk : Nat) (sp : Sp) (gV : List V → List V → List V) (E : XK) (ta : TE) (tk : TA) : TE := fun σ H Q => ta σ H fun x H1 => ∃ a dx fs, x = .ref a ∧ H1 a = some (.ins C dx fs) ∧ fs.lookup m = none ∧ tk σ H1 fun zs H2 => zs.length = nk ∧ sp (gV [x] zs) H2 Q E
section
variable {X : Cx} {CX : CXT} {k : Nat} {f C : Addr} {fd : FuncData} {ps ks : List Str} {sp : Sp} {E : XK} {m : Str} {pos apos : PySem.Pos} {o : Expr} {kws : List Keyword} {ta : TE} {tk : TA} {g : List Value → List Value → List Value} {gV : List V → List V → List V}
theorem pe_methK0 {pl : Sem Bool} (he : PE X o ta) (c : Cls X.K C) (hm : Meth X.K C m f) (F : FnOk X.prog X.w X.K X.mg X.base CX k f fd ps sp) (hr : Room k X.A) (hb : KBn X.K fd ps 1 ks g gV) (hx : Passes CX X E) (hkw : PK X kws tk)
    (hall : (backToKw pos (keywordEach kws X.env)).all (·.1.isSome) = true := by rfl) (hks : (backToKw pos (keywordEach kws X.env)).filterMap (·.1) = ks := by rfl)
    (hpl : ((backTo pos (starEach [] X.env)).any (·.1) || (backToKw pos (keywordEach kws X.env)).any (·.1.isNone)) = false := by rfl)
    (ht : eval (.Call (.Attribute o m apos) [] kws pos) X.env = (do
      let ov ← eval o X.env
      standAt apos.atName
      let (f, first) ← holding [ov] (getMethod ov m pl)
      callWith pos f first (backTo pos (starEach [] X.env)) (backToKw pos (keywordEach kws X.env))) := by rfl) :
    PE X (.Call (.Attribute o m apos) [] kws pos) (tMethK C m ks.length sp gV E ta tk) := by
  refine ⟨fun pins s σ H Q I h => ?_⟩
  refine PySem.W.methodCall_KW (pl := pl) (thn (he.run pins s σ H _ I h) fun u s1 ⟨x, H1, I1, rx, a, dx, fs, ex, ea, l, q⟩ => ?_) ht
  subst ex
  obtain rfl : u = Value.ref a := rx
  refine getmeth_ok I1 ea c hm l ?_
  refine PySem.W.callWith_KW0 (first := [.ref a]) (h₀ := X.base) I1.ok.mod.kin hm.kp hall ?_ hpl
  refine thn (hkw.run pos pins s1 σ H1 _ I1 q) fun ws s2 ⟨zs, H2, I2, rz, l2, q2⟩ => ⟨I2.kIn, ?_⟩
  rw [hks]
  exact run_fnN (us := [.ref a]) (vs := [.ref a]) F hr hb hx I2 (.cons rfl .nil) rz rfl l2 q2
end

section
variable {X : Cx} {G : Gm} {E : XK} {e o i : Expr} {kws : List Keyword} {φ χ ψ : TX} {χs : TXs} {pos p apos tpos : PySem.Pos} {k : Nat} {ps ks : List Str} {F : Fn} {gD : List D → List D → List D}
theorem te_methP {c m : String} {pl : Sem Bool} (M : MtP X.prog X.w X.K X.mg X.base G k c m ps ks gD F) (hG : Gok G) (he : PE X o (tT G E χ)) (hr : Room k X.A) (hx : Passes (L2.CX X.prog X.w) X E) (hkw : PK X kws (tTs G E χs)) (hn2 : XsLen χs ks.length := by first | exact xl_nil | (repeat (refine xl_cons ?_)); exact xl_nil)
    (hall : (backToKw pos (keywordEach kws X.env)).all (·.1.isSome) = true := by rfl) (hks : (backToKw pos (keywordEach kws X.env)).filterMap (·.1) = ks := by rfl)
    (hpl : ((backTo pos (starEach [] X.env)).any (·.1) || (backToKw pos (keywordEach kws X.env)).any (·.1.isNone)) = false := by rfl) (hK : X.K = G.K := by rfl) (hmg : X.mg = G.mg := by rfl)
    (ht : eval (.Call (.Attribute o (Str.ofString m) apos) [] kws pos) X.env = (do
      let ov ← eval o X.env
      standAt apos.atName
      let (f, first) ← holding [ov] (getMethod ov (Str.ofString m) pl)
      callWith pos f first (backTo pos (starEach [] X.env)) (backToKw pos (keywordEach kws X.env))) := by rfl) : PE X (.Call (.Attribute o (Str.ofString m) apos) [] kws pos) (tT G E (xMethP [(c, F)] m gD χ χs)) := by
  obtain ⟨C, f, fd, hc, hm, M1, ⟨g, gV, kb, hD⟩, G1⟩ := M.ex
  have cl : Cls X.K C := by rw [hK]; exact (hG.ci c hm C (by rw [← hmg]; exact hc)).cls
  refine PE.imp (pe_methK0 he cl M1 G1 hr (by rw [hK]; exact kb) hx hkw hall hks hpl ht) fun σ H Q h => ?_
  obtain ⟨m0, env, S, rs, re, p⟩ := h
  refine ⟨m0, env, S, rs, re, partE (nE Q) p fun d S1 m1 H1 v g' rs1 rv p1 => ?_⟩
  unfold methOf at p1
  cases q : d.clsOf S1 with
  | none => rw [q] at p1; exact p1.elim
  | some cn =>
    obtain ⟨c', ns⟩ := cn
    rw [q] at p1
    simp only at p1
    split at p1
    · rename_i F' eF
      split at eF
      · cases eF
      · rename_i hns
        rw [List.lookup_cons] at eF
        cases ec : c' == c with
        | false => rw [ec] at eF; cases eF
        | true =>
          rw [ec] at eF
          cases eF
          obtain rfl := beq_iff_eq.mp ec
          obtain ⟨a, C', dx, vs, rfl, hv, hc', _⟩ := cls_at rs1 rv q
          rw [hmg] at hc
          rw [hc] at hc'
          cases hc'
          refine ⟨a, dx, _, rfl, hv, zip_none hns, m1, env, S1, rs1, re.go g', ?_⟩
          cases e1 : χs env S1 with
          | ok es S2 =>
            rw [e1] at p1
            intro m2 H2 us g2 rs2 ru
            have l2 := hn2.at e1
            obtain ⟨r3, l3⟩ := hD m2 H2 [d] [.ref a] es us (.one (Rep.go g2 _ _ rv)) ru rfl l2
            exact ⟨by rw [← ru.length]; exact l2, m2, _, S2, rs2, r3, l3, Po.go g2 p1⟩
          | err x S2 => rw [e1] at p1; exact p1
          | stuck => rw [e1] at p1; exact p1.elim
    · exact p1.elim
/-- a list so many times, to be changed -/
def oMulH : Op2 := fun x y S => match y with
  | .int n => match x.itemsL S with
    | some a => guardR (decide (-(2 ^ 63) ≤ n ∧ n < 2 ^ 63 ∧ a.length * n.toNat ≤ sizeLine)) (.ok (.hnd S.length) (S ++ [MO.lst (List.replicate n.toNat a).flatten]))
    | none => .stuck
  | _ => .stuck
theorem ot_mulH : OpR X (binaryOp .Mult) rRep ∧ OpT G rRep oMulH := by
  refine ⟨op_rep, fun m H S x y d1 d2 E Q rs r1 r2 p => ?_⟩
  unfold oMulH at p
  split at p
  · split at p
    · rename_i e
      obtain ⟨c, p⟩ := p.guard
      obtain ⟨h1, h2, h3⟩ := of_decide_eq_true c
      obtain ⟨a, vs, rfl, ha, ra⟩ := itemsL_sq rs r1 e
      rw [ra.length] at h3
      exact ⟨a, _, vs, rfl, r2, ha, h1, h2, h3, fun q hq => p.hnd rs (ra.rep _) q hq⟩
    · exact p.elim
  · exact p.elim
/-! dicts of what is written -/
def keyOf : D → Option Key
  | .int i => some (.inl i)
  | .str z => some (.inr z)
  | _ => none
theorem keyOf_v {m : Mp} {H : Hp} {d : D} {v : V} {k : Key} (r : Rep G m H d v) (e : keyOf d = some k) : v = kV k := by
  cases d with
  | int i => cases e; exact r
  | str z => cases e; exact r
  | _ => cases e
def D.dctAt (S : Sd) : D → Option (List Key × List D)
  | .dct ks ds => some (ks, ds)
  | .hnd i => match S[i]? with
    | some (.dK ks ds) => some (ks, ds)
    | _ => none
  | _ => none
theorem dct_at {m : Mp} {H : Hp} {S : Sd} {d : D} {v : V} {ks : List Key} {ds : List D} (rs : RepS G m H S) (r : Rep G m H d v) (h : d.dctAt S = some (ks, ds)) : ∃ a vs, v = .ref a ∧ Rd H a (.dK (ks.zip vs)) ∧ ks.length = ds.length ∧ Reps G m H ds vs := by
  cases d with
  | dct ks' ds' =>
    cases h
    obtain ⟨a, vs, rfl, ⟨ha, _⟩, hl, q⟩ := r
    exact ⟨a, vs, rfl, ha, hl, q⟩
  | hnd i =>
    obtain ⟨a, e1, rfl⟩ := r
    change (match S[i]? with | some (.dK ks ds) => some (ks, ds) | _ => none) = some (ks, ds) at h
    split at h
    · rename_i q
      cases h
      obtain ⟨b, e2, vs, hv, hl, rv⟩ := rs.at_ i _ q
      rw [e1] at e2
      cases e2
      exact ⟨a, vs, rfl, .inl hv, hl, rv⟩
    · cases h
  | _ => cases h
def dGet (k : Key) : List Key → List D → Option D
  | a :: ks, d :: ds => if a = k then some d else dGet k ks ds
  | _, _ => none
theorem dGet_v {m : Mp} {H : Hp} {k : Key} {d : D} : ∀ {ks : List Key} {ds : List D} {vs : List V}, Reps G m H ds vs → dGet k ks ds = some d → ∃ v, valV (ks.zip vs) k = some v ∧ Rep G m H d v
  | [], ds, vs, r, h => by cases ds <;> cases h
  | a :: ks, [], vs, r, h => by cases h
  | a :: ks, e :: ds, vs, r, h => by
    obtain ⟨v, us, rfl, h1, h2⟩ := r
    unfold dGet at h
    unfold valV
    rw [List.zip_cons_cons, List.find?_cons]
    by_cases c : a = k
    · rw [if_pos c] at h
      cases h
      rw [decide_eq_true c]
      exact ⟨v, rfl, h1⟩
    · rw [if_neg c] at h
      rw [decide_eq_false c]
      exact dGet_v (ks := ks) h2 h
def oDix : Op2 := fun x y S => match x.dctAt S, keyOf y with
  | some (ks, ds), some k => okR (dGet k ks ds) S
  | _, _ => .stuck
theorem te_dix (hu : X.A.units + 65 < cLine) (ho : PE X o (tT G E φ)) (hi : PE X i (tT G E χ)) (hs : NoSl i := by exact fun _ _ => rfl) : PE X (.Subscript o i pos) (tT G E (xBin oDix φ χ)) := PE.imp (pe_dget (by omega) ho hi hs) fun σ H Q h => by
  obtain ⟨m, env, S, rs, re, p⟩ := h
  refine two (nE Q) rs re p fun d1 d2 S2 m' H' x y g rs' _ r1 r2 p2 => ?_
  unfold oDix at p2
  split at p2
  · rename_i ks ds k e1 e2
    unfold okR at p2
    split at p2
    · rename_i d e3
      obtain ⟨a, vs, rfl, ha, hl, rv⟩ := dct_at rs' r1 e1
      obtain ⟨v, e4, rd⟩ := dGet_v rv e3
      exact ⟨a, v, rfl, .inl ⟨_, k, ha, keyOf_v r2 e2, e4.symm⟩, p2.here rs' rd⟩
    · exact p2.elim
  · exact p2.elim
/-- the pairs of a display, all flat -/
def ddT (tab : List (Key × V)) : List (TE × TE) := tab.map fun p => (tC (kV p.1), tC p.2)
theorem dd_pairs : ∀ (tab : List (Key × V)) {σ : L2.St} {H : Hp} {Q : List (V × V) → Hp → Prop}, Q (tab.map fun kv => (kV kv.1, kv.2)) H → tPairs (ddT tab) σ H Q
  | [], σ, H, Q, h => h
  | p :: tab, σ, H, Q, h => dd_pairs tab (Q := fun ps H3 => Q ((kV p.1, p.2) :: ps) H3) h
def xDct (ks : List Key) (ds : List D) : TX := fun _ S => .ok (.dct ks ds) S
theorem te_dct {keys : List (Option Expr)} {values : List Expr} (ks : List Key) (vs : List V) (ds : List D) (h : PPs X pos keys values (ddT (ks.zip vs))) (hr : ∀ m H, Reps G m H ds vs) (hm : mergeK [] (ks.zip vs) = ks.zip vs) (hl : ks.length = ds.length) (h15 : (ks.zip vs).length ≤ 15) (hall : keys.all (·.isSome) = true) (hl2 : keys.length = values.length) (h0 : keys ≠ []) (hk15 : keys.length ≤ 15) : PE X (.Dict keys values pos) (tT G E (xDct ks ds)) := PE.imp (pe_disp h hall hl2 h0 hk15) fun σ H Q h => by
  obtain ⟨m, env, S, rs, re, p⟩ := h
  intro a ha
  refine dd_pairs _ ⟨upd_same, _, rfl, h15, ?_⟩
  rw [hm, upd_upd]
  have s := same_upd (o := .dK (ks.zip vs)) ha
  exact p m _ _ (.of s) (rs.same s) ⟨a, vs, rfl, ⟨.inl upd_same, rs.new_out ha⟩, hl, hr _ _⟩
theorem get_list : PGet X (rIxL X.K) := by
  intro pins s σ H x y v u Q I rx ry h
  obtain ⟨p, xs, i, z, rfl, rfl, hq, he, q⟩ := h
  cases rx
  obtain ⟨t, rfl⟩ := ry
  obtain ⟨its, r, pl, hz⟩ := I.list hq
  obtain ⟨j, h1, h2, h3, h4, h5⟩ := atI_get he
  obtain ⟨w, ew, rw'⟩ := r.get h2
  have hl := r.length
  have hn := line63
  have fin : EP X pins σ Q w s := ⟨z, H, I, rw', q⟩
  by_cases h0 : 0 ≤ i
  · have hj : i.toNat = j := by
      rw [seqIndex_of h0 h5] at h1
      exact Option.some.inj h1
    exact wpAny_getItem_list pl.isList h0 (by omega) (by rw [hj]; simpa using ew) fin
  · have hj : (i + (its.toArray.size : Int)).toNat = j := by
      rw [seqIndex_neg (by omega) h4] at h1
      rw [List.size_toArray, ← hl]
      exact Option.some.inj h1
    exact wpAny_getItem_list_neg pl.isList (by omega) (by rw [List.size_toArray] <;> omega) (by omega) (by rw [hj]; simpa using ew) fin
/-! o[i] op= e -/
def oIxL : Op2 := fun x y S => match y with
  | .int i => okR ((x.itemsL S).bind fun ds => atI ds i) S
  | _ => .stuck
theorem oT_ixL : OpT G (rIxL G.K) oIxL := by
  intro m H S x y d1 d2 E Q rs r1 r2 p
  unfold oIxL at p
  split at p
  · unfold okR at p
    split at p
    · rename_i d e
      obtain ⟨ds, e1, e2⟩ := Option.bind_eq_some_iff.mp e
      obtain ⟨a, vs, rfl, hs, rv⟩ := itemsL_sq rs r1 e1
      obtain ⟨v, e3, rd⟩ := atI_rep rv e2
      exact ⟨a, vs, _, v, rfl, r2, .of hs, e3, p.here rs rd⟩
    · exact p.elim
  · exact p.elim
def sAugS (o i : TX) (ot : Op2) (φ : TX) : TSt := fun env S => (o env S).bind fun t S1 => (i env S1).bind fun k S2 => (oIxL t k S2).bind fun x S3 => (φ env S3).bind fun y S4 => (ot x y S4).bind fun z S5 => (setR t k z env S5).bind fun e S6 => .ok (.nx e) S6
theorem st_augS {op : Operator} {ti : TIp} {ot : Op2} (ho : PE X o (tT G E φ)) (hi : PE X i (tT G E χ)) (he : PE X e (tT G E ψ)) (hp : PIp X op ti ∧ IpT G ti ot) (hK : X.K = G.K := by rfl)
    (ha : ∀ ov iv new, augStore i ov iv new = (do holding [new, ov, iv] (setItem ov iv new); release [new, ov, iv] []; pure .next) := by intros; rfl) : PS X (.AugAssign (.Subscript o i tpos) op e pos) (tS G E (sAugS φ χ ot ψ)) := PS.imp (ps_augS ho hi get_list he hp.1 set_list ha) fun Dn σ H h => by
  obtain ⟨m, env, S, rs, re, p⟩ := h
  refine two (nS Dn) rs re p fun t kk S2 m2 H2 x y g rs2 re2 rx ry p2 => ?_
  have q2 : Po G m2 H2 E (oIxL t kk S2) fun w H3 => tT G E ψ σ H3 fun y4 H4 => ti w y4 H4 fun z H5 => rSetL x y z H5 fun H6 => Dn.nx σ H6 := partE (nS Dn) p2 fun d3 S3 m3 H3 w g3 rs3 r3 p3 => ⟨m3, env, S3, rs3, re2.go g3, partE (nS Dn) p3 fun d4 S4 m4 H4 y4 g4 rs4 r4 p4 => by
    have q4 : Po G m4 H4 E (ot d3 d4 S4) fun z H5 => rSetL x y z H5 fun H6 => Dn.nx σ H6 := partE (nS Dn) p4 fun d5 S5 m5 H5 z g5 rs5 r5 p5 => by
      have gg := (g3.trans g4).trans g5
      exact set_in (nS Dn) rs5 (Rep.go gg _ _ rx) (Rep.go gg _ _ ry) r5 p5 fun S6 H6 g6 rs6 p6 => PoS.nx p6 rs6 (re2.go (gg.trans g6))
    exact hp.2 m4 H4 S4 w y4 d3 d4 E _ rs4 (Rep.go g4 _ _ r3) r4 q4⟩
  rw [hK]
  exact oT_ixL m2 H2 S2 x y t kk E _ rs2 rx ry q2
end
end Den

namespace Den
open PySem PySem.Spec PyProof.Rows L2
/-! ## how the values are worked out -/
section
variable {env : En} {S S' S1 : Sd} {d e : D} {φ χ ψ : TX} {φs χs : TXs} {a b c : TX} {κ μ : TC} {s t : TSt} {α β : Type}
@[simp] theorem ev_seq : sSeq s t env S = (s env S).bind fun o S1 => match o with | .nx env' => t env' S1 | o => .ok o S1 := rfl
@[simp] theorem ev_next : sNext env S = .ok (.nx env) S := rfl
@[simp] theorem ev_set {i : Nat} : sSet i φ env S = (φ env S).bind fun d S1 => .ok (.nx (env.set i (some d))) S1 := rfl
@[simp] theorem ev_asg {γ : TGt} : sAsg φ γ env S = (φ env S).bind fun d S1 => (γ d env S1).bind fun env' S2 => .ok (.nx env') S2 := rfl
@[simp] theorem ev_expr : sExpr φ env S = (φ env S).bind fun _ S1 => .ok (.nx env) S1 := rfl
@[simp] theorem ev_ret : sRet φ env S = (φ env S).bind fun d S1 => .ok (.ret d) S1 := rfl
@[simp] theorem ev_if : sIf κ s t env S = (κ env S).bind fun k S1 => if k = true then s env S1 else t env S1 := rfl
@[simp] theorem ev_brk : sBrk env S = .ok (.brk env) S := rfl
@[simp] theorem ev_ct : sCt env S = .ok (.ct env) S := rfl
@[simp] theorem ev_for {κ : TW} {γ : TGt} {ψ : TSt} : sFor κ γ ψ env S = (κ env S).bind fun ds S1 => forL γ ψ ds.p ds.l env S1 := rfl
@[simp] theorem ev_raise {c : String} {ns : List String} : sRaise c ns φs env S = (φs env S).bind fun ds S1 => if ds.length = ns.length then .err (.ins c ns.reverse ds.reverse) S1 else .stuck := rfl
@[simp] theorem ev_fld {c f : String} : sFldT c f χ φ env S = (φ env S).bind fun d S1 => (χ env S1).bind fun t S2 => sFldR c f d t env S2 := rfl
@[simp] theorem ev_aug {i : Nat} {o : Op2} : sAug i o φ env S = (xVar i env S).bind fun x S1 => (φ env S1).bind fun y S2 => (o x y S2).bind fun z S3 => .ok (.nx (env.set i (some z))) S3 := rfl
@[simp] theorem ev_var0 {r : En} : xVar 0 (some d :: r) S = .ok d S := rfl
@[simp] theorem ev_varS {i : Nat} {o : Option D} {r : En} : xVar (i + 1) (o :: r) S = xVar i r S := rfl
@[simp] theorem ev_c : xC d env S = .ok d S := rfl
@[simp] theorem ev_bin {o : Op2} : xBin o a b env S = (a env S).bind fun x S1 => (b env S1).bind fun y S2 => o x y S2 := rfl
@[simp] theorem ev_un {o : D → Sd → R D} : xUn o a env S = (a env S).bind fun x S1 => o x S1 := rfl
@[simp] theorem ev_ifx : xIf κ a b env S = (κ env S).bind fun k S' => if k = true then a env S' else b env S' := rfl
@[simp] theorem ev_not : xNot a env S = (a env S).bind fun d S' => (truthR d S').bind fun b S2 => .ok (.bl (!b)) S2 := rfl
@[simp] theorem ev_and : xAnd a b env S = (a env S).bind fun d S' => (truthR d S').bind fun k S2 => if k = true then b env S2 else .ok d S2 := rfl
@[simp] theorem ev_or : xOr a b env S = (a env S).bind fun d S' => (truthR d S').bind fun k S2 => if k = true then .ok d S2 else b env S2 := rfl
@[simp] theorem ev_chain {o o' : Op2} : xChain o o' a b c env S = (a env S).bind fun x S1 => (b env S1).bind fun y S2 => (o x y S2).bind fun r S3 => (blR r S3).bind fun k S4 => if k = true then (c env S4).bind fun z S5 => o' y z S5 else .ok (.bl false) S4 := rfl
@[simp] theorem ev_nil : xsNil env S = .ok [] S := rfl
@[simp] theorem ev_cons : xsCons φ φs env S = (φ env S).bind fun d S1 => (φs env S1).bind fun ds S2 => .ok (d :: ds) S2 := rfl
@[simp] theorem ev_tup : xTup φs env S = (φs env S).bind fun ds S1 => guardR (decide (ds.length ≤ sizeLine)) (.ok (.tup ds) S1) := rfl
@[simp] theorem ev_lst : xLst φs env S = (φs env S).bind fun ds S1 => guardR (decide (ds.length ≤ sizeLine)) (.ok (.lst ds) S1) := rfl
@[simp] theorem ev_lstH : xLstH φs env S = (φs env S).bind fun ds S1 => guardR (decide (ds.length ≤ sizeLine)) (.ok (.hnd S1.length) (S1 ++ [.lst ds])) := rfl
@[simp] theorem ev_call {o : OpL} : xCall o φs env S = (φs env S).bind fun ds S1 => o ds S1 := rfl
@[simp] theorem ev_fn {F : Fn} : xFn F φs env S = (φs env S).bind F := rfl
@[simp] theorem ev_fnP {F : Fn} {gD : List D → List D → List D} : xFnP F gD φs χs env S = (φs env S).bind fun ds S1 => (χs env S1).bind fun es S2 => F (gD ds es) S2 := rfl
@[simp] theorem ev_new {c : String} {F : Fn} : xNew c F φs env S = (φs env S).bind (newR c F) := rfl
@[simp] theorem ev_newP {c : String} {F : Fn} {gD : List D → List D → List D} : xNewP c F gD φs χs env S = (φs env S).bind fun ds S1 => (χs env S1).bind fun es S2 => newRP c F gD ds es S2 := rfl
@[simp] theorem ev_meth {tab : MTab} {m : String} : xMeth tab m χ φs env S = (χ env S).bind fun d S1 => match methOf tab m d S1 with
  | some F => (φs env S1).bind fun ds S2 => F (d :: ds) S2
  | none => .stuck := rfl
@[simp] theorem ev_methP {tab : MTab} {m : String} {gD : List D → List D → List D} : xMethP tab m gD χ χs env S = (χ env S).bind fun d S1 => match methOf tab m d S1 with
  | some F => (χs env S1).bind fun es S2 => F (gD [d] es) S2
  | none => .stuck := rfl
@[simp] theorem ev_tru : cTru φ env S = (φ env S).bind truthR := rfl
@[simp] theorem ev_cB : cB φ env S = (φ env S).bind blR := rfl
@[simp] theorem ev_cnot : cNot κ env S = (κ env S).bind fun b S' => .ok (!b) S' := rfl
@[simp] theorem ev_cand : cAnd κ μ env S = (κ env S).bind fun b S' => if b = true then μ env S' else .ok false S' := rfl
@[simp] theorem ev_cor : cOr κ μ env S = (κ env S).bind fun b S' => if b = true then .ok true S' else μ env S' := rfl
@[simp] theorem ev_sl {κ μ : TP2} : xSl φ κ μ env S = (φ env S).bind fun x S1 => (κ env S1).bind fun l S2 => (μ env S2).bind fun h S3 => oSl x l h S3 := rfl
@[simp] theorem ev_pno : pNo env S = .ok none S := rfl
@[simp] theorem ev_pat : pAt φ env S = (φ env S).bind fun d S1 => match d with | .int i => .ok (some i) S1 | _ => .stuck := rfl
@[simp] theorem ev_s1 {o : OpS} : xS1 o φ χ env S = (φ env S).bind fun d S1 => match d with | .str z => (χ env S1).bind fun e S2 => o z [e] S2 | _ => .stuck := rfl
@[simp] theorem ev_s0 {o : Str → D} : xS0 o φ env S = (φ env S).bind fun d S1 => match d with | .str z => .ok (o z) S1 | _ => .stuck := rfl
@[simp] theorem ev_wof : wOf φ env S = (φ env S).bind walkR := rfl
@[simp] theorem ev_rng1 : wRng1 φs env S = (φs env S).bind fun ds S1 => match ds with | [.int j] => guardR (inRng j) (.ok ⟨rng 0 j.toNat, anyS⟩ S1) | _ => .stuck := rfl
@[simp] theorem ev_rng2 : wRng2 φs env S = (φs env S).bind fun ds S1 => match ds with | [.int i, .int j] => guardR (inRng i && inRng j) (.ok ⟨rng i (j - i).toNat, anyS⟩ S1) | _ => .stuck := rfl
@[simp] theorem ev_tname {i : Nat} : tName i d env S = .ok (env.set i (some d)) S := rfl
@[simp] theorem ev_lc {κ : TW} {γ : TGt} {c : TC} {vs : List Nat} : xLc κ γ c φ vs env S = (κ env S).bind fun ds S1 => guardR (decide (ds.l.length ≤ sizeLine)) ((lcL γ c φ (wipeE env vs) ds.p ds.l S1).bind fun ys S2 => .ok (.lst ys) S2) := rfl
@[simp] theorem ev_lcH {κ : TW} {γ : TGt} {c : TC} {vs : List Nat} : xLcH κ γ c φ vs env S = (κ env S).bind fun ds S1 => guardR (decide (ds.l.length ≤ sizeLine)) ((lcL γ c φ (wipeE env vs) ds.p ds.l S1).bind fun ys S2 => .ok (.hnd S2.length) (S2 ++ [.lst ys])) := rfl
@[simp] theorem ev_lc2 {κ κ1 : TW} {γ γ1 : TGt} {c c1 : TC} {vs vs1 : List Nat} : xLc2 κ γ c κ1 γ1 c1 φ vs vs1 env S = (κ env S).bind fun ds S1 => (lcL2 γ c κ1 γ1 c1 φ vs1 (wipeE env vs) ds.p ds.l S1).bind fun ys S2 => guardR (decide (ys.length ≤ sizeLine)) (.ok (.lst ys) S2) := rfl
@[simp] theorem ev_yes : cYes env S = .ok true S := rfl
@[simp] theorem ev_wipe0 : wipeE env [] = env := rfl
@[simp] theorem ev_wipe {v : Nat} {vs : List Nat} : wipeE env (v :: vs) = (wipeE env vs).set v none := rfl
@[simp] theorem ev_dct {ks : List Key} {ds : List D} : xDct ks ds env S = .ok (.dct ks ds) S := rfl
@[simp] theorem ev_app : xApp φ χ env S = (φ env S).bind fun t S1 => match lstAt S1 t with
  | some _ => (χ env S1).bind fun d S2 => match lstAt S2 t with
    | some (i, ds) => guardR (decide (ds.length < sizeLine)) (.ok .non (S2.set i (.lst (ds ++ [d]))))
    | none => .stuck
  | none => .stuck := rfl
@[simp] theorem ev_tsub : tSub φ χ d env S = (φ env S).bind fun t S1 => (χ env S1).bind fun k S2 => setR t k d env S2 := rfl
@[simp] theorem ev_augS {ot : Op2} : sAugS φ χ ot ψ env S = (φ env S).bind fun t S1 => (χ env S1).bind fun k S2 => (oIxL t k S2).bind fun x S3 => (ψ env S3).bind fun y S4 => (ot x y S4).bind fun z S5 => (setR t k z env S5).bind fun e S6 => .ok (.nx e) S6 := rfl
/-! results -/
@[simp] theorem ex_ok (h : S'.length = S.length) : exitR S (.ok d S') = .ok d S' := by unfold exitR; simp [h]
@[simp] theorem ex_err (h : S'.length = S.length) : exitR S (.err d S') = .err d S' := by unfold exitR; simp [h]
@[simp] theorem out_nx : outR (.ok (.nx env) S) = .ok .non S := rfl
@[simp] theorem out_ret : outR (.ok (.ret d) S) = .ok d S := rfl
@[simp] theorem out_err : outR (.err d S) = .err d S := rfl
@[simp] theorem noX_err {e : D} : noX (.err e S : R α) = .stuck := rfl
theorem fn_eq {n : Nat} {ψ : TSt} {ds : List D} : fnOf n ψ ds S = exitR S (outR (ψ (startE n ds) S)) := rfl
@[simp] theorem blR_bl {k : Bool} : blR (.bl k) S = .ok k S := rfl
@[simp] theorem tr_bl {k : Bool} : truthR (.bl k) S = .ok k S := rfl
@[simp] theorem tr_non : truthR .non S = .ok false S := rfl
@[simp] theorem tr_int {i : Int} : truthR (.int i) S = .ok (i != 0) S := rfl
@[simp] theorem tr_tup {ds : List D} : truthR (.tup ds) S = .ok (!ds.isEmpty) S := rfl
@[simp] theorem tr_lst {ds : List D} : truthR (.lst ds) S = .ok (!ds.isEmpty) S := rfl
@[simp] theorem add_int {i j : Int} : oAdd (.int i) (.int j) S = .ok (.int (i + j)) S := rfl
@[simp] theorem add_tup {xs ys : List D} : oAdd (.tup xs) (.tup ys) S = guardR (decide (xs.length + ys.length ≤ sizeLine)) (.ok (.tup (xs ++ ys)) S) := rfl
@[simp] theorem add_lst {xs ys : List D} : oAdd (.lst xs) (.lst ys) S = guardR (decide (xs.length + ys.length ≤ sizeLine)) (.ok (.lst (xs ++ ys)) S) := rfl
@[simp] theorem add_str {x y : Str} : oAdd (.str x) (.str y) S = guardR (decide (x.length + y.length ≤ sizeLine)) (.ok (.str (x ++ y)) S) := rfl
@[simp] theorem sub_int {i j : Int} : oSub (.int i) (.int j) S = .ok (.int (i - j)) S := rfl
@[simp] theorem iadd_int {i j : Int} : oIAdd (.int i) (.int j) S = .ok (.int (i + j)) S := rfl
@[simp] theorem mul_int {i j : Int} : oMulT (.int i) (.int j) S = guardR (mulOkX i j) (.ok (.int (i * j)) S) := rfl
@[simp] theorem div_int {i j : Int} : oDiv (.int i) (.int j) S = guardR (decide (j ≠ 0 ∧ j.natAbs.log2 < 9000)) (.ok (.int (i.fdiv j)) S) := rfl
@[simp] theorem mod_int {i j : Int} : oMod (.int i) (.int j) S = guardR (decide (j ≠ 0)) (.ok (.int (i.fmod j)) S) := rfl
@[simp] theorem pow_int {i j : Int} : oPow (.int i) (.int j) S = guardR (decide (0 ≤ j ∧ (Builtin.Int.intBits i : Int) * j ≤ 2 ^ 27)) (.ok (.int (i ^ j.toNat)) S) := rfl
@[simp] theorem lt_int {i j : Int} : oLt (.int i) (.int j) S = .ok (.bl (decide (i < j))) S := rfl
@[simp] theorem le_int {i j : Int} : oLe (.int i) (.int j) S = .ok (.bl (decide (i ≤ j))) S := rfl
@[simp] theorem gt_int {i j : Int} : oGt (.int i) (.int j) S = .ok (.bl (decide (j < i))) S := rfl
@[simp] theorem ge_int {i j : Int} : oGe (.int i) (.int j) S = .ok (.bl (decide (j ≤ i))) S := rfl
@[simp] theorem neg_int {i : Int} : oNeg (.int i) S = .ok (.int (-i)) S := rfl
@[simp] theorem is_non : oIs d .non S = guardR (!d.isRaw) (.ok (.bl d.isNon) S) := rfl
@[simp] theorem isnot_non : oIsNot d .non S = guardR (!d.isRaw) (.ok (.bl (!d.isNon)) S) := rfl
@[simp] theorem gcd_int {i j : Int} : oGcd [.int i, .int j] S = .ok (.int ((Nat.gcd i.natAbs j.natAbs : Nat) : Int)) S := rfl
@[simp] theorem abs_int {i : Int} : oAbs [.int i] S = .ok (.int (if i < 0 then -i else i)) S := rfl
@[simp] theorem int_int {i : Int} : oInt [.int i] S = .ok (.int i) S := rfl
@[simp] theorem int_bl {k : Bool} : oInt [.bl k] S = .ok (.int (if k then 1 else 0)) S := rfl
@[simp] theorem tuple_tup {ds : List D} : oTuple [.tup ds] S = .ok (.tup ds) S := rfl
@[simp] theorem tuple_lst {ds : List D} : oTuple [.lst ds] S = .ok (.tup ds) S := rfl
@[simp] theorem list_tup {ds : List D} : oList [.tup ds] S = .ok (.lst ds) S := rfl
@[simp] theorem list_lst {ds : List D} : oList [.lst ds] S = .ok (.lst ds) S := rfl
@[simp] theorem len_tup {ds : List D} : oLen [.tup ds] S = .ok (.int ds.length) S := rfl
@[simp] theorem len_lst {ds : List D} : oLen [.lst ds] S = .ok (.int ds.length) S := rfl
@[simp] theorem wk_lst' {ds : List D} : walkR (.lst ds) S = .ok ⟨ds, anyS⟩ S := rfl
@[simp] theorem wk_tup' {ds : List D} : walkR (.tup ds) S = .ok ⟨ds, anyS⟩ S := rfl
@[simp] theorem wk_scr' {ns : List Int} : walkR (.scr ns) S = .ok ⟨ns.map D.int, anyS⟩ S := rfl
@[simp] theorem ix_tup' {ds : List D} {i : Int} : oIx (.tup ds) (.int i) S = okR (atI ds i) S := rfl
@[simp] theorem ix_lst' {ds : List D} {i : Int} : oIx (.lst ds) (.int i) S = okR (atI ds i) S := rfl
@[simp] theorem okR_some : okR (some d) S = .ok d S := rfl
@[simp] theorem fld_ins {f c : String} {ns : List String} {ds : List D} : oFld f (.ins c ns ds) S = okR (fldOf f ns ds) S := rfl
@[simp] theorem fld_0 {f n : String} {ns : List String} {ds : List D} : fldOf f (n :: ns) (d :: ds) = if f = n then some d else fldOf f ns ds := by
  unfold fldOf
  rw [List.zip_cons_cons, List.lookup_cons]
  by_cases h : f = n
  · rw [if_pos h, beq_iff_eq.mpr h]
  · rw [if_neg h, beq_eq_false_iff_ne.mpr h]
@[simp] theorem kn_non : D.kn S .non = some (.b .non) := rfl
@[simp] theorem kn_bl {k : Bool} : D.kn S (.bl k) = some (.b .bl) := rfl
@[simp] theorem kn_int {i : Int} : D.kn S (.int i) = some (.b .int) := rfl
@[simp] theorem kn_str {z : Str} : D.kn S (.str z) = some (.b .str) := rfl
@[simp] theorem kn_lst {ds : List D} : D.kn S (.lst ds) = some (.b .list) := rfl
@[simp] theorem kn_tup {ds : List D} : D.kn S (.tup ds) = some (.b .tuple) := rfl
@[simp] theorem kn_dct {ks : List Key} {ds : List D} : D.kn S (.dct ks ds) = some (.b .dict) := rfl
@[simp] theorem kn_ins {c : String} {ns : List String} {ds : List D} : D.kn S (.ins c ns ds) = some (.own c) := rfl
@[simp] theorem isK_own {c : String} {k : BK} : (Kn.own c).isK k = false := rfl
@[simp] theorem isK_b {j k : BK} : (Kn.b j).isK k = isB j k := rfl
theorem isi_ev {bs : List BK} {k : Kn} (h : d.kn S = some k) : oIsi bs d S = .ok (.bl (bs.any k.isK)) S := by unfold oIsi; rw [h]
@[simp] theorem isi_non {bs : List BK} : oIsi bs .non S = .ok (.bl (bs.any (Kn.b .non).isK)) S := rfl
@[simp] theorem isi_bl {bs : List BK} {k : Bool} : oIsi bs (.bl k) S = .ok (.bl (bs.any (Kn.b .bl).isK)) S := rfl
@[simp] theorem isi_int {bs : List BK} {i : Int} : oIsi bs (.int i) S = .ok (.bl (bs.any (Kn.b .int).isK)) S := rfl
@[simp] theorem isi_str {bs : List BK} {z : Str} : oIsi bs (.str z) S = .ok (.bl (bs.any (Kn.b .str).isK)) S := rfl
@[simp] theorem isi_lst {bs : List BK} {ds : List D} : oIsi bs (.lst ds) S = .ok (.bl (bs.any (Kn.b .list).isK)) S := rfl
@[simp] theorem isi_tup {bs : List BK} {ds : List D} : oIsi bs (.tup ds) S = .ok (.bl (bs.any (Kn.b .tuple).isK)) S := rfl
@[simp] theorem isi_ins {bs : List BK} {c : String} {ns : List String} {ds : List D} : oIsi bs (.ins c ns ds) S = .ok (.bl (bs.any (Kn.own c).isK)) S := rfl
@[simp] theorem iso_ins {subs : List String} {c : String} {ns : List String} {ds : List D} : oIso subs (.ins c ns ds) S = .ok (.bl (subs.contains c)) S := rfl
/-! walks -/
@[simp] theorem anyS_at : anyS S = true := rfl
theorem wk_hnd' {i : Nat} {ds : List D} (h : S[i]? = some (.lst ds)) : walkR (.hnd i) S = .ok ⟨ds, stillS i ds⟩ S := by
  show (match S[i]? with | some (.lst ds) => R.ok (⟨ds, stillS i ds⟩ : Wl) S | _ => .stuck) = _
  rw [h]
theorem lcL_nil {γ : TGt} {c : TC} {env0 : En} {w : Sd → Bool} (hw : w S = true) : lcL γ c φ env0 w [] S = .ok [] S := by rw [lcL, hw]; rfl
theorem lcL_consT {γ : TGt} {env0 env1 : En} {w : Sd → Bool} {ds ys : List D} {y : D} {S1 S2 S3 : Sd} (hw : w S = true) (h1 : γ d env0 S = .ok env1 S1) (h2 : φ env1 S1 = .ok y S2) (h3 : lcL γ cYes φ env0 w ds S2 = .ok ys S3) : lcL γ cYes φ env0 w (d :: ds) S = .ok (y :: ys) S3 := by
  rw [lcL, hw, h1]
  simp [h2, h3]
/-- a comprehension that leaves what is changed as it is, over what stands for things of another kind -/
theorem lcL_mapG {γ : TGt} {φ : TX} {env0 : En} {w : Sd → Bool} {τ : Type} (g f : τ → D) (hw : w S = true) : ∀ {xs : List τ}, (∀ x ∈ xs, ∃ env1, γ (g x) env0 S = .ok env1 S ∧ φ env1 S = .ok (f x) S) → lcL γ cYes φ env0 w (xs.map g) S = .ok (xs.map f) S
  | [], _ => lcL_nil hw
  | d :: ds, h => by
    obtain ⟨env1, h1, h2⟩ := h d List.mem_cons_self
    exact lcL_consT hw h1 h2 (lcL_mapG g f hw fun e he => h e (List.mem_cons_of_mem _ he))
theorem lcL_map {γ : TGt} {φ : TX} {env0 : En} {w : Sd → Bool} (f : D → D) (hw : w S = true) {ds : List D} (h : ∀ d ∈ ds, ∃ env1, γ d env0 S = .ok env1 S ∧ φ env1 S = .ok (f d) S) : lcL γ cYes φ env0 w ds S = .ok (ds.map f) S := by
  have := lcL_mapG (γ := γ) (φ := φ) (env0 := env0) id f hw (xs := ds) h
  rwa [List.map_id] at this
theorem lcL_filterG {γ : TGt} {c : TC} {φ : TX} {env0 : En} {w : Sd → Bool} {τ : Type} (g f : τ → D) (p : τ → Bool) (hw : w S = true) : ∀ {xs : List τ}, (∀ x ∈ xs, ∃ env1, γ (g x) env0 S = .ok env1 S ∧ c env1 S = .ok (p x) S ∧ (p x = true → φ env1 S = .ok (f x) S)) → lcL γ c φ env0 w (xs.map g) S = .ok ((xs.filter p).map f) S
  | [], _ => lcL_nil hw
  | d :: ds, h => by
    obtain ⟨env1, h1, h2, h3⟩ := h d List.mem_cons_self
    have ih := lcL_filterG g f p hw (xs := ds) fun e he => h e (List.mem_cons_of_mem _ he)
    rw [List.map_cons, lcL, hw, h1]
    cases q : p d with
    | false => simp [h2, ih, q]
    | true => simp [h2, ih, q, h3 q]
/-- a comprehension whose elements change things: by what is left -/
theorem lcL_run {γ : TGt} {φ : TX} {env0 : En} {τ : Type} (g : τ → D) (I : List τ → List D → Sd → Prop) : ∀ {xs zs : List τ} {ys : List D} {S : Sd}, I zs ys S → (∀ zs ys x S, I zs ys S → ∃ env1 S1 y S2, γ (g x) env0 S = .ok env1 S1 ∧ φ env1 S1 = .ok y S2 ∧ I (zs ++ [x]) (ys ++ [y]) S2) → ∃ us S', lcL γ cYes φ env0 anyS (xs.map g) S = .ok us S' ∧ I (zs ++ xs) (ys ++ us) S'
  | [], zs, ys, S, h0, hs => ⟨[], S, lcL_nil rfl, by rw [List.append_nil, List.append_nil]; exact h0⟩
  | x :: xs, zs, ys, S, h0, hs => by
    obtain ⟨env1, S1, y, S2, h1, h2, h3⟩ := hs zs ys x S h0
    obtain ⟨us, S', e, q⟩ := lcL_run g I (xs := xs) h3 hs
    refine ⟨y :: us, S', lcL_consT rfl h1 h2 e, ?_⟩
    rw [List.append_assoc, List.append_assoc] at q
    exact q
theorem forL_nil {γ : TGt} {ψ : TSt} {w : Sd → Bool} (hw : w S = true) : forL γ ψ w [] env S = .ok (.nx env) S := by rw [forL, hw]; rfl
theorem forL_cons {γ : TGt} {ψ : TSt} {w : Sd → Bool} {ds : List D} (hw : w S = true) : forL γ ψ w (d :: ds) env S = (γ d env S).bind fun env1 S1 => (ψ env1 S1).bind fun o S2 => match o with
    | .nx e => forL γ ψ w ds e S2
    | .ct e => forL γ ψ w ds e S2
    | .brk e => .ok (.nx e) S2
    | .ret d => .ok (.ret d) S2 := by rw [forL, hw]; rfl
/-- a for that runs through: what stands at each turn -/
theorem forL_run {γ : TGt} {ψ : TSt} {τ : Type} (g : τ → D) (I : List τ → En → Sd → Prop) : ∀ {xs ys : List τ} {env : En} {S : Sd}, I ys env S → (∀ ys x env S, I ys env S → ∃ env1 S1 env2 S2, γ (g x) env S = .ok env1 S1 ∧ ψ env1 S1 = .ok (.nx env2) S2 ∧ I (ys ++ [x]) env2 S2) → ∃ env' S', forL γ ψ anyS (xs.map g) env S = .ok (.nx env') S' ∧ I (ys ++ xs) env' S'
  | [], ys, env, S, h0, hs => ⟨env, S, forL_nil rfl, by rw [List.append_nil]; exact h0⟩
  | x :: xs, ys, env, S, h0, hs => by
    obtain ⟨env1, S1, env2, S2, h1, h2, h3⟩ := hs ys x env S h0
    obtain ⟨env', S', e, q⟩ := forL_run g I (xs := xs) h3 hs
    refine ⟨env', S', ?_, by rw [List.append_assoc] at q; exact q⟩
    rw [List.map_cons, forL_cons rfl, h1]
    simp only [R.bind_ok, h2]
    exact e
/-- a for as a fold, S unchanged, the slots told by a state -/
theorem forL_fold {γ : TGt} {ψ : TSt} {w : Sd → Bool} {τ σ : Type} (g : τ → D) (step : σ → τ → σ) (E : σ → En) {S : Sd} (hw : w S = true) : ∀ {xs : List τ} {s : σ}, (∀ s, ∀ x ∈ xs, ∃ env1, γ (g x) (E s) S = .ok env1 S ∧ ψ env1 S = .ok (.nx (E (step s x))) S) → forL γ ψ w (xs.map g) (E s) S = .ok (.nx (E (xs.foldl step s))) S
  | [], s, h => forL_nil hw
  | x :: xs, s, h => by
    obtain ⟨env1, h1, h2⟩ := h s x List.mem_cons_self
    rw [List.map_cons, forL_cons hw, h1]
    simp only [R.bind_ok, h2]
    exact forL_fold g step E hw fun s y hy => h s y (List.mem_cons_of_mem _ hy)
end
end Den

namespace Den
open PySem PySem.Spec PyProof.Rows L2
/-! ## a list, a tuple, whatever it is told by -/
def SqV (S : Sd) (d : D) (ds : List D) : Prop := d = .tup ds ∨ d = .lst ds ∨ ∃ i, d = .hnd i ∧ S[i]? = some (.lst ds)
section
variable {S : Sd} {d : D} {ds : List D}
theorem SqV.tup : SqV S (.tup ds) ds := .inl rfl
theorem SqV.lst : SqV S (.lst ds) ds := .inr (.inl rfl)
theorem SqV.items (h : SqV S d ds) : d.items S = some ds := by
  rcases h with rfl | rfl | ⟨i, rfl, e⟩
  · rfl
  · rfl
  · show (match S[i]? with | some (.lst ds) => some ds | _ => none) = some ds
    rw [e]
theorem SqV.walk (h : SqV S d ds) : ∃ w, walkR d S = .ok ⟨ds, w⟩ S ∧ w S = true := by
  rcases h with rfl | rfl | ⟨i, rfl, e⟩
  · exact ⟨anyS, rfl, rfl⟩
  · exact ⟨anyS, rfl, rfl⟩
  · exact ⟨stillS i ds, wk_hnd' e, stillS_at e⟩
theorem SqV.len (h : SqV S d ds) : oLen [d] S = .ok (.int ds.length) S := by
  have e := h.items
  rcases h with rfl | rfl | ⟨i, rfl, _⟩
  · rfl
  · rfl
  · unfold oLen
    simp only [e]
theorem SqV.isList (h : SqV S d ds) : oIsi [.list, .tuple] d S = .ok (.bl true) S := by
  rcases h with rfl | rfl | ⟨i, rfl, e⟩
  · rfl
  · rfl
  · have : D.kn S (.hnd i) = some (.b .list) := by
      unfold D.kn
      simp only [e]
    exact isi_ev this
theorem SqV.ix (h : SqV S d ds) {i : Int} {x : D} (e : atI ds i = some x) : oIx d (.int i) S = .ok x S := by
  have e2 := h.items
  rcases h with rfl | rfl | ⟨j, rfl, _⟩
  · rw [ix_tup', e]; rfl
  · rw [ix_lst', e]; rfl
  · unfold oIx
    simp only [e2, Option.bind_some, e]
    rfl
theorem SqV.tuple (h : SqV S d ds) : oTuple [d] S = .ok (.tup ds) S := by
  have e2 := h.items
  rcases h with rfl | rfl | ⟨j, rfl, _⟩
  · rfl
  · rfl
  · unfold oTuple
    simp only [e2]
theorem SqV.truth (h : SqV S d ds) : truthR d S = .ok (!ds.isEmpty) S := by
  rcases h with rfl | rfl | ⟨j, rfl, e⟩
  · rfl
  · rfl
  · unfold truthR D.truth
    simp only [e]
/-- what is said of S goes on where nothing that stood is changed -/
theorem SqV.more (h : SqV S d ds) {S' : Sd} (k : ∀ (i : Nat) (o : MO), S[i]? = some o → S'[i]? = some o) : SqV S' d ds := h.imp id fun h => h.imp id fun ⟨i, e, h⟩ => ⟨i, e, k _ _ h⟩
theorem SqV.unpack (h : SqV S d ds) : (match (match d with | .tup ds => some ds | d => d.itemsL S) with | some ds => some ds | none => none) = some ds := by
  rcases h with rfl | rfl | ⟨i, rfl, e⟩
  · rfl
  · rfl
  · show (match (match S[i]? with | some (.lst ds) => some ds | _ => none) with | some ds => some ds | none => none) = some ds
    rw [e]
theorem SqV.tgt (h : SqV S d ds) {γs : List TGt} {env : En} : tTup γs d env S = tTup γs (.tup ds) env S := by
  rcases h with rfl | rfl | ⟨i, rfl, e⟩
  · rfl
  · rfl
  · unfold tTup
    have : D.itemsL S (.hnd i) = some ds := by
      show (match S[i]? with | some (.lst ds) => some ds | _ => none) = some ds
      rw [e]
    simp only [this]
end
/-! ## what stands for data, and == of it -/
structure Enc (τ : Type) [DecidableEq τ] where
  d : τ → D
  p : τ → PyData
  k : Nat
  py : ∀ (S : Sd) (n : Nat) (a : τ), k ≤ n → D.py S n (d a) = some (p a)
  eqv : ∀ a b : τ, PyData.eqv (p a) (p b) = decide (a = b)
  ok : τ → Bool
  lay : ∀ a : τ, ok a = true → PyData.canLay0 (p a) = true
  dep : ∀ a : τ, PyData.depth (p a) ≤ k
  cl : ∀ (a : τ) (g : Nat → Option D), mapH g (d a) = some (d a)
  ni : ∀ (a : τ) (c : String) (ns : List String) (ds : List D), d a ≠ .ins c ns ds
theorem Enc.sh {τ : Type} [DecidableEq τ] (E : Enc τ) (hk : E.k ≤ 9) (a : τ) (ha : E.ok a = true) : SeqAt.shaped (E.p a) = true := by
  unfold SeqAt.shaped
  rw [E.lay a ha, Bool.true_and, decide_eq_true_iff]
  have := E.dep a
  omega
theorem Enc.eqN {τ : Type} [DecidableEq τ] (E : Enc τ) (hk : E.k ≤ 9) {neg : Bool} {eqs : Eqs} {S : Sd} (a b : τ) (ha : E.ok a = true := by rfl) (hb : E.ok b = true := by rfl) : oEqN neg eqs (E.d a) (E.d b) S = .ok (.bl (if neg then !decide (a = b) else decide (a = b))) S := by
  unfold oEqN
  split
  · rename_i c ns ds e
    exact absurd e (E.ni _ _ _ _)
  · simp only [E.py S 9 _ hk, E.sh hk a ha, E.sh hk b hb, E.eqv, Bool.and_true, guardR_true]
def eInt : Enc Int := ⟨.int, .int, 0, fun S n a _ => by cases n <;> rfl, fun a b => by
  show (a == b) = _
  rw [Bool.eq_iff_iff, decide_eq_true_iff, beq_iff_eq], fun _ => true, fun _ _ => rfl, fun _ => Nat.le_refl _, fun _ _ => by simp [mapH], fun _ _ _ _ h => nomatch h⟩
def eNat : Enc Nat := ⟨fun n => .int n, fun n => .int n, 0, fun S n a _ => by cases n <;> rfl, fun a b => by
  show ((a : Int) == (b : Int)) = _
  rw [Bool.eq_iff_iff, decide_eq_true_iff, beq_iff_eq]
  omega, fun _ => true, fun _ _ => rfl, fun _ => Nat.le_refl _, fun _ _ => by simp [mapH], fun _ _ _ _ h => nomatch h⟩
def eBl : Enc Bool := ⟨.bl, .bool, 0, fun S n a _ => by cases n <;> rfl, fun a b => by cases a <;> cases b <;> rfl, fun _ => true, fun _ _ => rfl, fun _ => Nat.le_refl _, fun _ _ => by simp [mapH], fun _ _ _ _ h => nomatch h⟩
def eStr : Enc Str := ⟨.str, .str, 0, fun S n a _ => by cases n <;> rfl, fun a b => by
  show (a == b) = _
  rw [Bool.eq_iff_iff, decide_eq_true_iff, beq_iff_eq], PyData.strOk, fun a h => by rw [PyData.canLay0]; exact h, fun _ => Nat.le_refl _, fun _ _ => by simp [mapH], fun _ _ _ _ h => nomatch h⟩
section
variable {τ υ : Type} [DecidableEq τ] [DecidableEq υ]
theorem Enc.pyAll (E : Enc τ) (S : Sd) (n : Nat) (h : E.k ≤ n) : ∀ as : List τ, Den.pyAll (D.py S n) (as.map E.d) = some (as.map E.p)
  | [] => rfl
  | a :: as => by
    rw [List.map_cons, Den.pyAll, E.py S n a h, Enc.pyAll E S n h as]
    rfl
theorem Enc.eqvAll (E : Enc τ) : ∀ as bs : List τ, PyData.eqvAll (as.map E.p) (bs.map E.p) = decide (as = bs)
  | [], [] => rfl
  | [], _ :: _ => rfl
  | _ :: _, [] => rfl
  | a :: as, b :: bs => by
    show (PyData.eqv (E.p a) (E.p b) && PyData.eqvAll (as.map E.p) (bs.map E.p)) = _
    rw [E.eqv, Enc.eqvAll E as bs, Bool.eq_iff_iff, Bool.and_eq_true, decide_eq_true_iff, decide_eq_true_iff, decide_eq_true_iff, List.cons.injEq]
theorem Enc.layAll (E : Enc τ) : ∀ as : List τ, as.all E.ok = true → PyData.canLayAll0 (as.map E.p) = true
  | [], _ => rfl
  | a :: as, h => by
    rw [List.all_cons, Bool.and_eq_true] at h
    show (PyData.canLay0 (E.p a) && PyData.canLayAll0 (as.map E.p)) = true
    rw [E.lay a h.1, Enc.layAll E as h.2]
    rfl
theorem Enc.clAll (E : Enc τ) (g : Nat → Option D) : ∀ as : List τ, mapHs g (as.map E.d) = some (as.map E.d)
  | [] => by simp [mapHs]
  | a :: as => by
    rw [List.map_cons, mapHs, E.cl, Enc.clAll E g as]
theorem Enc.depAll (E : Enc τ) : ∀ as : List τ, PyData.depthAll (as.map E.p) ≤ E.k
  | [] => Nat.zero_le _
  | a :: as => by
    show max (PyData.depth (E.p a)) (PyData.depthAll (as.map E.p)) ≤ E.k
    have h := Enc.depAll E as
    have := E.dep a
    omega
/-- a tuple, a list of such things -/
def eT (E : Enc τ) : Enc (List τ) := ⟨fun as => .tup (as.map E.d), fun as => PyData.tuple (as.map E.p), E.k + 1, fun S n as h => by
  obtain ⟨n, rfl⟩ := Nat.exists_eq_add_of_lt (show E.k < n from h)
  show (Den.pyAll (D.py S (E.k + n)) (as.map E.d)).map PyData.tuple = _
  rw [E.pyAll S _ (by omega)] <;> rfl, E.eqvAll, fun as => as.all E.ok, E.layAll, fun as => by
  show PyData.depthAll (as.map E.p) + 1 ≤ _
  have := E.depAll as
  omega, fun as g => by rw [mapH, E.clAll]; rfl, fun _ _ _ _ h => nomatch h⟩
def eL (E : Enc τ) : Enc (List τ) := ⟨fun as => .lst (as.map E.d), fun as => PyData.list (as.map E.p), E.k + 1, fun S n as h => by
  obtain ⟨n, rfl⟩ := Nat.exists_eq_add_of_lt (show E.k < n from h)
  show (Den.pyAll (D.py S (E.k + n)) (as.map E.d)).map PyData.list = _
  rw [E.pyAll S _ (by omega)] <;> rfl, E.eqvAll, fun as => as.all E.ok, E.layAll, fun as => by
  show PyData.depthAll (as.map E.p) + 1 ≤ _
  have := E.depAll as
  omega, fun as g => by rw [mapH, E.clAll]; rfl, fun _ _ _ _ h => nomatch h⟩
/-- a pair -/
def e2 (E : Enc τ) (F : Enc υ) : Enc (τ × υ) := ⟨fun x => .tup [E.d x.1, F.d x.2], fun x => PyData.tuple [E.p x.1, F.p x.2], max E.k F.k + 1, fun S n x h => by
  obtain ⟨n, rfl⟩ := Nat.exists_eq_add_of_lt (show max E.k F.k < n from h)
  show (Den.pyAll (D.py S (max E.k F.k + n)) [E.d x.1, F.d x.2]).map PyData.tuple = _
  unfold Den.pyAll
  unfold Den.pyAll
  unfold Den.pyAll
  rw [E.py S _ _ (by omega), F.py S _ _ (by omega)] <;> rfl, fun a b => by
  show (PyData.eqv (E.p a.1) (E.p b.1) && (PyData.eqv (F.p a.2) (F.p b.2) && true)) = _
  rw [E.eqv, F.eqv, Bool.eq_iff_iff]
  obtain ⟨a1, a2⟩ := a
  obtain ⟨b1, b2⟩ := b
  simp only [Bool.and_eq_true, decide_eq_true_iff, and_true, Prod.mk.injEq], fun a => E.ok a.1 && F.ok a.2, fun a h => by
  rw [Bool.and_eq_true] at h
  show (PyData.canLay0 (E.p a.1) && (PyData.canLay0 (F.p a.2) && true)) = true
  rw [E.lay _ h.1, F.lay _ h.2]
  rfl, fun a => by
  show max (PyData.depth (E.p a.1)) (max (PyData.depth (F.p a.2)) 0) + 1 ≤ _
  have := E.dep a.1
  have := F.dep a.2
  omega, fun a g => by simp [mapH, mapHs, E.cl, F.cl], fun _ _ _ _ h => nomatch h⟩
/-- three -/
def e3 {χ : Type} [DecidableEq χ] (E : Enc τ) (F : Enc υ) (G : Enc χ) : Enc (τ × υ × χ) := ⟨fun x => .tup [E.d x.1, F.d x.2.1, G.d x.2.2], fun x => PyData.tuple [E.p x.1, F.p x.2.1, G.p x.2.2], max E.k (max F.k G.k) + 1, fun S n x h => by
  obtain ⟨n, rfl⟩ := Nat.exists_eq_add_of_lt (show max E.k (max F.k G.k) < n from h)
  show (Den.pyAll (D.py S (max E.k (max F.k G.k) + n)) [E.d x.1, F.d x.2.1, G.d x.2.2]).map PyData.tuple = _
  unfold Den.pyAll
  unfold Den.pyAll
  unfold Den.pyAll
  unfold Den.pyAll
  rw [E.py S _ _ (by omega), F.py S _ _ (by omega), G.py S _ _ (by omega)] <;> rfl, fun a b => by
  show (PyData.eqv (E.p a.1) (E.p b.1) && (PyData.eqv (F.p a.2.1) (F.p b.2.1) && (PyData.eqv (G.p a.2.2) (G.p b.2.2) && true))) = _
  rw [E.eqv, F.eqv, G.eqv, Bool.eq_iff_iff]
  obtain ⟨a1, a2, a3⟩ := a
  obtain ⟨b1, b2, b3⟩ := b
  simp only [Bool.and_eq_true, decide_eq_true_iff, and_true, Prod.mk.injEq], fun a => E.ok a.1 && (F.ok a.2.1 && G.ok a.2.2), fun a h => by
  rw [Bool.and_eq_true, Bool.and_eq_true] at h
  show (PyData.canLay0 (E.p a.1) && (PyData.canLay0 (F.p a.2.1) && (PyData.canLay0 (G.p a.2.2) && true))) = true
  rw [E.lay _ h.1, F.lay _ h.2.1, G.lay _ h.2.2]
  rfl, fun a => by
  show max (PyData.depth (E.p a.1)) (max (PyData.depth (F.p a.2.1)) (max (PyData.depth (G.p a.2.2)) 0)) + 1 ≤ _
  have := E.dep a.1
  have := F.dep a.2.1
  have := G.dep a.2.2
  omega, fun a g => by simp [mapH, mapHs, E.cl, F.cl, G.cl], fun _ _ _ _ h => nomatch h⟩
end
section
variable {S : Sd} {eqs : Eqs}
@[simp] theorem eq_int {i j : Int} : oEqN false eqs (.int i) (.int j) S = .ok (.bl (decide (i = j))) S := eInt.eqN (Nat.zero_le _) i j
@[simp] theorem ne_int {i j : Int} : oEqN true eqs (.int i) (.int j) S = .ok (.bl (!decide (i = j))) S := eInt.eqN (Nat.zero_le _) i j
theorem eq_str {i j : Str} (hi : PyData.strOk i = true) (hj : PyData.strOk j = true) : oEqN false eqs (.str i) (.str j) S = .ok (.bl (decide (i = j))) S := eStr.eqN (Nat.zero_le _) i j hi hj
theorem ne_str {i j : Str} (hi : PyData.strOk i = true) (hj : PyData.strOk j = true) : oEqN true eqs (.str i) (.str j) S = .ok (.bl (!decide (i = j))) S := eStr.eqN (Nat.zero_le _) i j hi hj
@[simp] theorem eq_bl {i j : Bool} : oEqN false eqs (.bl i) (.bl j) S = .ok (.bl (decide (i = j))) S := eBl.eqN (Nat.zero_le _) i j
@[simp] theorem ne_bl {i j : Bool} : oEqN true eqs (.bl i) (.bl j) S = .ok (.bl (!decide (i = j))) S := eBl.eqN (Nat.zero_le _) i j
/-! all, any, sum -/
theorem allOf_map {α β τ : Type} {f : α → Option β} {g : τ → α} {h : τ → β} (e : ∀ x, f (g x) = some (h x)) : ∀ xs : List τ, allOf f (xs.map g) = some (xs.map h)
  | [] => rfl
  | x :: xs => by
    rw [List.map_cons, allOf, e, allOf_map e xs]
    rfl
theorem ev_all {τ : Type} (f : τ → Bool) (xs : List τ) : oAll [.lst (xs.map fun x => .bl (f x))] S = .ok (.bl (xs.all f)) S := by
  have e : ((D.itemsL S (.lst (xs.map fun x => .bl (f x)))).bind (allOf D.bl?)) = some (xs.map f) := allOf_map (f := D.bl?) (g := fun x => D.bl (f x)) (h := f) (fun _ => rfl) xs
  show (match ((D.itemsL S (.lst (xs.map fun x => .bl (f x)))).bind (allOf D.bl?)) with | some bs => R.ok (D.bl (bs.all id)) S | none => .stuck) = _
  rw [e]
  show R.ok (D.bl ((xs.map f).all id)) S = _
  rw [List.all_map]
  rfl
theorem ev_any {τ : Type} (f : τ → Bool) (xs : List τ) : oAny [.lst (xs.map fun x => .bl (f x))] S = .ok (.bl (xs.any f)) S := by
  have e : ((D.itemsL S (.lst (xs.map fun x => .bl (f x)))).bind (allOf D.bl?)) = some (xs.map f) := allOf_map (f := D.bl?) (g := fun x => D.bl (f x)) (h := f) (fun _ => rfl) xs
  show (match ((D.itemsL S (.lst (xs.map fun x => .bl (f x)))).bind (allOf D.bl?)) with | some bs => R.ok (D.bl (bs.any id)) S | none => .stuck) = _
  rw [e]
  show R.ok (D.bl ((xs.map f).any id)) S = _
  rw [List.any_map]
  rfl
theorem ev_sum {τ : Type} (f : τ → Int) (xs : List τ) : oSum [.lst (xs.map fun x => .int (f x))] S = .ok (.int (xs.map f).sum) S := by
  have e : ((D.itemsL S (.lst (xs.map fun x => .int (f x)))).bind (allOf D.int?)) = some (xs.map f) := allOf_map (f := D.int?) (g := fun x => D.int (f x)) (h := f) (fun _ => rfl) xs
  show (match ((D.itemsL S (.lst (xs.map fun x => .int (f x)))).bind (allOf D.int?)) with | some bs => R.ok (D.int bs.sum) S | none => .stuck) = _
  rw [e]
@[simp] theorem ev_ttup {γs : List TGt} {ds : List D} {env : En} : Den.tTup γs (.tup ds) env S = if ds.length = γs.length then tMany γs ds env S else .stuck := rfl
@[simp] theorem ev_ttupL {γs : List TGt} {ds : List D} {env : En} : Den.tTup γs (.lst ds) env S = if ds.length = γs.length then tMany γs ds env S else .stuck := rfl
@[simp] theorem ev_many0 {env : En} : tMany [] [] env S = .ok env S := rfl
@[simp] theorem ev_manyS {γ : TGt} {γs : List TGt} {d : D} {ds : List D} {env : En} : tMany (γ :: γs) (d :: ds) env S = (γ d env S).bind fun env' S' => tMany γs ds env' S' := rfl
/-! new instances -/
theorem newR_ins {F : Fn} {ds fs : List D} {c : String} {ns : List String} (h : F (.hnd S.length :: ds) (S ++ [.ins c [] []]) = .ok .non (S ++ [.ins c ns fs])) (hc : ∀ g : Nat → Option D, mapHs g fs = some fs) : newR c F ds S = .ok (.ins c ns fs) S := by
  unfold newR
  rw [h]
  show exitR S (.ok (.hnd S.length) (S ++ [.ins c ns fs])) = _
  unfold exitR
  have l : (S ++ [MO.ins c ns fs]).length = S.length + 1 := by simp
  have k : S.length ≤ (S ++ [MO.ins c ns fs]).length ∧ KeepOk S (S ++ [.ins c ns fs]) := ⟨by omega, fun i o hi e => .inl (by rw [List.getElem?_append_left hi] at e; exact e)⟩
  have f : fz (S ++ [.ins c ns fs]) S.length (.hnd S.length) = some (.ins c ns fs) := by
    unfold fz
    rw [mapH]
    unfold resH
    rw [if_neg (Nat.lt_irrefl _), List.getElem?_append_right (Nat.le_refl _), Nat.sub_self]
    show (mapHs _ fs).map (D.ins c ns) = _
    rw [hc]
    rfl
  dsimp only
  rw [if_neg (by omega), if_pos k, f]
  show R.ok _ ((S ++ [MO.ins c ns fs]).take S.length) = _
  rw [List.take_append_of_le_length (Nat.le_refl _), List.take_length]
/-- self.f = e on the instance that is being made: the last one -/
theorem fld_new {c f : String} {d : D} {env : En} {ns : List String} {ds : List D} (hl : ns.length < 1000) : sFldR c f d (.hnd S.length) env (S ++ [.ins c ns ds]) = .ok (.nx env) (S ++ [.ins c (putD f d ns ds).1 (putD f d ns ds).2]) := by
  unfold sFldR
  have e : (S ++ [MO.ins c ns ds])[S.length]? = some (.ins c ns ds) := by
    rw [List.getElem?_append_right (Nat.le_refl _), Nat.sub_self]
    rfl
  simp only [e]
  rw [show decide (True ∧ ns.length < 1000) = true from decide_eq_true ⟨trivial, hl⟩]
  show R.ok (Out.nx env) ((S ++ [MO.ins c ns ds]).set S.length _) = _
  rw [List.set_append_right _ _ (Nat.le_refl _), Nat.sub_self]
  rfl
theorem fld_at {c f : String} {ns : List String} {ds : List D} : oFld f (.hnd S.length) (S ++ [.ins c ns ds]) = okR (fldOf f ns ds) (S ++ [.ins c ns ds]) := by
  unfold oFld D.fld
  have e : (S ++ [MO.ins c ns ds])[S.length]? = some (.ins c ns ds) := by
    rw [List.getElem?_append_right (Nat.le_refl _), Nat.sub_self]
    rfl
  simp only [e]
  cases fldOf f ns ds <;> rfl
/-! two sources -/
theorem lcL2_nil {γ γ1 : TGt} {κ1 : TW} {φ : TX} {vs1 : List Nat} {env0 : En} {w : Sd → Bool} (hw : w S = true) : lcL2 γ cYes κ1 γ1 cYes φ vs1 env0 w [] S = .ok [] S := by rw [lcL2, hw]; rfl
theorem lcL2_flat {γ γ1 : TGt} {κ1 : TW} {φ : TX} {vs1 : List Nat} {env0 : En} {w : Sd → Bool} {τ : Type} (g : τ → D) (f : τ → List D) (hw : w S = true) : ∀ {xs : List τ}, (∀ x ∈ xs, ∃ env1 ds w1, γ (g x) env0 S = .ok env1 S ∧ κ1 env1 S = .ok ⟨ds, w1⟩ S ∧ lcL γ1 cYes φ (wipeE env1 vs1) w1 ds S = .ok (f x) S) → lcL2 γ cYes κ1 γ1 cYes φ vs1 env0 w (xs.map g) S = .ok (xs.flatMap f) S
  | [], _ => lcL2_nil hw
  | x :: xs, h => by
    obtain ⟨env1, ds, w1, h1, h2, h3⟩ := h x List.mem_cons_self
    have ih := lcL2_flat g f hw (xs := xs) fun e he => h e (List.mem_cons_of_mem _ he)
    rw [List.map_cons, lcL2, hw, h1]
    simp [h2, h3, ih]
theorem rng_map {lo : Int} {n : Nat} : rng lo n = (List.range n).map fun (k : Nat) => D.int (lo + (k : Int)) := rfl
theorem inRng_nat {n : Nat} (h : n ≤ 1000000) : inRng (n : Int) = true := Nat.ble_eq_true_of_le (Nat.le_trans h (by decide))
@[simp] theorem forL_nilA {γ : TGt} {ψ : TSt} {env : En} : forL γ ψ anyS [] env S = .ok (.nx env) S := rfl
@[simp] theorem forL_consA {γ : TGt} {ψ : TSt} {ds : List D} {d : D} {env : En} : forL γ ψ anyS (d :: ds) env S = (γ d env S).bind fun env1 S1 => (ψ env1 S1).bind fun o S2 => match o with
    | .nx e => forL γ ψ anyS ds e S2
    | .ct e => forL γ ψ anyS ds e S2
    | .brk e => .ok (.nx e) S2
    | .ret d => .ok (.ret d) S2 := rfl
end
end Den

namespace Den
open PySem PySem.Spec PyProof.Rows L2
open He (ba ga ma eqO eqO_ok)
/-! ## the head: what the top has made, by Bools -/
def BK.all : List BK := [.non, .bl, .int, .str, .list, .tuple, .dict]
theorem BK.mem (k : BK) : k ∈ BK.all := by cases k <;> decide
abbrev gs (K : PySem.W.Frag) (x : String) : Addr := ga K (Str.ofString x)
def ciB (K : PySem.W.Frag) (x : String) : Bool := (He.Fa.cls (Str.ofString x)).ok K && (eqO (PySem.W.findIn K (.ref (gs K x)) "__class__") (some (some (.builtin "object.__class__"))) && (eqO (PySem.W.specialIn K (.builtin "object.__class__") "__get__") (some (some (.builtin "getset_descriptor.__get__"))) &&
  (decide (PySem.W.takesIn K (.builtin "object.__class__") = some true) && (decide (PySem.W.mroIn K (gs K x) (.type "object") = some true) && BK.all.all fun k => decide (PySem.W.kitOne K (.ref (gs K x)) (.type k.nm) = some false)))))
theorem ciB_ok {K : PySem.W.Frag} {x : String} (h : ciB K x = true) : CI K (gs K x) := by
  obtain ⟨h1, h⟩ := ba h
  obtain ⟨h2, h⟩ := ba h
  obtain ⟨h3, h⟩ := ba h
  obtain ⟨h4, h⟩ := ba h
  obtain ⟨h5, h6⟩ := ba h
  exact ⟨He.cls_ok h1, eqO_ok h2, eqO_ok h3, of_decide_eq_true h4, of_decide_eq_true h5, fun k => of_decide_eq_true (List.all_eq_true.mp h6 k (BK.mem k))⟩
def Cn (mg : Str → Option Value) (K : PySem.W.Frag) (cs : List String) : Prop := ∀ c ∈ cs, mg (Str.ofString c) = some (.ref (gs K c))
theorem gok_of {K : PySem.W.Frag} {mg : Str → Option Value} {cs : List String} (n : Cn mg K cs) (h : cs.all (ciB K) = true) : Gok ⟨K, mg, cs⟩ := ⟨fun c hc C e => by
  have e2 := (show mg (Str.ofString c) = some (.ref C) from e).symm.trans (n c hc)
  cases e2
  exact ciB_ok (List.all_eq_true.mp h c hc)⟩
def naB (K : PySem.W.Frag) (x : String) (fs : List String) : Bool := fs.all fun f => eqO (PySem.W.findIn K (.ref (gs K x)) (Str.ofString f)) (some none)
theorem na_of {K : PySem.W.Frag} {mg : Str → Option Value} {x f : String} {fs : List String} (n : mg (Str.ofString x) = some (.ref (gs K x))) (h : naB K x fs = true) (hf : f ∈ fs) : ∀ C, mg (Str.ofString x) = some (.ref C) → NoAttr K C (Str.ofString f) := fun C e => by
  cases e.symm.trans n
  exact eqO_ok (List.all_eq_true.mp h f hf)
def eqB (K : PySem.W.Frag) (cs : List String) (x : String) : Bool := eqO (PySem.W.findIn K (.ref (gs K x)) "__ne__") (some (some (.builtin "object.__ne__"))) && (decide (PySem.W.mroIn K (gs K x) (.type "object") = some true) && ((BK.all.all fun k => PySem.W.notFirst K (gs K x) (.type k.nm)) && cs.all fun y => PySem.W.notFirst K (gs K x) (.ref (gs K y))))
section
variable {P : Program} {w : World} {K : PySem.W.Frag} {mg : Str → Option Value} {base : Heap} {cs : List String} {k : Nat} {F : Fn} {ps : List Str} {fd : FuncData} {x m : String}
theorem eqC_of (n : Cn mg K cs) (hx : x ∈ cs) (M : Meth K (gs K x) "__eq__" (ma K (gs K x) "__eq__")) (hb : Binds K fd ["self", "other"] []) (ok : FnOk P w K mg base (L2.CX P w) k (ma K (gs K x) "__eq__") fd ["self", "other"] (spT ⟨K, mg, cs⟩ F 2)) (h : eqB K cs x = true) : EqC P w K mg base ⟨K, mg, cs⟩ k x F := by
  obtain ⟨h1, h⟩ := ba h
  obtain ⟨h2, h⟩ := ba h
  obtain ⟨h3, h4⟩ := ba h
  refine ⟨_, _, fd, n x hx, hx, M.at_, M.fn, hb, ok, eqO_ok h1, of_decide_eq_true h2, fun k => List.all_eq_true.mp h3 k (BK.mem k), fun c' hc C' e => ?_⟩
  cases (show mg (Str.ofString c') = some (.ref C') from e).symm.trans (n c' hc)
  exact List.all_eq_true.mp h4 c' hc
theorem stC_of (n : Cn mg K cs) (hx : x ∈ cs) (M : Meth K (gs K x) "__str__" (ma K (gs K x) "__str__")) (hb : Binds K fd ["self"] []) (ok : FnOk P w K mg base (L2.CX P w) k (ma K (gs K x) "__str__") fd ["self"] (spT ⟨K, mg, cs⟩ F 1)) : StC P w K mg base ⟨K, mg, cs⟩ k x F := ⟨_, _, fd, n x hx, hx, M.at_, M.fn, hb, ok⟩
def koB (K : PySem.W.Frag) (cs : List String) (x : String) (subs : List String) : Bool := (BK.all.all fun k => decide (PySem.W.kitOne K (.type k.nm) (.ref (gs K x)) = some false)) && cs.all fun y => decide (PySem.W.kitOne K (.ref (gs K y)) (.ref (gs K x)) = some (subs.contains y))
theorem ko_of {subs : List String} (n : Cn mg K cs) (g : mg (Str.ofString x) = some (.ref (gs K x))) (h : koB K cs x subs = true) : Ko ⟨K, mg, cs⟩ x subs := by
  obtain ⟨h1, h2⟩ := ba h
  refine ⟨_, g, fun k => of_decide_eq_true (List.all_eq_true.mp h1 k (BK.mem k)), fun c' hc C' e => ?_⟩
  cases (show mg (Str.ofString c') = some (.ref C') from e).symm.trans (n c' hc)
  exact of_decide_eq_true (List.all_eq_true.mp h2 c' hc)
/-! errors -/
def oexB (K : PySem.W.Frag) (C : Addr) : Bool := match K.lookup C with
  | some ⟨.type "type", _, .cls cd, sl⟩ => (match cd.mro, sl.toList with
    | .ref C' :: bm, [_, _, _, _, some (.builtin n), _] => C' == C && n == "ValueError.__new__" && !cd.hasDel && cd.hasDict && PySem.HandSPX.refsVE bm
    | _, _ => false)
  | _ => false
theorem oexB_ok {C : Addr} (q : oexB K C = true) : ∃ nm qn N bs bm sn sub ab col dd k0 k1 k2 k3 k5, K.lookup C = some (excClassObj nm qn C N bs bm true sn sub ab col dd k0 k1 k2 k3 k5 "ValueError.__new__") ∧ PySem.HandSPX.refsVE bm = true := by
  unfold oexB at q
  split at q
  · rename_i dd cd sl ho
    split at q
    · rename_i C' bm k0 k1 k2 k3 n k5 hm hs
      simp only [Bool.and_eq_true, beq_iff_eq, Bool.not_eq_true'] at q
      obtain ⟨⟨⟨⟨rfl, rfl⟩, hdel⟩, hd⟩, ht⟩ := q
      obtain ⟨nm, bs, mro, ns, qn, hdc, sn, sub, ab, col, del⟩ := cd
      dsimp only at hm hdel hd
      subst hm hdel hd
      have hsl : sl = #[k0, k1, k2, k3, some (.builtin "ValueError.__new__"), k5] := by
        obtain ⟨l⟩ := sl
        simp only at hs
        rw [hs]
      subst hsl
      exact ⟨nm, qn, ns, bs, bm, sn, sub, ab, col, dd, k0, k1, k2, k3, k5, ho, ht⟩
    · cases q
  · cases q
def erB (K : PySem.W.Frag) (x : String) (fs : List Str) : Bool := oexB K (gs K x) && (eqO (PySem.W.findIn K (.ref (gs K x)) "__setattr__") (some (some (.builtin "object.__setattr__"))) && (decide (PySem.W.subIn K (.ref (gs K x)) (.type "BaseException") = some true) && (decide (PySem.W.typeIn K (.ref (gs K x)) = some (.type "type")) && (PySem.W.keepIn K (.ref (gs K x)) &&
  (eqO (PySem.W.findIn K (.ref (gs K x)) "__init__") (some (some (.ref (ma K (gs K x) "__init__")))) && (decide (PySem.W.typeIn K (.ref (ma K (gs K x) "__init__")) = some (.type "function")) && fs.all fun f => eqO (PySem.W.findIn K (.ref (gs K x)) f) (some none)))))))
theorem ec_of {G : Gm} {sp : Sp} {fs : List Str} (g : mg (Str.ofString x) = some (.ref (gs K x))) (h : erB K x fs = true) (hb : Binds K fd ps []) (ok : FnOk P w K mg base CX0 1 (ma K (gs K x) "__init__") fd ps sp) : Ec P w K mg base G x ps sp fs := by
  obtain ⟨h1, h⟩ := ba h
  obtain ⟨h2, h⟩ := ba h
  obtain ⟨h3, h⟩ := ba h
  obtain ⟨h4, h⟩ := ba h
  obtain ⟨h5, h⟩ := ba h
  obtain ⟨h6, h⟩ := ba h
  obtain ⟨h7, h8⟩ := ba h
  exact ⟨_, _, fd, g, ⟨oexB_ok h1, eqO_ok h2, of_decide_eq_true h3, of_decide_eq_true h4, h5⟩, eqO_ok h6, of_decide_eq_true h7, hb, ok, fun f hf => eqO_ok (List.all_eq_true.mp h8 f hf)⟩
/-! static methods -/
abbrev sf (K : PySem.W.Frag) (x m : String) : Addr := He5.wf K (gs K x) "staticmethod" (Str.ofString m)
def smB (K : PySem.W.Frag) (x m : String) : Bool := He5.wrapB K (gs K x) "staticmethod" "staticmethod.__get__" (Str.ofString m) && (PySem.W.readsIn K (gs K x) (.type "type") && eqO (PySem.W.specialIn K (.ref (gs K x)) "__getattribute__") (some (some (.builtin "type.__getattribute__"))))
theorem smet_of (h : smB K x m = true) (kp : PySem.W.keepIn K (.ref (sf K x m)) = true) : SMet K (gs K x) (Str.ofString m) (sf K x m) := by
  obtain ⟨h1, h⟩ := ba h
  obtain ⟨h2, h3⟩ := ba h
  obtain ⟨w1, rest, w2⟩ := He5.wrapB_ok h1
  exact ⟨⟨h2, eqO_ok h3⟩, ⟨_, w1, rest, w2⟩, kp⟩
/-! constants -/
theorem gtup_of {X : Str} {vs : List He.Dv} {ds : List D} (g : mg X = some (.ref (ga K X))) (h : He.tupB K X vs = true) (hr : ∀ m H, Reps ⟨K, mg, cs⟩ m H ds (vs.map (He.Dv.v K))) : GTup ⟨K, mg, cs⟩ X ds := ⟨_, _, g, He.tupB_ok h hp0, hr⟩
theorem gdct_of {X : Str} {tab : List (String × String)} {es : Array DictEntry} {n : Nat} (g : mg X = some (.ref (ga K X))) (h : KDict K w (ga K X) es n) (hv : He.valsB K (ga K X) (tab.map fun p => (Str.ofString p.1, He.Dv.str (Str.ofString p.2))) = true) : GDct K mg w X tab := ⟨_, g, fun p hp => by
  obtain ⟨u, e1, e2⟩ := He.valsB_ok hv (List.mem_map.mpr ⟨p, hp, rfl⟩)
  exact ⟨es, n, u, h.at_, h.lit, e1, e2⟩⟩
def blB (K : PySem.W.Frag) (x : Str) (id : String) : Bool := eqO (PySem.W.nsIn K mainGlobals x) (some (some (.builtin id)))
/-! binding -/
theorem FunA.binds {X q : Str} {st : Stmt} {f : Addr} (F : L2.FunD K X q (defArgs st) (defBody st) (defScope st) [] [] f fd) (h : ∀ (kV doc pm : Value) (an : Option Addr) (cdv ct : Value) (us : List Value), us.length = ps.length → bindArgs (PySem.W.fnOf X q (defArgs st) (defBody st) (defScope st) .none kV doc pm an cdv ct) ⟨us, []⟩ = pure (ps.zip us)) : Binds K fd ps [] := F.bindsN h
/-- all are given, though there are defaults -/
theorem FunA.bindsD {X q : Str} {st : Stmt} {f : Addr} {v : V} {vs : List V} (F : L2.FunD K X q (defArgs st) (defBody st) (defScope st) (v :: vs) [] f fd) (h : ∀ (T : Addr) (kV doc pm : Value) (an : Option Addr) (cdv ct : Value) (us its : List Value), us.length = ps.length → its.length = (v :: vs).length →
      ∃ k, bindArgs (PySem.W.fnOf X q (defArgs st) (defBody st) (defScope st) (.ref T) kV doc pm an cdv ct) ⟨us, []⟩ = seqItems? (.ref T) >>= k ∧ k (some its.toArray) = pure (ps.zip us)) : Binds K fd ps [] := by
  obtain ⟨ds, r, b⟩ := F.binds1 (ps := ps) ps.length (v :: vs).length (List.cons_ne_nil _ _) (by omega) fun T kV doc pm an cdv ct us its h1 h2 => by
    obtain ⟨k, e1, e2⟩ := h T kV doc pm an cdv ct us its h1 h2
    exact ⟨k, e1, by rw [e2, ← h2, List.drop_length, List.append_nil]⟩
  rw [List.drop_length] at r
  cases r
  exact b
theorem kbd_of {G : Gm} {ks : List Str} {n : Nat} {gD : List D → List D → List D} (g : List Value → List Value → List Value) (gV : List V → List V → List V) (hto : ∀ us ws : List Value, us.length = n → ws.length = ks.length → bindArgs fd ⟨us, ks.zip ws⟩ = pure (ps.zip (g us ws)))
    (hrel : ∀ {vs : List V} {us : List Value} {zs : List V} {ws : List Value}, Vals vs us → Vals zs ws → Vals (gV vs zs) (g us ws)) (hD : ∀ (m : Mp) (H : Hp) (ds : List D) (vs : List V) (es : List D) (us : List V), Reps G m H ds vs → Reps G m H es us → ds.length = n → es.length = ks.length → Reps G m H (gD ds es) (gV vs us) ∧ (gD ds es).length = ps.length) : KbD G fd ps n ks gD :=
  ⟨g, gV, ⟨fun s us ws _ l1 l2 => .of_eq (hto us ws l1 l2), hrel⟩, hD⟩
end
theorem vals_get {vs : List V} {us : List Value} (h : Vals vs us) : ∀ i : Nat, (vs[i]? = none ∧ us[i]? = none) ∨ ∃ v u, vs[i]? = some v ∧ us[i]? = some u ∧ RelV v u := by
  induction h with
  | nil => exact fun i => .inl ⟨rfl, rfl⟩
  | cons r _ ih => exact fun i => match i with
    | 0 => .inr ⟨_, _, rfl, rfl, r⟩
    | i + 1 => ih i
def gI {α : Type} (ord : List Nat) (us ws : List α) : List α := ord.filterMap fun i => (us ++ ws)[i]?
theorem gI_rel {vs zs : List V} {us ws : List Value} (r1 : Vals vs us) (r2 : Vals zs ws) : ∀ ord : List Nat, Vals (gI ord vs zs) (gI ord us ws)
  | [] => .nil
  | i :: ord => by
    have ih := gI_rel r1 r2 ord
    unfold gI at ih ⊢
    rcases vals_get (r1.append r2) i with ⟨e1, e2⟩ | ⟨v, u, e1, e2, r⟩
    · rw [List.filterMap_cons, List.filterMap_cons, e1, e2]; exact ih
    · rw [List.filterMap_cons, List.filterMap_cons, e1, e2]; exact .cons r ih
theorem kbd_ofF {K : PySem.W.Frag} {X q : Str} {pa : Arguments} {bd : List Stmt} {sc : Scope} {f : Addr} {fd : FuncData} {G : Gm} {ps ks : List Str} {n : Nat} {gD : List D → List D → List D} (F : L2.FunD K X q pa bd sc [] [] f fd) (ord : List Nat) (hK : G.K = K)
    (h : ∀ (kV doc pm : Value) (an : Option Addr) (cdv ct : Value) (us ws : List Value), us.length = n → ws.length = ks.length → bindArgs (PySem.W.fnOf X q pa bd sc .none kV doc pm an cdv ct) ⟨us, ks.zip ws⟩ = pure (ps.zip (gI ord us ws)))
    (hD : ∀ (m : Mp) (H : Hp) (ds : List D) (vs : List V) (es : List D) (us : List V), Reps G m H ds vs → Reps G m H es us → ds.length = n → es.length = ks.length → Reps G m H (gD ds es) (gI ord vs us) ∧ (gD ds es).length = ps.length) : KbD G fd ps n ks gD := by
  obtain ⟨oc, od, dV, kV, doc, pm, an, cdv, ct, osl, rfl, lk, hcd, hD', hK'⟩ := F.ex
  rcases hD' with ⟨_, rfl⟩ | ⟨e, _⟩
  · exact kbd_of (gI ord) (gI ord) (h kV doc pm an cdv ct) (fun r1 r2 => gI_rel r1 r2 ord) hD
  · exact absurd rfl e
/-! ### the Hook -/
abbrev AlZ : Type := (He.AlD × List (Option (List (Option (Str × Int))))) × Bool
def obsZ (n : Nat) (fa : List He.Fa) (fn : List He5.DefA) (ts : List He.Tab) (tf : List He.Defn) (ex : PySem.W.Frag → Bool) (g : Addr → Option Obj) : AlZ := ((He5.obsA fa fn (He.frT g (He5.asA g n)), ts.map fun t => He.dicW (He.frT g (He5.asA g n)) (t.1 (He.frT g (He5.asA g n)))), ex (He.frT g (He5.asA g n)) && He.tabsB g tf (He.frT g (He5.asA g n)))
def valZ (fn : List He5.DefA) (ts : List He.Tab) (w : World) : AlZ := ((He5.valA fn, ts.map fun t => some (He.keysIn w.params t.2)), true)
structure SaysZ (fa : List He.Fa) (fn : List He5.DefA) (ts : List He.Tab) (tf : List He.Defn) (ex : PySem.W.Frag → Bool) (w : World) (h : Heap) (K : PySem.W.Frag) : Prop where
  a : He5.SaysA fa fn K
  t : ts.map (fun t => He.dicW K (t.1 K)) = ts.map fun t => some (He.keysIn w.params t.2)
  more : ex K = true
  hd : ∀ p ∈ tf, PySem.W.codeHdIn K (He.cT K p).1 (He.cT K p).2 = true
  out : ∀ p ∈ tf, K.lookup (He.cT K p).2 = none
  empty : ∀ p ∈ tf, h.get? (He.cT K p).2 = some { cls := .none, data := .fields #[] }
theorem saysZ_of {n : Nat} {fa : List He.Fa} {fn : List He5.DefA} {ts : List He.Tab} {tf : List He.Defn} {ex : PySem.W.Frag → Bool} {w : World} {h : Heap} (e : obsZ n fa fn ts tf ex h.get? = valZ fn ts w) : SaysZ fa fn ts tf ex w h (He.frT h.get? (He5.asA h.get? n)) := by
  have e2 : (ex (He.frT h.get? (He5.asA h.get? n)) && He.tabsB h.get? tf (He.frT h.get? (He5.asA h.get? n))) = true := congrArg (fun z : AlZ => z.2) e
  obtain ⟨h1, h2⟩ := ba e2
  have key : ∀ p ∈ tf, PySem.W.codeHdIn (He.frT h.get? (He5.asA h.get? n)) (He.cT (He.frT h.get? (He5.asA h.get? n)) p).1 (He.cT (He.frT h.get? (He5.asA h.get? n)) p).2 = true ∧ ∃ o, h.get? (He.cT (He.frT h.get? (He5.asA h.get? n)) p).2 = some o ∧ He.emptyTab o = true := fun p hp => by
    obtain ⟨h3, h4⟩ := ba (List.all_eq_true.mp h2 p hp)
    refine ⟨h3, ?_⟩
    cases q : h.get? (He.cT (He.frT h.get? (He5.asA h.get? n)) p).2 with
    | none => rw [q] at h4; cases h4
    | some o => rw [q] at h4; exact ⟨o, rfl, h4⟩
  refine ⟨congrArg (fun z : AlZ => z.1.1) e, congrArg (fun z : AlZ => z.1.2) e, h1, fun p hp => (key p hp).1, fun p hp => ?_, fun p hp => ?_⟩
  · obtain ⟨_, o, q, z⟩ := key p hp
    exact He.frT_none q z
  · obtain ⟨_, o, q, z⟩ := key p hp
    rw [q, He.emptyTab_eq z]
def hookZ (n : Nat) (fa : List He.Fa) (fn : List He5.DefA) (ts : List He.Tab) (tf : List He.Defn) (ex : PySem.W.Frag → Bool) : PySem.W.Hook where
  α := AlZ
  obs := fun s => obsZ n fa fn ts tf ex s.heap.get?
  val := fun w => valZ fn ts w
  says := fun w h => ∃ K : PySem.W.Frag, K.In h ∧ SaysZ fa fn ts tf ex w h K
  of := fun _ _ e => ⟨_, He.frT_in, saysZ_of e⟩
  keeps := fun _ _ _ ⟨K, hK, c⟩ k => ⟨K, PySem.W.Frag.In.keeps hK k, ⟨c.a, c.t, c.more, c.hd, c.out, fun p hp => k _ _ (c.empty p hp)⟩⟩
theorem obsZ_eq {n : Nat} {fa : List He.Fa} {fn : List He5.DefA} {ts : List He.Tab} {tf : List He.Defn} {ex : PySem.W.Frag → Bool} {g : Addr → Option Obj} {s : Shared} (h : ∀ a, g a = s.heap.get? a) : obsZ n fa fn ts tf ex g = (hookZ n fa fn ts tf ex).obs s := by
  have e : g = s.heap.get? := funext h
  rw [e] <;> rfl
section
variable {fa : List He.Fa} {fn : List He5.DefA} {ts : List He.Tab} {tf : List He.Defn} {ex : PySem.W.Frag → Bool} {w : World} {h : Heap} {K : PySem.W.Frag}
theorem SaysZ.fact (c : SaysZ fa fn ts tf ex w h K) (i : Nat) {f : He.Fa} (e : fa[i]? = some f := by rfl) : f.ok K = true := c.a.fact i e
theorem SaysZ.def_ (c : SaysZ fa fn ts tf ex w h K) (i : Nat) {d : He5.DefA} (e : fn[i]? = some d := by rfl) : ∃ fd, L2.FunD K d.name d.qual d.params d.body d.scope (d.dvs K) (d.kws K) (d.at_ K) fd := c.a.def_ i e
theorem SaysZ.tab (c : SaysZ fa fn ts tf ex w h K) (i : Nat) {t : He.Tab} (e : ts[i]? = some t := by rfl) : ∃ es n, KDict K w (t.1 K) es n := by
  have e2 : (ts.map fun t => He.dicW K (t.1 K))[i]? = (ts.map fun t => some (He.keysIn w.params t.2))[i]? := by rw [c.t]
  rw [List.getElem?_map, List.getElem?_map, e] at e2
  exact He.dicW_ok (Option.some.inj e2)
end
theorem cx_no {P : Program} {w : World} {H : Hp} {s : Shared} {e : Value} {s' : Shared} (h : L2.CX P w [] H s (fun _ _ _ => False) e s') : False := by
  obtain ⟨a, B, H', cls, d, _, _, _, _, _, _, _, z⟩ := h
  exact z
/-! ### the same, its parts worked out once -/
def frN {β : Type} : List Nat → (List Nat → β) → β
  | [], k => k []
  | a :: r, k => HandSHeadRun.frNat a fun a => frN r fun r => k (a :: r)
theorem frN_eq {β : Type} : ∀ (l : List Nat) (k : List Nat → β), frN l k = k l
  | [], k => rfl
  | a :: r, k => by
    show HandSHeadRun.frNat a (fun a => frN r fun r => k (a :: r)) = _
    rw [HandSHeadRun.frNat_eq, frN_eq r]
def frK {β : Type} : PySem.W.Frag → (PySem.W.Frag → β) → β
  | [], k => k []
  | (a, ⟨c, d, dt, sl⟩) :: r, k => HandSHeadRun.frNat a fun a => frK r fun r => k ((a, ⟨c, d, dt, sl⟩) :: r)
theorem frK_eq {β : Type} : ∀ (l : PySem.W.Frag) (k : PySem.W.Frag → β), frK l k = k l
  | [], k => rfl
  | (a, ⟨c, d, dt, sl⟩) :: r, k => by
    show HandSHeadRun.frNat a (fun a => frK r fun r => k ((a, ⟨c, d, dt, sl⟩) :: r)) = _
    rw [HandSHeadRun.frNat_eq, frK_eq r]
def asF {β : Type} (g : Addr → Option Obj) : Nat → (List Addr → β) → β
  | 0, k => k [mainGlobals]
  | n + 1, k => asF g n fun as => frN (He.growD g as) k
theorem asF_eq {β : Type} (g : Addr → Option Obj) : ∀ (n : Nat) (k : List Addr → β), asF g n k = k (He.asD g n)
  | 0, k => rfl
  | n + 1, k => by
    show asF g n (fun as => frN (He.growD g as) k) = _
    rw [asF_eq g n, frN_eq]
    rfl
/-- something of K, K worked out first -/
def withK {β : Type} (n : Nat) (g : Addr → Option Obj) (k : PySem.W.Frag → β) : β := asF g n fun as => frK (He.frT g (as ++ [cStatics])) k
theorem withK_eq {β : Type} (n : Nat) (g : Addr → Option Obj) (k : PySem.W.Frag → β) : withK n g k = k (He.frT g (He5.asA g n)) := by
  unfold withK
  rw [asF_eq, frK_eq]
  rfl
section
variable {α β γ : Type}
theorem map_two {X : Option α} {f : α → β} {h : α → γ} {b : β} {c : γ} (h1 : X.map f = some b) (h2 : X.map h = some c) : X.map (fun x => (f x, h x)) = some (b, c) := by
  cases X with
  | none => cases h1
  | some x =>
    cases Option.some.inj (show some (f x) = some b from h1)
    cases Option.some.inj (show some (h x) = some c from h2)
    rfl
theorem map_and {X : Option α} {f h : α → Bool} (h1 : X.map f = some true) (h2 : X.map h = some true) : X.map (fun x => f x && h x) = some true := by
  cases X with
  | none => cases h1
  | some x =>
    show some (f x && h x) = some true
    rw [Option.some.inj (show some (f x) = some true from h1), Option.some.inj (show some (h x) = some true from h2)]
    rfl
end
/-! ### the end -/
theorem script_ok {K : PySem.W.Frag} {mg : Str → Option Value} {cs : List String} {F : Fn} {H : Hp} {a : Addr} {ns : List Int} (hS : SqL K H a (ns.map V.int)) (hF : ∃ S, F [.scr ns] [] = .ok (.bl true) S) : spT ⟨K, mg, cs⟩ F 1 [.ref a] H (fun v _ => v = .bl true) fun _ _ _ => False := by
  obtain ⟨S, e⟩ := hF
  refine ⟨⟨[], []⟩, [.scr ns], [], ⟨List.nodup_nil, rfl, fun a h => (List.not_mem_nil h).elim, fun i o h => by cases h⟩, ⟨_, _, rfl, ⟨a, rfl, ?_⟩, rfl⟩, rfl, ?_⟩
  · exact hS.imp (fun h => ⟨h, fun h => h.elim List.not_mem_nil List.not_mem_nil⟩) .inr
  · rw [e]
    exact fun m' H' v g rs r => r
end Den

namespace G44
open PySem PySem.Spec PyProof.Rows L2 Den
def top (i : Nat) : Stmt := PySem.Challenge.pw_farseen_k44_sayings_made_and_kept.main.body.getD i (.Pass ⟨0, 0, 0, 0⟩)
abbrev gm (K : PySem.W.Frag) (mg : Str → Option Value) : Gm := ⟨K, mg, ["Chart", "Saying"]⟩
def gd_Saying_times_0_number : List Den.D → List Den.D → List Den.D := fun us ws => match us, ws with
  | [a0], [b0] => [a0, b0]
  | _, _ => []
def gd_Saying_holds_0_chart : List Den.D → List Den.D → List Den.D := fun us ws => match us, ws with
  | [a0], [b0] => [a0, b0]
  | _, _ => []
def gd_Saying_value_0_chart : List Den.D → List Den.D → List Den.D := fun us ws => match us, ws with
  | [a0], [b0] => [a0, b0]
  | _, _ => []
def gd_Saying_form_0_pins : List Den.D → List Den.D → List Den.D := fun us ws => match us, ws with
  | [a0], [b0] => [a0, b0]
  | _, _ => []
def gd_Saying_longer_0_its_step : List Den.D → List Den.D → List Den.D := fun us ws => match us, ws with
  | [], [b0, b1] => [b1, b0]
  | _, _ => []
def gd_Saying_right_0_its_step : List Den.D → List Den.D → List Den.D := fun us ws => match us, ws with
  | [], [b0, b1] => [b1, b0]
  | _, _ => []
def gd_Saying_read_0_text : List Den.D → List Den.D → List Den.D := fun us ws => match us, ws with
  | [], [b0] => [b0]
  | _, _ => []
def gd_Saying_init_0_number_word_terms : List Den.D → List Den.D → List Den.D := fun us ws => match us, ws with
  | [a0], [b0, b1, b2] => [a0, b2, b1, b0]
  | _, _ => []
end G44

namespace G44
open PySem PySem.Spec PyProof.Rows L2 Den
section
variable {P : Program} {w : World} {K : PySem.W.Frag} {mg : Str → Option Value} {base : Heap}
abbrev s_is_integer : Stmt := top 13
abbrev n_is_integer : List Str := ["value"]
theorem sc_is_integer : FnScope n_is_integer ["value"] (defScope s_is_integer) := ⟨rfl, rfl, rfl, by decide +kernel, rfl, by decide +kernel, by decide +kernel⟩
noncomputable def p_is_integer : TSt :=
    (sSeq (sRet (xAnd (xUn (oIsi [.int]) (xVar 0)) (xNot (xUn (oIsi [.bl]) (xVar 0)))))
    sNext)
noncomputable def F_is_integer : Fn := fnOf 1 p_is_integer
theorem ok_is_integer {f : Addr} {fd : FuncData} (F : FunA K "is_integer" "is_integer" s_is_integer f fd) (B : Bn mg) (hG : Gok (gm K mg))  : FnOk P w K mg base (L2.CX P w) 2 f fd ["value"] (spT (gm K mg) F_is_integer 1) := by
  have nd := (sc_is_integer).nd
  exact fn_ok F sc_is_integer fun cdv A outer s H E hr =>
      (st_cons (st_ret (te_and (te_isi .int hG B.isinstance B.int (te_var 0) (pe_bltn (v := .ty "int") (by rfl) B.int (by decide +kernel) rfl)) (pe_one (te_not (te_isi .bl hG B.isinstance B.bool (te_var 0) (pe_bltn (v := .ty "bool") (by rfl) B.bool (by decide +kernel) rfl))))))
      st_nil)
abbrev s_is_within : Stmt := top 14
abbrev n_is_within : List Str := ["value", "least", "most"]
theorem sc_is_within : FnScope n_is_within ["value", "least", "most"] (defScope s_is_within) := ⟨rfl, rfl, rfl, by decide +kernel, rfl, by decide +kernel, by decide +kernel⟩
noncomputable def p_is_within : TSt :=
    (sSeq (sIf (cNot (cTru (xFn F_is_integer (xsCons (xVar 0) xsNil)))) (sSeq (sRet (xC (.bl false)))
    sNext) sNext)
    (sSeq (sRet (xAnd (xOr (xBin oIs (xVar 1) (xC .non)) (xBin oLe (xVar 1) (xVar 0))) (xOr (xBin oIs (xVar 2) (xC .non)) (xBin oLe (xVar 0) (xVar 2)))))
    sNext))
noncomputable def F_is_within : Fn := fnOf 3 p_is_within
theorem ok_is_within {f : Addr} {fd : FuncData} (F : FunA K "is_within" "is_within" s_is_within f fd) (B : Bn mg) (hG : Gok (gm K mg)) (C_is_integer : Cl P w K mg base (gm K mg) 2 "is_integer" ["value"] F_is_integer) : FnOk P w K mg base (L2.CX P w) 3 f fd ["value", "least", "most"] (spT (gm K mg) F_is_within 3) := by
  have nd := (sc_is_within).nd
  exact fn_ok F sc_is_within fun cdv A outer s H E hr =>
      (st_cons (st_if (ct_not (ct_tru (te_call C_is_integer (hr.mono (by decide)) pdef (ta_cons (te_var 0) ta_nil)))) (st_cons (st_ret te_bl)
      st_nil) st_nil)
      (st_cons (st_ret (te_and (te_or (te_cmp ot_is (te_var 1) te_non (nomark _)) (pe_one (te_cmp ot_le (te_var 1) (te_var 0) (nomark _)))) (pe_one (te_or (te_cmp ot_is (te_var 2) te_non (nomark _)) (pe_one (te_cmp ot_le (te_var 0) (te_var 2) (nomark _)))))))
      st_nil))
abbrev s_is_list : Stmt := top 15
abbrev n_is_list : List Str := ["value"]
theorem sc_is_list : FnScope n_is_list ["value"] (defScope s_is_list) := ⟨rfl, rfl, rfl, by decide +kernel, rfl, by decide +kernel, by decide +kernel⟩
noncomputable def p_is_list : TSt :=
    (sSeq (sRet (xUn (oIsi [.list, .tuple]) (xVar 0)))
    sNext)
noncomputable def F_is_list : Fn := fnOf 1 p_is_list
theorem ok_is_list {f : Addr} {fd : FuncData} (F : FunA K "is_list" "is_list" s_is_list f fd) (B : Bn mg) (hG : Gok (gm K mg))  : FnOk P w K mg base (L2.CX P w) 2 f fd ["value"] (spT (gm K mg) F_is_list 1) := by
  have nd := (sc_is_list).nd
  exact fn_ok F sc_is_list fun cdv A outer s H E hr =>
      (st_cons (st_ret (te_isi2 .list .tuple hG B.isinstance (te_var 0) (pe_bltn (v := .ty "list") (by rfl) B.list (by decide +kernel) rfl) (pe_bltn (v := .ty "tuple") (by rfl) B.tuple (by decide +kernel) rfl)))
      st_nil)
abbrev s_are_integers : Stmt := top 16
abbrev n_are_integers : List Str := ["value", "item"]
abbrev sc_are_integers_0 : Scope := { kind := .function, names := [(".0", .local), ("item", .local), ("is_integer", .globalImplicit)], isGenerator := false, isCoroutine := false }
theorem sc_are_integers : FnScope n_are_integers ["value"] (defScope s_are_integers) := ⟨rfl, rfl, rfl, by decide +kernel, rfl, by decide +kernel, by decide +kernel⟩
noncomputable def p_are_integers : TSt :=
    (sSeq (sRet (xAnd (xFn F_is_list (xsCons (xVar 0) xsNil)) (xCall oAll (xsCons (xLc (wOf (xVar 0)) (tName 1) cYes (xFn F_is_integer (xsCons (xVar 1) xsNil)) [1]) xsNil))))
    sNext)
noncomputable def F_are_integers : Fn := fnOf 2 p_are_integers
theorem ok_are_integers {f : Addr} {fd : FuncData} (F : FunA K "are_integers" "are_integers" s_are_integers f fd) (B : Bn mg) (hG : Gok (gm K mg)) (C_is_list : Cl P w K mg base (gm K mg) 2 "is_list" ["value"] F_is_list) (C_is_integer : Cl P w K mg base (gm K mg) 2 "is_integer" ["value"] F_is_integer) : FnOk P w K mg base (L2.CX P w) 3 f fd ["value"] (spT (gm K mg) F_are_integers 1) := by
  have nd := (sc_are_integers).nd
  exact fn_ok F sc_are_integers fun cdv A outer s H E hr =>
      (st_cons (st_ret (te_and (te_call C_is_list (hr.mono (by decide)) pdef (ta_cons (te_var 0) ta_nil)) (pe_one (te_callB ot_all rfl B.all (by decide +kernel) (ta_cons (te_lc (own := [("item", 1)]) rfl nd (wt_of (te_var 0)) (blkOk_by (N := n_are_integers) (sc := defScope s_are_integers) (by decide +kernel)) (fun _ _ _ _ _ => (gt_name 1 nd)) (fun _ _ _ _ _ => (te_call C_is_integer (hr.mono (by decide)) passL (ta_cons (te_var 1) ta_nil)))) ta_nil)))))
      st_nil)
abbrev s_common_divisor : Stmt := top 17
abbrev n_common_divisor : List Str := ["values", "found", "value"]
theorem sc_common_divisor : FnScope n_common_divisor ["values"] (defScope s_common_divisor) := ⟨rfl, rfl, rfl, by decide +kernel, rfl, by decide +kernel, by decide +kernel⟩
noncomputable def p_common_divisor : TSt :=
    (sSeq (sIf (cNot (cTru (xFn F_are_integers (xsCons (xVar 0) xsNil)))) (sSeq (sRaise "BadNumber" ["part"] (xsCons (xC (.str (Str.ofString "values"))) xsNil))
    sNext) sNext)
    (sSeq (sSet 1 (xC (.int 0)))
    (sSeq (sFor (wOf (xVar 0)) (tName 2) (sSeq (sSet 1 (xCall oGcd (xsCons (xVar 1) (xsCons (xVar 2) xsNil))))
    sNext))
    (sSeq (sRet (xVar 1))
    sNext))))
noncomputable def F_common_divisor : Fn := fnOf 3 p_common_divisor
theorem ok_common_divisor {f : Addr} {fd : FuncData} (F : FunA K "common_divisor" "common_divisor" s_common_divisor f fd) (B : Bn mg) (hG : Gok (gm K mg)) (g_gcd : mg "gcd" = some (.builtin "math.gcd")) (C_are_integers : Cl P w K mg base (gm K mg) 3 "are_integers" ["value"] F_are_integers) (X_BadNumber : Ec P w K mg base (gm K mg) "BadNumber" ["self", "part"] (spIn1 K "part") ["part"]) : FnOk P w K mg base (L2.CX P w) 4 f fd ["values"] (spT (gm K mg) F_common_divisor 1) := by
  have nd := (sc_common_divisor).nd
  exact fn_ok F sc_common_divisor fun cdv A outer s H E hr =>
      (st_cons (st_if (ct_not (ct_tru (te_call C_are_integers (hr.mono (by decide)) pdef (ta_cons (te_var 0) ta_nil)))) (st_cons (st_raise1 X_BadNumber rfl (takes_of rfl rfl rfl rfl) (hr.mono (by decide)) pass0 (ta_cons te_str ta_nil))
      st_nil) st_nil)
      (st_cons (st_set 1 nd te_int)
      (st_cons (st_for (passes_of rfl) rfl (wt_of (te_var 0)) (gt_name 2 nd) (st_cons (st_set 1 nd (te_callBf ot_gcd rfl g_gcd (ta_cons (te_var 1) (ta_cons (te_var 2) ta_nil))))
      st_nil))
      (st_cons (st_ret (te_var 1))
      st_nil))))
abbrev s_lowest : Stmt := top 18
abbrev n_lowest : List Str := ["number", "by", "divisor"]
theorem sc_lowest : FnScope n_lowest ["number", "by"] (defScope s_lowest) := ⟨rfl, rfl, rfl, by decide +kernel, rfl, by decide +kernel, by decide +kernel⟩
noncomputable def p_lowest : TSt :=
    (sSeq (sIf (cNot (cTru (xFn F_is_integer (xsCons (xVar 0) xsNil)))) (sSeq (sRaise "BadNumber" ["part"] (xsCons (xC (.str (Str.ofString "number"))) xsNil))
    sNext) sNext)
    (sSeq (sIf (cOr (cNot (cTru (xFn F_is_integer (xsCons (xVar 1) xsNil)))) (cB (xBin (oEq []) (xVar 1) (xC (.int 0))))) (sSeq (sRaise "BadNumber" ["part"] (xsCons (xC (.str (Str.ofString "by"))) xsNil))
    sNext) sNext)
    (sSeq (sSet 2 (xCall oGcd (xsCons (xVar 0) (xsCons (xVar 1) xsNil))))
    (sSeq (sIf (cB (xBin oLt (xVar 1) (xC (.int 0)))) (sSeq (sSet 2 (xUn oNeg (xVar 2)))
    sNext) sNext)
    (sSeq (sRet (xTup (xsCons (xBin oDiv (xVar 0) (xVar 2)) (xsCons (xBin oDiv (xVar 1) (xVar 2)) xsNil))))
    sNext)))))
noncomputable def F_lowest : Fn := fnOf 3 p_lowest
theorem ok_lowest {f : Addr} {fd : FuncData} (F : FunA K "lowest" "lowest" s_lowest f fd) (B : Bn mg) (hG : Gok (gm K mg)) (g_gcd : mg "gcd" = some (.builtin "math.gcd")) (C_is_integer : Cl P w K mg base (gm K mg) 2 "is_integer" ["value"] F_is_integer) (X_BadNumber : Ec P w K mg base (gm K mg) "BadNumber" ["self", "part"] (spIn1 K "part") ["part"]) : FnOk P w K mg base (L2.CX P w) 3 f fd ["number", "by"] (spT (gm K mg) F_lowest 2) := by
  have nd := (sc_lowest).nd
  exact fn_ok F sc_lowest fun cdv A outer s H E hr =>
      (st_cons (st_if (ct_not (ct_tru (te_call C_is_integer (hr.mono (by decide)) pdef (ta_cons (te_var 0) ta_nil)))) (st_cons (st_raise1 X_BadNumber rfl (takes_of rfl rfl rfl rfl) (hr.mono (by decide)) pass0 (ta_cons te_str ta_nil))
      st_nil) st_nil)
      (st_cons (st_if (PW.pt (cw_or (ct_not (ct_tru (te_call C_is_integer (hr.mono (by decide)) pdef (ta_cons (te_var 1) ta_nil)))) (cw_or1 (ct_cmp (ot_eqD (hu64 hr)) (te_var 1) te_int (nomark _))))) (st_cons (st_raise1 X_BadNumber rfl (takes_of rfl rfl rfl rfl) (hr.mono (by decide)) pass0 (ta_cons te_str ta_nil))
      st_nil) st_nil)
      (st_cons (st_set 2 nd (te_callBf ot_gcd rfl g_gcd (ta_cons (te_var 0) (ta_cons (te_var 1) ta_nil))))
      (st_cons (st_if (ct_cmp ot_lt (te_var 1) te_int (nomark _)) (st_cons (st_set 2 nd (te_neg (te_var 2)))
      st_nil) st_nil)
      (st_cons (st_ret (te_tup (ta_cons (te_op ot_div (te_var 0) (te_var 2)) (ta_cons (te_op ot_div (te_var 1) (te_var 2)) ta_nil))))
      st_nil)))))
abbrev s_check_pin : Stmt := top 20
abbrev n_check_pin : List Str := ["value", "many"]
theorem sc_check_pin : FnScope n_check_pin ["value", "many"] (defScope s_check_pin) := ⟨rfl, rfl, rfl, by decide +kernel, rfl, by decide +kernel, by decide +kernel⟩
noncomputable def p_check_pin : TSt :=
    (sSeq (sIf (cNot (cTru (xFn F_is_within (xsCons (xVar 0) (xsCons (xC (.int 0)) (xsCons (xBin oSub (xVar 1) (xC (.int 1))) xsNil)))))) (sSeq (sRaise "NoPin" ["value"] (xsCons (xVar 0) xsNil))
    sNext) sNext)
    sNext)
noncomputable def F_check_pin : Fn := fnOf 2 p_check_pin
theorem ok_check_pin {f : Addr} {fd : FuncData} (F : FunA K "check_pin" "check_pin" s_check_pin f fd) (B : Bn mg) (hG : Gok (gm K mg)) (C_is_within : Cl P w K mg base (gm K mg) 3 "is_within" ["value", "least", "most"] F_is_within) (X_NoPin : Ec P w K mg base (gm K mg) "NoPin" ["self", "value"] (spIn1 K "value") ["value"]) : FnOk P w K mg base (L2.CX P w) 4 f fd ["value", "many"] (spT (gm K mg) F_check_pin 2) := by
  have nd := (sc_check_pin).nd
  exact fn_ok F sc_check_pin fun cdv A outer s H E hr =>
      (st_cons (st_if (ct_not (ct_tru (te_call C_is_within (hr.mono (by decide)) pdef (ta_cons (te_var 0) (ta_cons te_int (ta_cons (te_op ot_sub (te_var 1) te_int) ta_nil)))))) (st_cons (st_raise1 X_NoPin rfl (takes_of rfl rfl rfl rfl) (hr.mono (by decide)) pass0 (ta_cons (te_var 0) ta_nil))
      st_nil) st_nil)
      st_nil)
abbrev s_check_step : Stmt := top 21
abbrev n_check_step : List Str := ["value", "many", "pin"]
theorem sc_check_step : FnScope n_check_step ["value", "many"] (defScope s_check_step) := ⟨rfl, rfl, rfl, by decide +kernel, rfl, by decide +kernel, by decide +kernel⟩
noncomputable def p_check_step : TSt :=
    (sSeq (sIf (cOr (cNot (cTru (xFn F_is_list (xsCons (xVar 0) xsNil)))) (cB (xBin (oNe []) (xCall oLen (xsCons (xVar 0) xsNil)) (xC (.int 2))))) (sSeq (sRaise "NoPin" ["value"] (xsCons (xVar 0) xsNil))
    sNext) sNext)
    (sSeq (sFor (wOf (xVar 0)) (tName 2) (sSeq (sExpr (xFn F_check_pin (xsCons (xVar 2) (xsCons (xVar 1) xsNil))))
    sNext))
    sNext))
noncomputable def F_check_step : Fn := fnOf 3 p_check_step
theorem ok_check_step {f : Addr} {fd : FuncData} (F : FunA K "check_step" "check_step" s_check_step f fd) (B : Bn mg) (hG : Gok (gm K mg)) (C_check_pin : Cl P w K mg base (gm K mg) 4 "check_pin" ["value", "many"] F_check_pin) (C_is_list : Cl P w K mg base (gm K mg) 2 "is_list" ["value"] F_is_list) (X_NoPin : Ec P w K mg base (gm K mg) "NoPin" ["self", "value"] (spIn1 K "value") ["value"]) : FnOk P w K mg base (L2.CX P w) 5 f fd ["value", "many"] (spT (gm K mg) F_check_step 2) := by
  have nd := (sc_check_step).nd
  exact fn_ok F sc_check_step fun cdv A outer s H E hr =>
      (st_cons (st_if (PW.pt (cw_or (ct_not (ct_tru (te_call C_is_list (hr.mono (by decide)) pdef (ta_cons (te_var 0) ta_nil)))) (cw_or1 (ct_cmp (ot_neD (hu64 hr)) (te_callB ot_len rfl B.len (by decide +kernel) (ta_cons (te_var 0) ta_nil)) te_int (nomark _))))) (st_cons (st_raise1 X_NoPin rfl (takes_of rfl rfl rfl rfl) (hr.mono (by decide)) pass0 (ta_cons (te_var 0) ta_nil))
      st_nil) st_nil)
      (st_cons (st_for (passes_of rfl) rfl (wt_of (te_var 0)) (gt_name 2 nd) (st_cons (st_expr (te_call C_check_pin (hr.mono (by decide)) pdef (ta_cons (te_var 2) (ta_cons (te_var 1) ta_nil))))
      st_nil))
      st_nil))
end
end G44

namespace G44
open PySem PySem.Spec PyProof.Rows L2 Den
section
variable {P : Program} {w : World} {K : PySem.W.Frag} {mg : Str → Option Value} {base : Heap}
abbrev s__are_chart_rows : Stmt := top 23
abbrev n__are_chart_rows : List Str := ["rows", "size", "row", "a", "b"]
abbrev sc__are_chart_rows_0 : Scope := { kind := .function, names := [(".0", .local), ("a", .local), ("b", .local), ("range", .globalImplicit), ("rows", .cell)], isGenerator := false, isCoroutine := false }
abbrev sc__are_chart_rows_1 : Scope := { kind := .function, names := [(".0", .local), ("row", .local), ("are_integers", .globalImplicit), ("len", .globalImplicit), ("size", .cell)], isGenerator := false, isCoroutine := false }
theorem sc__are_chart_rows : FnScope n__are_chart_rows ["rows"] (defScope s__are_chart_rows) := ⟨rfl, rfl, rfl, by decide +kernel, rfl, by decide +kernel, by decide +kernel⟩
noncomputable def p__are_chart_rows : TSt :=
    (sSeq (sIf (cOr (cNot (cTru (xFn F_is_list (xsCons (xVar 0) xsNil)))) (cNot (cB (xChain oLe oLe (xC (.int 2)) (xCall oLen (xsCons (xVar 0) xsNil)) (xC (.int 6)))))) (sSeq (sRet (xC (.bl false)))
    sNext) sNext)
    (sSeq (sSet 1 (xCall oLen (xsCons (xVar 0) xsNil)))
    (sSeq (sIf (cNot (cTru (xCall oAll (xsCons (xLc (wOf (xVar 0)) (tName 2) cYes (xAnd (xFn F_are_integers (xsCons (xVar 2) xsNil)) (xBin (oEq []) (xCall oLen (xsCons (xVar 2) xsNil)) (xVar 1))) [2]) xsNil)))) (sSeq (sRet (xC (.bl false)))
    sNext) sNext)
    (sSeq (sRet (xCall oAll (xsCons (xLc2 (wRng1 (xsCons (xVar 1) xsNil)) (tName 3) cYes (wRng1 (xsCons (xVar 3) xsNil)) (tName 4) cYes (xBin (oEq []) (xBin oIx (xBin oIx (xVar 0) (xVar 3)) (xVar 4)) (xBin oIx (xBin oIx (xVar 0) (xVar 4)) (xVar 3))) [3, 4] [4]) xsNil)))
    sNext))))
noncomputable def F__are_chart_rows : Fn := fnOf 5 p__are_chart_rows
theorem ok__are_chart_rows {f : Addr} {fd : FuncData} (F : FunA K "_are_chart_rows" "_are_chart_rows" s__are_chart_rows f fd) (B : Bn mg) (hG : Gok (gm K mg)) (C_are_integers : Cl P w K mg base (gm K mg) 3 "are_integers" ["value"] F_are_integers) (C_is_list : Cl P w K mg base (gm K mg) 2 "is_list" ["value"] F_is_list) : FnOk P w K mg base (L2.CX P w) 4 f fd ["rows"] (spT (gm K mg) F__are_chart_rows 1) := by
  have nd := (sc__are_chart_rows).nd
  exact fn_ok F sc__are_chart_rows fun cdv A outer s H E hr =>
      (st_cons (st_if (PW.pt (cw_or (ct_not (ct_tru (te_call C_is_list (hr.mono (by decide)) pdef (ta_cons (te_var 0) ta_nil)))) (cw_or1 (ct_not (ct_chain ot_le ot_le te_int (te_callB ot_len rfl B.len (by decide +kernel) (ta_cons (te_var 0) ta_nil)) te_int))))) (st_cons (st_ret te_bl)
      st_nil) st_nil)
      (st_cons (st_set 1 nd (te_callB ot_len rfl B.len (by decide +kernel) (ta_cons (te_var 0) ta_nil)))
      (st_cons (st_if (ct_not (ct_tru (te_callB ot_all rfl B.all (by decide +kernel) (ta_cons (te_lc (own := [("row", 2)]) rfl nd (wt_of (te_var 0)) (blkOk_by (N := n__are_chart_rows) (sc := defScope s__are_chart_rows) (by decide +kernel)) (fun _ _ _ _ _ => (gt_name 2 nd)) (fun _ _ _ _ _ => (te_and (te_call C_are_integers (hr.mono (by decide)) passL (ta_cons (te_var 2) ta_nil)) (pe_one (te_cmp (ot_eqD (hu64 hr)) (te_callB ot_len rfl B.len (by decide +kernel) (ta_cons (te_var 2) ta_nil)) (te_var 1) (nomark _)))))) ta_nil)))) (st_cons (st_ret te_bl)
      st_nil) st_nil)
      (st_cons (st_ret (te_callB ot_all rfl B.all (by decide +kernel) (ta_cons (te_lc2 (own := [("a", 3), ("b", 4)]) (vs1 := [4]) rfl nd (wt_rng1 rfl B.range (ta_cons (te_var 1) ta_nil)) (blkOk_by (N := n__are_chart_rows) (sc := defScope s__are_chart_rows) (by decide +kernel)) (by decide) (fun _ _ _ _ _ => (gt_name 3 nd)) (fun _ _ _ _ _ => (wt_rng1 rfl B.range (ta_cons (te_var 3) ta_nil))) (fun _ _ _ _ _ => (gt_name 4 nd)) (fun _ _ _ _ _ => (te_cmp (ot_eqD (hu64 hr)) (te_ix (te_ix (te_var 0) (te_var 3)) (te_var 4)) (te_ix (te_ix (te_var 0) (te_var 4)) (te_var 3)) (nomark _)))) ta_nil)))
      st_nil))))
abbrev s__told : Stmt := top 25
abbrev n__told : List Str := ["rows", "pin", "its"]
theorem sc__told : FnScope n__told ["rows", "pin", "its"] (defScope s__told) := ⟨rfl, rfl, rfl, by decide +kernel, rfl, by decide +kernel, by decide +kernel⟩
noncomputable def p__told : TSt :=
    (sSeq (sRet (xIf (cOr (cB (xBin (oEq []) (xVar 1) (xC (.int 0)))) (cB (xBin (oEq []) (xVar 2) (xC (.int 0))))) (xC (.int 0)) (xBin oIx (xBin oIx (xVar 0) (xBin oSub (xVar 1) (xC (.int 1)))) (xBin oSub (xVar 2) (xC (.int 1))))))
    sNext)
noncomputable def F__told : Fn := fnOf 3 p__told
theorem ok__told {f : Addr} {fd : FuncData} (F : FunA K "_told" "_told" s__told f fd) (B : Bn mg) (hG : Gok (gm K mg))  : FnOk P w K mg base (L2.CX P w) 2 f fd ["rows", "pin", "its"] (spT (gm K mg) F__told 3) := by
  have nd := (sc__told).nd
  exact fn_ok F sc__told fun cdv A outer s H E hr =>
      (st_cons (st_ret (te_if (PW.pt (cw_or (ct_cmp (ot_eqD (hu64 hr)) (te_var 1) te_int (nomark _)) (cw_or1 (ct_cmp (ot_eqD (hu64 hr)) (te_var 2) te_int (nomark _))))) te_int (te_ix (te_ix (te_var 0) (te_op ot_sub (te_var 1) te_int)) (te_op ot_sub (te_var 2) te_int))))
      st_nil)
abbrev s_product_in : Stmt := top 26
abbrev n_product_in : List Str := ["rows", "step", "its", "a", "b", "c", "d"]
theorem sc_product_in : FnScope n_product_in ["rows", "step", "its"] (defScope s_product_in) := ⟨rfl, rfl, rfl, by decide +kernel, rfl, by decide +kernel, by decide +kernel⟩
noncomputable def p_product_in : TSt :=
    (sSeq (sAsg (xTup (xsCons (xVar 1) (xsCons (xVar 2) xsNil))) (tTup [(tTup [(tName 3), (tName 4)]), (tTup [(tName 5), (tName 6)])]))
    (sSeq (sRet (xBin oSub (xBin oSub (xBin oAdd (xFn F__told (xsCons (xVar 0) (xsCons (xVar 4) (xsCons (xVar 6) xsNil)))) (xFn F__told (xsCons (xVar 0) (xsCons (xVar 3) (xsCons (xVar 5) xsNil))))) (xFn F__told (xsCons (xVar 0) (xsCons (xVar 4) (xsCons (xVar 5) xsNil))))) (xFn F__told (xsCons (xVar 0) (xsCons (xVar 3) (xsCons (xVar 6) xsNil))))))
    sNext))
noncomputable def F_product_in : Fn := fnOf 7 p_product_in
theorem ok_product_in {f : Addr} {fd : FuncData} (F : FunA K "product_in" "product_in" s_product_in f fd) (B : Bn mg) (hG : Gok (gm K mg)) (C__told : Cl P w K mg base (gm K mg) 2 "_told" ["rows", "pin", "its"] F__told) : FnOk P w K mg base (L2.CX P w) 3 f fd ["rows", "step", "its"] (spT (gm K mg) F_product_in 3) := by
  have nd := (sc_product_in).nd
  exact fn_ok F sc_product_in fun cdv A outer s H E hr =>
      (st_cons (st_asg (te_tup (ta_cons (te_var 1) (ta_cons (te_var 2) ta_nil))) (gt_tup rfl (gts_cons (gt_tup rfl (gts_cons (gt_name 3 nd) (gts_cons (gt_name 4 nd) gts_nil))) (gts_cons (gt_tup rfl (gts_cons (gt_name 5 nd) (gts_cons (gt_name 6 nd) gts_nil))) gts_nil))))
      (st_cons (st_ret (te_op ot_sub (te_op ot_sub (te_op ot_add (te_call C__told (hr.mono (by decide)) pdef (ta_cons (te_var 0) (ta_cons (te_var 4) (ta_cons (te_var 6) ta_nil)))) (te_call C__told (hr.mono (by decide)) pdef (ta_cons (te_var 0) (ta_cons (te_var 3) (ta_cons (te_var 5) ta_nil))))) (te_call C__told (hr.mono (by decide)) pdef (ta_cons (te_var 0) (ta_cons (te_var 4) (ta_cons (te_var 5) ta_nil))))) (te_call C__told (hr.mono (by decide)) pdef (ta_cons (te_var 0) (ta_cons (te_var 3) (ta_cons (te_var 6) ta_nil))))))
      st_nil))
abbrev s_check_chart : Stmt := top 27
abbrev n_check_chart : List Str := ["value", "part"]
theorem sc_check_chart : FnScope n_check_chart ["value", "part"] (defScope s_check_chart) := ⟨rfl, rfl, rfl, by decide +kernel, rfl, by decide +kernel, by decide +kernel⟩
noncomputable def p_check_chart : TSt :=
    (sSeq (sIf (cNot (cTru (xUn (oIso ["Chart"]) (xVar 0)))) (sSeq (sRaise "BadChart" ["part"] (xsCons (xVar 1) xsNil))
    sNext) sNext)
    sNext)
noncomputable def F_check_chart : Fn := fnOf 2 p_check_chart
theorem ok_check_chart {f : Addr} {fd : FuncData} (F : FunA K "check_chart" "check_chart" s_check_chart f fd) (B : Bn mg) (hG : Gok (gm K mg)) (K_Chart : Ko (gm K mg) "Chart" ["Chart"]) (X_BadChart : Ec P w K mg base (gm K mg) "BadChart" ["self", "part"] (spIn1 K "part") ["part"]) : FnOk P w K mg base (L2.CX P w) 3 f fd ["value", "part"] (spT (gm K mg) F_check_chart 2) := by
  have nd := (sc_check_chart).nd
  exact fn_ok F sc_check_chart fun cdv A outer s H E hr =>
      (st_cons (st_if (ct_not (ct_tru (te_iso K_Chart hG B.isinstance (te_var 0)))) (st_cons (st_raise1 X_BadChart rfl (takes_of rfl rfl rfl rfl) (hr.mono (by decide)) pass0 (ta_cons (te_var 1) ta_nil))
      st_nil) st_nil)
      st_nil)
abbrev s_items_of : Stmt := top 30
abbrev n_items_of : List Str := ["text"]
theorem sc_items_of : FnScope n_items_of ["text"] (defScope s_items_of) := ⟨rfl, rfl, rfl, by decide +kernel, rfl, by decide +kernel, by decide +kernel⟩
noncomputable def p_items_of : TSt :=
    (sSeq (sIf (cNot (cTru (xUn (oIsi [.str]) (xVar 0)))) (sSeq (sRaise "BadText" ["line", "item"] (xsCons (xC (.int 0)) (xsCons (xC (.int 0)) xsNil)))
    sNext) sNext)
    (sSeq (sRet (xS1 oSplit (xVar 0) (xC (.str (Str.ofString " ")))))
    sNext))
noncomputable def F_items_of : Fn := fnOf 1 p_items_of
theorem ok_items_of {f : Addr} {fd : FuncData} (F : FunA K "items_of" "items_of" s_items_of f fd) (B : Bn mg) (hG : Gok (gm K mg)) (X_BadText : Ec P w K mg base (gm K mg) "BadText" ["self", "line", "item"] (spIn2 K "line" "item") ["line", "item"]) : FnOk P w K mg base (L2.CX P w) 3 f fd ["text"] (spT (gm K mg) F_items_of 1) := by
  have nd := (sc_items_of).nd
  exact fn_ok F sc_items_of fun cdv A outer s H E hr =>
      (st_cons (st_if (ct_not (ct_tru (te_isi .str hG B.isinstance B.str (te_var 0) (pe_bltn (v := .ty "str") (by rfl) B.str (by decide +kernel) rfl)))) (st_cons (st_raise2 X_BadText rfl (takes_of rfl rfl rfl rfl) (hr.mono (by decide)) pass0 (ta_cons te_int (ta_cons te_int ta_nil)))
      st_nil) st_nil)
      (st_cons (st_ret (te_split (te_var 0) te_str))
      st_nil))
abbrev s__is_written : Stmt := top 31
abbrev n__is_written : List Str := ["item", "digits"]
theorem sc__is_written : FnScope n__is_written ["item"] (defScope s__is_written) := ⟨rfl, rfl, rfl, by decide +kernel, rfl, by decide +kernel, by decide +kernel⟩
noncomputable def p__is_written : TSt :=
    (sSeq (sSet 1 (xIf (cTru (xS1 oStarts (xVar 0) (xC (.str (Str.ofString "-"))))) (xSl (xVar 0) (pAt (xC (.int 1))) pNo) (xVar 0)))
    (sSeq (sIf (cOr (cNot (cB (xChain oLe oLe (xC (.int 1)) (xCall oLen (xsCons (xVar 1) xsNil)) (xC (.int 60))))) (cNot (cAnd (cTru (xS0 (fun z => .bl (Txt.isascii z)) (xVar 1))) (cTru (xS0 (fun z => .bl (Txt.isdigit z)) (xVar 1)))))) (sSeq (sRet (xC (.bl false)))
    sNext) sNext)
    (sSeq (sRet (xOr (xBin (oEq []) (xVar 0) (xC (.str (Str.ofString "0")))) (xBin (oNe []) (xBin oIx (xVar 1) (xC (.int 0))) (xC (.str (Str.ofString "0"))))))
    sNext)))
noncomputable def F__is_written : Fn := fnOf 2 p__is_written
theorem ok__is_written {f : Addr} {fd : FuncData} (F : FunA K "_is_written" "_is_written" s__is_written f fd) (B : Bn mg) (hG : Gok (gm K mg)) (g_MOST_DIGITS : ∃ t, mg "MOST_DIGITS" = some (.int 60 t)) : FnOk P w K mg base (L2.CX P w) 2 f fd ["item"] (spT (gm K mg) F__is_written 1) := by
  have nd := (sc__is_written).nd
  exact fn_ok F sc__is_written fun cdv A outer s H E hr =>
      (st_cons (st_set 1 nd (te_if (ct_tru (te_startswith (te_var 0) te_str)) (te_sl (te_var 0) (po2_at te_int) po2_no) (te_var 0)))
      (st_cons (st_if (PW.pt (cw_or (ct_not (ct_chain ot_le ot_le te_int (te_callB ot_len rfl B.len (by decide +kernel) (ta_cons (te_var 1) ta_nil)) (te_gint rfl g_MOST_DIGITS))) (cw_or1 (ct_not (PW.pt (cw_and (ct_tru (te_isascii (te_var 1))) (cw_and1 (ct_tru (te_isdigit (te_var 1)))))))))) (st_cons (st_ret te_bl)
      st_nil) st_nil)
      (st_cons (st_ret (te_or (te_cmp (ot_eqD (hu64 hr)) (te_var 0) te_str (nomark _)) (pe_one (te_cmp (ot_neD (hu64 hr)) (te_ix (te_var 1) te_int) te_str (nomark _)))))
      st_nil)))
abbrev s_number_at : Stmt := top 32
abbrev n_number_at : List Str := ["items", "at", "least", "most", "number"]
theorem sc_number_at : FnScope n_number_at ["items", "at", "least", "most"] (defScope s_number_at) := ⟨rfl, rfl, rfl, by decide +kernel, rfl, by decide +kernel, by decide +kernel⟩
noncomputable def p_number_at : TSt :=
    (sSeq (sIf (cOr (cB (xBin oGe (xVar 1) (xCall oLen (xsCons (xVar 0) xsNil)))) (cNot (cTru (xFn F__is_written (xsCons (xBin oIx (xVar 0) (xVar 1)) xsNil))))) (sSeq (sRaise "BadText" ["line", "item"] (xsCons (xC (.int 0)) (xsCons (xVar 1) xsNil)))
    sNext) sNext)
    (sSeq (sSet 4 (xCall oInt (xsCons (xBin oIx (xVar 0) (xVar 1)) xsNil)))
    (sSeq (sIf (cNot (cTru (xFn F_is_within (xsCons (xVar 4) (xsCons (xVar 2) (xsCons (xVar 3) xsNil)))))) (sSeq (sRaise "BadText" ["line", "item"] (xsCons (xC (.int 0)) (xsCons (xVar 1) xsNil)))
    sNext) sNext)
    (sSeq (sRet (xVar 4))
    sNext))))
noncomputable def F_number_at : Fn := fnOf 5 p_number_at
theorem ok_number_at {f : Addr} {fd : FuncData} (F : FunA K "number_at" "number_at" s_number_at f fd) (B : Bn mg) (hG : Gok (gm K mg)) (C_is_within : Cl P w K mg base (gm K mg) 3 "is_within" ["value", "least", "most"] F_is_within) (X_BadText : Ec P w K mg base (gm K mg) "BadText" ["self", "line", "item"] (spIn2 K "line" "item") ["line", "item"]) (C__is_written : Cl P w K mg base (gm K mg) 2 "_is_written" ["item"] F__is_written) : FnOk P w K mg base (L2.CX P w) 4 f fd ["items", "at", "least", "most"] (spT (gm K mg) F_number_at 4) := by
  have nd := (sc_number_at).nd
  exact fn_ok F sc_number_at fun cdv A outer s H E hr =>
      (st_cons (st_if (PW.pt (cw_or (ct_cmp ot_ge (te_var 1) (te_callB ot_len rfl B.len (by decide +kernel) (ta_cons (te_var 0) ta_nil)) (nomark _)) (cw_or1 (ct_not (ct_tru (te_call C__is_written (hr.mono (by decide)) pdef (ta_cons (te_ix (te_var 0) (te_var 1)) ta_nil))))))) (st_cons (st_raise2 X_BadText rfl (takes_of rfl rfl rfl rfl) (hr.mono (by decide)) pass0 (ta_cons te_int (ta_cons (te_var 1) ta_nil)))
      st_nil) st_nil)
      (st_cons (st_set 4 nd (te_callTy ot_int rfl B.int (by decide +kernel) (ta_cons (te_ix (te_var 0) (te_var 1)) ta_nil)))
      (st_cons (st_if (ct_not (ct_tru (te_call C_is_within (hr.mono (by decide)) pdef (ta_cons (te_var 4) (ta_cons (te_var 2) (ta_cons (te_var 3) ta_nil)))))) (st_cons (st_raise2 X_BadText rfl (takes_of rfl rfl rfl rfl) (hr.mono (by decide)) pass0 (ta_cons te_int (ta_cons (te_var 1) ta_nil)))
      st_nil) st_nil)
      (st_cons (st_ret (te_var 4))
      st_nil))))
abbrev s__is_step : Stmt := top 38
abbrev n__is_step : List Str := ["value", "pin"]
abbrev sc__is_step_0 : Scope := { kind := .function, names := [(".0", .local), ("pin", .local), ("is_within", .globalImplicit), ("LAST_PIN", .globalImplicit)], isGenerator := false, isCoroutine := false }
theorem sc__is_step : FnScope n__is_step ["value"] (defScope s__is_step) := ⟨rfl, rfl, rfl, by decide +kernel, rfl, by decide +kernel, by decide +kernel⟩
noncomputable def p__is_step : TSt :=
    (sSeq (sRet (xAnd (xFn F_is_list (xsCons (xVar 0) xsNil)) (xAnd (xBin (oEq []) (xCall oLen (xsCons (xVar 0) xsNil)) (xC (.int 2))) (xCall oAll (xsCons (xLc (wOf (xVar 0)) (tName 1) cYes (xFn F_is_within (xsCons (xVar 1) (xsCons (xC (.int 0)) (xsCons (xC (.int 6)) xsNil)))) [1]) xsNil)))))
    sNext)
noncomputable def F__is_step : Fn := fnOf 2 p__is_step
theorem ok__is_step {f : Addr} {fd : FuncData} (F : FunA K "_is_step" "_is_step" s__is_step f fd) (B : Bn mg) (hG : Gok (gm K mg)) (C_is_list : Cl P w K mg base (gm K mg) 2 "is_list" ["value"] F_is_list) (C_is_within : Cl P w K mg base (gm K mg) 3 "is_within" ["value", "least", "most"] F_is_within) (g_LAST_PIN : ∃ t, mg "LAST_PIN" = some (.int 6 t)) : FnOk P w K mg base (L2.CX P w) 4 f fd ["value"] (spT (gm K mg) F__is_step 1) := by
  have nd := (sc__is_step).nd
  exact fn_ok F sc__is_step fun cdv A outer s H E hr =>
      (st_cons (st_ret (te_and (te_call C_is_list (hr.mono (by decide)) pdef (ta_cons (te_var 0) ta_nil)) (te_and (te_cmp (ot_eqD (hu64 hr)) (te_callB ot_len rfl B.len (by decide +kernel) (ta_cons (te_var 0) ta_nil)) te_int (nomark _)) (pe_one (te_callB ot_all rfl B.all (by decide +kernel) (ta_cons (te_lc (own := [("pin", 1)]) rfl nd (wt_of (te_var 0)) (blkOk_by (N := n__is_step) (sc := defScope s__is_step) (by decide +kernel)) (fun _ _ _ _ _ => (gt_name 1 nd)) (fun _ _ _ _ _ => (te_call C_is_within (hr.mono (by decide)) passL (ta_cons (te_var 1) (ta_cons te_int (ta_cons (te_gint rfl g_LAST_PIN) ta_nil)))))) ta_nil))))))
      st_nil)
end
end G44

namespace G44
open PySem PySem.Spec PyProof.Rows L2 Den
section
variable {P : Program} {w : World} {K : PySem.W.Frag} {mg : Str → Option Value} {base : Heap}
abbrev s__is_term : Stmt := top 39
abbrev n__is_term : List Str := ["value"]
theorem sc__is_term : FnScope n__is_term ["value"] (defScope s__is_term) := ⟨rfl, rfl, rfl, by decide +kernel, rfl, by decide +kernel, by decide +kernel⟩
noncomputable def p__is_term : TSt :=
    (sSeq (sRet (xAnd (xFn F_is_list (xsCons (xVar 0) xsNil)) (xAnd (xBin (oEq []) (xCall oLen (xsCons (xVar 0) xsNil)) (xC (.int 3))) (xAnd (xFn F_is_integer (xsCons (xBin oIx (xVar 0) (xC (.int 0))) xsNil)) (xAnd (xFn F__is_step (xsCons (xBin oIx (xVar 0) (xC (.int 1))) xsNil)) (xFn F__is_step (xsCons (xBin oIx (xVar 0) (xC (.int 2))) xsNil)))))))
    sNext)
noncomputable def F__is_term : Fn := fnOf 1 p__is_term
theorem ok__is_term {f : Addr} {fd : FuncData} (F : FunA K "_is_term" "_is_term" s__is_term f fd) (B : Bn mg) (hG : Gok (gm K mg)) (C_is_list : Cl P w K mg base (gm K mg) 2 "is_list" ["value"] F_is_list) (C_is_integer : Cl P w K mg base (gm K mg) 2 "is_integer" ["value"] F_is_integer) (C__is_step : Cl P w K mg base (gm K mg) 4 "_is_step" ["value"] F__is_step) : FnOk P w K mg base (L2.CX P w) 5 f fd ["value"] (spT (gm K mg) F__is_term 1) := by
  have nd := (sc__is_term).nd
  exact fn_ok F sc__is_term fun cdv A outer s H E hr =>
      (st_cons (st_ret (te_and (te_call C_is_list (hr.mono (by decide)) pdef (ta_cons (te_var 0) ta_nil)) (te_and (te_cmp (ot_eqD (hu64 hr)) (te_callB ot_len rfl B.len (by decide +kernel) (ta_cons (te_var 0) ta_nil)) te_int (nomark _)) (te_and (te_call C_is_integer (hr.mono (by decide)) pdef (ta_cons (te_ix (te_var 0) te_int) ta_nil)) (te_and (te_call C__is_step (hr.mono (by decide)) pdef (ta_cons (te_ix (te_var 0) te_int) ta_nil)) (pe_one (te_call C__is_step (hr.mono (by decide)) pdef (ta_cons (te_ix (te_var 0) te_int) ta_nil))))))))
      st_nil)
abbrev s__check_steps : Stmt := top 40
abbrev n__check_steps : List Str := ["step", "its", "value", "part"]
theorem sc__check_steps : FnScope n__check_steps ["step", "its"] (defScope s__check_steps) := ⟨rfl, rfl, rfl, by decide +kernel, rfl, by decide +kernel, by decide +kernel⟩
noncomputable def p__check_steps : TSt :=
    (sSeq (sFor (wOf (xTup (xsCons (xTup (xsCons (xVar 0) (xsCons (xC (.str (Str.ofString "step"))) xsNil))) (xsCons (xTup (xsCons (xVar 1) (xsCons (xC (.str (Str.ofString "its"))) xsNil))) xsNil)))) (tTup [(tName 2), (tName 3)]) (sSeq (sIf (cNot (cTru (xFn F__is_step (xsCons (xVar 2) xsNil)))) (sSeq (sRaise "BadSaying" ["part"] (xsCons (xVar 3) xsNil))
    sNext) sNext)
    sNext))
    sNext)
noncomputable def F__check_steps : Fn := fnOf 4 p__check_steps
theorem ok__check_steps {f : Addr} {fd : FuncData} (F : FunA K "_check_steps" "_check_steps" s__check_steps f fd) (B : Bn mg) (hG : Gok (gm K mg)) (C__is_step : Cl P w K mg base (gm K mg) 4 "_is_step" ["value"] F__is_step) (X_BadSaying : Ec P w K mg base (gm K mg) "BadSaying" ["self", "part"] (spIn1 K "part") ["part"]) : FnOk P w K mg base (L2.CX P w) 5 f fd ["step", "its"] (spT (gm K mg) F__check_steps 2) := by
  have nd := (sc__check_steps).nd
  exact fn_ok F sc__check_steps fun cdv A outer s H E hr =>
      (st_cons (st_for (passes_of rfl) rfl (wt_of (te_tup (ta_cons (te_tup (ta_cons (te_var 0) (ta_cons te_str ta_nil))) (ta_cons (te_tup (ta_cons (te_var 1) (ta_cons te_str ta_nil))) ta_nil)))) (gt_tup rfl (gts_cons (gt_name 2 nd) (gts_cons (gt_name 3 nd) gts_nil))) (st_cons (st_if (ct_not (ct_tru (te_call C__is_step (hr.mono (by decide)) pdef (ta_cons (te_var 2) ta_nil)))) (st_cons (st_raise1 X_BadSaying rfl (takes_of rfl rfl rfl rfl) (hr.mono (by decide)) pass0 (ta_cons (te_var 3) ta_nil))
      st_nil) st_nil)
      st_nil))
      st_nil)
abbrev s_sum_in : Stmt := top 42
abbrev n_sum_in : List Str := ["rows", "terms", "many", "step", "its"]
abbrev sc_sum_in_0 : Scope := { kind := .function, names := [(".0", .local), ("many", .local), ("step", .local), ("its", .local), ("product_in", .globalImplicit), ("rows", .cell)], isGenerator := false, isCoroutine := false }
theorem sc_sum_in : FnScope n_sum_in ["rows", "terms"] (defScope s_sum_in) := ⟨rfl, rfl, rfl, by decide +kernel, rfl, by decide +kernel, by decide +kernel⟩
noncomputable def p_sum_in : TSt :=
    (sSeq (sRet (xCall oSum (xsCons (xLc (wOf (xVar 1)) (tTup [(tName 2), (tName 3), (tName 4)]) cYes (xBin oMulT (xVar 2) (xFn F_product_in (xsCons (xVar 0) (xsCons (xVar 3) (xsCons (xVar 4) xsNil))))) [2, 3, 4]) xsNil)))
    sNext)
noncomputable def F_sum_in : Fn := fnOf 5 p_sum_in
theorem ok_sum_in {f : Addr} {fd : FuncData} (F : FunA K "sum_in" "sum_in" s_sum_in f fd) (B : Bn mg) (hG : Gok (gm K mg)) (C_product_in : Cl P w K mg base (gm K mg) 3 "product_in" ["rows", "step", "its"] F_product_in) : FnOk P w K mg base (L2.CX P w) 4 f fd ["rows", "terms"] (spT (gm K mg) F_sum_in 2) := by
  have nd := (sc_sum_in).nd
  exact fn_ok F sc_sum_in fun cdv A outer s H E hr =>
      (st_cons (st_ret (te_callB ot_sum rfl B.sum (by decide +kernel) (ta_cons (te_lc (own := [("many", 2), ("step", 3), ("its", 4)]) rfl nd (wt_of (te_var 1)) (blkOk_by (N := n_sum_in) (sc := defScope s_sum_in) (by decide +kernel)) (fun _ _ _ _ _ => (gt_tup rfl (gts_cons (gt_name 2 nd) (gts_cons (gt_name 3 nd) (gts_cons (gt_name 4 nd) gts_nil))))) (fun _ _ _ _ _ => (te_op ot_mul (te_var 2) (te_call C_product_in (hr.mono (by decide)) passL (ta_cons (te_var 0) (ta_cons (te_var 3) (ta_cons (te_var 4) ta_nil))))))) ta_nil)))
      st_nil)
abbrev s_word_for : Stmt := top 43
abbrev n_word_for : List Str := ["difference"]
theorem sc_word_for : FnScope n_word_for ["difference"] (defScope s_word_for) := ⟨rfl, rfl, rfl, by decide +kernel, rfl, by decide +kernel, by decide +kernel⟩
noncomputable def p_word_for : TSt :=
    (sSeq (sIf (cB (xBin (oEq []) (xVar 0) (xC (.int 0)))) (sSeq (sRet (xC (.str (Str.ofString "just"))))
    sNext) sNext)
    (sSeq (sRet (xIf (cB (xBin oGt (xVar 0) (xC (.int 0)))) (xC (.str (Str.ofString "above"))) (xC (.str (Str.ofString "below")))))
    sNext))
noncomputable def F_word_for : Fn := fnOf 1 p_word_for
theorem ok_word_for {f : Addr} {fd : FuncData} (F : FunA K "word_for" "word_for" s_word_for f fd) (B : Bn mg) (hG : Gok (gm K mg))  : FnOk P w K mg base (L2.CX P w) 2 f fd ["difference"] (spT (gm K mg) F_word_for 1) := by
  have nd := (sc_word_for).nd
  exact fn_ok F sc_word_for fun cdv A outer s H E hr =>
      (st_cons (st_if (ct_cmp (ot_eqD (hu64 hr)) (te_var 0) te_int (nomark _)) (st_cons (st_ret te_str)
      st_nil) st_nil)
      (st_cons (st_ret (te_if (ct_cmp ot_gt (te_var 0) te_int (nomark _)) te_str te_str))
      st_nil))
abbrev s__law_pot : Stmt := top 46
abbrev n__law_pot : List Str := ["_law_script", "_law_cell"]
abbrev sc__law_pot_0 : Scope := { kind := .function, names := [(".0", .local), ("_law_cell", .local), ("int", .globalImplicit)], isGenerator := false, isCoroutine := false }
theorem sc__law_pot : FnScope n__law_pot ["_law_script"] (defScope s__law_pot) := ⟨rfl, rfl, rfl, by decide +kernel, rfl, by decide +kernel, by decide +kernel⟩
noncomputable def p__law_pot : TSt :=
    (sSeq (sRet (xLstH (xsCons (xLc (wOf (xSl (xVar 0) pNo (pAt (xC (.int 60))))) (tName 1) cYes (xCall oInt (xsCons (xVar 1) xsNil)) [1]) (xsCons (xC (.int 0)) (xsCons (xC (.int 0)) xsNil)))))
    sNext)
noncomputable def F__law_pot : Fn := fnOfK 2 p__law_pot
theorem ok__law_pot {f : Addr} {fd : FuncData} (F : FunA K "_law_pot" "_law_pot" s__law_pot f fd) (B : Bn mg) (hG : Gok (gm K mg))  : FnOk P w K mg base (L2.CX P w) 2 f fd ["_law_script"] (spT (gm K mg) F__law_pot 1) := by
  have nd := (sc__law_pot).nd
  exact fn_okK F sc__law_pot fun cdv A outer s H E hr =>
      (st_cons (st_ret (te_lstH (ta_cons (te_lc (own := [("_law_cell", 1)]) rfl nd (wt_of (te_sl (te_var 0) po2_no (po2_at te_int))) (blkOk_by (N := n__law_pot) (sc := defScope s__law_pot) (by decide +kernel)) (fun _ _ _ _ _ => (gt_name 1 nd)) (fun _ _ _ _ _ => (te_callTy ot_int rfl B.int (by decide +kernel) (ta_cons (te_var 1) ta_nil)))) (ta_cons te_int (ta_cons te_int ta_nil)))))
      st_nil)
abbrev s__law_divisor : Stmt := top 49
abbrev n__law_divisor : List Str := ["_law_numbers", "_law_found", "_law_number", "_law_one", "_law_other"]
theorem sc__law_divisor : FnScope n__law_divisor ["_law_numbers"] (defScope s__law_divisor) := ⟨rfl, rfl, rfl, by decide +kernel, rfl, by decide +kernel, by decide +kernel⟩
noncomputable def p__law_divisor : TSt :=
    (sSeq (sSet 1 (xC (.int 0)))
    (sSeq (sFor (wOf (xVar 0)) (tName 2) (sSeq (sAsg (xTup (xsCons (xVar 1) (xsCons (xCall oAbs (xsCons (xVar 2) xsNil)) xsNil))) (tTup [(tName 3), (tName 4)]))
    (sSeq (sWh (cB (xBin oGt (xVar 4) (xC (.int 0)))) (sSeq (sAsg (xTup (xsCons (xVar 4) (xsCons (xBin oMod (xCall oInt (xsCons (xVar 3) xsNil)) (xVar 4)) xsNil))) (tTup [(tName 3), (tName 4)]))
    sNext))
    (sSeq (sSet 1 (xVar 3))
    sNext))))
    (sSeq (sRet (xVar 1))
    sNext)))
noncomputable def F__law_divisor : Fn := fnOf 5 p__law_divisor
theorem ok__law_divisor {f : Addr} {fd : FuncData} (F : FunA K "_law_divisor" "_law_divisor" s__law_divisor f fd) (B : Bn mg) (hG : Gok (gm K mg))  : FnOk P w K mg base (L2.CX P w) 2 f fd ["_law_numbers"] (spT (gm K mg) F__law_divisor 1) := by
  have nd := (sc__law_divisor).nd
  exact fn_ok F sc__law_divisor fun cdv A outer s H E hr =>
      (st_cons (st_set 1 nd te_int)
      (st_cons (st_for (passes_of rfl) rfl (wt_of (te_var 0)) (gt_name 2 nd) (st_cons (st_par2 3 4 nd (ta_cons (te_var 1) (ta_cons (te_callB ot_abs rfl B.abs (by decide +kernel) (ta_cons (te_var 2) ta_nil)) ta_nil)))
      (st_cons (st_while (passes_of rfl) (ct_cmp ot_gt (te_var 4) te_int (nomark _)) (st_cons (st_par2 3 4 nd (ta_cons (te_var 4) (ta_cons (te_op ot_mod (te_callTy ot_int rfl B.int (by decide +kernel) (ta_cons (te_var 3) ta_nil)) (te_var 4)) ta_nil)))
      st_nil))
      (st_cons (st_set 1 nd (te_var 3))
      st_nil))))
      (st_cons (st_ret (te_var 1))
      st_nil)))
abbrev s__law_low : Stmt := top 50
abbrev n__law_low : List Str := ["_law_number", "_law_by", "_law_shared"]
theorem sc__law_low : FnScope n__law_low ["_law_number", "_law_by"] (defScope s__law_low) := ⟨rfl, rfl, rfl, by decide +kernel, rfl, by decide +kernel, by decide +kernel⟩
noncomputable def p__law_low : TSt :=
    (sSeq (sSet 2 (xFn F__law_divisor (xsCons (xLst (xsCons (xVar 0) (xsCons (xVar 1) xsNil))) xsNil)))
    (sSeq (sRet (xTup (xsCons (xBin oDiv (xVar 0) (xVar 2)) (xsCons (xBin oDiv (xVar 1) (xVar 2)) xsNil))))
    sNext))
noncomputable def F__law_low : Fn := fnOf 3 p__law_low
theorem ok__law_low {f : Addr} {fd : FuncData} (F : FunA K "_law_low" "_law_low" s__law_low f fd) (B : Bn mg) (hG : Gok (gm K mg)) (C__law_divisor : Cl P w K mg base (gm K mg) 2 "_law_divisor" ["_law_numbers"] F__law_divisor) : FnOk P w K mg base (L2.CX P w) 3 f fd ["_law_number", "_law_by"] (spT (gm K mg) F__law_low 2) := by
  have nd := (sc__law_low).nd
  exact fn_ok F sc__law_low fun cdv A outer s H E hr =>
      (st_cons (st_set 2 nd (te_call C__law_divisor (hr.mono (by decide)) pdef (ta_cons (te_lst (ta_cons (te_var 0) (ta_cons (te_var 1) ta_nil))) ta_nil)))
      (st_cons (st_ret (te_tup (ta_cons (te_op ot_div (te_var 0) (te_var 2)) (ta_cons (te_op ot_div (te_var 1) (te_var 2)) ta_nil))))
      st_nil))
abbrev s__law_gone : Stmt := top 53
abbrev n__law_gone : List Str := ["_law_row", "_law_step_here"]
theorem sc__law_gone : FnScope n__law_gone ["_law_row", "_law_step_here"] (defScope s__law_gone) := ⟨rfl, rfl, rfl, by decide +kernel, rfl, by decide +kernel, by decide +kernel⟩
noncomputable def p__law_gone : TSt :=
    (sSeq (sRet (xBin oSub (xBin oIx (xVar 0) (xBin oIx (xVar 1) (xC (.int 1)))) (xBin oIx (xVar 0) (xBin oIx (xVar 1) (xC (.int 0))))))
    sNext)
noncomputable def F__law_gone : Fn := fnOf 2 p__law_gone
theorem ok__law_gone {f : Addr} {fd : FuncData} (F : FunA K "_law_gone" "_law_gone" s__law_gone f fd) (B : Bn mg) (hG : Gok (gm K mg))  : FnOk P w K mg base (L2.CX P w) 2 f fd ["_law_row", "_law_step_here"] (spT (gm K mg) F__law_gone 2) := by
  have nd := (sc__law_gone).nd
  exact fn_ok F sc__law_gone fun cdv A outer s H E hr =>
      (st_cons (st_ret (te_op ot_sub (te_ix (te_var 0) (te_ix (te_var 1) te_int)) (te_ix (te_var 0) (te_ix (te_var 1) te_int))))
      st_nil)
end
end G44

namespace G44
open PySem PySem.Spec PyProof.Rows L2 Den
section
variable {P : Program} {w : World} {K : PySem.W.Frag} {mg : Str → Option Value} {base : Heap}
abbrev s__law_come : Stmt := top 56
abbrev n__law_come : List Str := ["_law_row", "_law_terms_here", "_law_full", "_law_k", "_law_step_here", "_law_its"]
abbrev sc__law_come_0 : Scope := { kind := .function, names := [(".0", .local), ("_law_k", .local), ("_law_step_here", .local), ("_law_its", .local), ("_law_gone", .globalImplicit), ("_law_full", .cell)], isGenerator := false, isCoroutine := false }
theorem sc__law_come : FnScope n__law_come ["_law_row", "_law_terms_here"] (defScope s__law_come) := ⟨rfl, rfl, rfl, by decide +kernel, rfl, by decide +kernel, by decide +kernel⟩
noncomputable def p__law_come : TSt :=
    (sSeq (sSet 2 (xBin oAdd (xLst (xsCons (xC (.int 0)) xsNil)) (xCall oList (xsCons (xVar 0) xsNil))))
    (sSeq (sRet (xCall oSum (xsCons (xLc (wOf (xVar 1)) (tTup [(tName 3), (tName 4), (tName 5)]) cYes (xBin oMulT (xBin oMulT (xVar 3) (xFn F__law_gone (xsCons (xVar 2) (xsCons (xVar 4) xsNil)))) (xFn F__law_gone (xsCons (xVar 2) (xsCons (xVar 5) xsNil)))) [3, 4, 5]) xsNil)))
    sNext))
noncomputable def F__law_come : Fn := fnOf 6 p__law_come
theorem ok__law_come {f : Addr} {fd : FuncData} (F : FunA K "_law_come" "_law_come" s__law_come f fd) (B : Bn mg) (hG : Gok (gm K mg)) (C__law_gone : Cl P w K mg base (gm K mg) 2 "_law_gone" ["_law_row", "_law_step_here"] F__law_gone) : FnOk P w K mg base (L2.CX P w) 3 f fd ["_law_row", "_law_terms_here"] (spT (gm K mg) F__law_come 2) := by
  have nd := (sc__law_come).nd
  exact fn_ok F sc__law_come fun cdv A outer s H E hr =>
      (st_cons (st_set 2 nd (te_op ot_add (te_lst (ta_cons te_int ta_nil)) (te_callTy ot_list rfl B.list (by decide +kernel) (ta_cons (te_var 0) ta_nil))))
      (st_cons (st_ret (te_callB ot_sum rfl B.sum (by decide +kernel) (ta_cons (te_lc (own := [("_law_k", 3), ("_law_step_here", 4), ("_law_its", 5)]) rfl nd (wt_of (te_var 1)) (blkOk_by (N := n__law_come) (sc := defScope s__law_come) (by decide +kernel)) (fun _ _ _ _ _ => (gt_tup rfl (gts_cons (gt_name 3 nd) (gts_cons (gt_name 4 nd) (gts_cons (gt_name 5 nd) gts_nil))))) (fun _ _ _ _ _ => (te_op ot_mul (te_op ot_mul (te_var 3) (te_call C__law_gone (hr.mono (by decide)) passL (ta_cons (te_var 2) (ta_cons (te_var 4) ta_nil)))) (te_call C__law_gone (hr.mono (by decide)) passL (ta_cons (te_var 2) (ta_cons (te_var 5) ta_nil)))))) ta_nil)))
      st_nil))
abbrev s__law_total : Stmt := top 57
abbrev n__law_total : List Str := ["_law_rows_here", "_law_by", "_law_terms_here", "_law_times", "_law_row"]
abbrev sc__law_total_0 : Scope := { kind := .function, names := [(".0", .local), ("_law_times", .local), ("_law_row", .local), ("_law_come", .globalImplicit), ("_law_terms_here", .cell)], isGenerator := false, isCoroutine := false }
theorem sc__law_total : FnScope n__law_total ["_law_rows_here", "_law_by", "_law_terms_here"] (defScope s__law_total) := ⟨rfl, rfl, rfl, by decide +kernel, rfl, by decide +kernel, by decide +kernel⟩
noncomputable def p__law_total : TSt :=
    (sSeq (sRet (xFn F__law_low (xsCons (xCall oSum (xsCons (xLc (wOf (xVar 0)) (tTup [(tName 3), (tName 4)]) cYes (xBin oMulT (xVar 3) (xFn F__law_come (xsCons (xVar 4) (xsCons (xVar 2) xsNil)))) [3, 4]) xsNil)) (xsCons (xVar 1) xsNil))))
    sNext)
noncomputable def F__law_total : Fn := fnOf 5 p__law_total
theorem ok__law_total {f : Addr} {fd : FuncData} (F : FunA K "_law_total" "_law_total" s__law_total f fd) (B : Bn mg) (hG : Gok (gm K mg)) (C__law_low : Cl P w K mg base (gm K mg) 3 "_law_low" ["_law_number", "_law_by"] F__law_low) (C__law_come : Cl P w K mg base (gm K mg) 3 "_law_come" ["_law_row", "_law_terms_here"] F__law_come) : FnOk P w K mg base (L2.CX P w) 4 f fd ["_law_rows_here", "_law_by", "_law_terms_here"] (spT (gm K mg) F__law_total 3) := by
  have nd := (sc__law_total).nd
  exact fn_ok F sc__law_total fun cdv A outer s H E hr =>
      (st_cons (st_ret (te_call C__law_low (hr.mono (by decide)) pdef (ta_cons (te_callB ot_sum rfl B.sum (by decide +kernel) (ta_cons (te_lc (own := [("_law_times", 3), ("_law_row", 4)]) rfl nd (wt_of (te_var 0)) (blkOk_by (N := n__law_total) (sc := defScope s__law_total) (by decide +kernel)) (fun _ _ _ _ _ => (gt_tup rfl (gts_cons (gt_name 3 nd) (gts_cons (gt_name 4 nd) gts_nil)))) (fun _ _ _ _ _ => (te_op ot_mul (te_var 3) (te_call C__law_come (hr.mono (by decide)) passL (ta_cons (te_var 4) (ta_cons (te_var 2) ta_nil)))))) ta_nil)) (ta_cons (te_var 1) ta_nil))))
      st_nil)
abbrev s_Chart_init : Stmt := inClass (top 24) 0
abbrev n_Chart_init : List Str := ["self", "rows", "by", "divisor", "row", "number"]
abbrev sc_Chart_init_0 : Scope := { kind := .function, names := [(".0", .local), ("row", .local), ("tuple", .globalImplicit), ("divisor", .cell)], isGenerator := false, isCoroutine := false }
abbrev sc_Chart_init_1 : Scope := { kind := .function, names := [(".0", .local), ("number", .local), ("divisor", .cell)], isGenerator := false, isCoroutine := false }
abbrev sc_Chart_init_2 : Scope := { kind := .function, names := [(".0", .local), ("row", .local), ("number", .local)], isGenerator := false, isCoroutine := false }
theorem sc_Chart_init : FnScope n_Chart_init ["self", "rows", "by"] (defScope s_Chart_init) := ⟨rfl, rfl, rfl, by decide +kernel, rfl, by decide +kernel, by decide +kernel⟩
noncomputable def p_Chart_init : TSt :=
    (sSeq (sIf (cNot (cTru (xFn F__are_chart_rows (xsCons (xVar 1) xsNil)))) (sSeq (sRaise "BadChart" ["part"] (xsCons (xC (.str (Str.ofString "rows"))) xsNil))
    sNext) sNext)
    (sSeq (sIf (cOr (cNot (cTru (xFn F_is_integer (xsCons (xVar 2) xsNil)))) (cB (xBin oLt (xVar 2) (xC (.int 1))))) (sSeq (sRaise "BadChart" ["part"] (xsCons (xC (.str (Str.ofString "by"))) xsNil))
    sNext) sNext)
    (sSeq (sSet 3 (xFn F_common_divisor (xsCons (xBin oAdd (xLst (xsCons (xVar 2) xsNil)) (xLc2 (wOf (xVar 1)) (tName 4) cYes (wOf (xVar 4)) (tName 5) cYes (xVar 5) [4, 5] [5])) xsNil)))
    (sSeq (sFldT "Chart" "rows" (xVar 0) (xCall oTuple (xsCons (xLc (wOf (xVar 1)) (tName 4) cYes (xCall oTuple (xsCons (xLc (wOf (xVar 4)) (tName 5) cYes (xBin oDiv (xVar 5) (xVar 3)) [5]) xsNil)) [4]) xsNil)))
    (sSeq (sFldT "Chart" "by" (xVar 0) (xBin oDiv (xVar 2) (xVar 3)))
    (sSeq (sFldT "Chart" "pins" (xVar 0) (xBin oAdd (xCall oLen (xsCons (xVar 1) xsNil)) (xC (.int 1))))
    sNext))))))
noncomputable def F_Chart_init : Fn := fnOf 6 p_Chart_init
theorem ok_Chart_init {f : Addr} {fd : FuncData} (F : FunA K "__init__" "Chart.__init__" s_Chart_init f fd) (B : Bn mg) (hG : Gok (gm K mg)) (A_Chart_pins : ∀ C, (gm K mg).mg (Str.ofString "Chart") = some (.ref C) → NoAttr (gm K mg).K C (Str.ofString "pins")) (A_Chart_by : ∀ C, (gm K mg).mg (Str.ofString "Chart") = some (.ref C) → NoAttr (gm K mg).K C (Str.ofString "by")) (A_Chart_rows : ∀ C, (gm K mg).mg (Str.ofString "Chart") = some (.ref C) → NoAttr (gm K mg).K C (Str.ofString "rows")) (C_common_divisor : Cl P w K mg base (gm K mg) 4 "common_divisor" ["values"] F_common_divisor) (C_is_integer : Cl P w K mg base (gm K mg) 2 "is_integer" ["value"] F_is_integer) (X_BadChart : Ec P w K mg base (gm K mg) "BadChart" ["self", "part"] (spIn1 K "part") ["part"]) (C__are_chart_rows : Cl P w K mg base (gm K mg) 4 "_are_chart_rows" ["rows"] F__are_chart_rows) : FnOk P w K mg base (L2.CX P w) 5 f fd ["self", "rows", "by"] (spT (gm K mg) F_Chart_init 3) := by
  have nd := (sc_Chart_init).nd
  exact fn_ok F sc_Chart_init fun cdv A outer s H E hr =>
      (st_cons (st_if (ct_not (ct_tru (te_call C__are_chart_rows (hr.mono (by decide)) pdef (ta_cons (te_var 1) ta_nil)))) (st_cons (st_raise1 X_BadChart rfl (takes_of rfl rfl rfl rfl) (hr.mono (by decide)) pass0 (ta_cons te_str ta_nil))
      st_nil) st_nil)
      (st_cons (st_if (PW.pt (cw_or (ct_not (ct_tru (te_call C_is_integer (hr.mono (by decide)) pdef (ta_cons (te_var 2) ta_nil)))) (cw_or1 (ct_cmp ot_lt (te_var 2) te_int (nomark _))))) (st_cons (st_raise1 X_BadChart rfl (takes_of rfl rfl rfl rfl) (hr.mono (by decide)) pass0 (ta_cons te_str ta_nil))
      st_nil) st_nil)
      (st_cons (st_set 3 nd (te_call C_common_divisor (hr.mono (by decide)) pdef (ta_cons (te_op ot_add (te_lst (ta_cons (te_var 2) ta_nil)) (te_lc2 (own := [("row", 4), ("number", 5)]) (vs1 := [5]) rfl nd (wt_of (te_var 1)) (blkOk_by (N := n_Chart_init) (sc := defScope s_Chart_init) (by decide +kernel)) (by decide) (fun _ _ _ _ _ => (gt_name 4 nd)) (fun _ _ _ _ _ => (wt_of (te_var 4))) (fun _ _ _ _ _ => (gt_name 5 nd)) (fun _ _ _ _ _ => (te_var 5)))) ta_nil)))
      (st_cons (st_fld "Chart" "rows" hG (te_var 0) (te_callTy ot_tuple rfl B.tuple (by decide +kernel) (ta_cons (te_lc (own := [("row", 4)]) rfl nd (wt_of (te_var 1)) (blkOk_by (N := n_Chart_init) (sc := defScope s_Chart_init) (by decide +kernel)) (fun _ _ _ _ _ => (gt_name 4 nd)) (fun _ _ _ _ _ => (te_callTy ot_tuple rfl B.tuple (by decide +kernel) (ta_cons (te_lc (own := [("number", 5)]) rfl nd (wt_of (te_var 4)) (blkOk_by (N := n_Chart_init) (sc := sc_Chart_init_0) (by decide +kernel)) (fun _ _ _ _ _ => (gt_name 5 nd)) (fun _ _ _ _ _ => (te_op ot_div (te_var 5) (te_var 3)))) ta_nil)))) ta_nil)) A_Chart_rows)
      (st_cons (st_fld "Chart" "by" hG (te_var 0) (te_op ot_div (te_var 2) (te_var 3)) A_Chart_by)
      (st_cons (st_fld "Chart" "pins" hG (te_var 0) (te_op ot_add (te_callB ot_len rfl B.len (by decide +kernel) (ta_cons (te_var 1) ta_nil)) te_int) A_Chart_pins)
      st_nil))))))
abbrev s_Chart_eq : Stmt := inClass (top 24) 1
abbrev n_Chart_eq : List Str := ["self", "other"]
theorem sc_Chart_eq : FnScope n_Chart_eq ["self", "other"] (defScope s_Chart_eq) := ⟨rfl, rfl, rfl, by decide +kernel, rfl, by decide +kernel, by decide +kernel⟩
noncomputable def p_Chart_eq : TSt :=
    (sSeq (sRet (xAnd (xUn (oIso ["Chart"]) (xVar 1)) (xAnd (xBin (oEq []) (xUn (oFld "rows") (xVar 0)) (xUn (oFld "rows") (xVar 1))) (xBin (oEq []) (xUn (oFld "by") (xVar 0)) (xUn (oFld "by") (xVar 1))))))
    sNext)
noncomputable def F_Chart_eq : Fn := fnOf 2 p_Chart_eq
theorem ok_Chart_eq {f : Addr} {fd : FuncData} (F : FunA K "__eq__" "Chart.__eq__" s_Chart_eq f fd) (B : Bn mg) (hG : Gok (gm K mg)) (K_Chart : Ko (gm K mg) "Chart" ["Chart"]) : FnOk P w K mg base (L2.CX P w) 2 f fd ["self", "other"] (spT (gm K mg) F_Chart_eq 2) := by
  have nd := (sc_Chart_eq).nd
  exact fn_ok F sc_Chart_eq fun cdv A outer s H E hr =>
      (st_cons (st_ret (te_and (te_iso K_Chart hG B.isinstance (te_var 1)) (te_and (te_cmp (ot_eqD (hu64 hr)) (te_fld "rows" hG (te_var 0)) (te_fld "rows" hG (te_var 1)) (nomark _)) (pe_one (te_cmp (ot_eqD (hu64 hr)) (te_fld "by" hG (te_var 0)) (te_fld "by" hG (te_var 1)) (nomark _))))))
      st_nil)
abbrev s_Chart_str : Stmt := inClass (top 24) 2
abbrev n_Chart_str : List Str := ["self", "rows", "row", "number"]
abbrev sc_Chart_str_0 : Scope := { kind := .function, names := [(".0", .local), ("row", .local)], isGenerator := false, isCoroutine := false }
abbrev sc_Chart_str_1 : Scope := { kind := .function, names := [(".0", .local), ("number", .local), ("str", .globalImplicit)], isGenerator := false, isCoroutine := false }
theorem sc_Chart_str : FnScope n_Chart_str ["self"] (defScope s_Chart_str) := ⟨rfl, rfl, rfl, by decide +kernel, rfl, by decide +kernel, by decide +kernel⟩
noncomputable def p_Chart_str : TSt :=
    (sSeq (sSet 1 (xS1 oJoin (xC (.str (Str.ofString " / "))) (xLc (wOf (xUn (oFld "rows") (xVar 0))) (tName 2) cYes (xS1 oJoin (xC (.str (Str.ofString " "))) (xLc (wOf (xVar 2)) (tName 3) cYes (xCall (oStrN []) (xsCons (xVar 3) xsNil)) [3])) [2])))
    (sSeq (sRet (xFst [xUn oFmt (xVar 1), (xC (.str (Str.ofString " : "))), xUn oFmt (xUn (oFld "by") (xVar 0))]))
    sNext))
noncomputable def F_Chart_str : Fn := fnOf 4 p_Chart_str
theorem ok_Chart_str {f : Addr} {fd : FuncData} (F : FunA K "__str__" "Chart.__str__" s_Chart_str f fd) (B : Bn mg) (hG : Gok (gm K mg))  : FnOk P w K mg base (L2.CX P w) 2 f fd ["self"] (spT (gm K mg) F_Chart_str 1) := by
  have nd := (sc_Chart_str).nd
  exact fn_ok F sc_Chart_str fun cdv A outer s H E hr =>
      (st_cons (st_set 1 nd (te_join te_str (te_lc (own := [("row", 2)]) rfl nd (wt_of (te_fld "rows" hG (te_var 0))) (blkOk_by (N := n_Chart_str) (sc := defScope s_Chart_str) (by decide +kernel)) (fun _ _ _ _ _ => (gt_name 2 nd)) (fun _ _ _ _ _ => (te_join te_str (te_lc (own := [("number", 3)]) rfl nd (wt_of (te_var 2)) (blkOk_by (N := n_Chart_str) (sc := sc_Chart_str_0) (by decide +kernel)) (fun _ _ _ _ _ => (gt_name 3 nd)) (fun _ _ _ _ _ => (te_callTy (ot_str0).choose_spec rfl B.str (by decide +kernel) (ta_cons (te_var 3) ta_nil)))))))))
      (st_cons (st_ret (te_fst (.cons (te_fmt (te_var 1)) (.cons te_str (.cons (te_fmt (te_fld "by" hG (te_var 0))) .nil)))))
      st_nil))
abbrev s_Chart_product : Stmt := inClass (top 24) 3
abbrev n_Chart_product : List Str := ["self", "step", "its"]
theorem sc_Chart_product : FnScope n_Chart_product ["self", "step", "its"] (defScope s_Chart_product) := ⟨rfl, rfl, rfl, by decide +kernel, rfl, by decide +kernel, by decide +kernel⟩
noncomputable def p_Chart_product : TSt :=
    (sSeq (sExpr (xFn F_check_step (xsCons (xVar 1) (xsCons (xUn (oFld "pins") (xVar 0)) xsNil))))
    (sSeq (sExpr (xFn F_check_step (xsCons (xVar 2) (xsCons (xUn (oFld "pins") (xVar 0)) xsNil))))
    (sSeq (sRet (xFn F_lowest (xsCons (xFn F_product_in (xsCons (xUn (oFld "rows") (xVar 0)) (xsCons (xVar 1) (xsCons (xVar 2) xsNil)))) (xsCons (xUn (oFld "by") (xVar 0)) xsNil))))
    sNext)))
noncomputable def F_Chart_product : Fn := fnOf 3 p_Chart_product
theorem ok_Chart_product {f : Addr} {fd : FuncData} (F : FunA K "product" "Chart.product" s_Chart_product f fd) (B : Bn mg) (hG : Gok (gm K mg)) (C_lowest : Cl P w K mg base (gm K mg) 3 "lowest" ["number", "by"] F_lowest) (C_product_in : Cl P w K mg base (gm K mg) 3 "product_in" ["rows", "step", "its"] F_product_in) (C_check_step : Cl P w K mg base (gm K mg) 5 "check_step" ["value", "many"] F_check_step) : FnOk P w K mg base (L2.CX P w) 6 f fd ["self", "step", "its"] (spT (gm K mg) F_Chart_product 3) := by
  have nd := (sc_Chart_product).nd
  exact fn_ok F sc_Chart_product fun cdv A outer s H E hr =>
      (st_cons (st_expr (te_call C_check_step (hr.mono (by decide)) pdef (ta_cons (te_var 1) (ta_cons (te_fld "pins" hG (te_var 0)) ta_nil))))
      (st_cons (st_expr (te_call C_check_step (hr.mono (by decide)) pdef (ta_cons (te_var 2) (ta_cons (te_fld "pins" hG (te_var 0)) ta_nil))))
      (st_cons (st_ret (te_call C_lowest (hr.mono (by decide)) pdef (ta_cons (te_call C_product_in (hr.mono (by decide)) pdef (ta_cons (te_fld "rows" hG (te_var 0)) (ta_cons (te_var 1) (ta_cons (te_var 2) ta_nil)))) (ta_cons (te_fld "by" hG (te_var 0)) ta_nil))))
      st_nil)))
abbrev s_Chart_square : Stmt := inClass (top 24) 4
abbrev n_Chart_square : List Str := ["self", "step"]
theorem sc_Chart_square : FnScope n_Chart_square ["self", "step"] (defScope s_Chart_square) := ⟨rfl, rfl, rfl, by decide +kernel, rfl, by decide +kernel, by decide +kernel⟩
noncomputable def p_Chart_square : TSt :=
    (sSeq (sExpr (xFn F_check_step (xsCons (xVar 1) (xsCons (xUn (oFld "pins") (xVar 0)) xsNil))))
    (sSeq (sRet (xFn F_lowest (xsCons (xFn F_product_in (xsCons (xUn (oFld "rows") (xVar 0)) (xsCons (xVar 1) (xsCons (xVar 1) xsNil)))) (xsCons (xUn (oFld "by") (xVar 0)) xsNil))))
    sNext))
noncomputable def F_Chart_square : Fn := fnOf 2 p_Chart_square
theorem ok_Chart_square {f : Addr} {fd : FuncData} (F : FunA K "square" "Chart.square" s_Chart_square f fd) (B : Bn mg) (hG : Gok (gm K mg)) (C_lowest : Cl P w K mg base (gm K mg) 3 "lowest" ["number", "by"] F_lowest) (C_product_in : Cl P w K mg base (gm K mg) 3 "product_in" ["rows", "step", "its"] F_product_in) (C_check_step : Cl P w K mg base (gm K mg) 5 "check_step" ["value", "many"] F_check_step) : FnOk P w K mg base (L2.CX P w) 6 f fd ["self", "step"] (spT (gm K mg) F_Chart_square 2) := by
  have nd := (sc_Chart_square).nd
  exact fn_ok F sc_Chart_square fun cdv A outer s H E hr =>
      (st_cons (st_expr (te_call C_check_step (hr.mono (by decide)) pdef (ta_cons (te_var 1) (ta_cons (te_fld "pins" hG (te_var 0)) ta_nil))))
      (st_cons (st_ret (te_call C_lowest (hr.mono (by decide)) pdef (ta_cons (te_call C_product_in (hr.mono (by decide)) pdef (ta_cons (te_fld "rows" hG (te_var 0)) (ta_cons (te_var 1) (ta_cons (te_var 1) ta_nil)))) (ta_cons (te_fld "by" hG (te_var 0)) ta_nil))))
      st_nil))
abbrev s_Saying_init : Stmt := inClass (top 41) 0
abbrev n_Saying_init : List Str := ["self", "terms", "word", "number", "term", "many", "step", "its", "_"]
abbrev sc_Saying_init_0 : Scope := { kind := .function, names := [(".0", .local), ("_", .local), ("step", .local), ("its", .local), ("max", .globalImplicit)], isGenerator := false, isCoroutine := false }
abbrev sc_Saying_init_1 : Scope := { kind := .function, names := [(".0", .local), ("many", .local), ("step", .local), ("its", .local), ("tuple", .globalImplicit)], isGenerator := false, isCoroutine := false }
abbrev sc_Saying_init_2 : Scope := { kind := .function, names := [(".0", .local), ("term", .local), ("_is_term", .globalImplicit)], isGenerator := false, isCoroutine := false }
theorem sc_Saying_init : FnScope n_Saying_init ["self", "terms", "word", "number"] (defScope s_Saying_init) := ⟨rfl, rfl, rfl, by decide +kernel, rfl, by decide +kernel, by decide +kernel⟩
noncomputable def p_Saying_init : TSt :=
    (sSeq (sIf (cOr (cNot (cTru (xFn F_is_list (xsCons (xVar 1) xsNil)))) (cOr (cNot (cTru (xVar 1))) (cNot (cTru (xCall oAll (xsCons (xLc (wOf (xVar 1)) (tName 4) cYes (xFn F__is_term (xsCons (xVar 4) xsNil)) [4]) xsNil)))))) (sSeq (sRaise "BadSaying" ["part"] (xsCons (xC (.str (Str.ofString "terms"))) xsNil))
    sNext) sNext)
    (sSeq (sIf (cOr (cNot (cTru (xUn (oIsi [.str]) (xVar 2)))) (cB (xBin (oInN true) (xVar 2) (xC (.tup [(.str (Str.ofString "above")), (.str (Str.ofString "below")), (.str (Str.ofString "just"))]))))) (sSeq (sRaise "BadSaying" ["part"] (xsCons (xC (.str (Str.ofString "word"))) xsNil))
    sNext) sNext)
    (sSeq (sIf (cNot (cTru (xFn F_is_integer (xsCons (xVar 3) xsNil)))) (sSeq (sRaise "BadNumber" ["part"] (xsCons (xC (.str (Str.ofString "number"))) xsNil))
    sNext) sNext)
    (sSeq (sIf (cB (xBin oGt (xCall oLen (xsCons (xVar 1) xsNil)) (xC (.int 12)))) (sSeq (sRaise "TooMany" ["what", "most"] (xsCons (xC (.str (Str.ofString "terms"))) (xsCons (xC (.int 12)) xsNil)))
    sNext) sNext)
    (sSeq (sFldT "Saying" "terms" (xVar 0) (xCall oTuple (xsCons (xLc (wOf (xVar 1)) (tTup [(tName 5), (tName 6), (tName 7)]) cYes (xTup (xsCons (xVar 5) (xsCons (xCall oTuple (xsCons (xVar 6) xsNil)) (xsCons (xCall oTuple (xsCons (xVar 7) xsNil)) xsNil)))) [5, 6, 7]) xsNil)))
    (sSeq (sFldT "Saying" "word" (xVar 0) (xVar 2))
    (sSeq (sFldT "Saying" "number" (xVar 0) (xVar 3))
    (sSeq (sFldT "Saying" "pins" (xVar 0) (xBin oAdd (xC (.int 1)) (xCall oMax (xsCons (xLc (wOf (xUn (oFld "terms") (xVar 0))) (tTup [(tName 8), (tName 6), (tName 7)]) cYes (xCall oMax (xsCons (xBin oAdd (xVar 6) (xVar 7)) xsNil)) [8, 6, 7]) xsNil))))
    sNext))))))))
noncomputable def F_Saying_init : Fn := fnOf 9 p_Saying_init
theorem ok_Saying_init {f : Addr} {fd : FuncData} (F : FunA K "__init__" "Saying.__init__" s_Saying_init f fd) (B : Bn mg) (hG : Gok (gm K mg)) (A_Saying_pins : ∀ C, (gm K mg).mg (Str.ofString "Saying") = some (.ref C) → NoAttr (gm K mg).K C (Str.ofString "pins")) (A_Saying_number : ∀ C, (gm K mg).mg (Str.ofString "Saying") = some (.ref C) → NoAttr (gm K mg).K C (Str.ofString "number")) (A_Saying_word : ∀ C, (gm K mg).mg (Str.ofString "Saying") = some (.ref C) → NoAttr (gm K mg).K C (Str.ofString "word")) (A_Saying_terms : ∀ C, (gm K mg).mg (Str.ofString "Saying") = some (.ref C) → NoAttr (gm K mg).K C (Str.ofString "terms")) (g_MOST_TERMS : ∃ t, mg "MOST_TERMS" = some (.int 12 t)) (X_TooMany : Ec P w K mg base (gm K mg) "TooMany" ["self", "what", "most"] (spIn2 K "what" "most") ["what", "most"]) (C_is_integer : Cl P w K mg base (gm K mg) 2 "is_integer" ["value"] F_is_integer) (X_BadNumber : Ec P w K mg base (gm K mg) "BadNumber" ["self", "part"] (spIn1 K "part") ["part"]) (g_WORDS : GTup (gm K mg) "WORDS" ([(.str (Str.ofString "above")), (.str (Str.ofString "below")), (.str (Str.ofString "just"))] : List Den.D)) (X_BadSaying : Ec P w K mg base (gm K mg) "BadSaying" ["self", "part"] (spIn1 K "part") ["part"]) (C_is_list : Cl P w K mg base (gm K mg) 2 "is_list" ["value"] F_is_list) (C__is_term : Cl P w K mg base (gm K mg) 5 "_is_term" ["value"] F__is_term) : FnOk P w K mg base (L2.CX P w) 6 f fd ["self", "terms", "word", "number"] (spT (gm K mg) F_Saying_init 4) := by
  have nd := (sc_Saying_init).nd
  exact fn_ok F sc_Saying_init fun cdv A outer s H E hr =>
      (st_cons (st_if (PW.pt (cw_or (ct_not (ct_tru (te_call C_is_list (hr.mono (by decide)) pdef (ta_cons (te_var 1) ta_nil)))) (cw_or (ct_not (ct_tru (te_var 1))) (cw_or1 (ct_not (ct_tru (te_callB ot_all rfl B.all (by decide +kernel) (ta_cons (te_lc (own := [("term", 4)]) rfl nd (wt_of (te_var 1)) (blkOk_by (N := n_Saying_init) (sc := defScope s_Saying_init) (by decide +kernel)) (fun _ _ _ _ _ => (gt_name 4 nd)) (fun _ _ _ _ _ => (te_call C__is_term (hr.mono (by decide)) passL (ta_cons (te_var 4) ta_nil)))) ta_nil)))))))) (st_cons (st_raise1 X_BadSaying rfl (takes_of rfl rfl rfl rfl) (hr.mono (by decide)) pass0 (ta_cons te_str ta_nil))
      st_nil) st_nil)
      (st_cons (st_if (PW.pt (cw_or (ct_not (ct_tru (te_isi .str hG B.isinstance B.str (te_var 2) (pe_bltn (v := .ty "str") (by rfl) B.str (by decide +kernel) rfl)))) (cw_or1 (ct_cmp (ot_notin (hu65 hr)) (te_var 2) (te_gtupE rfl g_WORDS) (by with_unfolding_all rfl))))) (st_cons (st_raise1 X_BadSaying rfl (takes_of rfl rfl rfl rfl) (hr.mono (by decide)) pass0 (ta_cons te_str ta_nil))
      st_nil) st_nil)
      (st_cons (st_if (ct_not (ct_tru (te_call C_is_integer (hr.mono (by decide)) pdef (ta_cons (te_var 3) ta_nil)))) (st_cons (st_raise1 X_BadNumber rfl (takes_of rfl rfl rfl rfl) (hr.mono (by decide)) pass0 (ta_cons te_str ta_nil))
      st_nil) st_nil)
      (st_cons (st_if (ct_cmp ot_gt (te_callB ot_len rfl B.len (by decide +kernel) (ta_cons (te_var 1) ta_nil)) (te_gint rfl g_MOST_TERMS) (nomark _)) (st_cons (st_raise2 X_TooMany rfl (takes_of rfl rfl rfl rfl) (hr.mono (by decide)) pass0 (ta_cons te_str (ta_cons (te_gint rfl g_MOST_TERMS) ta_nil)))
      st_nil) st_nil)
      (st_cons (st_fld "Saying" "terms" hG (te_var 0) (te_callTy ot_tuple rfl B.tuple (by decide +kernel) (ta_cons (te_lc (own := [("many", 5), ("step", 6), ("its", 7)]) rfl nd (wt_of (te_var 1)) (blkOk_by (N := n_Saying_init) (sc := defScope s_Saying_init) (by decide +kernel)) (fun _ _ _ _ _ => (gt_tup rfl (gts_cons (gt_name 5 nd) (gts_cons (gt_name 6 nd) (gts_cons (gt_name 7 nd) gts_nil))))) (fun _ _ _ _ _ => (te_tup (ta_cons (te_var 5) (ta_cons (te_callTy ot_tuple rfl B.tuple (by decide +kernel) (ta_cons (te_var 6) ta_nil)) (ta_cons (te_callTy ot_tuple rfl B.tuple (by decide +kernel) (ta_cons (te_var 7) ta_nil)) ta_nil)))))) ta_nil)) A_Saying_terms)
      (st_cons (st_fld "Saying" "word" hG (te_var 0) (te_var 2) A_Saying_word)
      (st_cons (st_fld "Saying" "number" hG (te_var 0) (te_var 3) A_Saying_number)
      (st_cons (st_fld "Saying" "pins" hG (te_var 0) (te_op ot_add te_int (te_callB (ot_max (hu3 hr)) rfl B.max (by decide +kernel) (ta_cons (te_lc (own := [("_", 8), ("step", 6), ("its", 7)]) rfl nd (wt_of (te_fld "terms" hG (te_var 0))) (blkOk_by (N := n_Saying_init) (sc := defScope s_Saying_init) (by decide +kernel)) (fun _ _ _ _ _ => (gt_tup rfl (gts_cons (gt_name 8 nd) (gts_cons (gt_name 6 nd) (gts_cons (gt_name 7 nd) gts_nil))))) (fun _ _ _ _ _ => (te_callB (ot_max (hu3 hr)) rfl B.max (by decide +kernel) (ta_cons (te_op ot_add (te_var 6) (te_var 7)) ta_nil)))) ta_nil))) A_Saying_pins)
      st_nil))))))))
end
end G44

namespace G44
open PySem PySem.Spec PyProof.Rows L2 Den
section
variable {P : Program} {w : World} {K : PySem.W.Frag} {mg : Str → Option Value} {base : Heap}
abbrev s_Saying_eq : Stmt := inClass (top 41) 1
abbrev n_Saying_eq : List Str := ["self", "other"]
theorem sc_Saying_eq : FnScope n_Saying_eq ["self", "other"] (defScope s_Saying_eq) := ⟨rfl, rfl, rfl, by decide +kernel, rfl, by decide +kernel, by decide +kernel⟩
noncomputable def p_Saying_eq : TSt :=
    (sSeq (sRet (xAnd (xUn (oIso ["Saying"]) (xVar 1)) (xAnd (xBin (oEq []) (xUn (oFld "terms") (xVar 0)) (xUn (oFld "terms") (xVar 1))) (xAnd (xBin (oEq []) (xUn (oFld "word") (xVar 0)) (xUn (oFld "word") (xVar 1))) (xBin (oEq []) (xUn (oFld "number") (xVar 0)) (xUn (oFld "number") (xVar 1)))))))
    sNext)
noncomputable def F_Saying_eq : Fn := fnOf 2 p_Saying_eq
theorem ok_Saying_eq {f : Addr} {fd : FuncData} (F : FunA K "__eq__" "Saying.__eq__" s_Saying_eq f fd) (B : Bn mg) (hG : Gok (gm K mg)) (K_Saying : Ko (gm K mg) "Saying" ["Saying"]) : FnOk P w K mg base (L2.CX P w) 2 f fd ["self", "other"] (spT (gm K mg) F_Saying_eq 2) := by
  have nd := (sc_Saying_eq).nd
  exact fn_ok F sc_Saying_eq fun cdv A outer s H E hr =>
      (st_cons (st_ret (te_and (te_iso K_Saying hG B.isinstance (te_var 1)) (te_and (te_cmp (ot_eqD (hu64 hr)) (te_fld "terms" hG (te_var 0)) (te_fld "terms" hG (te_var 1)) (nomark _)) (te_and (te_cmp (ot_eqD (hu64 hr)) (te_fld "word" hG (te_var 0)) (te_fld "word" hG (te_var 1)) (nomark _)) (pe_one (te_cmp (ot_eqD (hu64 hr)) (te_fld "number" hG (te_var 0)) (te_fld "number" hG (te_var 1)) (nomark _)))))))
      st_nil)
abbrev s_Saying_str : Stmt := inClass (top 41) 2
abbrev n_Saying_str : List Str := ["self", "terms", "many", "a", "b", "c", "d"]
abbrev sc_Saying_str_0 : Scope := { kind := .function, names := [(".0", .local), ("many", .local), ("a", .local), ("b", .local), ("c", .local), ("d", .local)], isGenerator := false, isCoroutine := false }
theorem sc_Saying_str : FnScope n_Saying_str ["self"] (defScope s_Saying_str) := ⟨rfl, rfl, rfl, by decide +kernel, rfl, by decide +kernel, by decide +kernel⟩
noncomputable def p_Saying_str : TSt :=
    (sSeq (sSet 1 (xS1 oJoin (xC (.str (Str.ofString " + "))) (xLc (wOf (xUn (oFld "terms") (xVar 0))) (tTup [(tName 2), (tTup [(tName 3), (tName 4)]), (tTup [(tName 5), (tName 6)])]) cYes (xFst [xUn oFmt (xVar 2), (xC (.str (Str.ofString " "))), xUn oFmt (xVar 3), (xC (.str (Str.ofString " "))), xUn oFmt (xVar 4), (xC (.str (Str.ofString " "))), xUn oFmt (xVar 5), (xC (.str (Str.ofString " "))), xUn oFmt (xVar 6)]) [2, 3, 4, 5, 6])))
    (sSeq (sRet (xFst [xUn oFmt (xVar 1), (xC (.str (Str.ofString " "))), xUn oFmt (xUn (oFld "word") (xVar 0)), (xC (.str (Str.ofString " "))), xUn oFmt (xUn (oFld "number") (xVar 0))]))
    sNext))
noncomputable def F_Saying_str : Fn := fnOf 7 p_Saying_str
theorem ok_Saying_str {f : Addr} {fd : FuncData} (F : FunA K "__str__" "Saying.__str__" s_Saying_str f fd) (B : Bn mg) (hG : Gok (gm K mg))  : FnOk P w K mg base (L2.CX P w) 2 f fd ["self"] (spT (gm K mg) F_Saying_str 1) := by
  have nd := (sc_Saying_str).nd
  exact fn_ok F sc_Saying_str fun cdv A outer s H E hr =>
      (st_cons (st_set 1 nd (te_join te_str (te_lc (own := [("many", 2), ("a", 3), ("b", 4), ("c", 5), ("d", 6)]) rfl nd (wt_of (te_fld "terms" hG (te_var 0))) (blkOk_by (N := n_Saying_str) (sc := defScope s_Saying_str) (by decide +kernel)) (fun _ _ _ _ _ => (gt_tup rfl (gts_cons (gt_name 2 nd) (gts_cons (gt_tup rfl (gts_cons (gt_name 3 nd) (gts_cons (gt_name 4 nd) gts_nil))) (gts_cons (gt_tup rfl (gts_cons (gt_name 5 nd) (gts_cons (gt_name 6 nd) gts_nil))) gts_nil))))) (fun _ _ _ _ _ => (te_fst (.cons (te_fmt (te_var 2)) (.cons te_str (.cons (te_fmt (te_var 3)) (.cons te_str (.cons (te_fmt (te_var 4)) (.cons te_str (.cons (te_fmt (te_var 5)) (.cons te_str (.cons (te_fmt (te_var 6)) .nil))))))))))))))
      (st_cons (st_ret (te_fst (.cons (te_fmt (te_var 1)) (.cons te_str (.cons (te_fmt (te_fld "word" hG (te_var 0))) (.cons te_str (.cons (te_fmt (te_fld "number" hG (te_var 0))) .nil)))))))
      st_nil))
abbrev s_Saying_longer : Stmt := inClass (top 41) 4
abbrev n_Saying_longer : List Str := ["step", "its"]
theorem sc_Saying_longer : FnScope n_Saying_longer ["step", "its"] (defScope s_Saying_longer) := ⟨rfl, rfl, rfl, by decide +kernel, rfl, by decide +kernel, by decide +kernel⟩
noncomputable def p_Saying_longer : TSt :=
    (sSeq (sExpr (xFn F__check_steps (xsCons (xVar 0) (xsCons (xVar 1) xsNil))))
    (sSeq (sRet (xNew "Saying" F_Saying_init (xsCons (xLst (xsCons (xTup (xsCons (xC (.int 1)) (xsCons (xVar 0) (xsCons (xVar 0) xsNil)))) (xsCons (xTup (xsCons (xUn oNeg (xC (.int 1))) (xsCons (xVar 1) (xsCons (xVar 1) xsNil)))) xsNil))) (xsCons (xC (.str (Str.ofString "above"))) (xsCons (xC (.int 0)) xsNil)))))
    sNext))
noncomputable def F_Saying_longer : Fn := fnOf 2 p_Saying_longer
theorem ok_Saying_longer {f : Addr} {fd : FuncData} (F : FunA K "longer" "Saying.longer" s_Saying_longer f fd) (B : Bn mg) (hG : Gok (gm K mg)) (M_Saying : Mc P w K mg base (gm K mg) 6 "Saying" ["self", "terms", "word", "number"] F_Saying_init) (C__check_steps : Cl P w K mg base (gm K mg) 5 "_check_steps" ["step", "its"] F__check_steps) : FnOk P w K mg base (L2.CX P w) 8 f fd ["step", "its"] (spT (gm K mg) F_Saying_longer 2) := by
  have nd := (sc_Saying_longer).nd
  exact fn_ok F sc_Saying_longer fun cdv A outer s H E hr =>
      (st_cons (st_expr (te_call C__check_steps (hr.mono (by decide)) pdef (ta_cons (te_var 0) (ta_cons (te_var 1) ta_nil))))
      (st_cons (st_ret (te_make M_Saying (hr.mono (by decide)) pdef (ta_cons (te_lst (ta_cons (te_tup (ta_cons te_int (ta_cons (te_var 0) (ta_cons (te_var 0) ta_nil)))) (ta_cons (te_tup (ta_cons (te_neg te_int) (ta_cons (te_var 1) (ta_cons (te_var 1) ta_nil)))) ta_nil))) (ta_cons te_str (ta_cons te_int ta_nil)))))
      st_nil))
abbrev s_Saying_right : Stmt := inClass (top 41) 5
abbrev n_Saying_right : List Str := ["step", "its"]
theorem sc_Saying_right : FnScope n_Saying_right ["step", "its"] (defScope s_Saying_right) := ⟨rfl, rfl, rfl, by decide +kernel, rfl, by decide +kernel, by decide +kernel⟩
noncomputable def p_Saying_right : TSt :=
    (sSeq (sExpr (xFn F__check_steps (xsCons (xVar 0) (xsCons (xVar 1) xsNil))))
    (sSeq (sRet (xNew "Saying" F_Saying_init (xsCons (xLst (xsCons (xTup (xsCons (xC (.int 1)) (xsCons (xVar 0) (xsCons (xVar 1) xsNil)))) xsNil)) (xsCons (xC (.str (Str.ofString "just"))) (xsCons (xC (.int 0)) xsNil)))))
    sNext))
noncomputable def F_Saying_right : Fn := fnOf 2 p_Saying_right
theorem ok_Saying_right {f : Addr} {fd : FuncData} (F : FunA K "right" "Saying.right" s_Saying_right f fd) (B : Bn mg) (hG : Gok (gm K mg)) (M_Saying : Mc P w K mg base (gm K mg) 6 "Saying" ["self", "terms", "word", "number"] F_Saying_init) (C__check_steps : Cl P w K mg base (gm K mg) 5 "_check_steps" ["step", "its"] F__check_steps) : FnOk P w K mg base (L2.CX P w) 8 f fd ["step", "its"] (spT (gm K mg) F_Saying_right 2) := by
  have nd := (sc_Saying_right).nd
  exact fn_ok F sc_Saying_right fun cdv A outer s H E hr =>
      (st_cons (st_expr (te_call C__check_steps (hr.mono (by decide)) pdef (ta_cons (te_var 0) (ta_cons (te_var 1) ta_nil))))
      (st_cons (st_ret (te_make M_Saying (hr.mono (by decide)) pdef (ta_cons (te_lst (ta_cons (te_tup (ta_cons te_int (ta_cons (te_var 0) (ta_cons (te_var 1) ta_nil)))) ta_nil)) (ta_cons te_str (ta_cons te_int ta_nil)))))
      st_nil))
abbrev s_Saying_value : Stmt := inClass (top 41) 6
abbrev n_Saying_value : List Str := ["self", "chart"]
theorem sc_Saying_value : FnScope n_Saying_value ["self", "chart"] (defScope s_Saying_value) := ⟨rfl, rfl, rfl, by decide +kernel, rfl, by decide +kernel, by decide +kernel⟩
noncomputable def p_Saying_value : TSt :=
    (sSeq (sExpr (xFn F_check_chart (xsCons (xVar 1) (xsCons (xC (.str (Str.ofString "chart"))) xsNil))))
    (sSeq (sIf (cB (xBin oLt (xUn (oFld "pins") (xVar 1)) (xUn (oFld "pins") (xVar 0)))) (sSeq (sRaise "Misfit" ["part"] (xsCons (xC (.str (Str.ofString "pins"))) xsNil))
    sNext) sNext)
    (sSeq (sRet (xFn F_lowest (xsCons (xFn F_sum_in (xsCons (xUn (oFld "rows") (xVar 1)) (xsCons (xUn (oFld "terms") (xVar 0)) xsNil))) (xsCons (xUn (oFld "by") (xVar 1)) xsNil))))
    sNext)))
noncomputable def F_Saying_value : Fn := fnOf 2 p_Saying_value
theorem ok_Saying_value {f : Addr} {fd : FuncData} (F : FunA K "value" "Saying.value" s_Saying_value f fd) (B : Bn mg) (hG : Gok (gm K mg)) (C_lowest : Cl P w K mg base (gm K mg) 3 "lowest" ["number", "by"] F_lowest) (C_sum_in : Cl P w K mg base (gm K mg) 4 "sum_in" ["rows", "terms"] F_sum_in) (X_Misfit : Ec P w K mg base (gm K mg) "Misfit" ["self", "part"] (spIn1 K "part") ["part"]) (C_check_chart : Cl P w K mg base (gm K mg) 3 "check_chart" ["value", "part"] F_check_chart) : FnOk P w K mg base (L2.CX P w) 5 f fd ["self", "chart"] (spT (gm K mg) F_Saying_value 2) := by
  have nd := (sc_Saying_value).nd
  exact fn_ok F sc_Saying_value fun cdv A outer s H E hr =>
      (st_cons (st_expr (te_call C_check_chart (hr.mono (by decide)) pdef (ta_cons (te_var 1) (ta_cons te_str ta_nil))))
      (st_cons (st_if (ct_cmp ot_lt (te_fld "pins" hG (te_var 1)) (te_fld "pins" hG (te_var 0)) (nomark _)) (st_cons (st_raise1 X_Misfit rfl (takes_of rfl rfl rfl rfl) (hr.mono (by decide)) pass0 (ta_cons te_str ta_nil))
      st_nil) st_nil)
      (st_cons (st_ret (te_call C_lowest (hr.mono (by decide)) pdef (ta_cons (te_call C_sum_in (hr.mono (by decide)) pdef (ta_cons (te_fld "rows" hG (te_var 1)) (ta_cons (te_fld "terms" hG (te_var 0)) ta_nil))) (ta_cons (te_fld "by" hG (te_var 1)) ta_nil))))
      st_nil)))
abbrev s_Saying_holds : Stmt := inClass (top 41) 7
abbrev n_Saying_holds : List Str := ["self", "chart", "total", "by"]
theorem sc_Saying_holds : FnScope n_Saying_holds ["self", "chart"] (defScope s_Saying_holds) := ⟨rfl, rfl, rfl, by decide +kernel, rfl, by decide +kernel, by decide +kernel⟩
noncomputable def p_Saying_holds : TSt :=
    (sSeq (sAsg (xMeth [("Saying", F_Saying_value)] "value" (xVar 0) (xsCons (xVar 1) xsNil)) (tTup [(tName 2), (tName 3)]))
    (sSeq (sRet (xBin (oEq []) (xUn (oFld "word") (xVar 0)) (xFn F_word_for (xsCons (xBin oSub (xVar 2) (xBin oMulT (xUn (oFld "number") (xVar 0)) (xVar 3))) xsNil))))
    sNext))
noncomputable def F_Saying_holds : Fn := fnOf 4 p_Saying_holds
theorem ok_Saying_holds {f : Addr} {fd : FuncData} (F : FunA K "holds" "Saying.holds" s_Saying_holds f fd) (B : Bn mg) (hG : Gok (gm K mg)) (C_word_for : Cl P w K mg base (gm K mg) 2 "word_for" ["difference"] F_word_for) (N_Saying_value : Mt P w K mg base (gm K mg) 5 "Saying" "value" ["self", "chart"] F_Saying_value) : FnOk P w K mg base (L2.CX P w) 6 f fd ["self", "chart"] (spT (gm K mg) F_Saying_holds 2) := by
  have nd := (sc_Saying_holds).nd
  exact fn_ok F sc_Saying_holds fun cdv A outer s H E hr =>
      (st_cons (st_asg (te_meth N_Saying_value hG (te_var 0) (hr.mono (by decide)) pdef (ta_cons (te_var 1) ta_nil)) (gt_tup rfl (gts_cons (gt_name 2 nd) (gts_cons (gt_name 3 nd) gts_nil))))
      (st_cons (st_ret (te_cmp (ot_eqD (hu64 hr)) (te_fld "word" hG (te_var 0)) (te_call C_word_for (hr.mono (by decide)) pdef (ta_cons (te_op ot_sub (te_var 2) (te_op ot_mul (te_fld "number" hG (te_var 0)) (te_var 3))) ta_nil)) (nomark _)))
      st_nil))
abbrev s_Saying_form : Stmt := inClass (top 41) 8
abbrev n_Saying_form : List Str := ["self", "pins", "rows", "many", "step", "its", "pin", "sign", "other", "its_sign", "_"]
abbrev sc_Saying_form_0 : Scope := { kind := .function, names := [(".0", .local), ("_", .local), ("pins", .cell)], isGenerator := false, isCoroutine := false }
theorem sc_Saying_form : FnScope n_Saying_form ["self", "pins"] (defScope s_Saying_form) := ⟨rfl, rfl, rfl, by decide +kernel, rfl, by decide +kernel, by decide +kernel⟩
noncomputable def p_Saying_form : TSt :=
    (sSeq (sIf (cNot (cTru (xFn F_is_within (xsCons (xVar 1) (xsCons (xC (.int 3)) (xsCons (xBin oAdd (xC (.int 6)) (xC (.int 1))) xsNil)))))) (sSeq (sRaise "BadNumber" ["part"] (xsCons (xC (.str (Str.ofString "pins"))) xsNil))
    sNext) sNext)
    (sSeq (sIf (cB (xBin oLt (xVar 1) (xUn (oFld "pins") (xVar 0)))) (sSeq (sRaise "Misfit" ["part"] (xsCons (xC (.str (Str.ofString "pins"))) xsNil))
    sNext) sNext)
    (sSeq (sSet 2 (xLcH (wRng1 (xsCons (xBin oSub (xVar 1) (xC (.int 1))) xsNil)) (tName 10) cYes (xBin oMulH (xLst (xsCons (xC (.int 0)) xsNil)) (xBin oSub (xVar 1) (xC (.int 1)))) [10]))
    (sSeq (sFor (wOf (xUn (oFld "terms") (xVar 0))) (tTup [(tName 3), (tName 4), (tName 5)]) (sSeq (sFor (wOf (xTup (xsCons (xTup (xsCons (xBin oIx (xVar 4) (xC (.int 1))) (xsCons (xVar 3) xsNil))) (xsCons (xTup (xsCons (xBin oIx (xVar 4) (xC (.int 0))) (xsCons (xUn oNeg (xVar 3)) xsNil))) xsNil)))) (tTup [(tName 6), (tName 7)]) (sSeq (sFor (wOf (xTup (xsCons (xTup (xsCons (xBin oIx (xVar 5) (xC (.int 1))) (xsCons (xVar 7) xsNil))) (xsCons (xTup (xsCons (xBin oIx (xVar 5) (xC (.int 0))) (xsCons (xUn oNeg (xVar 7)) xsNil))) xsNil)))) (tTup [(tName 8), (tName 9)]) (sSeq (sIf (cAnd (cB (xBin oGt (xVar 6) (xC (.int 0)))) (cB (xBin oGt (xVar 8) (xC (.int 0))))) (sSeq (sAugS (xBin oIx (xVar 2) (xBin oSub (xVar 6) (xC (.int 1)))) (xBin oSub (xVar 8) (xC (.int 1))) oIAdd (xVar 9))
    (sSeq (sAugS (xBin oIx (xVar 2) (xBin oSub (xVar 8) (xC (.int 1)))) (xBin oSub (xVar 6) (xC (.int 1))) oIAdd (xVar 9))
    sNext)) sNext)
    sNext))
    sNext))
    sNext))
    (sSeq (sRet (xNew "Chart" F_Chart_init (xsCons (xVar 2) (xsCons (xC (.int 2)) xsNil))))
    sNext)))))
noncomputable def F_Saying_form : Fn := fnOf 11 p_Saying_form
theorem ok_Saying_form {f : Addr} {fd : FuncData} (F : FunA K "form" "Saying.form" s_Saying_form f fd) (B : Bn mg) (hG : Gok (gm K mg)) (M_Chart : Mc P w K mg base (gm K mg) 5 "Chart" ["self", "rows", "by"] F_Chart_init) (X_Misfit : Ec P w K mg base (gm K mg) "Misfit" ["self", "part"] (spIn1 K "part") ["part"]) (C_is_within : Cl P w K mg base (gm K mg) 3 "is_within" ["value", "least", "most"] F_is_within) (g_LAST_PIN : ∃ t, mg "LAST_PIN" = some (.int 6 t)) (X_BadNumber : Ec P w K mg base (gm K mg) "BadNumber" ["self", "part"] (spIn1 K "part") ["part"]) : FnOk P w K mg base (L2.CX P w) 7 f fd ["self", "pins"] (spT (gm K mg) F_Saying_form 2) := by
  have nd := (sc_Saying_form).nd
  exact fn_ok F sc_Saying_form fun cdv A outer s H E hr =>
      (st_cons (st_if (ct_not (ct_tru (te_call C_is_within (hr.mono (by decide)) pdef (ta_cons (te_var 1) (ta_cons te_int (ta_cons (te_op ot_add (te_gint rfl g_LAST_PIN) te_int) ta_nil)))))) (st_cons (st_raise1 X_BadNumber rfl (takes_of rfl rfl rfl rfl) (hr.mono (by decide)) pass0 (ta_cons te_str ta_nil))
      st_nil) st_nil)
      (st_cons (st_if (ct_cmp ot_lt (te_var 1) (te_fld "pins" hG (te_var 0)) (nomark _)) (st_cons (st_raise1 X_Misfit rfl (takes_of rfl rfl rfl rfl) (hr.mono (by decide)) pass0 (ta_cons te_str ta_nil))
      st_nil) st_nil)
      (st_cons (st_setlcH 2 (own := [("_", 10)]) rfl nd (wt_rng1 rfl B.range (ta_cons (te_op ot_sub (te_var 1) te_int) ta_nil)) (blkOk_by (N := n_Saying_form) (sc := defScope s_Saying_form) (by decide +kernel)) (fun _ _ _ _ _ => (gt_name 10 nd)) (fun _ _ _ _ _ => (te_op ot_mulH (te_lst (ta_cons te_int ta_nil)) (te_op ot_sub (te_var 1) te_int))))
      (st_cons (st_for (passes_of rfl) rfl (wt_of (te_fld "terms" hG (te_var 0))) (gt_tup rfl (gts_cons (gt_name 3 nd) (gts_cons (gt_name 4 nd) (gts_cons (gt_name 5 nd) gts_nil)))) (st_cons (st_for (passes_of rfl) rfl (wt_of (te_tup (ta_cons (te_tup (ta_cons (te_ix (te_var 4) te_int) (ta_cons (te_var 3) ta_nil))) (ta_cons (te_tup (ta_cons (te_ix (te_var 4) te_int) (ta_cons (te_neg (te_var 3)) ta_nil))) ta_nil)))) (gt_tup rfl (gts_cons (gt_name 6 nd) (gts_cons (gt_name 7 nd) gts_nil))) (st_cons (st_for (passes_of rfl) rfl (wt_of (te_tup (ta_cons (te_tup (ta_cons (te_ix (te_var 5) te_int) (ta_cons (te_var 7) ta_nil))) (ta_cons (te_tup (ta_cons (te_ix (te_var 5) te_int) (ta_cons (te_neg (te_var 7)) ta_nil))) ta_nil)))) (gt_tup rfl (gts_cons (gt_name 8 nd) (gts_cons (gt_name 9 nd) gts_nil))) (st_cons (st_if (PW.pt (cw_and (ct_cmp ot_gt (te_var 6) te_int (nomark _)) (cw_and1 (ct_cmp ot_gt (te_var 8) te_int (nomark _))))) (st_cons (st_augS (te_ix (te_var 2) (te_op ot_sub (te_var 6) te_int)) (te_op ot_sub (te_var 8) te_int) (te_var 9) it_add)
      (st_cons (st_augS (te_ix (te_var 2) (te_op ot_sub (te_var 8) te_int)) (te_op ot_sub (te_var 6) te_int) (te_var 9) it_add)
      st_nil)) st_nil)
      st_nil))
      st_nil))
      st_nil))
      (st_cons (st_ret (te_make M_Chart (hr.mono (by decide)) pdef (ta_cons (te_var 2) (ta_cons te_int ta_nil))))
      st_nil)))))
abbrev s_Saying_others : Stmt := inClass (top 41) 9
abbrev n_Saying_others : List Str := ["self", "word"]
abbrev sc_Saying_others_0 : Scope := { kind := .function, names := [(".0", .local), ("word", .local), ("Saying", .globalImplicit), ("self", .cell)], isGenerator := false, isCoroutine := false }
theorem sc_Saying_others : FnScope n_Saying_others ["self"] (defScope s_Saying_others) := ⟨rfl, rfl, rfl, by decide +kernel, rfl, by decide +kernel, by decide +kernel⟩
noncomputable def p_Saying_others : TSt :=
    (sSeq (sRet (xCall oTuple (xsCons (xLc (wOf (xC (.tup [(.str (Str.ofString "above")), (.str (Str.ofString "below")), (.str (Str.ofString "just"))]))) (tName 1) (cB (xBin (oNe []) (xVar 1) (xUn (oFld "word") (xVar 0)))) (xNew "Saying" F_Saying_init (xsCons (xUn (oFld "terms") (xVar 0)) (xsCons (xVar 1) (xsCons (xUn (oFld "number") (xVar 0)) xsNil)))) [1]) xsNil)))
    sNext)
noncomputable def F_Saying_others : Fn := fnOf 2 p_Saying_others
theorem ok_Saying_others {f : Addr} {fd : FuncData} (F : FunA K "others" "Saying.others" s_Saying_others f fd) (B : Bn mg) (hG : Gok (gm K mg)) (g_WORDS : GTup (gm K mg) "WORDS" ([(.str (Str.ofString "above")), (.str (Str.ofString "below")), (.str (Str.ofString "just"))] : List Den.D)) (M_Saying : Mc P w K mg base (gm K mg) 6 "Saying" ["self", "terms", "word", "number"] F_Saying_init) : FnOk P w K mg base (L2.CX P w) 8 f fd ["self"] (spT (gm K mg) F_Saying_others 1) := by
  have nd := (sc_Saying_others).nd
  exact fn_ok F sc_Saying_others fun cdv A outer s H E hr =>
      (st_cons (st_ret (te_callTy ot_tuple rfl B.tuple (by decide +kernel) (ta_cons (te_lcC (own := [("word", 1)]) rfl nd (wt_of (te_gtupE rfl g_WORDS)) (blkOk_by (N := n_Saying_others) (sc := defScope s_Saying_others) (by decide +kernel)) (fun _ _ _ _ _ => (gt_name 1 nd)) (fun _ _ _ _ _ => (ct_cmp (ot_neD (hu64 hr)) (te_var 1) (te_fld "word" hG (te_var 0)) (nomark _))) (fun _ _ _ _ _ => (te_make M_Saying (hr.mono (by decide)) passL (ta_cons (te_fld "terms" hG (te_var 0)) (ta_cons (te_var 1) (ta_cons (te_fld "number" hG (te_var 0)) ta_nil)))))) ta_nil)))
      st_nil)
end
end G44

namespace G44
open PySem PySem.Spec PyProof.Rows L2 Den
section
variable {P : Program} {w : World} {K : PySem.W.Frag} {mg : Str → Option Value} {base : Heap}
abbrev s_Saying_times : Stmt := inClass (top 41) 10
abbrev n_Saying_times : List Str := ["self", "number", "terms", "word", "many", "step", "its"]
abbrev sc_Saying_times_0 : Scope := { kind := .function, names := [(".0", .local), ("many", .local), ("step", .local), ("its", .local), ("number", .cell)], isGenerator := false, isCoroutine := false }
theorem sc_Saying_times : FnScope n_Saying_times ["self", "number"] (defScope s_Saying_times) := ⟨rfl, rfl, rfl, by decide +kernel, rfl, by decide +kernel, by decide +kernel⟩
noncomputable def p_Saying_times : TSt :=
    (sSeq (sIf (cOr (cNot (cTru (xFn F_is_integer (xsCons (xVar 1) xsNil)))) (cB (xBin (oEq []) (xVar 1) (xC (.int 0))))) (sSeq (sRaise "BadNumber" ["part"] (xsCons (xC (.str (Str.ofString "number"))) xsNil))
    sNext) sNext)
    (sSeq (sSet 2 (xLc (wOf (xUn (oFld "terms") (xVar 0))) (tTup [(tName 4), (tName 5), (tName 6)]) cYes (xTup (xsCons (xBin oMulT (xVar 4) (xVar 1)) (xsCons (xVar 5) (xsCons (xVar 6) xsNil)))) [4, 5, 6]))
    (sSeq (sSet 3 (xIf (cB (xBin oGt (xVar 1) (xC (.int 0)))) (xUn (oFld "word") (xVar 0)) (xUn (oGd [("above", "below"), ("below", "above"), ("just", "just")]) (xUn (oFld "word") (xVar 0)))))
    (sSeq (sRet (xNew "Saying" F_Saying_init (xsCons (xVar 2) (xsCons (xVar 3) (xsCons (xBin oMulT (xUn (oFld "number") (xVar 0)) (xVar 1)) xsNil)))))
    sNext))))
noncomputable def F_Saying_times : Fn := fnOf 7 p_Saying_times
theorem ok_Saying_times {f : Addr} {fd : FuncData} (F : FunA K "times" "Saying.times" s_Saying_times f fd) (B : Bn mg) (hG : Gok (gm K mg)) (M_Saying : Mc P w K mg base (gm K mg) 6 "Saying" ["self", "terms", "word", "number"] F_Saying_init) (g_OTHER_WAY : GDct K mg w "OTHER_WAY" [("above", "below"), ("below", "above"), ("just", "just")]) (C_is_integer : Cl P w K mg base (gm K mg) 2 "is_integer" ["value"] F_is_integer) (X_BadNumber : Ec P w K mg base (gm K mg) "BadNumber" ["self", "part"] (spIn1 K "part") ["part"]) : FnOk P w K mg base (L2.CX P w) 8 f fd ["self", "number"] (spT (gm K mg) F_Saying_times 2) := by
  have nd := (sc_Saying_times).nd
  exact fn_ok F sc_Saying_times fun cdv A outer s H E hr =>
      (st_cons (st_if (PW.pt (cw_or (ct_not (ct_tru (te_call C_is_integer (hr.mono (by decide)) pdef (ta_cons (te_var 1) ta_nil)))) (cw_or1 (ct_cmp (ot_eqD (hu64 hr)) (te_var 1) te_int (nomark _))))) (st_cons (st_raise1 X_BadNumber rfl (takes_of rfl rfl rfl rfl) (hr.mono (by decide)) pass0 (ta_cons te_str ta_nil))
      st_nil) st_nil)
      (st_cons (st_setlc 2 (own := [("many", 4), ("step", 5), ("its", 6)]) rfl nd (wt_of (te_fld "terms" hG (te_var 0))) (blkOk_by (N := n_Saying_times) (sc := defScope s_Saying_times) (by decide +kernel)) (fun _ _ _ _ _ => (gt_tup rfl (gts_cons (gt_name 4 nd) (gts_cons (gt_name 5 nd) (gts_cons (gt_name 6 nd) gts_nil))))) (fun _ _ _ _ _ => (te_tup (ta_cons (te_op ot_mul (te_var 4) (te_var 1)) (ta_cons (te_var 5) (ta_cons (te_var 6) ta_nil))))))
      (st_cons (st_set 3 nd (te_if (ct_cmp ot_gt (te_var 1) te_int (nomark _)) (te_fld "word" hG (te_var 0)) (te_gdct rfl g_OTHER_WAY (te_fld "word" hG (te_var 0)))))
      (st_cons (st_ret (te_make M_Saying (hr.mono (by decide)) pdef (ta_cons (te_var 2) (ta_cons (te_var 3) (ta_cons (te_op ot_mul (te_fld "number" hG (te_var 0)) (te_var 1)) ta_nil)))))
      st_nil))))
abbrev s_saying_at : Stmt := top 44
abbrev n_saying_at : List Str := ["items", "at", "terms", "many", "a", "b", "c", "d", "number", "k"]
abbrev sc_saying_at_0 : Scope := { kind := .function, names := [(".0", .local), ("k", .local), ("number_at", .globalImplicit), ("LAST_PIN", .globalImplicit), ("at", .cell), ("items", .cell)], isGenerator := false, isCoroutine := false }
theorem sc_saying_at : FnScope n_saying_at ["items", "at"] (defScope s_saying_at) := ⟨rfl, rfl, rfl, by decide +kernel, rfl, by decide +kernel, by decide +kernel⟩
noncomputable def p_saying_at : TSt :=
    (sSeq (sSet 2 (xLstH xsNil))
    (sSeq (sWh (cTru (xC (.bl true))) (sSeq (sSet 3 (xFn F_number_at (xsCons (xVar 0) (xsCons (xVar 1) (xsCons (xC .non) (xsCons (xC .non) xsNil))))))
    (sSeq (sAsg (xLc (wRng2 (xsCons (xC (.int 1)) (xsCons (xC (.int 5)) xsNil))) (tName 9) cYes (xFn F_number_at (xsCons (xVar 0) (xsCons (xBin oAdd (xVar 1) (xVar 9)) (xsCons (xC (.int 0)) (xsCons (xC (.int 6)) xsNil))))) [9]) (tTup [(tName 4), (tName 5), (tName 6), (tName 7)]))
    (sSeq (sExpr (xApp (xVar 2) (xTup (xsCons (xVar 3) (xsCons (xTup (xsCons (xVar 4) (xsCons (xVar 5) xsNil))) (xsCons (xTup (xsCons (xVar 6) (xsCons (xVar 7) xsNil))) xsNil))))))
    (sSeq (sAug 1 oIAdd (xC (.int 6)))
    (sSeq (sIf (cOr (cB (xBin oGe (xBin oSub (xVar 1) (xC (.int 1))) (xCall oLen (xsCons (xVar 0) xsNil)))) (cNot (cOr (cB (xBin (oInN false) (xBin oIx (xVar 0) (xBin oSub (xVar 1) (xC (.int 1)))) (xC (.tup [(.str (Str.ofString "above")), (.str (Str.ofString "below")), (.str (Str.ofString "just"))])))) (cAnd (cB (xBin (oEq []) (xBin oIx (xVar 0) (xBin oSub (xVar 1) (xC (.int 1)))) (xC (.str (Str.ofString "+"))))) (cB (xBin oLt (xCall oLen (xsCons (xVar 2) xsNil)) (xC (.int 12)))))))) (sSeq (sRaise "BadText" ["line", "item"] (xsCons (xC (.int 0)) (xsCons (xBin oSub (xVar 1) (xC (.int 1))) xsNil)))
    sNext) sNext)
    (sSeq (sIf (cB (xBin (oNe []) (xBin oIx (xVar 0) (xBin oSub (xVar 1) (xC (.int 1)))) (xC (.str (Str.ofString "+"))))) (sSeq sBrk
    sNext) sNext)
    sNext)))))))
    (sSeq (sSet 8 (xFn F_number_at (xsCons (xVar 0) (xsCons (xVar 1) (xsCons (xC .non) (xsCons (xC .non) xsNil))))))
    (sSeq (sIf (cB (xBin oLt (xBin oAdd (xVar 1) (xC (.int 1))) (xCall oLen (xsCons (xVar 0) xsNil)))) (sSeq (sRaise "BadText" ["line", "item"] (xsCons (xC (.int 0)) (xsCons (xBin oAdd (xVar 1) (xC (.int 1))) xsNil)))
    sNext) sNext)
    (sSeq (sRet (xNew "Saying" F_Saying_init (xsCons (xVar 2) (xsCons (xBin oIx (xVar 0) (xBin oSub (xVar 1) (xC (.int 1)))) (xsCons (xVar 8) xsNil)))))
    sNext)))))
noncomputable def F_saying_at : Fn := fnOf 10 p_saying_at
theorem ok_saying_at {f : Addr} {fd : FuncData} (F : FunA K "saying_at" "saying_at" s_saying_at f fd) (B : Bn mg) (hG : Gok (gm K mg)) (M_Saying : Mc P w K mg base (gm K mg) 6 "Saying" ["self", "terms", "word", "number"] F_Saying_init) (X_BadText : Ec P w K mg base (gm K mg) "BadText" ["self", "line", "item"] (spIn2 K "line" "item") ["line", "item"]) (C_number_at : Cl P w K mg base (gm K mg) 4 "number_at" ["items", "at", "least", "most"] F_number_at) (g_WORDS : GTup (gm K mg) "WORDS" ([(.str (Str.ofString "above")), (.str (Str.ofString "below")), (.str (Str.ofString "just"))] : List Den.D)) (g_MOST_TERMS : ∃ t, mg "MOST_TERMS" = some (.int 12 t)) (g_LAST_PIN : ∃ t, mg "LAST_PIN" = some (.int 6 t)) : FnOk P w K mg base (L2.CX P w) 8 f fd ["items", "at"] (spT (gm K mg) F_saying_at 2) := by
  have nd := (sc_saying_at).nd
  exact fn_ok F sc_saying_at fun cdv A outer s H E hr =>
      (st_cons (st_set 2 nd (te_lstH ta_nil))
      (st_cons (st_while (passes_of rfl) (ct_tru te_bl) (st_cons (st_set 3 nd (te_call C_number_at (hr.mono (by decide)) pdef (ta_cons (te_var 0) (ta_cons (te_var 1) (ta_cons te_non (ta_cons te_non ta_nil))))))
      (st_cons (st_asg (te_lc (own := [("k", 9)]) rfl nd (wt_rng2 rfl B.range (ta_cons te_int (ta_cons te_int ta_nil))) (blkOk_by (N := n_saying_at) (sc := defScope s_saying_at) (by decide +kernel)) (fun _ _ _ _ _ => (gt_name 9 nd)) (fun _ _ _ _ _ => (te_call C_number_at (hr.mono (by decide)) passL (ta_cons (te_var 0) (ta_cons (te_op ot_add (te_var 1) (te_var 9)) (ta_cons te_int (ta_cons (te_gint rfl g_LAST_PIN) ta_nil))))))) (gt_tup rfl (gts_cons (gt_name 4 nd) (gts_cons (gt_name 5 nd) (gts_cons (gt_name 6 nd) (gts_cons (gt_name 7 nd) gts_nil))))))
      (st_cons (st_expr (te_append (te_var 2) (te_tup (ta_cons (te_var 3) (ta_cons (te_tup (ta_cons (te_var 4) (ta_cons (te_var 5) ta_nil))) (ta_cons (te_tup (ta_cons (te_var 6) (ta_cons (te_var 7) ta_nil))) ta_nil))))))
      (st_cons (st_aug 1 nd te_int it_add)
      (st_cons (st_if (PW.pt (cw_or (ct_cmp ot_ge (te_op ot_sub (te_var 1) te_int) (te_callB ot_len rfl B.len (by decide +kernel) (ta_cons (te_var 0) ta_nil)) (nomark _)) (cw_or1 (ct_not (PW.pt (cw_or (ct_cmp (ot_in (hu65 hr)) (te_ix (te_var 0) (te_op ot_sub (te_var 1) te_int)) (te_gtupE rfl g_WORDS) (by with_unfolding_all rfl)) (cw_or1 (PW.pt (cw_and (ct_cmp (ot_eqD (hu64 hr)) (te_ix (te_var 0) (te_op ot_sub (te_var 1) te_int)) te_str (nomark _)) (cw_and1 (ct_cmp ot_lt (te_callB ot_len rfl B.len (by decide +kernel) (ta_cons (te_var 2) ta_nil)) (te_gint rfl g_MOST_TERMS) (nomark _)))))))))))) (st_cons (st_raise2 X_BadText rfl (takes_of rfl rfl rfl rfl) (hr.mono (by decide)) pass0 (ta_cons te_int (ta_cons (te_op ot_sub (te_var 1) te_int) ta_nil)))
      st_nil) st_nil)
      (st_cons (st_if (ct_cmp (ot_neD (hu64 hr)) (te_ix (te_var 0) (te_op ot_sub (te_var 1) te_int)) te_str (nomark _)) (st_cons st_break
      st_nil) st_nil)
      st_nil)))))))
      (st_cons (st_set 8 nd (te_call C_number_at (hr.mono (by decide)) pdef (ta_cons (te_var 0) (ta_cons (te_var 1) (ta_cons te_non (ta_cons te_non ta_nil))))))
      (st_cons (st_if (ct_cmp ot_lt (te_op ot_add (te_var 1) te_int) (te_callB ot_len rfl B.len (by decide +kernel) (ta_cons (te_var 0) ta_nil)) (nomark _)) (st_cons (st_raise2 X_BadText rfl (takes_of rfl rfl rfl rfl) (hr.mono (by decide)) pass0 (ta_cons te_int (ta_cons (te_op ot_add (te_var 1) te_int) ta_nil)))
      st_nil) st_nil)
      (st_cons (st_ret (te_make M_Saying (hr.mono (by decide)) pdef (ta_cons (te_var 2) (ta_cons (te_ix (te_var 0) (te_op ot_sub (te_var 1) te_int)) (ta_cons (te_var 8) ta_nil)))))
      st_nil)))))
abbrev s__law_dip : Stmt := top 47
abbrev n__law_dip : List Str := ["_law_pot_here", "_law_many", "_law_rest", "_law_at", "_law_cell", "_law_mixed"]
theorem sc__law_dip : FnScope n__law_dip ["_law_pot_here", "_law_many"] (defScope s__law_dip) := ⟨rfl, rfl, rfl, by decide +kernel, rfl, by decide +kernel, by decide +kernel⟩
noncomputable def p__law_dip : TSt :=
    (sSeq (sIf (cB (xBin oGt (xBin oIx (xVar 0) (xC (.int 2))) (xC (.int 0)))) (sSeq (sSet 2 (xBin oIx (xVar 0) (xC (.int 2))))
    (sSeq (sAsg (xBin oDiv (xCall oInt (xsCons (xVar 2) xsNil)) (xVar 1)) (tSub (xVar 0) (xC (.int 2))))
    (sSeq (sRet (xBin oMod (xCall oInt (xsCons (xVar 2) xsNil)) (xVar 1)))
    sNext))) sNext)
    (sSeq (sSet 3 (xBin oIx (xVar 0) (xC (.int 1))))
    (sSeq (sAsg (xBin oAdd (xVar 3) (xC (.int 1))) (tSub (xVar 0) (xC (.int 1))))
    (sSeq (sSet 4 (xBin oAdd (xBin oMulT (xC (.int 71237)) (xVar 3)) (xC (.int 6113))))
    (sSeq (sIf (cB (xBin (oNe (("Chart", F_Chart_eq) :: (("Saying", F_Saying_eq) :: []))) (xBin oIx (xVar 0) (xC (.int 0))) (xLst xsNil))) (sSeq (sSet 4 (xBin oIx (xBin oIx (xVar 0) (xC (.int 0))) (xBin oMod (xCall oInt (xsCons (xVar 3) xsNil)) (xCall oLen (xsCons (xBin oIx (xVar 0) (xC (.int 0))) xsNil)))))
    sNext) sNext)
    (sSeq (sIf (cAnd (cB (xBin oLt (xVar 3) (xCall oLen (xsCons (xBin oIx (xVar 0) (xC (.int 0))) xsNil)))) (cB (xBin oGe (xCall oAbs (xsCons (xVar 4) xsNil)) (xBin oPow (xC (.int 10)) (xC (.int 18)))))) (sSeq (sSet 2 (xBin oAdd (xBin oMulT (xC (.int 2)) (xBin oSub (xCall oAbs (xsCons (xVar 4) xsNil)) (xBin oPow (xC (.int 10)) (xC (.int 18))))) (xCall oInt (xsCons (xBin oLt (xVar 4) (xC (.int 0))) xsNil))))
    (sSeq (sAsg (xBin oDiv (xCall oInt (xsCons (xVar 2) xsNil)) (xVar 1)) (tSub (xVar 0) (xC (.int 2))))
    (sSeq (sRet (xBin oMod (xCall oInt (xsCons (xVar 2) xsNil)) (xVar 1)))
    sNext))) sNext)
    (sSeq (sSet 5 (xBin oMod (xCall oInt (xsCons (xBin oPow (xBin oAdd (xBin oAdd (xBin oMod (xCall oInt (xsCons (xVar 4) xsNil)) (xC (.int 2147483647))) (xBin oMulT (xC (.int 71237)) (xVar 3))) (xC (.int 6113))) (xC (.int 5))) xsNil)) (xC (.int 2147483629))))
    (sSeq (sSet 5 (xBin oMod (xCall oInt (xsCons (xBin oPow (xBin oAdd (xBin oAdd (xBin oMulT (xVar 5) (xBin oAdd (xBin oMulT (xC (.int 2)) (xVar 3)) (xC (.int 3301)))) (xBin oMulT (xBin oMulT (xC (.int 84131)) (xVar 3)) (xVar 3))) (xC (.int 6113))) (xC (.int 3))) xsNil)) (xC (.int 2147483587))))
    (sSeq (sRet (xBin oMod (xCall oInt (xsCons (xBin oDiv (xVar 5) (xC (.int 64))) xsNil)) (xVar 1)))
    sNext)))))))))
noncomputable def F__law_dip : Fn := fnOf 6 p__law_dip
theorem ok__law_dip {f : Addr} {fd : FuncData} (F : FunA K "_law_dip" "_law_dip" s__law_dip f fd) (B : Bn mg) (hG : Gok (gm K mg)) (Q_Saying : EqC P w K mg base (gm K mg) 2 "Saying" F_Saying_eq) (Q_Chart : EqC P w K mg base (gm K mg) 2 "Chart" F_Chart_eq) : FnOk P w K mg base (L2.CX P w) 5 f fd ["_law_pot_here", "_law_many"] (spT (gm K mg) F__law_dip 2) := by
  have nd := (sc__law_dip).nd
  exact fn_ok F sc__law_dip fun cdv A outer s H E hr =>
      (st_cons (st_if (ct_cmp ot_gt (te_ix (te_var 0) te_int) te_int (nomark _)) (st_cons (st_set 2 nd (te_ix (te_var 0) te_int))
      (st_cons (st_asg (te_op ot_div (te_callTy ot_int rfl B.int (by decide +kernel) (ta_cons (te_var 2) ta_nil)) (te_var 1)) (gt_sub (te_var 0) te_int))
      (st_cons (st_ret (te_op ot_mod (te_callTy ot_int rfl B.int (by decide +kernel) (ta_cons (te_var 2) ta_nil)) (te_var 1)))
      st_nil))) st_nil)
      (st_cons (st_set 3 nd (te_ix (te_var 0) te_int))
      (st_cons (st_asg (te_op ot_add (te_var 3) te_int) (gt_sub (te_var 0) te_int))
      (st_cons (st_set 4 nd (te_op ot_add (te_op ot_mul te_int (te_var 3)) te_int))
      (st_cons (st_if (ct_cmp ((ot_neI Q_Chart hG (hr.mono (by decide)) ((ot_neI Q_Saying hG (hr.mono (by decide)) (ot_neD (hu64 hr))).choose_spec)).choose_spec) (te_ix (te_var 0) te_int) (te_lst ta_nil) (nomark _)) (st_cons (st_set 4 nd (te_ix (te_ix (te_var 0) te_int) (te_op ot_mod (te_callTy ot_int rfl B.int (by decide +kernel) (ta_cons (te_var 3) ta_nil)) (te_callB ot_len rfl B.len (by decide +kernel) (ta_cons (te_ix (te_var 0) te_int) ta_nil)))))
      st_nil) st_nil)
      (st_cons (st_if (PW.pt (cw_and (ct_cmp ot_lt (te_var 3) (te_callB ot_len rfl B.len (by decide +kernel) (ta_cons (te_ix (te_var 0) te_int) ta_nil)) (nomark _)) (cw_and1 (ct_cmp ot_ge (te_callB ot_abs rfl B.abs (by decide +kernel) (ta_cons (te_var 4) ta_nil)) (te_op ot_pow te_int te_int) (nomark _))))) (st_cons (st_set 2 nd (te_op ot_add (te_op ot_mul te_int (te_op ot_sub (te_callB ot_abs rfl B.abs (by decide +kernel) (ta_cons (te_var 4) ta_nil)) (te_op ot_pow te_int te_int))) (te_callTy ot_int rfl B.int (by decide +kernel) (ta_cons (te_cmp ot_lt (te_var 4) te_int (nomark _)) ta_nil))))
      (st_cons (st_asg (te_op ot_div (te_callTy ot_int rfl B.int (by decide +kernel) (ta_cons (te_var 2) ta_nil)) (te_var 1)) (gt_sub (te_var 0) te_int))
      (st_cons (st_ret (te_op ot_mod (te_callTy ot_int rfl B.int (by decide +kernel) (ta_cons (te_var 2) ta_nil)) (te_var 1)))
      st_nil))) st_nil)
      (st_cons (st_set 5 nd (te_op ot_mod (te_callTy ot_int rfl B.int (by decide +kernel) (ta_cons (te_op ot_pow (te_op ot_add (te_op ot_add (te_op ot_mod (te_callTy ot_int rfl B.int (by decide +kernel) (ta_cons (te_var 4) ta_nil)) te_int) (te_op ot_mul te_int (te_var 3))) te_int) te_int) ta_nil)) te_int))
      (st_cons (st_set 5 nd (te_op ot_mod (te_callTy ot_int rfl B.int (by decide +kernel) (ta_cons (te_op ot_pow (te_op ot_add (te_op ot_add (te_op ot_mul (te_var 5) (te_op ot_add (te_op ot_mul te_int (te_var 3)) te_int)) (te_op ot_mul (te_op ot_mul te_int (te_var 3)) (te_var 3))) te_int) te_int) ta_nil)) te_int))
      (st_cons (st_ret (te_op ot_mod (te_callTy ot_int rfl B.int (by decide +kernel) (ta_cons (te_op ot_div (te_var 5) te_int) ta_nil)) (te_var 1)))
      st_nil)))))))))
abbrev s__law_pick : Stmt := top 48
abbrev n__law_pick : List Str := ["_law_pot_here", "_law_some"]
theorem sc__law_pick : FnScope n__law_pick ["_law_pot_here", "_law_some"] (defScope s__law_pick) := ⟨rfl, rfl, rfl, by decide +kernel, rfl, by decide +kernel, by decide +kernel⟩
noncomputable def p__law_pick : TSt :=
    (sSeq (sRet (xBin oIx (xVar 1) (xFn F__law_dip (xsCons (xVar 0) (xsCons (xCall oLen (xsCons (xVar 1) xsNil)) xsNil)))))
    sNext)
noncomputable def F__law_pick : Fn := fnOf 2 p__law_pick
theorem ok__law_pick {f : Addr} {fd : FuncData} (F : FunA K "_law_pick" "_law_pick" s__law_pick f fd) (B : Bn mg) (hG : Gok (gm K mg)) (C__law_dip : Cl P w K mg base (gm K mg) 5 "_law_dip" ["_law_pot_here", "_law_many"] F__law_dip) : FnOk P w K mg base (L2.CX P w) 6 f fd ["_law_pot_here", "_law_some"] (spT (gm K mg) F__law_pick 2) := by
  have nd := (sc__law_pick).nd
  exact fn_ok F sc__law_pick fun cdv A outer s H E hr =>
      (st_cons (st_ret (te_ix (te_var 1) (te_call C__law_dip (hr.mono (by decide)) pdef (ta_cons (te_var 0) (ta_cons (te_callB ot_len rfl B.len (by decide +kernel) (ta_cons (te_var 1) ta_nil)) ta_nil)))))
      st_nil)
abbrev s__law_step : Stmt := top 51
abbrev n__law_step : List Str := ["_law_pot_here", "_law_pins", "_law_one"]
theorem sc__law_step : FnScope n__law_step ["_law_pot_here", "_law_pins"] (defScope s__law_step) := ⟨rfl, rfl, rfl, by decide +kernel, rfl, by decide +kernel, by decide +kernel⟩
noncomputable def p__law_step : TSt :=
    (sSeq (sSet 2 (xFn F__law_dip (xsCons (xVar 0) (xsCons (xVar 1) xsNil))))
    (sSeq (sRet (xIf (cB (xBin oGt (xFn F__law_dip (xsCons (xVar 0) (xsCons (xC (.int 8)) xsNil))) (xC (.int 0)))) (xTup (xsCons (xVar 2) (xsCons (xBin oMod (xCall oInt (xsCons (xBin oAdd (xBin oAdd (xVar 2) (xC (.int 1))) (xFn F__law_dip (xsCons (xVar 0) (xsCons (xBin oSub (xVar 1) (xC (.int 1))) xsNil)))) xsNil)) (xVar 1)) xsNil))) (xTup (xsCons (xVar 2) (xsCons (xVar 2) xsNil)))))
    sNext))
noncomputable def F__law_step : Fn := fnOf 3 p__law_step
theorem ok__law_step {f : Addr} {fd : FuncData} (F : FunA K "_law_step" "_law_step" s__law_step f fd) (B : Bn mg) (hG : Gok (gm K mg)) (C__law_dip : Cl P w K mg base (gm K mg) 5 "_law_dip" ["_law_pot_here", "_law_many"] F__law_dip) : FnOk P w K mg base (L2.CX P w) 6 f fd ["_law_pot_here", "_law_pins"] (spT (gm K mg) F__law_step 2) := by
  have nd := (sc__law_step).nd
  exact fn_ok F sc__law_step fun cdv A outer s H E hr =>
      (st_cons (st_set 2 nd (te_call C__law_dip (hr.mono (by decide)) pdef (ta_cons (te_var 0) (ta_cons (te_var 1) ta_nil))))
      (st_cons (st_ret (te_if (ct_cmp ot_gt (te_call C__law_dip (hr.mono (by decide)) pdef (ta_cons (te_var 0) (ta_cons te_int ta_nil))) te_int (nomark _)) (te_tup (ta_cons (te_var 2) (ta_cons (te_op ot_mod (te_callTy ot_int rfl B.int (by decide +kernel) (ta_cons (te_op ot_add (te_op ot_add (te_var 2) te_int) (te_call C__law_dip (hr.mono (by decide)) pdef (ta_cons (te_var 0) (ta_cons (te_op ot_sub (te_var 1) te_int) ta_nil)))) ta_nil)) (te_var 1)) ta_nil))) (te_tup (ta_cons (te_var 2) (ta_cons (te_var 2) ta_nil)))))
      st_nil))
abbrev s__law_terms : Stmt := top 52
abbrev n__law_terms : List Str := ["_law_pot_here", "_law_pins", "_law_way", "_law_step_here", "_law_its", "_law_turn"]
abbrev sc__law_terms_0 : Scope := { kind := .function, names := [(".0", .local), ("_law_turn", .local), ("_law_dip", .globalImplicit), ("_law_step", .globalImplicit), ("_law_pins", .cell), ("_law_pot_here", .cell)], isGenerator := false, isCoroutine := false }
theorem sc__law_terms : FnScope n__law_terms ["_law_pot_here", "_law_pins"] (defScope s__law_terms) := ⟨rfl, rfl, rfl, by decide +kernel, rfl, by decide +kernel, by decide +kernel⟩
noncomputable def p__law_terms : TSt :=
    (sSeq (sAsg (xTup (xsCons (xFn F__law_dip (xsCons (xVar 0) (xsCons (xC (.int 7)) xsNil))) (xsCons (xFn F__law_step (xsCons (xVar 0) (xsCons (xVar 1) xsNil))) (xsCons (xFn F__law_step (xsCons (xVar 0) (xsCons (xVar 1) xsNil))) xsNil)))) (tTup [(tName 2), (tName 3), (tName 4)]))
    (sSeq (sIf (cB (xBin (oEq (("Chart", F_Chart_eq) :: (("Saying", F_Saying_eq) :: []))) (xVar 2) (xC (.int 0)))) (sSeq (sRet (xLst (xsCons (xTup (xsCons (xC (.int 1)) (xsCons (xVar 3) (xsCons (xVar 3) xsNil)))) xsNil)))
    sNext) sNext)
    (sSeq (sIf (cB (xBin (oEq (("Chart", F_Chart_eq) :: (("Saying", F_Saying_eq) :: []))) (xVar 2) (xC (.int 1)))) (sSeq (sRet (xLst (xsCons (xTup (xsCons (xFn F__law_pick (xsCons (xVar 0) (xsCons (xLst (xsCons (xC (.int 1)) (xsCons (xUn oNeg (xC (.int 1))) (xsCons (xC (.int 3)) xsNil)))) xsNil))) (xsCons (xVar 3) (xsCons (xVar 4) xsNil)))) xsNil)))
    sNext) sNext)
    (sSeq (sIf (cB (xBin (oEq (("Chart", F_Chart_eq) :: (("Saying", F_Saying_eq) :: []))) (xVar 2) (xC (.int 2)))) (sSeq (sRet (xLst (xsCons (xTup (xsCons (xC (.int 1)) (xsCons (xVar 3) (xsCons (xVar 3) xsNil)))) (xsCons (xTup (xsCons (xUn oNeg (xFn F__law_pick (xsCons (xVar 0) (xsCons (xLst (xsCons (xC (.int 1)) (xsCons (xC (.int 1)) (xsCons (xC (.int 2)) xsNil)))) xsNil)))) (xsCons (xVar 4) (xsCons (xVar 4) xsNil)))) xsNil))))
    sNext) sNext)
    (sSeq (sIf (cB (xBin (oEq (("Chart", F_Chart_eq) :: (("Saying", F_Saying_eq) :: []))) (xVar 2) (xC (.int 3)))) (sSeq (sRet (xLst (xsCons (xTup (xsCons (xC (.int 1)) (xsCons (xVar 3) (xsCons (xVar 3) xsNil)))) (xsCons (xTup (xsCons (xFn F__law_pick (xsCons (xVar 0) (xsCons (xLst (xsCons (xC (.int 1)) (xsCons (xC (.int 2)) (xsCons (xC (.int 5)) xsNil)))) xsNil))) (xsCons (xVar 4) (xsCons (xVar 4) xsNil)))) xsNil))))
    sNext) sNext)
    (sSeq (sIf (cB (xBin (oEq (("Chart", F_Chart_eq) :: (("Saying", F_Saying_eq) :: []))) (xVar 2) (xC (.int 4)))) (sSeq (sRet (xLst (xsCons (xTup (xsCons (xC (.int 2)) (xsCons (xVar 3) (xsCons (xVar 4) xsNil)))) (xsCons (xTup (xsCons (xUn oNeg (xC (.int 2))) (xsCons (xTup (xsCons (xBin oIx (xVar 4) (xC (.int 1))) (xsCons (xBin oIx (xVar 4) (xC (.int 0))) xsNil))) (xsCons (xTup (xsCons (xBin oIx (xVar 3) (xC (.int 1))) (xsCons (xBin oIx (xVar 3) (xC (.int 0))) xsNil))) xsNil)))) xsNil))))
    sNext) sNext)
    (sSeq (sRet (xLc (wRng1 (xsCons (xBin oAdd (xC (.int 2)) (xFn F__law_dip (xsCons (xVar 0) (xsCons (xC (.int 3)) xsNil)))) xsNil)) (tName 5) cYes (xTup (xsCons (xBin oSub (xFn F__law_dip (xsCons (xVar 0) (xsCons (xC (.int 9)) xsNil))) (xC (.int 4))) (xsCons (xFn F__law_step (xsCons (xVar 0) (xsCons (xVar 1) xsNil))) (xsCons (xFn F__law_step (xsCons (xVar 0) (xsCons (xVar 1) xsNil))) xsNil)))) [5]))
    sNext)))))))
noncomputable def F__law_terms : Fn := fnOf 6 p__law_terms
theorem ok__law_terms {f : Addr} {fd : FuncData} (F : FunA K "_law_terms" "_law_terms" s__law_terms f fd) (B : Bn mg) (hG : Gok (gm K mg)) (C__law_dip : Cl P w K mg base (gm K mg) 5 "_law_dip" ["_law_pot_here", "_law_many"] F__law_dip) (C__law_step : Cl P w K mg base (gm K mg) 6 "_law_step" ["_law_pot_here", "_law_pins"] F__law_step) (Q_Saying : EqC P w K mg base (gm K mg) 2 "Saying" F_Saying_eq) (Q_Chart : EqC P w K mg base (gm K mg) 2 "Chart" F_Chart_eq) (C__law_pick : Cl P w K mg base (gm K mg) 6 "_law_pick" ["_law_pot_here", "_law_some"] F__law_pick) : FnOk P w K mg base (L2.CX P w) 7 f fd ["_law_pot_here", "_law_pins"] (spT (gm K mg) F__law_terms 2) := by
  have nd := (sc__law_terms).nd
  exact fn_ok F sc__law_terms fun cdv A outer s H E hr =>
      (st_cons (st_par3 2 3 4 nd (ta_cons (te_call C__law_dip (hr.mono (by decide)) pdef (ta_cons (te_var 0) (ta_cons te_int ta_nil))) (ta_cons (te_call C__law_step (hr.mono (by decide)) pdef (ta_cons (te_var 0) (ta_cons (te_var 1) ta_nil))) (ta_cons (te_call C__law_step (hr.mono (by decide)) pdef (ta_cons (te_var 0) (ta_cons (te_var 1) ta_nil))) ta_nil))))
      (st_cons (st_if (ct_cmp ((ot_eqI Q_Chart hG (hr.mono (by decide)) ((ot_eqI Q_Saying hG (hr.mono (by decide)) (ot_eqD (hu64 hr))).choose_spec)).choose_spec) (te_var 2) te_int (nomark _)) (st_cons (st_ret (te_lst (ta_cons (te_tup (ta_cons te_int (ta_cons (te_var 3) (ta_cons (te_var 3) ta_nil)))) ta_nil)))
      st_nil) st_nil)
      (st_cons (st_if (ct_cmp ((ot_eqI Q_Chart hG (hr.mono (by decide)) ((ot_eqI Q_Saying hG (hr.mono (by decide)) (ot_eqD (hu64 hr))).choose_spec)).choose_spec) (te_var 2) te_int (nomark _)) (st_cons (st_ret (te_lst (ta_cons (te_tup (ta_cons (te_call C__law_pick (hr.mono (by decide)) pdef (ta_cons (te_var 0) (ta_cons (te_lst (ta_cons te_int (ta_cons (te_neg te_int) (ta_cons te_int ta_nil)))) ta_nil))) (ta_cons (te_var 3) (ta_cons (te_var 4) ta_nil)))) ta_nil)))
      st_nil) st_nil)
      (st_cons (st_if (ct_cmp ((ot_eqI Q_Chart hG (hr.mono (by decide)) ((ot_eqI Q_Saying hG (hr.mono (by decide)) (ot_eqD (hu64 hr))).choose_spec)).choose_spec) (te_var 2) te_int (nomark _)) (st_cons (st_ret (te_lst (ta_cons (te_tup (ta_cons te_int (ta_cons (te_var 3) (ta_cons (te_var 3) ta_nil)))) (ta_cons (te_tup (ta_cons (te_neg (te_call C__law_pick (hr.mono (by decide)) pdef (ta_cons (te_var 0) (ta_cons (te_lst (ta_cons te_int (ta_cons te_int (ta_cons te_int ta_nil)))) ta_nil)))) (ta_cons (te_var 4) (ta_cons (te_var 4) ta_nil)))) ta_nil))))
      st_nil) st_nil)
      (st_cons (st_if (ct_cmp ((ot_eqI Q_Chart hG (hr.mono (by decide)) ((ot_eqI Q_Saying hG (hr.mono (by decide)) (ot_eqD (hu64 hr))).choose_spec)).choose_spec) (te_var 2) te_int (nomark _)) (st_cons (st_ret (te_lst (ta_cons (te_tup (ta_cons te_int (ta_cons (te_var 3) (ta_cons (te_var 3) ta_nil)))) (ta_cons (te_tup (ta_cons (te_call C__law_pick (hr.mono (by decide)) pdef (ta_cons (te_var 0) (ta_cons (te_lst (ta_cons te_int (ta_cons te_int (ta_cons te_int ta_nil)))) ta_nil))) (ta_cons (te_var 4) (ta_cons (te_var 4) ta_nil)))) ta_nil))))
      st_nil) st_nil)
      (st_cons (st_if (ct_cmp ((ot_eqI Q_Chart hG (hr.mono (by decide)) ((ot_eqI Q_Saying hG (hr.mono (by decide)) (ot_eqD (hu64 hr))).choose_spec)).choose_spec) (te_var 2) te_int (nomark _)) (st_cons (st_ret (te_lst (ta_cons (te_tup (ta_cons te_int (ta_cons (te_var 3) (ta_cons (te_var 4) ta_nil)))) (ta_cons (te_tup (ta_cons (te_neg te_int) (ta_cons (te_tup (ta_cons (te_ix (te_var 4) te_int) (ta_cons (te_ix (te_var 4) te_int) ta_nil))) (ta_cons (te_tup (ta_cons (te_ix (te_var 3) te_int) (ta_cons (te_ix (te_var 3) te_int) ta_nil))) ta_nil)))) ta_nil))))
      st_nil) st_nil)
      (st_cons (st_ret (te_lc (own := [("_law_turn", 5)]) rfl nd (wt_rng1 rfl B.range (ta_cons (te_op ot_add te_int (te_call C__law_dip (hr.mono (by decide)) pdef (ta_cons (te_var 0) (ta_cons te_int ta_nil)))) ta_nil)) (blkOk_by (N := n__law_terms) (sc := defScope s__law_terms) (by decide +kernel)) (fun _ _ _ _ _ => (gt_name 5 nd)) (fun _ _ _ _ _ => (te_tup (ta_cons (te_op ot_sub (te_call C__law_dip (hr.mono (by decide)) passL (ta_cons (te_var 0) (ta_cons te_int ta_nil))) te_int) (ta_cons (te_call C__law_step (hr.mono (by decide)) passL (ta_cons (te_var 0) (ta_cons (te_var 1) ta_nil))) (ta_cons (te_call C__law_step (hr.mono (by decide)) passL (ta_cons (te_var 0) (ta_cons (te_var 1) ta_nil))) ta_nil)))))))
      st_nil)))))))
abbrev s__law_rows : Stmt := top 54
abbrev n__law_rows : List Str := ["_law_pot_here", "_law_many", "_law_wide", "_law_turn", "_law_pin"]
abbrev sc__law_rows_0 : Scope := { kind := .function, names := [(".0", .local), ("_law_turn", .local), ("_law_dip", .globalImplicit), ("range", .globalImplicit), ("_law_many", .cell), ("_law_pot_here", .cell), ("_law_wide", .cell)], isGenerator := false, isCoroutine := false }
abbrev sc__law_rows_1 : Scope := { kind := .function, names := [(".0", .local), ("_law_pin", .local), ("_law_dip", .globalImplicit), ("_law_pot_here", .cell), ("_law_wide", .cell)], isGenerator := false, isCoroutine := false }
theorem sc__law_rows : FnScope n__law_rows ["_law_pot_here", "_law_many"] (defScope s__law_rows) := ⟨rfl, rfl, rfl, by decide +kernel, rfl, by decide +kernel, by decide +kernel⟩
noncomputable def p__law_rows : TSt :=
    (sSeq (sSet 2 (xFn F__law_pick (xsCons (xVar 0) (xsCons (xLst (xsCons (xC (.int 4)) (xsCons (xC (.int 9)) (xsCons (xC (.int 1)) (xsCons (xBin oPow (xC (.int 10)) (xC (.int 9))) xsNil))))) xsNil))))
    (sSeq (sRet (xLc (wRng1 (xsCons (xBin oAdd (xC (.int 1)) (xFn F__law_dip (xsCons (xVar 0) (xsCons (xC (.int 3)) xsNil)))) xsNil)) (tName 3) cYes (xTup (xsCons (xBin oSub (xFn F__law_dip (xsCons (xVar 0) (xsCons (xC (.int 7)) xsNil))) (xC (.int 3))) (xsCons (xLc (wRng1 (xsCons (xVar 1) xsNil)) (tName 4) cYes (xBin oSub (xFn F__law_dip (xsCons (xVar 0) (xsCons (xBin oAdd (xBin oMulT (xC (.int 2)) (xVar 2)) (xC (.int 1))) xsNil))) (xVar 2)) [4]) xsNil))) [3]))
    sNext))
noncomputable def F__law_rows : Fn := fnOf 5 p__law_rows
theorem ok__law_rows {f : Addr} {fd : FuncData} (F : FunA K "_law_rows" "_law_rows" s__law_rows f fd) (B : Bn mg) (hG : Gok (gm K mg)) (C__law_dip : Cl P w K mg base (gm K mg) 5 "_law_dip" ["_law_pot_here", "_law_many"] F__law_dip) (C__law_pick : Cl P w K mg base (gm K mg) 6 "_law_pick" ["_law_pot_here", "_law_some"] F__law_pick) : FnOk P w K mg base (L2.CX P w) 7 f fd ["_law_pot_here", "_law_many"] (spT (gm K mg) F__law_rows 2) := by
  have nd := (sc__law_rows).nd
  exact fn_ok F sc__law_rows fun cdv A outer s H E hr =>
      (st_cons (st_set 2 nd (te_call C__law_pick (hr.mono (by decide)) pdef (ta_cons (te_var 0) (ta_cons (te_lst (ta_cons te_int (ta_cons te_int (ta_cons te_int (ta_cons (te_op ot_pow te_int te_int) ta_nil))))) ta_nil))))
      (st_cons (st_ret (te_lc (own := [("_law_turn", 3)]) rfl nd (wt_rng1 rfl B.range (ta_cons (te_op ot_add te_int (te_call C__law_dip (hr.mono (by decide)) pdef (ta_cons (te_var 0) (ta_cons te_int ta_nil)))) ta_nil)) (blkOk_by (N := n__law_rows) (sc := defScope s__law_rows) (by decide +kernel)) (fun _ _ _ _ _ => (gt_name 3 nd)) (fun _ _ _ _ _ => (te_tup (ta_cons (te_op ot_sub (te_call C__law_dip (hr.mono (by decide)) passL (ta_cons (te_var 0) (ta_cons te_int ta_nil))) te_int) (ta_cons (te_lc (own := [("_law_pin", 4)]) rfl nd (wt_rng1 rfl B.range (ta_cons (te_var 1) ta_nil)) (blkOk_by (N := n__law_rows) (sc := sc__law_rows_0) (by decide +kernel)) (fun _ _ _ _ _ => (gt_name 4 nd)) (fun _ _ _ _ _ => (te_op ot_sub (te_call C__law_dip (hr.mono (by decide)) passL (ta_cons (te_var 0) (ta_cons (te_op ot_add (te_op ot_mul te_int (te_var 2)) te_int) ta_nil))) (te_var 2)))) ta_nil))))))
      st_nil))
abbrev s__law_chart : Stmt := top 55
abbrev n__law_chart : List Str := ["_law_rows_here", "_law_by", "_law_many", "_law_found", "_law_at", "_law_spot", "_law_times", "_law_row"]
abbrev sc__law_chart_0 : Scope := { kind := .function, names := [(".0", .local), ("_law_spot", .cell), ("sum", .globalImplicit), ("_law_at", .cell), ("_law_rows_here", .cell)], isGenerator := false, isCoroutine := false }
abbrev sc__law_chart_1 : Scope := { kind := .function, names := [(".0", .local), ("_law_times", .local), ("_law_row", .local), ("_law_at", .cell), ("_law_spot", .cell)], isGenerator := false, isCoroutine := false }
theorem sc__law_chart : FnScope n__law_chart ["_law_rows_here", "_law_by"] (defScope s__law_chart) := ⟨rfl, rfl, rfl, by decide +kernel, rfl, by decide +kernel, by decide +kernel⟩
noncomputable def p__law_chart : TSt :=
    (sSeq (sAsg (xTup (xsCons (xCall oLen (xsCons (xBin oIx (xBin oIx (xVar 0) (xC (.int 0))) (xC (.int 1))) xsNil)) (xsCons (xLstH xsNil) xsNil))) (tTup [(tName 2), (tName 3)]))
    (sSeq (sFor (wRng1 (xsCons (xVar 2) xsNil)) (tName 4) (sSeq (sExpr (xApp (xVar 3) (xLc (wRng1 (xsCons (xVar 2) xsNil)) (tName 5) cYes (xCall oSum (xsCons (xLc (wOf (xVar 0)) (tTup [(tName 6), (tName 7)]) cYes (xBin oMulT (xBin oMulT (xVar 6) (xBin oIx (xVar 7) (xVar 4))) (xBin oIx (xVar 7) (xVar 5))) [6, 7]) xsNil)) [5])))
    sNext))
    (sSeq (sRet (xNew "Chart" F_Chart_init (xsCons (xVar 3) (xsCons (xVar 1) xsNil))))
    sNext)))
noncomputable def F__law_chart : Fn := fnOf 8 p__law_chart
theorem ok__law_chart {f : Addr} {fd : FuncData} (F : FunA K "_law_chart" "_law_chart" s__law_chart f fd) (B : Bn mg) (hG : Gok (gm K mg)) (M_Chart : Mc P w K mg base (gm K mg) 5 "Chart" ["self", "rows", "by"] F_Chart_init) : FnOk P w K mg base (L2.CX P w) 7 f fd ["_law_rows_here", "_law_by"] (spT (gm K mg) F__law_chart 2) := by
  have nd := (sc__law_chart).nd
  exact fn_ok F sc__law_chart fun cdv A outer s H E hr =>
      (st_cons (st_par2 2 3 nd (ta_cons (te_callB ot_len rfl B.len (by decide +kernel) (ta_cons (te_ix (te_ix (te_var 0) te_int) te_int) ta_nil)) (ta_cons (te_lstH ta_nil) ta_nil)))
      (st_cons (st_for (passes_of rfl) rfl (wt_rng1 rfl B.range (ta_cons (te_var 2) ta_nil)) (gt_name 4 nd) (st_cons (st_expr (te_append (te_var 3) (te_lc (own := [("_law_spot", 5)]) rfl nd (wt_rng1 rfl B.range (ta_cons (te_var 2) ta_nil)) (blkOk_by (N := n__law_chart) (sc := defScope s__law_chart) (by decide +kernel)) (fun _ _ _ _ _ => (gt_name 5 nd)) (fun _ _ _ _ _ => (te_callB ot_sum rfl B.sum (by decide +kernel) (ta_cons (te_lc (own := [("_law_times", 6), ("_law_row", 7)]) rfl nd (wt_of (te_var 0)) (blkOk_by (N := n__law_chart) (sc := sc__law_chart_0) (by decide +kernel)) (fun _ _ _ _ _ => (gt_tup rfl (gts_cons (gt_name 6 nd) (gts_cons (gt_name 7 nd) gts_nil)))) (fun _ _ _ _ _ => (te_op ot_mul (te_op ot_mul (te_var 6) (te_ix (te_var 7) (te_var 4))) (te_ix (te_var 7) (te_var 5))))) ta_nil))))))
      st_nil))
      (st_cons (st_ret (te_make M_Chart (hr.mono (by decide)) pdef (ta_cons (te_var 3) (ta_cons (te_var 1) ta_nil))))
      st_nil)))
end
end G44

namespace G44
open PySem PySem.Spec PyProof.Rows L2 Den
section
variable {P : Program} {w : World} {K : PySem.W.Frag} {mg : Str → Option Value} {base : Heap}
abbrev s__law_is_so : Stmt := top 58
abbrev n__law_is_so : List Str := ["_law_total_here", "_law_word", "_law_number", "_law_gap"]
theorem sc__law_is_so : FnScope n__law_is_so ["_law_total_here", "_law_word", "_law_number"] (defScope s__law_is_so) := ⟨rfl, rfl, rfl, by decide +kernel, rfl, by decide +kernel, by decide +kernel⟩
noncomputable def p__law_is_so : TSt :=
    (sSeq (sSet 3 (xBin oSub (xBin oIx (xVar 0) (xC (.int 0))) (xBin oMulT (xVar 2) (xBin oIx (xVar 0) (xC (.int 1))))))
    (sSeq (sRet (xIf (cB (xBin (oEq (("Chart", F_Chart_eq) :: (("Saying", F_Saying_eq) :: []))) (xVar 1) (xC (.str (Str.ofString "above"))))) (xBin oGt (xVar 3) (xC (.int 0))) (xIf (cB (xBin (oEq (("Chart", F_Chart_eq) :: (("Saying", F_Saying_eq) :: []))) (xVar 1) (xC (.str (Str.ofString "below"))))) (xBin oLt (xVar 3) (xC (.int 0))) (xBin (oEq (("Chart", F_Chart_eq) :: (("Saying", F_Saying_eq) :: []))) (xVar 3) (xC (.int 0))))))
    sNext))
noncomputable def F__law_is_so : Fn := fnOf 4 p__law_is_so
theorem ok__law_is_so {f : Addr} {fd : FuncData} (F : FunA K "_law_is_so" "_law_is_so" s__law_is_so f fd) (B : Bn mg) (hG : Gok (gm K mg)) (Q_Saying : EqC P w K mg base (gm K mg) 2 "Saying" F_Saying_eq) (Q_Chart : EqC P w K mg base (gm K mg) 2 "Chart" F_Chart_eq) : FnOk P w K mg base (L2.CX P w) 5 f fd ["_law_total_here", "_law_word", "_law_number"] (spT (gm K mg) F__law_is_so 3) := by
  have nd := (sc__law_is_so).nd
  exact fn_ok F sc__law_is_so fun cdv A outer s H E hr =>
      (st_cons (st_set 3 nd (te_op ot_sub (te_ix (te_var 0) te_int) (te_op ot_mul (te_var 2) (te_ix (te_var 0) te_int))))
      (st_cons (st_ret (te_if (ct_cmp ((ot_eqI Q_Chart hG (hr.mono (by decide)) ((ot_eqI Q_Saying hG (hr.mono (by decide)) (ot_eqD (hu64 hr))).choose_spec)).choose_spec) (te_var 1) te_str (nomark _)) (te_cmp ot_gt (te_var 3) te_int (nomark _)) (te_if (ct_cmp ((ot_eqI Q_Chart hG (hr.mono (by decide)) ((ot_eqI Q_Saying hG (hr.mono (by decide)) (ot_eqD (hu64 hr))).choose_spec)).choose_spec) (te_var 1) te_str (nomark _)) (te_cmp ot_lt (te_var 3) te_int (nomark _)) (te_cmp ((ot_eqI Q_Chart hG (hr.mono (by decide)) ((ot_eqI Q_Saying hG (hr.mono (by decide)) (ot_eqD (hu64 hr))).choose_spec)).choose_spec) (te_var 3) te_int (nomark _)))))
      st_nil))
abbrev s__law_form_right : Stmt := top 61
abbrev n__law_form_right : List Str := ["_law_pot_here", "_law_pins", "_law_terms_here", "_law_form", "_law_turn", "_law_row", "_law_come_here", "_law_at", "_law_pin", "_law_spot"]
abbrev sc__law_form_right_0 : Scope := { kind := .function, names := [(".0", .local), ("_law_spot", .local), ("_law_at", .cell), ("_law_form", .cell), ("_law_row", .cell)], isGenerator := false, isCoroutine := false }
abbrev sc__law_form_right_1 : Scope := { kind := .function, names := [(".0", .local), ("_law_pin", .local), ("_law_dip", .globalImplicit), ("_law_pot_here", .cell)], isGenerator := false, isCoroutine := false }
abbrev sc__law_form_right_2 : Scope := { kind := .function, names := [(".0", .local), ("_law_pin", .local), ("int", .globalImplicit), ("_law_dip", .globalImplicit), ("_law_pot_here", .cell)], isGenerator := false, isCoroutine := false }
theorem sc__law_form_right : FnScope n__law_form_right ["_law_pot_here", "_law_pins", "_law_terms_here"] (defScope s__law_form_right) := ⟨rfl, rfl, rfl, by decide +kernel, rfl, by decide +kernel, by decide +kernel⟩
noncomputable def p__law_form_right : TSt :=
    (sSeq (sSet 3 (xMeth [("Saying", F_Saying_form)] "form" (xNew "Saying" F_Saying_init (xsCons (xVar 2) (xsCons (xC (.str (Str.ofString "just"))) (xsCons (xC (.int 0)) xsNil)))) (xsCons (xVar 1) xsNil)))
    (sSeq (sIf (cOr (cNot (cTru (xUn (oIso ["Chart"]) (xVar 3)))) (cOr (cB (xBin (oNe (("Chart", F_Chart_eq) :: (("Saying", F_Saying_eq) :: []))) (xUn (oFld "pins") (xVar 3)) (xVar 1))) (cB (xBin (oNe (("Chart", F_Chart_eq) :: (("Saying", F_Saying_eq) :: []))) (xMethP [("Saying", F_Saying_form)] "form" gd_Saying_form_0_pins (xNew "Saying" F_Saying_init (xsCons (xVar 2) (xsCons (xC (.str (Str.ofString "above"))) (xsCons (xC (.int 5)) xsNil)))) (xsCons (xVar 1) xsNil)) (xVar 3))))) (sSeq (sRet (xC (.bl false)))
    sNext) sNext)
    (sSeq (sFor (wRng1 (xsCons (xC (.int 4)) xsNil)) (tName 4) (sSeq (sSet 5 (xIf (cB (xBin oGt (xVar 4) (xC (.int 0)))) (xLc (wRng1 (xsCons (xBin oSub (xVar 1) (xC (.int 1))) xsNil)) (tName 8) cYes (xBin oSub (xFn F__law_dip (xsCons (xVar 0) (xsCons (xC (.int 9)) xsNil))) (xC (.int 4))) [8]) (xLc (wRng1 (xsCons (xBin oSub (xVar 1) (xC (.int 1))) xsNil)) (tName 8) cYes (xCall oInt (xsCons (xBin oGt (xFn F__law_dip (xsCons (xVar 0) (xsCons (xC (.int 3)) xsNil))) (xC (.int 0))) xsNil)) [8])))
    (sSeq (sSet 6 (xC (.int 0)))
    (sSeq (sFor (wRng1 (xsCons (xBin oSub (xVar 1) (xC (.int 1))) xsNil)) (tName 7) (sSeq (sSet 6 (xBin oAdd (xVar 6) (xCall oSum (xsCons (xLc (wRng1 (xsCons (xBin oSub (xVar 1) (xC (.int 1))) xsNil)) (tName 9) cYes (xBin oMulT (xBin oMulT (xBin oIx (xVar 5) (xVar 7)) (xBin oIx (xVar 5) (xVar 9))) (xBin oIx (xBin oIx (xUn (oFld "rows") (xVar 3)) (xVar 7)) (xVar 9))) [9]) xsNil))))
    sNext))
    (sSeq (sIf (cB (xBin (oNe (("Chart", F_Chart_eq) :: (("Saying", F_Saying_eq) :: []))) (xVar 6) (xBin oMulT (xUn (oFld "by") (xVar 3)) (xFn F__law_come (xsCons (xVar 5) (xsCons (xVar 2) xsNil)))))) (sSeq (sRet (xC (.bl false)))
    sNext) sNext)
    sNext)))))
    (sSeq (sRet (xC (.bl true)))
    sNext))))
noncomputable def F__law_form_right : Fn := fnOf 10 p__law_form_right
theorem ok__law_form_right {f : Addr} {fd : FuncData} (F : FunA K "_law_form_right" "_law_form_right" s__law_form_right f fd) (B : Bn mg) (hG : Gok (gm K mg)) (Q_Saying : EqC P w K mg base (gm K mg) 2 "Saying" F_Saying_eq) (Q_Chart : EqC P w K mg base (gm K mg) 2 "Chart" F_Chart_eq) (C__law_come : Cl P w K mg base (gm K mg) 3 "_law_come" ["_law_row", "_law_terms_here"] F__law_come) (C__law_dip : Cl P w K mg base (gm K mg) 5 "_law_dip" ["_law_pot_here", "_law_many"] F__law_dip) (K_Chart : Ko (gm K mg) "Chart" ["Chart"]) (M_Saying : Mc P w K mg base (gm K mg) 6 "Saying" ["self", "terms", "word", "number"] F_Saying_init) (N_Saying_gd_Saying_form_0_pins : MtP P w K mg base (gm K mg) 7 "Saying" "form" ["self", "pins"] ["pins"] gd_Saying_form_0_pins F_Saying_form) (N_Saying_form : Mt P w K mg base (gm K mg) 7 "Saying" "form" ["self", "pins"] F_Saying_form) : FnOk P w K mg base (L2.CX P w) 8 f fd ["_law_pot_here", "_law_pins", "_law_terms_here"] (spT (gm K mg) F__law_form_right 3) := by
  have nd := (sc__law_form_right).nd
  exact fn_ok F sc__law_form_right fun cdv A outer s H E hr =>
      (st_cons (st_set 3 nd (te_meth N_Saying_form hG (te_make M_Saying (hr.mono (by decide)) pdef (ta_cons (te_var 2) (ta_cons te_str (ta_cons te_int ta_nil)))) (hr.mono (by decide)) pdef (ta_cons (te_var 1) ta_nil)))
      (st_cons (st_if (PW.pt (cw_or (ct_not (ct_tru (te_iso K_Chart hG B.isinstance (te_var 3)))) (cw_or (ct_cmp ((ot_neI Q_Chart hG (hr.mono (by decide)) ((ot_neI Q_Saying hG (hr.mono (by decide)) (ot_neD (hu64 hr))).choose_spec)).choose_spec) (te_fld "pins" hG (te_var 3)) (te_var 1) (nomark _)) (cw_or1 (ct_cmp ((ot_neI Q_Chart hG (hr.mono (by decide)) ((ot_neI Q_Saying hG (hr.mono (by decide)) (ot_neD (hu64 hr))).choose_spec)).choose_spec) (te_methP N_Saying_gd_Saying_form_0_pins hG (te_make M_Saying (hr.mono (by decide)) pdef (ta_cons (te_var 2) (ta_cons te_str (ta_cons te_int ta_nil)))) (hr.mono (by decide)) pdef (tk_cons (te_var 1) tk_nil)) (te_var 3) (nomark _)))))) (st_cons (st_ret te_bl)
      st_nil) st_nil)
      (st_cons (st_for (passes_of rfl) rfl (wt_rng1 rfl B.range (ta_cons te_int ta_nil)) (gt_name 4 nd) (st_cons (st_set 5 nd (te_if (ct_cmp ot_gt (te_var 4) te_int (nomark _)) (te_lc (own := [("_law_pin", 8)]) rfl nd (wt_rng1 rfl B.range (ta_cons (te_op ot_sub (te_var 1) te_int) ta_nil)) (blkOk_by (N := n__law_form_right) (sc := defScope s__law_form_right) (by decide +kernel)) (fun _ _ _ _ _ => (gt_name 8 nd)) (fun _ _ _ _ _ => (te_op ot_sub (te_call C__law_dip (hr.mono (by decide)) passL (ta_cons (te_var 0) (ta_cons te_int ta_nil))) te_int))) (te_lc (own := [("_law_pin", 8)]) rfl nd (wt_rng1 rfl B.range (ta_cons (te_op ot_sub (te_var 1) te_int) ta_nil)) (blkOk_by (N := n__law_form_right) (sc := defScope s__law_form_right) (by decide +kernel)) (fun _ _ _ _ _ => (gt_name 8 nd)) (fun _ _ _ _ _ => (te_callTy ot_int rfl B.int (by decide +kernel) (ta_cons (te_cmp ot_gt (te_call C__law_dip (hr.mono (by decide)) passL (ta_cons (te_var 0) (ta_cons te_int ta_nil))) te_int (nomark _)) ta_nil))))))
      (st_cons (st_set 6 nd te_int)
      (st_cons (st_for (passes_of rfl) rfl (wt_rng1 rfl B.range (ta_cons (te_op ot_sub (te_var 1) te_int) ta_nil)) (gt_name 7 nd) (st_cons (st_set 6 nd (te_op ot_add (te_var 6) (te_callB ot_sum rfl B.sum (by decide +kernel) (ta_cons (te_lc (own := [("_law_spot", 9)]) rfl nd (wt_rng1 rfl B.range (ta_cons (te_op ot_sub (te_var 1) te_int) ta_nil)) (blkOk_by (N := n__law_form_right) (sc := defScope s__law_form_right) (by decide +kernel)) (fun _ _ _ _ _ => (gt_name 9 nd)) (fun _ _ _ _ _ => (te_op ot_mul (te_op ot_mul (te_ix (te_var 5) (te_var 7)) (te_ix (te_var 5) (te_var 9))) (te_ix (te_ix (te_fld "rows" hG (te_var 3)) (te_var 7)) (te_var 9))))) ta_nil))))
      st_nil))
      (st_cons (st_if (ct_cmp ((ot_neI Q_Chart hG (hr.mono (by decide)) ((ot_neI Q_Saying hG (hr.mono (by decide)) (ot_neD (hu64 hr))).choose_spec)).choose_spec) (te_var 6) (te_op ot_mul (te_fld "by" hG (te_var 3)) (te_call C__law_come (hr.mono (by decide)) pdef (ta_cons (te_var 5) (ta_cons (te_var 2) ta_nil)))) (nomark _)) (st_cons (st_ret te_bl)
      st_nil) st_nil)
      st_nil)))))
      (st_cons (st_ret te_bl)
      st_nil))))
abbrev s__law_words_right : Stmt := top 62
abbrev n__law_words_right : List Str := ["_law_pot_here", "_law_pins", "_law_step_here", "_law_its", "_law_rows_here", "_law_by", "_law_chart_here", "_law_longer", "_law_right"]
theorem sc__law_words_right : FnScope n__law_words_right ["_law_pot_here", "_law_pins"] (defScope s__law_words_right) := ⟨rfl, rfl, rfl, by decide +kernel, rfl, by decide +kernel, by decide +kernel⟩
noncomputable def p__law_words_right : TSt :=
    (sSeq (sAsg (xTup (xsCons (xFn F__law_step (xsCons (xVar 0) (xsCons (xVar 1) xsNil))) (xsCons (xFn F__law_step (xsCons (xVar 0) (xsCons (xVar 1) xsNil))) xsNil))) (tTup [(tName 2), (tName 3)]))
    (sSeq (sAsg (xTup (xsCons (xFn F__law_rows (xsCons (xVar 0) (xsCons (xBin oSub (xVar 1) (xC (.int 1))) xsNil))) (xsCons (xBin oAdd (xC (.int 1)) (xFn F__law_dip (xsCons (xVar 0) (xsCons (xC (.int 3)) xsNil)))) xsNil))) (tTup [(tName 4), (tName 5)]))
    (sSeq (sSet 6 (xFn F__law_chart (xsCons (xVar 4) (xsCons (xVar 5) xsNil))))
    (sSeq (sAsg (xTup (xsCons (xFn F_Saying_longer (xsCons (xCall oList (xsCons (xVar 2) xsNil)) (xsCons (xVar 3) xsNil))) (xsCons (xFnP F_Saying_right gd_Saying_right_0_its_step xsNil (xsCons (xVar 3) (xsCons (xVar 2) xsNil))) xsNil))) (tTup [(tName 7), (tName 8)]))
    (sSeq (sIf (cOr (cB (xBin (oNe (("Chart", F_Chart_eq) :: (("Saying", F_Saying_eq) :: []))) (xVar 7) (xNew "Saying" F_Saying_init (xsCons (xLst (xsCons (xTup (xsCons (xC (.int 1)) (xsCons (xVar 2) (xsCons (xVar 2) xsNil)))) (xsCons (xTup (xsCons (xUn oNeg (xC (.int 1))) (xsCons (xVar 3) (xsCons (xVar 3) xsNil)))) xsNil))) (xsCons (xC (.str (Str.ofString "above"))) (xsCons (xC (.int 0)) xsNil)))))) (cB (xBin (oNe (("Chart", F_Chart_eq) :: (("Saying", F_Saying_eq) :: []))) (xVar 8) (xNew "Saying" F_Saying_init (xsCons (xLst (xsCons (xTup (xsCons (xC (.int 1)) (xsCons (xVar 2) (xsCons (xVar 3) xsNil)))) xsNil)) (xsCons (xC (.str (Str.ofString "just"))) (xsCons (xC (.int 0)) xsNil))))))) (sSeq (sRet (xC (.bl false)))
    sNext) sNext)
    (sSeq (sIf (cB (xBin (oNe (("Chart", F_Chart_eq) :: (("Saying", F_Saying_eq) :: []))) (xMeth [("Saying", F_Saying_holds)] "holds" (xVar 7) (xsCons (xVar 6) xsNil)) (xBin oGt (xBin oIx (xFn F__law_total (xsCons (xVar 4) (xsCons (xVar 5) (xsCons (xLst (xsCons (xTup (xsCons (xC (.int 1)) (xsCons (xVar 2) (xsCons (xVar 2) xsNil)))) (xsCons (xTup (xsCons (xUn oNeg (xC (.int 1))) (xsCons (xVar 3) (xsCons (xVar 3) xsNil)))) xsNil))) xsNil)))) (xC (.int 0))) (xC (.int 0))))) (sSeq (sRet (xC (.bl false)))
    sNext) sNext)
    (sSeq (sRet (xAnd (xBin (oEq (("Chart", F_Chart_eq) :: (("Saying", F_Saying_eq) :: []))) (xMeth [("Saying", F_Saying_holds)] "holds" (xVar 8) (xsCons (xVar 6) xsNil)) (xBin (oEq (("Chart", F_Chart_eq) :: (("Saying", F_Saying_eq) :: []))) (xBin oIx (xFn F__law_total (xsCons (xVar 4) (xsCons (xVar 5) (xsCons (xLst (xsCons (xTup (xsCons (xC (.int 1)) (xsCons (xVar 2) (xsCons (xVar 3) xsNil)))) xsNil)) xsNil)))) (xC (.int 0))) (xC (.int 0)))) (xBin (oEq (("Chart", F_Chart_eq) :: (("Saying", F_Saying_eq) :: []))) (xFnP F_Saying_longer gd_Saying_longer_0_its_step xsNil (xsCons (xVar 3) (xsCons (xVar 2) xsNil))) (xVar 7))))
    sNext)))))))
noncomputable def F__law_words_right : Fn := fnOf 9 p__law_words_right
theorem ok__law_words_right {f : Addr} {fd : FuncData} (F : FunA K "_law_words_right" "_law_words_right" s__law_words_right f fd) (B : Bn mg) (hG : Gok (gm K mg)) (Q_Saying : EqC P w K mg base (gm K mg) 2 "Saying" F_Saying_eq) (Q_Chart : EqC P w K mg base (gm K mg) 2 "Chart" F_Chart_eq) (N_Saying_holds : Mt P w K mg base (gm K mg) 6 "Saying" "holds" ["self", "chart"] F_Saying_holds) (C__law_total : Cl P w K mg base (gm K mg) 4 "_law_total" ["_law_rows_here", "_law_by", "_law_terms_here"] F__law_total) (T_gd_Saying_longer_0_its_step : SmP P w K mg base (gm K mg) 8 "Saying" "longer" ["step", "its"] ["its", "step"] gd_Saying_longer_0_its_step F_Saying_longer) (M_Saying : Mc P w K mg base (gm K mg) 6 "Saying" ["self", "terms", "word", "number"] F_Saying_init) (T_gd_Saying_right_0_its_step : SmP P w K mg base (gm K mg) 8 "Saying" "right" ["step", "its"] ["its", "step"] gd_Saying_right_0_its_step F_Saying_right) (T_Saying_longer : Sm P w K mg base (gm K mg) 8 "Saying" "longer" ["step", "its"] F_Saying_longer) (C__law_chart : Cl P w K mg base (gm K mg) 7 "_law_chart" ["_law_rows_here", "_law_by"] F__law_chart) (C__law_dip : Cl P w K mg base (gm K mg) 5 "_law_dip" ["_law_pot_here", "_law_many"] F__law_dip) (C__law_rows : Cl P w K mg base (gm K mg) 7 "_law_rows" ["_law_pot_here", "_law_many"] F__law_rows) (C__law_step : Cl P w K mg base (gm K mg) 6 "_law_step" ["_law_pot_here", "_law_pins"] F__law_step) : FnOk P w K mg base (L2.CX P w) 9 f fd ["_law_pot_here", "_law_pins"] (spT (gm K mg) F__law_words_right 2) := by
  have nd := (sc__law_words_right).nd
  exact fn_ok F sc__law_words_right fun cdv A outer s H E hr =>
      (st_cons (st_par2 2 3 nd (ta_cons (te_call C__law_step (hr.mono (by decide)) pdef (ta_cons (te_var 0) (ta_cons (te_var 1) ta_nil))) (ta_cons (te_call C__law_step (hr.mono (by decide)) pdef (ta_cons (te_var 0) (ta_cons (te_var 1) ta_nil))) ta_nil)))
      (st_cons (st_par2 4 5 nd (ta_cons (te_call C__law_rows (hr.mono (by decide)) pdef (ta_cons (te_var 0) (ta_cons (te_op ot_sub (te_var 1) te_int) ta_nil))) (ta_cons (te_op ot_add te_int (te_call C__law_dip (hr.mono (by decide)) pdef (ta_cons (te_var 0) (ta_cons te_int ta_nil)))) ta_nil)))
      (st_cons (st_set 6 nd (te_call C__law_chart (hr.mono (by decide)) pdef (ta_cons (te_var 4) (ta_cons (te_var 5) ta_nil))))
      (st_cons (st_par2 7 8 nd (ta_cons (te_sm T_Saying_longer (hr.mono (by decide)) pdef (ta_cons (te_callTy ot_list rfl B.list (by decide +kernel) (ta_cons (te_var 2) ta_nil)) (ta_cons (te_var 3) ta_nil))) (ta_cons (te_smP T_gd_Saying_right_0_its_step (hr.mono (by decide)) pdef (tk_cons (te_var 3) (tk_cons (te_var 2) tk_nil))) ta_nil)))
      (st_cons (st_if (PW.pt (cw_or (ct_cmp ((ot_neI Q_Chart hG (hr.mono (by decide)) ((ot_neI Q_Saying hG (hr.mono (by decide)) (ot_neD (hu64 hr))).choose_spec)).choose_spec) (te_var 7) (te_make M_Saying (hr.mono (by decide)) pdef (ta_cons (te_lst (ta_cons (te_tup (ta_cons te_int (ta_cons (te_var 2) (ta_cons (te_var 2) ta_nil)))) (ta_cons (te_tup (ta_cons (te_neg te_int) (ta_cons (te_var 3) (ta_cons (te_var 3) ta_nil)))) ta_nil))) (ta_cons te_str (ta_cons te_int ta_nil)))) (nomark _)) (cw_or1 (ct_cmp ((ot_neI Q_Chart hG (hr.mono (by decide)) ((ot_neI Q_Saying hG (hr.mono (by decide)) (ot_neD (hu64 hr))).choose_spec)).choose_spec) (te_var 8) (te_make M_Saying (hr.mono (by decide)) pdef (ta_cons (te_lst (ta_cons (te_tup (ta_cons te_int (ta_cons (te_var 2) (ta_cons (te_var 3) ta_nil)))) ta_nil)) (ta_cons te_str (ta_cons te_int ta_nil)))) (nomark _))))) (st_cons (st_ret te_bl)
      st_nil) st_nil)
      (st_cons (st_if (ct_cmp ((ot_neI Q_Chart hG (hr.mono (by decide)) ((ot_neI Q_Saying hG (hr.mono (by decide)) (ot_neD (hu64 hr))).choose_spec)).choose_spec) (te_meth N_Saying_holds hG (te_var 7) (hr.mono (by decide)) pdef (ta_cons (te_var 6) ta_nil)) (te_cmp ot_gt (te_ix (te_call C__law_total (hr.mono (by decide)) pdef (ta_cons (te_var 4) (ta_cons (te_var 5) (ta_cons (te_lst (ta_cons (te_tup (ta_cons te_int (ta_cons (te_var 2) (ta_cons (te_var 2) ta_nil)))) (ta_cons (te_tup (ta_cons (te_neg te_int) (ta_cons (te_var 3) (ta_cons (te_var 3) ta_nil)))) ta_nil))) ta_nil)))) te_int) te_int (nomark _)) (nomark _)) (st_cons (st_ret te_bl)
      st_nil) st_nil)
      (st_cons (st_ret (te_and (te_cmp ((ot_eqI Q_Chart hG (hr.mono (by decide)) ((ot_eqI Q_Saying hG (hr.mono (by decide)) (ot_eqD (hu64 hr))).choose_spec)).choose_spec) (te_meth N_Saying_holds hG (te_var 8) (hr.mono (by decide)) pdef (ta_cons (te_var 6) ta_nil)) (te_cmp ((ot_eqI Q_Chart hG (hr.mono (by decide)) ((ot_eqI Q_Saying hG (hr.mono (by decide)) (ot_eqD (hu64 hr))).choose_spec)).choose_spec) (te_ix (te_call C__law_total (hr.mono (by decide)) pdef (ta_cons (te_var 4) (ta_cons (te_var 5) (ta_cons (te_lst (ta_cons (te_tup (ta_cons te_int (ta_cons (te_var 2) (ta_cons (te_var 3) ta_nil)))) ta_nil)) ta_nil)))) te_int) te_int (nomark _)) (nomark _)) (pe_one (te_cmp ((ot_eqI Q_Chart hG (hr.mono (by decide)) ((ot_eqI Q_Saying hG (hr.mono (by decide)) (ot_eqD (hu64 hr))).choose_spec)).choose_spec) (te_smP T_gd_Saying_longer_0_its_step (hr.mono (by decide)) pdef (tk_cons (te_var 3) (tk_cons (te_var 2) tk_nil))) (te_var 7) (nomark _)))))
      st_nil)))))))
abbrev s_Saying_read : Stmt := inClass (top 41) 3
abbrev n_Saying_read : List Str := ["text"]
theorem sc_Saying_read : FnScope n_Saying_read ["text"] (defScope s_Saying_read) := ⟨rfl, rfl, rfl, by decide +kernel, rfl, by decide +kernel, by decide +kernel⟩
noncomputable def p_Saying_read : TSt :=
    (sSeq (sRet (xFn F_saying_at (xsCons (xFn F_items_of (xsCons (xVar 0) xsNil)) (xsCons (xC (.int 0)) xsNil))))
    sNext)
noncomputable def F_Saying_read : Fn := fnOf 1 p_Saying_read
theorem ok_Saying_read {f : Addr} {fd : FuncData} (F : FunA K "read" "Saying.read" s_Saying_read f fd) (B : Bn mg) (hG : Gok (gm K mg)) (C_saying_at : Cl P w K mg base (gm K mg) 8 "saying_at" ["items", "at"] F_saying_at) (C_items_of : Cl P w K mg base (gm K mg) 3 "items_of" ["text"] F_items_of) : FnOk P w K mg base (L2.CX P w) 9 f fd ["text"] (spT (gm K mg) F_Saying_read 1) := by
  have nd := (sc_Saying_read).nd
  exact fn_ok F sc_Saying_read fun cdv A outer s H E hr =>
      (st_cons (st_ret (te_call C_saying_at (hr.mono (by decide)) pdef (ta_cons (te_call C_items_of (hr.mono (by decide)) pdef (ta_cons (te_var 0) ta_nil)) (ta_cons te_int ta_nil))))
      st_nil)
abbrev s__law_kept_right : Stmt := top 59
abbrev n__law_kept_right : List Str := ["_law_saying", "_law_terms_here", "_law_word", "_law_number", "_law_due", "_law_items", "_law_text", "_law_k", "_law_step_here", "_law_its", "_law_pin"]
abbrev sc__law_kept_right_0 : Scope := { kind := .function, names := [(".0", .local), ("_law_k", .local), ("_law_step_here", .local), ("_law_its", .local), ("str", .globalImplicit), ("list", .globalImplicit)], isGenerator := false, isCoroutine := false }
abbrev sc__law_kept_right_1 : Scope := { kind := .function, names := [(".0", .local), ("_law_pin", .local), ("str", .globalImplicit)], isGenerator := false, isCoroutine := false }
abbrev sc__law_kept_right_2 : Scope := { kind := .function, names := [(".0", .local), ("_law_k", .local), ("_law_step_here", .local), ("_law_its", .local), ("max", .globalImplicit), ("list", .globalImplicit)], isGenerator := false, isCoroutine := false }
abbrev sc__law_kept_right_3 : Scope := { kind := .function, names := [(".0", .local), ("_law_k", .local), ("_law_step_here", .local), ("_law_its", .local), ("tuple", .globalImplicit)], isGenerator := false, isCoroutine := false }
theorem sc__law_kept_right : FnScope n__law_kept_right ["_law_saying", "_law_terms_here", "_law_word", "_law_number"] (defScope s__law_kept_right) := ⟨rfl, rfl, rfl, by decide +kernel, rfl, by decide +kernel, by decide +kernel⟩
noncomputable def p__law_kept_right : TSt :=
    (sSeq (sSet 4 (xCall oTuple (xsCons (xLc (wOf (xVar 1)) (tTup [(tName 7), (tName 8), (tName 9)]) cYes (xTup (xsCons (xVar 7) (xsCons (xCall oTuple (xsCons (xVar 8) xsNil)) (xsCons (xCall oTuple (xsCons (xVar 9) xsNil)) xsNil)))) [7, 8, 9]) xsNil)))
    (sSeq (sIf (cOr (cB (xBin (oNe (("Chart", F_Chart_eq) :: (("Saying", F_Saying_eq) :: []))) (xUn (oFld "terms") (xVar 0)) (xVar 4))) (cOr (cNot (cTru (xUn (oIsi [.tuple]) (xUn (oFld "terms") (xVar 0))))) (cOr (cB (xBin (oNe (("Chart", F_Chart_eq) :: (("Saying", F_Saying_eq) :: []))) (xUn (oFld "word") (xVar 0)) (xVar 2))) (cB (xBin (oNe (("Chart", F_Chart_eq) :: (("Saying", F_Saying_eq) :: []))) (xUn (oFld "number") (xVar 0)) (xVar 3)))))) (sSeq (sRet (xC (.bl false)))
    sNext) sNext)
    (sSeq (sIf (cOr (cB (xBin (oNe (("Chart", F_Chart_eq) :: (("Saying", F_Saying_eq) :: []))) (xUn (oFld "pins") (xVar 0)) (xBin oAdd (xC (.int 1)) (xCall oMax (xsCons (xLc (wOf (xVar 1)) (tTup [(tName 7), (tName 8), (tName 9)]) cYes (xCall oMax (xsCons (xBin oAdd (xCall oList (xsCons (xVar 8) xsNil)) (xCall oList (xsCons (xVar 9) xsNil))) xsNil)) [7, 8, 9]) xsNil))))) (cTru (xUn (oIsi [.bl]) (xUn (oFld "pins") (xVar 0))))) (sSeq (sRet (xC (.bl false)))
    sNext) sNext)
    (sSeq (sSet 5 (xLc (wOf (xVar 1)) (tTup [(tName 7), (tName 8), (tName 9)]) cYes (xS1 oJoin (xC (.str (Str.ofString " "))) (xBin oAdd (xLst (xsCons (xCall (oStrN (("Saying", F_Saying_str) :: [])) (xsCons (xVar 7) xsNil)) xsNil)) (xLc (wOf (xBin oAdd (xCall oList (xsCons (xVar 8) xsNil)) (xCall oList (xsCons (xVar 9) xsNil)))) (tName 10) cYes (xCall (oStrN (("Saying", F_Saying_str) :: [])) (xsCons (xVar 10) xsNil)) [10]))) [7, 8, 9]))
    (sSeq (sSet 6 (xBin oAdd (xBin oAdd (xBin oAdd (xBin oAdd (xS1 oJoin (xC (.str (Str.ofString " + "))) (xVar 5)) (xC (.str (Str.ofString " ")))) (xVar 2)) (xC (.str (Str.ofString " ")))) (xCall (oStrN (("Saying", F_Saying_str) :: [])) (xsCons (xVar 3) xsNil))))
    (sSeq (sRet (xAnd (xBin (oEq (("Chart", F_Chart_eq) :: (("Saying", F_Saying_eq) :: []))) (xCall (oStrN (("Saying", F_Saying_str) :: [])) (xsCons (xVar 0) xsNil)) (xVar 6)) (xAnd (xBin (oEq (("Chart", F_Chart_eq) :: (("Saying", F_Saying_eq) :: []))) (xFn F_Saying_read (xsCons (xVar 6) xsNil)) (xVar 0)) (xBin (oEq (("Chart", F_Chart_eq) :: (("Saying", F_Saying_eq) :: []))) (xUn (oFld "terms") (xFnP F_Saying_read gd_Saying_read_0_text xsNil (xsCons (xVar 6) xsNil))) (xVar 4)))))
    sNext))))))
noncomputable def F__law_kept_right : Fn := fnOf 11 p__law_kept_right
theorem ok__law_kept_right {f : Addr} {fd : FuncData} (F : FunA K "_law_kept_right" "_law_kept_right" s__law_kept_right f fd) (B : Bn mg) (hG : Gok (gm K mg)) (Q_Saying : EqC P w K mg base (gm K mg) 2 "Saying" F_Saying_eq) (Q_Chart : EqC P w K mg base (gm K mg) 2 "Chart" F_Chart_eq) (S_Saying : StC P w K mg base (gm K mg) 2 "Saying" F_Saying_str) (T_Saying_read : Sm P w K mg base (gm K mg) 9 "Saying" "read" ["text"] F_Saying_read) (T_gd_Saying_read_0_text : SmP P w K mg base (gm K mg) 9 "Saying" "read" ["text"] ["text"] gd_Saying_read_0_text F_Saying_read) : FnOk P w K mg base (L2.CX P w) 10 f fd ["_law_saying", "_law_terms_here", "_law_word", "_law_number"] (spT (gm K mg) F__law_kept_right 4) := by
  have nd := (sc__law_kept_right).nd
  exact fn_ok F sc__law_kept_right fun cdv A outer s H E hr =>
      (st_cons (st_set 4 nd (te_callTy ot_tuple rfl B.tuple (by decide +kernel) (ta_cons (te_lc (own := [("_law_k", 7), ("_law_step_here", 8), ("_law_its", 9)]) rfl nd (wt_of (te_var 1)) (blkOk_by (N := n__law_kept_right) (sc := defScope s__law_kept_right) (by decide +kernel)) (fun _ _ _ _ _ => (gt_tup rfl (gts_cons (gt_name 7 nd) (gts_cons (gt_name 8 nd) (gts_cons (gt_name 9 nd) gts_nil))))) (fun _ _ _ _ _ => (te_tup (ta_cons (te_var 7) (ta_cons (te_callTy ot_tuple rfl B.tuple (by decide +kernel) (ta_cons (te_var 8) ta_nil)) (ta_cons (te_callTy ot_tuple rfl B.tuple (by decide +kernel) (ta_cons (te_var 9) ta_nil)) ta_nil)))))) ta_nil)))
      (st_cons (st_if (PW.pt (cw_or (ct_cmp ((ot_neI Q_Chart hG (hr.mono (by decide)) ((ot_neI Q_Saying hG (hr.mono (by decide)) (ot_neD (hu64 hr))).choose_spec)).choose_spec) (te_fld "terms" hG (te_var 0)) (te_var 4) (nomark _)) (cw_or (ct_not (ct_tru (te_isi .tuple hG B.isinstance B.tuple (te_fld "terms" hG (te_var 0)) (pe_bltn (v := .ty "tuple") (by rfl) B.tuple (by decide +kernel) rfl)))) (cw_or (ct_cmp ((ot_neI Q_Chart hG (hr.mono (by decide)) ((ot_neI Q_Saying hG (hr.mono (by decide)) (ot_neD (hu64 hr))).choose_spec)).choose_spec) (te_fld "word" hG (te_var 0)) (te_var 2) (nomark _)) (cw_or1 (ct_cmp ((ot_neI Q_Chart hG (hr.mono (by decide)) ((ot_neI Q_Saying hG (hr.mono (by decide)) (ot_neD (hu64 hr))).choose_spec)).choose_spec) (te_fld "number" hG (te_var 0)) (te_var 3) (nomark _))))))) (st_cons (st_ret te_bl)
      st_nil) st_nil)
      (st_cons (st_if (PW.pt (cw_or (ct_cmp ((ot_neI Q_Chart hG (hr.mono (by decide)) ((ot_neI Q_Saying hG (hr.mono (by decide)) (ot_neD (hu64 hr))).choose_spec)).choose_spec) (te_fld "pins" hG (te_var 0)) (te_op ot_add te_int (te_callB (ot_max (hu3 hr)) rfl B.max (by decide +kernel) (ta_cons (te_lc (own := [("_law_k", 7), ("_law_step_here", 8), ("_law_its", 9)]) rfl nd (wt_of (te_var 1)) (blkOk_by (N := n__law_kept_right) (sc := defScope s__law_kept_right) (by decide +kernel)) (fun _ _ _ _ _ => (gt_tup rfl (gts_cons (gt_name 7 nd) (gts_cons (gt_name 8 nd) (gts_cons (gt_name 9 nd) gts_nil))))) (fun _ _ _ _ _ => (te_callB (ot_max (hu3 hr)) rfl B.max (by decide +kernel) (ta_cons (te_op ot_add (te_callTy ot_list rfl B.list (by decide +kernel) (ta_cons (te_var 8) ta_nil)) (te_callTy ot_list rfl B.list (by decide +kernel) (ta_cons (te_var 9) ta_nil))) ta_nil)))) ta_nil))) (nomark _)) (cw_or1 (ct_tru (te_isi .bl hG B.isinstance B.bool (te_fld "pins" hG (te_var 0)) (pe_bltn (v := .ty "bool") (by rfl) B.bool (by decide +kernel) rfl)))))) (st_cons (st_ret te_bl)
      st_nil) st_nil)
      (st_cons (st_setlc 5 (own := [("_law_k", 7), ("_law_step_here", 8), ("_law_its", 9)]) rfl nd (wt_of (te_var 1)) (blkOk_by (N := n__law_kept_right) (sc := defScope s__law_kept_right) (by decide +kernel)) (fun _ _ _ _ _ => (gt_tup rfl (gts_cons (gt_name 7 nd) (gts_cons (gt_name 8 nd) (gts_cons (gt_name 9 nd) gts_nil))))) (fun _ _ _ _ _ => (te_join te_str (te_op ot_add (te_lst (ta_cons (te_callTy ((ot_strC S_Saying (hr.mono (by decide)) (ot_str0).choose_spec)).choose_spec rfl B.str (by decide +kernel) (ta_cons (te_var 7) ta_nil)) ta_nil)) (te_lc (own := [("_law_pin", 10)]) rfl nd (wt_of (te_op ot_add (te_callTy ot_list rfl B.list (by decide +kernel) (ta_cons (te_var 8) ta_nil)) (te_callTy ot_list rfl B.list (by decide +kernel) (ta_cons (te_var 9) ta_nil)))) (blkOk_by (N := n__law_kept_right) (sc := sc__law_kept_right_0) (by decide +kernel)) (fun _ _ _ _ _ => (gt_name 10 nd)) (fun _ _ _ _ _ => (te_callTy ((ot_strC S_Saying (hr.mono (by decide)) (ot_str0).choose_spec)).choose_spec rfl B.str (by decide +kernel) (ta_cons (te_var 10) ta_nil))))))))
      (st_cons (st_set 6 nd (te_op ot_add (te_op ot_add (te_op ot_add (te_op ot_add (te_join te_str (te_var 5)) te_str) (te_var 2)) te_str) (te_callTy ((ot_strC S_Saying (hr.mono (by decide)) (ot_str0).choose_spec)).choose_spec rfl B.str (by decide +kernel) (ta_cons (te_var 3) ta_nil))))
      (st_cons (st_ret (te_and (te_cmp ((ot_eqI Q_Chart hG (hr.mono (by decide)) ((ot_eqI Q_Saying hG (hr.mono (by decide)) (ot_eqD (hu64 hr))).choose_spec)).choose_spec) (te_callTy ((ot_strC S_Saying (hr.mono (by decide)) (ot_str0).choose_spec)).choose_spec rfl B.str (by decide +kernel) (ta_cons (te_var 0) ta_nil)) (te_var 6) (nomark _)) (te_and (te_cmp ((ot_eqI Q_Chart hG (hr.mono (by decide)) ((ot_eqI Q_Saying hG (hr.mono (by decide)) (ot_eqD (hu64 hr))).choose_spec)).choose_spec) (te_sm T_Saying_read (hr.mono (by decide)) pdef (ta_cons (te_var 6) ta_nil)) (te_var 0) (nomark _)) (pe_one (te_cmp ((ot_eqI Q_Chart hG (hr.mono (by decide)) ((ot_eqI Q_Saying hG (hr.mono (by decide)) (ot_eqD (hu64 hr))).choose_spec)).choose_spec) (te_fld "terms" hG (te_smP T_gd_Saying_read_0_text (hr.mono (by decide)) pdef (tk_cons (te_var 6) tk_nil))) (te_var 4) (nomark _))))))
      st_nil))))))
abbrev s__law_told_right : Stmt := top 60
abbrev n__law_told_right : List Str := ["_law_pot_here", "_law_pins", "_law_terms_here", "_law_number", "_law_rows_here", "_law_by", "_law_chart_here", "_law_total_here", "_law_word", "_law_handed", "_law_saying", "_law_others", "_law_times", "_law_more", "_law_turned", "_law_k", "_law_step_here", "_law_its", "_law_other", "_law_one"]
abbrev sc__law_told_right_0 : Scope := { kind := .function, names := [(".0", .local), ("_law_k", .local), ("_law_step_here", .local), ("_law_its", .local), ("_law_times", .cell)], isGenerator := false, isCoroutine := false }
abbrev sc__law_told_right_1 : Scope := { kind := .function, names := [(".0", .local), ("_law_one", .local), ("_law_chart_here", .cell)], isGenerator := false, isCoroutine := false }
abbrev sc__law_told_right_2 : Scope := { kind := .function, names := [(".0", .local), ("_law_other", .local), ("_law_number", .cell), ("_law_saying", .cell)], isGenerator := false, isCoroutine := false }
abbrev sc__law_told_right_3 : Scope := { kind := .function, names := [(".0", .local), ("_law_other", .local)], isGenerator := false, isCoroutine := false }
abbrev sc__law_told_right_4 : Scope := { kind := .function, names := [(".0", .local), ("_law_one", .local), ("_law_word", .cell)], isGenerator := false, isCoroutine := false }
abbrev sc__law_told_right_5 : Scope := { kind := .function, names := [(".0", .local), ("_law_k", .local), ("_law_step_here", .local), ("_law_its", .local), ("list", .globalImplicit)], isGenerator := false, isCoroutine := false }
theorem sc__law_told_right : FnScope n__law_told_right ["_law_pot_here", "_law_pins", "_law_terms_here", "_law_number"] (defScope s__law_told_right) := ⟨rfl, rfl, rfl, by decide +kernel, rfl, by decide +kernel, by decide +kernel⟩
noncomputable def p__law_told_right : TSt :=
    (sSeq (sAsg (xTup (xsCons (xFn F__law_rows (xsCons (xVar 0) (xsCons (xBin oSub (xVar 1) (xC (.int 1))) xsNil))) (xsCons (xBin oAdd (xC (.int 1)) (xFn F__law_dip (xsCons (xVar 0) (xsCons (xC (.int 6)) xsNil)))) xsNil))) (tTup [(tName 4), (tName 5)]))
    (sSeq (sAsg (xTup (xsCons (xFn F__law_chart (xsCons (xVar 4) (xsCons (xVar 5) xsNil))) (xsCons (xFn F__law_total (xsCons (xVar 4) (xsCons (xVar 5) (xsCons (xVar 2) xsNil)))) xsNil))) (tTup [(tName 6), (tName 7)]))
    (sSeq (sSet 3 (xIf (cB (xBin oGt (xFn F__law_dip (xsCons (xVar 0) (xsCons (xC (.int 3)) xsNil))) (xC (.int 0)))) (xBin oAdd (xBin oDiv (xBin oIx (xVar 7) (xC (.int 0))) (xBin oIx (xVar 7) (xC (.int 1)))) (xVar 3)) (xVar 3)))
    (sSeq (sSet 8 (xFn F__law_pick (xsCons (xVar 0) (xsCons (xLst (xsCons (xC (.str (Str.ofString "above"))) (xsCons (xC (.str (Str.ofString "below"))) (xsCons (xC (.str (Str.ofString "just"))) xsNil)))) xsNil))))
    (sSeq (sSet 9 (xLcH (wOf (xVar 2)) (tTup [(tName 15), (tName 16), (tName 17)]) cYes (xLst (xsCons (xVar 15) (xsCons (xCall oListH (xsCons (xVar 16) xsNil)) (xsCons (xVar 17) xsNil)))) [15, 16, 17]))
    (sSeq (sSet 10 (xNew "Saying" F_Saying_init (xsCons (xVar 9) (xsCons (xVar 8) (xsCons (xVar 3) xsNil)))))
    (sSeq (sAsg (xC (.int 9)) (tSub (xBin oIx (xBin oIx (xVar 9) (xC (.int 0))) (xC (.int 1))) (xC (.int 0))))
    (sSeq (sExpr (xApp (xVar 9) (xC .non)))
    (sSeq (sIf (cOr (cNot (cTru (xFn F__law_kept_right (xsCons (xVar 10) (xsCons (xVar 2) (xsCons (xVar 8) (xsCons (xVar 3) xsNil))))))) (cB (xBin (oNe (("Chart", F_Chart_eq) :: (("Saying", F_Saying_eq) :: []))) (xNewP "Saying" F_Saying_init gd_Saying_init_0_number_word_terms xsNil (xsCons (xVar 3) (xsCons (xVar 8) (xsCons (xCall oTuple (xsCons (xVar 2) xsNil)) xsNil)))) (xVar 10)))) (sSeq (sRet (xC (.bl false)))
    sNext) sNext)
    (sSeq (sIf (cOr (cB (xBin (oNe (("Chart", F_Chart_eq) :: (("Saying", F_Saying_eq) :: []))) (xMeth [("Saying", F_Saying_value)] "value" (xVar 10) (xsCons (xVar 6) xsNil)) (xVar 7))) (cOr (cNot (cTru (xUn (oIsi [.tuple]) (xMethP [("Saying", F_Saying_value)] "value" gd_Saying_value_0_chart (xVar 10) (xsCons (xVar 6) xsNil))))) (cNot (cTru (xUn (oIsi [.bl]) (xMeth [("Saying", F_Saying_holds)] "holds" (xVar 10) (xsCons (xVar 6) xsNil))))))) (sSeq (sRet (xC (.bl false)))
    sNext) sNext)
    (sSeq (sIf (cB (xBin (oNe (("Chart", F_Chart_eq) :: (("Saying", F_Saying_eq) :: []))) (xMeth [("Saying", F_Saying_holds)] "holds" (xVar 10) (xsCons (xVar 6) xsNil)) (xFn F__law_is_so (xsCons (xVar 7) (xsCons (xVar 8) (xsCons (xVar 3) xsNil)))))) (sSeq (sRet (xC (.bl false)))
    sNext) sNext)
    (sSeq (sSet 11 (xMeth [("Saying", F_Saying_others)] "others" (xVar 10) xsNil))
    (sSeq (sIf (cOr (cNot (cTru (xUn (oIsi [.tuple]) (xVar 11)))) (cB (xBin (oNe (("Chart", F_Chart_eq) :: (("Saying", F_Saying_eq) :: []))) (xLc (wOf (xVar 11)) (tName 18) cYes (xUn (oFld "word") (xVar 18)) [18]) (xLc (wOf (xTup (xsCons (xC (.str (Str.ofString "above"))) (xsCons (xC (.str (Str.ofString "below"))) (xsCons (xC (.str (Str.ofString "just"))) xsNil))))) (tName 19) (cB (xBin (oNe (("Chart", F_Chart_eq) :: (("Saying", F_Saying_eq) :: []))) (xVar 19) (xVar 8))) (xVar 19) [19])))) (sSeq (sRet (xC (.bl false)))
    sNext) sNext)
    (sSeq (sIf (cB (xBin (oNe (("Chart", F_Chart_eq) :: (("Saying", F_Saying_eq) :: []))) (xLc (wOf (xVar 11)) (tName 18) (cOr (cB (xBin (oNe (("Chart", F_Chart_eq) :: (("Saying", F_Saying_eq) :: []))) (xUn (oFld "terms") (xVar 18)) (xUn (oFld "terms") (xVar 10)))) (cOr (cB (xBin (oNe (("Chart", F_Chart_eq) :: (("Saying", F_Saying_eq) :: []))) (xUn (oFld "number") (xVar 18)) (xVar 3))) (cB (xBin (oEq (("Chart", F_Chart_eq) :: (("Saying", F_Saying_eq) :: []))) (xVar 18) (xVar 10))))) (xVar 18) [18]) (xLst xsNil))) (sSeq (sRet (xC (.bl false)))
    sNext) sNext)
    (sSeq (sIf (cOr (cB (xBin (oNe (("Chart", F_Chart_eq) :: (("Saying", F_Saying_eq) :: []))) (xCall oLen (xsCons (xLc (wOf (xBin oAdd (xLst (xsCons (xVar 10) xsNil)) (xCall oList (xsCons (xVar 11) xsNil)))) (tName 19) (cTru (xMethP [("Saying", F_Saying_holds)] "holds" gd_Saying_holds_0_chart (xVar 19) (xsCons (xVar 6) xsNil))) (xVar 19) [19]) xsNil)) (xC (.int 1)))) (cB (xBin (oEq (("Chart", F_Chart_eq) :: (("Saying", F_Saying_eq) :: []))) (xNew "Saying" F_Saying_init (xsCons (xVar 2) (xsCons (xVar 8) (xsCons (xBin oAdd (xVar 3) (xC (.int 1))) xsNil)))) (xVar 10)))) (sSeq (sRet (xC (.bl false)))
    sNext) sNext)
    (sSeq (sSet 12 (xFn F__law_pick (xsCons (xVar 0) (xsCons (xLst (xsCons (xC (.int 1)) (xsCons (xC (.int 2)) (xsCons (xUn oNeg (xC (.int 1))) (xsCons (xUn oNeg (xC (.int 3))) (xsCons (xBin oPow (xC (.int 10)) (xC (.int 20))) xsNil)))))) xsNil))))
    (sSeq (sSet 13 (xMeth [("Saying", F_Saying_times)] "times" (xVar 10) (xsCons (xVar 12) xsNil)))
    (sSeq (sIf (cOr (cB (xBin (oNe (("Chart", F_Chart_eq) :: (("Saying", F_Saying_eq) :: []))) (xUn (oFld "terms") (xVar 13)) (xCall oTuple (xsCons (xLc (wOf (xUn (oFld "terms") (xVar 10))) (tTup [(tName 15), (tName 16), (tName 17)]) cYes (xTup (xsCons (xBin oMulT (xVar 12) (xVar 15)) (xsCons (xVar 16) (xsCons (xVar 17) xsNil)))) [15, 16, 17]) xsNil)))) (cB (xBin (oNe (("Chart", F_Chart_eq) :: (("Saying", F_Saying_eq) :: []))) (xUn (oFld "number") (xVar 13)) (xBin oMulT (xVar 12) (xVar 3))))) (sSeq (sRet (xC (.bl false)))
    sNext) sNext)
    (sSeq (sSet 14 (xIf (cB (xBin oLt (xVar 12) (xC (.int 0)))) (xBin oDix (xDct [.inr (Str.ofString "above"), .inr (Str.ofString "below"), .inr (Str.ofString "just")] [.str (Str.ofString "below"), .str (Str.ofString "above"), .str (Str.ofString "just")]) (xVar 8)) (xVar 8)))
    (sSeq (sRet (xAnd (xBin (oEq (("Chart", F_Chart_eq) :: (("Saying", F_Saying_eq) :: []))) (xUn (oFld "word") (xVar 13)) (xVar 14)) (xAnd (xBin (oEq (("Chart", F_Chart_eq) :: (("Saying", F_Saying_eq) :: []))) (xMeth [("Saying", F_Saying_holds)] "holds" (xVar 13) (xsCons (xVar 6) xsNil)) (xMeth [("Saying", F_Saying_holds)] "holds" (xVar 10) (xsCons (xVar 6) xsNil))) (xBin (oEq (("Chart", F_Chart_eq) :: (("Saying", F_Saying_eq) :: []))) (xMethP [("Saying", F_Saying_times)] "times" gd_Saying_times_0_number (xVar 10) (xsCons (xVar 12) xsNil)) (xVar 13)))))
    sNext))))))))))))))))))))
noncomputable def F__law_told_right : Fn := fnOf 20 p__law_told_right
theorem ok__law_told_right {f : Addr} {fd : FuncData} (F : FunA K "_law_told_right" "_law_told_right" s__law_told_right f fd) (B : Bn mg) (hG : Gok (gm K mg)) (Q_Saying : EqC P w K mg base (gm K mg) 2 "Saying" F_Saying_eq) (Q_Chart : EqC P w K mg base (gm K mg) 2 "Chart" F_Chart_eq) (N_Saying_holds : Mt P w K mg base (gm K mg) 6 "Saying" "holds" ["self", "chart"] F_Saying_holds) (N_Saying_gd_Saying_times_0_number : MtP P w K mg base (gm K mg) 8 "Saying" "times" ["self", "number"] ["number"] gd_Saying_times_0_number F_Saying_times) (N_Saying_times : Mt P w K mg base (gm K mg) 8 "Saying" "times" ["self", "number"] F_Saying_times) (C__law_pick : Cl P w K mg base (gm K mg) 6 "_law_pick" ["_law_pot_here", "_law_some"] F__law_pick) (N_Saying_gd_Saying_holds_0_chart : MtP P w K mg base (gm K mg) 6 "Saying" "holds" ["self", "chart"] ["chart"] gd_Saying_holds_0_chart F_Saying_holds) (M_Saying : Mc P w K mg base (gm K mg) 6 "Saying" ["self", "terms", "word", "number"] F_Saying_init) (N_Saying_others : Mt P w K mg base (gm K mg) 8 "Saying" "others" ["self"] F_Saying_others) (C__law_is_so : Cl P w K mg base (gm K mg) 5 "_law_is_so" ["_law_total_here", "_law_word", "_law_number"] F__law_is_so) (N_Saying_value : Mt P w K mg base (gm K mg) 5 "Saying" "value" ["self", "chart"] F_Saying_value) (N_Saying_gd_Saying_value_0_chart : MtP P w K mg base (gm K mg) 5 "Saying" "value" ["self", "chart"] ["chart"] gd_Saying_value_0_chart F_Saying_value) (C__law_kept_right : Cl P w K mg base (gm K mg) 10 "_law_kept_right" ["_law_saying", "_law_terms_here", "_law_word", "_law_number"] F__law_kept_right) (M_Saying_gd_Saying_init_0_number_word_terms : McP P w K mg base (gm K mg) 6 "Saying" ["self", "terms", "word", "number"] 0 ["number", "word", "terms"] gd_Saying_init_0_number_word_terms F_Saying_init) (C__law_dip : Cl P w K mg base (gm K mg) 5 "_law_dip" ["_law_pot_here", "_law_many"] F__law_dip) (C__law_total : Cl P w K mg base (gm K mg) 4 "_law_total" ["_law_rows_here", "_law_by", "_law_terms_here"] F__law_total) (C__law_chart : Cl P w K mg base (gm K mg) 7 "_law_chart" ["_law_rows_here", "_law_by"] F__law_chart) (C__law_rows : Cl P w K mg base (gm K mg) 7 "_law_rows" ["_law_pot_here", "_law_many"] F__law_rows) : FnOk P w K mg base (L2.CX P w) 11 f fd ["_law_pot_here", "_law_pins", "_law_terms_here", "_law_number"] (spT (gm K mg) F__law_told_right 4) := by
  have nd := (sc__law_told_right).nd
  exact fn_ok F sc__law_told_right fun cdv A outer s H E hr =>
      (st_cons (st_par2 4 5 nd (ta_cons (te_call C__law_rows (hr.mono (by decide)) pdef (ta_cons (te_var 0) (ta_cons (te_op ot_sub (te_var 1) te_int) ta_nil))) (ta_cons (te_op ot_add te_int (te_call C__law_dip (hr.mono (by decide)) pdef (ta_cons (te_var 0) (ta_cons te_int ta_nil)))) ta_nil)))
      (st_cons (st_asg (te_tup (ta_cons (te_call C__law_chart (hr.mono (by decide)) pdef (ta_cons (te_var 4) (ta_cons (te_var 5) ta_nil))) (ta_cons (te_call C__law_total (hr.mono (by decide)) pdef (ta_cons (te_var 4) (ta_cons (te_var 5) (ta_cons (te_var 2) ta_nil)))) ta_nil))) (gt_tup rfl (gts_cons (gt_name 6 nd) (gts_cons (gt_name 7 nd) gts_nil))))
      (st_cons (st_set 3 nd (te_if (ct_cmp ot_gt (te_call C__law_dip (hr.mono (by decide)) pdef (ta_cons (te_var 0) (ta_cons te_int ta_nil))) te_int (nomark _)) (te_op ot_add (te_op ot_div (te_ix (te_var 7) te_int) (te_ix (te_var 7) te_int)) (te_var 3)) (te_var 3)))
      (st_cons (st_set 8 nd (te_call C__law_pick (hr.mono (by decide)) pdef (ta_cons (te_var 0) (ta_cons (te_lst (ta_cons te_str (ta_cons te_str (ta_cons te_str ta_nil)))) ta_nil))))
      (st_cons (st_setlcH 9 (own := [("_law_k", 15), ("_law_step_here", 16), ("_law_its", 17)]) rfl nd (wt_of (te_var 2)) (blkOk_by (N := n__law_told_right) (sc := defScope s__law_told_right) (by decide +kernel)) (fun _ _ _ _ _ => (gt_tup rfl (gts_cons (gt_name 15 nd) (gts_cons (gt_name 16 nd) (gts_cons (gt_name 17 nd) gts_nil))))) (fun _ _ _ _ _ => (te_lst (ta_cons (te_var 15) (ta_cons (te_callTy ot_listH rfl B.list (by decide +kernel) (ta_cons (te_var 16) ta_nil)) (ta_cons (te_var 17) ta_nil))))))
      (st_cons (st_set 10 nd (te_make M_Saying (hr.mono (by decide)) pdef (ta_cons (te_var 9) (ta_cons (te_var 8) (ta_cons (te_var 3) ta_nil)))))
      (st_cons (st_asg te_int (gt_sub (te_ix (te_ix (te_var 9) te_int) te_int) te_int))
      (st_cons (st_expr (te_append (te_var 9) te_non))
      (st_cons (st_if (PW.pt (cw_or (ct_not (ct_tru (te_call C__law_kept_right (hr.mono (by decide)) pdef (ta_cons (te_var 10) (ta_cons (te_var 2) (ta_cons (te_var 8) (ta_cons (te_var 3) ta_nil))))))) (cw_or1 (ct_cmp ((ot_neI Q_Chart hG (hr.mono (by decide)) ((ot_neI Q_Saying hG (hr.mono (by decide)) (ot_neD (hu64 hr))).choose_spec)).choose_spec) (te_makeP0 M_Saying_gd_Saying_init_0_number_word_terms (hr.mono (by decide)) pdef (tk_cons (te_var 3) (tk_cons (te_var 8) (tk_cons (te_callTy ot_tuple rfl B.tuple (by decide +kernel) (ta_cons (te_var 2) ta_nil)) tk_nil)))) (te_var 10) (nomark _))))) (st_cons (st_ret te_bl)
      st_nil) st_nil)
      (st_cons (st_if (PW.pt (cw_or (ct_cmp ((ot_neI Q_Chart hG (hr.mono (by decide)) ((ot_neI Q_Saying hG (hr.mono (by decide)) (ot_neD (hu64 hr))).choose_spec)).choose_spec) (te_meth N_Saying_value hG (te_var 10) (hr.mono (by decide)) pdef (ta_cons (te_var 6) ta_nil)) (te_var 7) (nomark _)) (cw_or (ct_not (ct_tru (te_isi .tuple hG B.isinstance B.tuple (te_methP N_Saying_gd_Saying_value_0_chart hG (te_var 10) (hr.mono (by decide)) pdef (tk_cons (te_var 6) tk_nil)) (pe_bltn (v := .ty "tuple") (by rfl) B.tuple (by decide +kernel) rfl)))) (cw_or1 (ct_not (ct_tru (te_isi .bl hG B.isinstance B.bool (te_meth N_Saying_holds hG (te_var 10) (hr.mono (by decide)) pdef (ta_cons (te_var 6) ta_nil)) (pe_bltn (v := .ty "bool") (by rfl) B.bool (by decide +kernel) rfl)))))))) (st_cons (st_ret te_bl)
      st_nil) st_nil)
      (st_cons (st_if (ct_cmp ((ot_neI Q_Chart hG (hr.mono (by decide)) ((ot_neI Q_Saying hG (hr.mono (by decide)) (ot_neD (hu64 hr))).choose_spec)).choose_spec) (te_meth N_Saying_holds hG (te_var 10) (hr.mono (by decide)) pdef (ta_cons (te_var 6) ta_nil)) (te_call C__law_is_so (hr.mono (by decide)) pdef (ta_cons (te_var 7) (ta_cons (te_var 8) (ta_cons (te_var 3) ta_nil)))) (nomark _)) (st_cons (st_ret te_bl)
      st_nil) st_nil)
      (st_cons (st_set 11 nd (te_meth0 N_Saying_others hG (te_var 10) (hr.mono (by decide)) pdef))
      (st_cons (st_if (PW.pt (cw_or (ct_not (ct_tru (te_isi .tuple hG B.isinstance B.tuple (te_var 11) (pe_bltn (v := .ty "tuple") (by rfl) B.tuple (by decide +kernel) rfl)))) (cw_or1 (ct_cmp ((ot_neI Q_Chart hG (hr.mono (by decide)) ((ot_neI Q_Saying hG (hr.mono (by decide)) (ot_neD (hu64 hr))).choose_spec)).choose_spec) (te_lc (own := [("_law_other", 18)]) rfl nd (wt_of (te_var 11)) (blkOk_by (N := n__law_told_right) (sc := defScope s__law_told_right) (by decide +kernel)) (fun _ _ _ _ _ => (gt_name 18 nd)) (fun _ _ _ _ _ => (te_fld "word" hG (te_var 18)))) (te_lcC (own := [("_law_one", 19)]) rfl nd (wt_of (te_tup (ta_cons te_str (ta_cons te_str (ta_cons te_str ta_nil))))) (blkOk_by (N := n__law_told_right) (sc := defScope s__law_told_right) (by decide +kernel)) (fun _ _ _ _ _ => (gt_name 19 nd)) (fun _ _ _ _ _ => (ct_cmp ((ot_neI Q_Chart hG (hr.mono (by decide)) ((ot_neI Q_Saying hG (hr.mono (by decide)) (ot_neD (hu64 hr))).choose_spec)).choose_spec) (te_var 19) (te_var 8) (nomark _))) (fun _ _ _ _ _ => (te_var 19))) (nomark _))))) (st_cons (st_ret te_bl)
      st_nil) st_nil)
      (st_cons (st_if (ct_cmp ((ot_neI Q_Chart hG (hr.mono (by decide)) ((ot_neI Q_Saying hG (hr.mono (by decide)) (ot_neD (hu64 hr))).choose_spec)).choose_spec) (te_lcC (own := [("_law_other", 18)]) rfl nd (wt_of (te_var 11)) (blkOk_by (N := n__law_told_right) (sc := defScope s__law_told_right) (by decide +kernel)) (fun _ _ _ _ _ => (gt_name 18 nd)) (fun _ _ _ _ _ => (PW.pt (cw_or (ct_cmp ((ot_neI Q_Chart hG (hr.mono (by decide)) ((ot_neI Q_Saying hG (hr.mono (by decide)) (ot_neD (hu64 hr))).choose_spec)).choose_spec) (te_fld "terms" hG (te_var 18)) (te_fld "terms" hG (te_var 10)) (nomark _)) (cw_or (ct_cmp ((ot_neI Q_Chart hG (hr.mono (by decide)) ((ot_neI Q_Saying hG (hr.mono (by decide)) (ot_neD (hu64 hr))).choose_spec)).choose_spec) (te_fld "number" hG (te_var 18)) (te_var 3) (nomark _)) (cw_or1 (ct_cmp ((ot_eqI Q_Chart hG (hr.mono (by decide)) ((ot_eqI Q_Saying hG (hr.mono (by decide)) (ot_eqD (hu64 hr))).choose_spec)).choose_spec) (te_var 18) (te_var 10) (nomark _))))))) (fun _ _ _ _ _ => (te_var 18))) (te_lst ta_nil) (nomark _)) (st_cons (st_ret te_bl)
      st_nil) st_nil)
      (st_cons (st_if (PW.pt (cw_or (ct_cmp ((ot_neI Q_Chart hG (hr.mono (by decide)) ((ot_neI Q_Saying hG (hr.mono (by decide)) (ot_neD (hu64 hr))).choose_spec)).choose_spec) (te_callB ot_len rfl B.len (by decide +kernel) (ta_cons (te_lcC (own := [("_law_one", 19)]) rfl nd (wt_of (te_op ot_add (te_lst (ta_cons (te_var 10) ta_nil)) (te_callTy ot_list rfl B.list (by decide +kernel) (ta_cons (te_var 11) ta_nil)))) (blkOk_by (N := n__law_told_right) (sc := defScope s__law_told_right) (by decide +kernel)) (fun _ _ _ _ _ => (gt_name 19 nd)) (fun _ _ _ _ _ => (ct_tru (te_methP N_Saying_gd_Saying_holds_0_chart hG (te_var 19) (hr.mono (by decide)) passL (tk_cons (te_var 6) tk_nil)))) (fun _ _ _ _ _ => (te_var 19))) ta_nil)) te_int (nomark _)) (cw_or1 (ct_cmp ((ot_eqI Q_Chart hG (hr.mono (by decide)) ((ot_eqI Q_Saying hG (hr.mono (by decide)) (ot_eqD (hu64 hr))).choose_spec)).choose_spec) (te_make M_Saying (hr.mono (by decide)) pdef (ta_cons (te_var 2) (ta_cons (te_var 8) (ta_cons (te_op ot_add (te_var 3) te_int) ta_nil)))) (te_var 10) (nomark _))))) (st_cons (st_ret te_bl)
      st_nil) st_nil)
      (st_cons (st_set 12 nd (te_call C__law_pick (hr.mono (by decide)) pdef (ta_cons (te_var 0) (ta_cons (te_lst (ta_cons te_int (ta_cons te_int (ta_cons (te_neg te_int) (ta_cons (te_neg te_int) (ta_cons (te_op ot_pow te_int te_int) ta_nil)))))) ta_nil))))
      (st_cons (st_set 13 nd (te_meth N_Saying_times hG (te_var 10) (hr.mono (by decide)) pdef (ta_cons (te_var 12) ta_nil)))
      (st_cons (st_if (PW.pt (cw_or (ct_cmp ((ot_neI Q_Chart hG (hr.mono (by decide)) ((ot_neI Q_Saying hG (hr.mono (by decide)) (ot_neD (hu64 hr))).choose_spec)).choose_spec) (te_fld "terms" hG (te_var 13)) (te_callTy ot_tuple rfl B.tuple (by decide +kernel) (ta_cons (te_lc (own := [("_law_k", 15), ("_law_step_here", 16), ("_law_its", 17)]) rfl nd (wt_of (te_fld "terms" hG (te_var 10))) (blkOk_by (N := n__law_told_right) (sc := defScope s__law_told_right) (by decide +kernel)) (fun _ _ _ _ _ => (gt_tup rfl (gts_cons (gt_name 15 nd) (gts_cons (gt_name 16 nd) (gts_cons (gt_name 17 nd) gts_nil))))) (fun _ _ _ _ _ => (te_tup (ta_cons (te_op ot_mul (te_var 12) (te_var 15)) (ta_cons (te_var 16) (ta_cons (te_var 17) ta_nil)))))) ta_nil)) (nomark _)) (cw_or1 (ct_cmp ((ot_neI Q_Chart hG (hr.mono (by decide)) ((ot_neI Q_Saying hG (hr.mono (by decide)) (ot_neD (hu64 hr))).choose_spec)).choose_spec) (te_fld "number" hG (te_var 13)) (te_op ot_mul (te_var 12) (te_var 3)) (nomark _))))) (st_cons (st_ret te_bl)
      st_nil) st_nil)
      (st_cons (st_set 14 nd (te_if (ct_cmp ot_lt (te_var 12) te_int (nomark _)) (te_dix (hu65 hr) (te_dct [.inr (Str.ofString "above"), .inr (Str.ofString "below"), .inr (Str.ofString "just")] [.str (Str.ofString "below"), .str (Str.ofString "above"), .str (Str.ofString "just")] [.str (Str.ofString "below"), .str (Str.ofString "above"), .str (Str.ofString "just")] (pps_cons pe_str pe_str (pps_cons pe_str pe_str (pps_cons pe_str pe_str pps_nil))) (fun _ _ => ⟨_, _, rfl, rfl, ⟨_, _, rfl, rfl, ⟨_, _, rfl, rfl, rfl⟩⟩⟩) (by decide +kernel) rfl (by decide) rfl rfl (fun z => by cases z) (by decide)) (te_var 8)) (te_var 8)))
      (st_cons (st_ret (te_and (te_cmp ((ot_eqI Q_Chart hG (hr.mono (by decide)) ((ot_eqI Q_Saying hG (hr.mono (by decide)) (ot_eqD (hu64 hr))).choose_spec)).choose_spec) (te_fld "word" hG (te_var 13)) (te_var 14) (nomark _)) (te_and (te_cmp ((ot_eqI Q_Chart hG (hr.mono (by decide)) ((ot_eqI Q_Saying hG (hr.mono (by decide)) (ot_eqD (hu64 hr))).choose_spec)).choose_spec) (te_meth N_Saying_holds hG (te_var 13) (hr.mono (by decide)) pdef (ta_cons (te_var 6) ta_nil)) (te_meth N_Saying_holds hG (te_var 10) (hr.mono (by decide)) pdef (ta_cons (te_var 6) ta_nil)) (nomark _)) (pe_one (te_cmp ((ot_eqI Q_Chart hG (hr.mono (by decide)) ((ot_eqI Q_Saying hG (hr.mono (by decide)) (ot_eqD (hu64 hr))).choose_spec)).choose_spec) (te_methP N_Saying_gd_Saying_times_0_number hG (te_var 10) (hr.mono (by decide)) pdef (tk_cons (te_var 12) tk_nil)) (te_var 13) (nomark _))))))
      st_nil))))))))))))))))))))
abbrev s_law : Stmt := top 63
abbrev n_law : List Str := ["_law_script", "_law_pot_here", "_law_turn", "_law_pins", "_law_terms_here", "_law_number"]
theorem sc_law : FnScope n_law ["_law_script"] (defScope s_law) := ⟨rfl, rfl, rfl, by decide +kernel, rfl, by decide +kernel, by decide +kernel⟩
noncomputable def p_law : TSt :=
    (sSeq (sSet 1 (xFn F__law_pot (xsCons (xVar 0) xsNil)))
    (sSeq (sFor (wRng1 (xsCons (xC (.int 3)) xsNil)) (tName 2) (sSeq (sSet 3 (xFn F__law_pick (xsCons (xVar 1) (xsCons (xLst (xsCons (xC (.int 4)) (xsCons (xC (.int 5)) (xsCons (xC (.int 7)) (xsCons (xC (.int 4)) (xsCons (xC (.int 3)) (xsCons (xC (.int 6)) xsNil))))))) xsNil))))
    (sSeq (sSet 4 (xFn F__law_terms (xsCons (xVar 1) (xsCons (xVar 3) xsNil))))
    (sSeq (sIf (cB (xBin (oEq (("Chart", F_Chart_eq) :: (("Saying", F_Saying_eq) :: []))) (xFn F__law_dip (xsCons (xVar 1) (xsCons (xC (.int 6)) xsNil))) (xC (.int 0)))) (sSeq (sSet 4 (xSl (xBin oAdd (xBin oAdd (xVar 4) (xLst (xsCons (xTup (xsCons (xBin oSub (xFn F__law_dip (xsCons (xVar 1) (xsCons (xBin oAdd (xBin oMulT (xC (.int 2)) (xBin oPow (xC (.int 10)) (xC (.int 9)))) (xC (.int 1))) xsNil))) (xBin oPow (xC (.int 10)) (xC (.int 9)))) (xsCons (xFn F__law_step (xsCons (xVar 1) (xsCons (xVar 3) xsNil))) (xsCons (xFn F__law_step (xsCons (xVar 1) (xsCons (xVar 3) xsNil))) xsNil)))) xsNil))) (xBin oMulT (xVar 4) (xC (.int 12)))) pNo (pAt (xC (.int 12)))))
    sNext) sNext)
    (sSeq (sSet 5 (xFn F__law_pick (xsCons (xVar 1) (xsCons (xLst (xsCons (xC (.int 0)) (xsCons (xC (.int 1)) (xsCons (xUn oNeg (xC (.int 1))) (xsCons (xC (.int 0)) (xsCons (xC (.int 2)) (xsCons (xBin oPow (xC (.int 10)) (xC (.int 40))) xsNil))))))) xsNil))))
    (sSeq (sIf (cOr (cNot (cTru (xFn F__law_told_right (xsCons (xVar 1) (xsCons (xVar 3) (xsCons (xVar 4) (xsCons (xVar 5) xsNil))))))) (cOr (cNot (cTru (xFn F__law_form_right (xsCons (xVar 1) (xsCons (xVar 3) (xsCons (xVar 4) xsNil)))))) (cNot (cTru (xFn F__law_words_right (xsCons (xVar 1) (xsCons (xVar 3) xsNil))))))) (sSeq (sRet (xC (.bl false)))
    sNext) sNext)
    sNext))))))
    (sSeq (sRet (xC (.bl true)))
    sNext)))
noncomputable def F_law : Fn := fnOfK 6 p_law
theorem ok_law {f : Addr} {fd : FuncData} (F : FunA K "law" "law" s_law f fd) (B : Bn mg) (hG : Gok (gm K mg)) (C__law_told_right : Cl P w K mg base (gm K mg) 11 "_law_told_right" ["_law_pot_here", "_law_pins", "_law_terms_here", "_law_number"] F__law_told_right) (C__law_form_right : Cl P w K mg base (gm K mg) 8 "_law_form_right" ["_law_pot_here", "_law_pins", "_law_terms_here"] F__law_form_right) (C__law_words_right : Cl P w K mg base (gm K mg) 9 "_law_words_right" ["_law_pot_here", "_law_pins"] F__law_words_right) (C__law_pick : Cl P w K mg base (gm K mg) 6 "_law_pick" ["_law_pot_here", "_law_some"] F__law_pick) (Q_Saying : EqC P w K mg base (gm K mg) 2 "Saying" F_Saying_eq) (Q_Chart : EqC P w K mg base (gm K mg) 2 "Chart" F_Chart_eq) (C__law_dip : Cl P w K mg base (gm K mg) 5 "_law_dip" ["_law_pot_here", "_law_many"] F__law_dip) (C__law_step : Cl P w K mg base (gm K mg) 6 "_law_step" ["_law_pot_here", "_law_pins"] F__law_step) (C__law_terms : Cl P w K mg base (gm K mg) 7 "_law_terms" ["_law_pot_here", "_law_pins"] F__law_terms) (C__law_pot : Cl P w K mg base (gm K mg) 2 "_law_pot" ["_law_script"] F__law_pot) : FnOk P w K mg base (L2.CX P w) 12 f fd ["_law_script"] (spT (gm K mg) F_law 1) := by
  have nd := (sc_law).nd
  exact fn_okK F sc_law fun cdv A outer s H E hr =>
      (st_cons (st_set 1 nd (te_call C__law_pot (hr.mono (by decide)) pdef (ta_cons (te_var 0) ta_nil)))
      (st_cons (st_for (passes_of rfl) rfl (wt_rng1 rfl B.range (ta_cons te_int ta_nil)) (gt_name 2 nd) (st_cons (st_set 3 nd (te_call C__law_pick (hr.mono (by decide)) pdef (ta_cons (te_var 1) (ta_cons (te_lst (ta_cons te_int (ta_cons te_int (ta_cons te_int (ta_cons te_int (ta_cons te_int (ta_cons te_int ta_nil))))))) ta_nil))))
      (st_cons (st_set 4 nd (te_call C__law_terms (hr.mono (by decide)) pdef (ta_cons (te_var 1) (ta_cons (te_var 3) ta_nil))))
      (st_cons (st_if (ct_cmp ((ot_eqI Q_Chart hG (hr.mono (by decide)) ((ot_eqI Q_Saying hG (hr.mono (by decide)) (ot_eqD (hu64 hr))).choose_spec)).choose_spec) (te_call C__law_dip (hr.mono (by decide)) pdef (ta_cons (te_var 1) (ta_cons te_int ta_nil))) te_int (nomark _)) (st_cons (st_set 4 nd (te_sl (te_op ot_add (te_op ot_add (te_var 4) (te_lst (ta_cons (te_tup (ta_cons (te_op ot_sub (te_call C__law_dip (hr.mono (by decide)) pdef (ta_cons (te_var 1) (ta_cons (te_op ot_add (te_op ot_mul te_int (te_op ot_pow te_int te_int)) te_int) ta_nil))) (te_op ot_pow te_int te_int)) (ta_cons (te_call C__law_step (hr.mono (by decide)) pdef (ta_cons (te_var 1) (ta_cons (te_var 3) ta_nil))) (ta_cons (te_call C__law_step (hr.mono (by decide)) pdef (ta_cons (te_var 1) (ta_cons (te_var 3) ta_nil))) ta_nil)))) ta_nil))) (te_op ot_mul (te_var 4) te_int)) po2_no (po2_at te_int)))
      st_nil) st_nil)
      (st_cons (st_set 5 nd (te_call C__law_pick (hr.mono (by decide)) pdef (ta_cons (te_var 1) (ta_cons (te_lst (ta_cons te_int (ta_cons te_int (ta_cons (te_neg te_int) (ta_cons te_int (ta_cons te_int (ta_cons (te_op ot_pow te_int te_int) ta_nil))))))) ta_nil))))
      (st_cons (st_if (PW.pt (cw_or (ct_not (ct_tru (te_call C__law_told_right (hr.mono (by decide)) pdef (ta_cons (te_var 1) (ta_cons (te_var 3) (ta_cons (te_var 4) (ta_cons (te_var 5) ta_nil))))))) (cw_or (ct_not (ct_tru (te_call C__law_form_right (hr.mono (by decide)) pdef (ta_cons (te_var 1) (ta_cons (te_var 3) (ta_cons (te_var 4) ta_nil)))))) (cw_or1 (ct_not (ct_tru (te_call C__law_words_right (hr.mono (by decide)) pdef (ta_cons (te_var 1) (ta_cons (te_var 3) ta_nil))))))))) (st_cons (st_ret te_bl)
      st_nil) st_nil)
      st_nil))))))
      (st_cons (st_ret te_bl)
      st_nil)))
end
end G44

namespace G44
open PySem PySem.Spec PyProof.Rows L2 Den
section
variable {P : Program} {w : World} {K : PySem.W.Frag} {mg : Str → Option Value} {base : Heap} {f : Addr} {fd : FuncData}
abbrev se_BadChart : Stmt := inClass (top 5) 0
theorem sce_BadChart : FnScope ["self", "part"] ["self", "part"] (defScope se_BadChart) := ⟨rfl, rfl, rfl, by decide +kernel, rfl, by decide +kernel, by decide +kernel⟩
theorem oke_BadChart {dvs : List V} {kws : List (Str × V)} (F : L2.FunD K "__init__" "BadChart.__init__" (defArgs se_BadChart) (defBody se_BadChart) (defScope se_BadChart) dvs kws f fd) : FnOk P w K mg base CX0 1 f fd ["self", "part"] (spIn1 K "part") := by
  refine F.ok sce_BadChart (fun vs H Q E h => ?_) (fun cdv A outer s H vs Q E hr h => ?_)
  · obtain ⟨a, C, v, rfl, _⟩ := h
    rfl
  · obtain ⟨a, C, v, rfl, T, no, ha, q⟩ := h
    exact ⟨_, pss_one (ps_ost (pv 0) (pv 1)), _, rfl, _, rfl, a, C, rfl, T, no, .inl ⟨ha, q⟩⟩
abbrev se_BadNumber : Stmt := inClass (top 4) 0
theorem sce_BadNumber : FnScope ["self", "part"] ["self", "part"] (defScope se_BadNumber) := ⟨rfl, rfl, rfl, by decide +kernel, rfl, by decide +kernel, by decide +kernel⟩
theorem oke_BadNumber {dvs : List V} {kws : List (Str × V)} (F : L2.FunD K "__init__" "BadNumber.__init__" (defArgs se_BadNumber) (defBody se_BadNumber) (defScope se_BadNumber) dvs kws f fd) : FnOk P w K mg base CX0 1 f fd ["self", "part"] (spIn1 K "part") := by
  refine F.ok sce_BadNumber (fun vs H Q E h => ?_) (fun cdv A outer s H vs Q E hr h => ?_)
  · obtain ⟨a, C, v, rfl, _⟩ := h
    rfl
  · obtain ⟨a, C, v, rfl, T, no, ha, q⟩ := h
    exact ⟨_, pss_one (ps_ost (pv 0) (pv 1)), _, rfl, _, rfl, a, C, rfl, T, no, .inl ⟨ha, q⟩⟩
abbrev se_BadSaying : Stmt := inClass (top 6) 0
theorem sce_BadSaying : FnScope ["self", "part"] ["self", "part"] (defScope se_BadSaying) := ⟨rfl, rfl, rfl, by decide +kernel, rfl, by decide +kernel, by decide +kernel⟩
theorem oke_BadSaying {dvs : List V} {kws : List (Str × V)} (F : L2.FunD K "__init__" "BadSaying.__init__" (defArgs se_BadSaying) (defBody se_BadSaying) (defScope se_BadSaying) dvs kws f fd) : FnOk P w K mg base CX0 1 f fd ["self", "part"] (spIn1 K "part") := by
  refine F.ok sce_BadSaying (fun vs H Q E h => ?_) (fun cdv A outer s H vs Q E hr h => ?_)
  · obtain ⟨a, C, v, rfl, _⟩ := h
    rfl
  · obtain ⟨a, C, v, rfl, T, no, ha, q⟩ := h
    exact ⟨_, pss_one (ps_ost (pv 0) (pv 1)), _, rfl, _, rfl, a, C, rfl, T, no, .inl ⟨ha, q⟩⟩
abbrev se_BadText : Stmt := inClass (top 11) 0
theorem sce_BadText : FnScope ["self", "line", "item"] ["self", "line", "item"] (defScope se_BadText) := ⟨rfl, rfl, rfl, by decide +kernel, rfl, by decide +kernel, by decide +kernel⟩
theorem oke_BadText {dvs : List V} {kws : List (Str × V)} (F : L2.FunD K "__init__" "BadText.__init__" (defArgs se_BadText) (defBody se_BadText) (defScope se_BadText) dvs kws f fd) : FnOk P w K mg base CX0 1 f fd ["self", "line", "item"] (spIn2 K "line" "item") := by
  refine F.ok sce_BadText (fun vs H Q E h => ?_) (fun cdv A outer s H vs Q E hr h => ?_)
  · obtain ⟨a, C, v, u, rfl, _⟩ := h
    rfl
  · obtain ⟨a, C, v, u, rfl, T, no1, no2, ha, q⟩ := h
    refine ⟨_, pss_cons (ps_ost (pv 0) (pv 1)) (pss_one (ps_ost (pv 0) (pv 2))), _, rfl, _, rfl, a, C, rfl, T, no1, .inl ⟨ha, fun dx n ne => ?_⟩⟩
    exact ⟨_, rfl, _, rfl, a, C, rfl, T, no2, .inr ⟨dx, _, upd_same, by rw [upd_ne ne]; exact upd_same, (by show 1 ≤ 900; decide), q dx n ne⟩⟩
abbrev se_Misfit : Stmt := inClass (top 7) 0
theorem sce_Misfit : FnScope ["self", "part"] ["self", "part"] (defScope se_Misfit) := ⟨rfl, rfl, rfl, by decide +kernel, rfl, by decide +kernel, by decide +kernel⟩
theorem oke_Misfit {dvs : List V} {kws : List (Str × V)} (F : L2.FunD K "__init__" "Misfit.__init__" (defArgs se_Misfit) (defBody se_Misfit) (defScope se_Misfit) dvs kws f fd) : FnOk P w K mg base CX0 1 f fd ["self", "part"] (spIn1 K "part") := by
  refine F.ok sce_Misfit (fun vs H Q E h => ?_) (fun cdv A outer s H vs Q E hr h => ?_)
  · obtain ⟨a, C, v, rfl, _⟩ := h
    rfl
  · obtain ⟨a, C, v, rfl, T, no, ha, q⟩ := h
    exact ⟨_, pss_one (ps_ost (pv 0) (pv 1)), _, rfl, _, rfl, a, C, rfl, T, no, .inl ⟨ha, q⟩⟩
abbrev se_Missing : Stmt := inClass (top 8) 0
theorem sce_Missing : FnScope ["self", "value"] ["self", "value"] (defScope se_Missing) := ⟨rfl, rfl, rfl, by decide +kernel, rfl, by decide +kernel, by decide +kernel⟩
theorem oke_Missing {dvs : List V} {kws : List (Str × V)} (F : L2.FunD K "__init__" "Missing.__init__" (defArgs se_Missing) (defBody se_Missing) (defScope se_Missing) dvs kws f fd) : FnOk P w K mg base CX0 1 f fd ["self", "value"] (spIn1 K "value") := by
  refine F.ok sce_Missing (fun vs H Q E h => ?_) (fun cdv A outer s H vs Q E hr h => ?_)
  · obtain ⟨a, C, v, rfl, _⟩ := h
    rfl
  · obtain ⟨a, C, v, rfl, T, no, ha, q⟩ := h
    exact ⟨_, pss_one (ps_ost (pv 0) (pv 1)), _, rfl, _, rfl, a, C, rfl, T, no, .inl ⟨ha, q⟩⟩
abbrev se_TooMany : Stmt := inClass (top 10) 0
theorem sce_TooMany : FnScope ["self", "what", "most"] ["self", "what", "most"] (defScope se_TooMany) := ⟨rfl, rfl, rfl, by decide +kernel, rfl, by decide +kernel, by decide +kernel⟩
theorem oke_TooMany {dvs : List V} {kws : List (Str × V)} (F : L2.FunD K "__init__" "TooMany.__init__" (defArgs se_TooMany) (defBody se_TooMany) (defScope se_TooMany) dvs kws f fd) : FnOk P w K mg base CX0 1 f fd ["self", "what", "most"] (spIn2 K "what" "most") := by
  refine F.ok sce_TooMany (fun vs H Q E h => ?_) (fun cdv A outer s H vs Q E hr h => ?_)
  · obtain ⟨a, C, v, u, rfl, _⟩ := h
    rfl
  · obtain ⟨a, C, v, u, rfl, T, no1, no2, ha, q⟩ := h
    refine ⟨_, pss_cons (ps_ost (pv 0) (pv 1)) (pss_one (ps_ost (pv 0) (pv 2))), _, rfl, _, rfl, a, C, rfl, T, no1, .inl ⟨ha, fun dx n ne => ?_⟩⟩
    exact ⟨_, rfl, _, rfl, a, C, rfl, T, no2, .inr ⟨dx, _, upd_same, by rw [upd_ne ne]; exact upd_same, (by show 1 ≤ 900; decide), q dx n ne⟩⟩
end
def d_is_integer : He5.DefA := ⟨fun K => He.ga K "is_integer", "is_integer", "is_integer", defArgs s_is_integer, defBody s_is_integer, defScope s_is_integer, [], []⟩
def d_is_within : He5.DefA := ⟨fun K => He.ga K "is_within", "is_within", "is_within", defArgs s_is_within, defBody s_is_within, defScope s_is_within, [], []⟩
def d_is_list : He5.DefA := ⟨fun K => He.ga K "is_list", "is_list", "is_list", defArgs s_is_list, defBody s_is_list, defScope s_is_list, [], []⟩
def d_are_integers : He5.DefA := ⟨fun K => He.ga K "are_integers", "are_integers", "are_integers", defArgs s_are_integers, defBody s_are_integers, defScope s_are_integers, [], []⟩
def d_common_divisor : He5.DefA := ⟨fun K => He.ga K "common_divisor", "common_divisor", "common_divisor", defArgs s_common_divisor, defBody s_common_divisor, defScope s_common_divisor, [], []⟩
def d_lowest : He5.DefA := ⟨fun K => He.ga K "lowest", "lowest", "lowest", defArgs s_lowest, defBody s_lowest, defScope s_lowest, [], []⟩
def d_check_pin : He5.DefA := ⟨fun K => He.ga K "check_pin", "check_pin", "check_pin", defArgs s_check_pin, defBody s_check_pin, defScope s_check_pin, [], []⟩
def d_check_step : He5.DefA := ⟨fun K => He.ga K "check_step", "check_step", "check_step", defArgs s_check_step, defBody s_check_step, defScope s_check_step, [], []⟩
def d__are_chart_rows : He5.DefA := ⟨fun K => He.ga K "_are_chart_rows", "_are_chart_rows", "_are_chart_rows", defArgs s__are_chart_rows, defBody s__are_chart_rows, defScope s__are_chart_rows, [], []⟩
def d__told : He5.DefA := ⟨fun K => He.ga K "_told", "_told", "_told", defArgs s__told, defBody s__told, defScope s__told, [], []⟩
def d_product_in : He5.DefA := ⟨fun K => He.ga K "product_in", "product_in", "product_in", defArgs s_product_in, defBody s_product_in, defScope s_product_in, [], []⟩
def d_check_chart : He5.DefA := ⟨fun K => He.ga K "check_chart", "check_chart", "check_chart", defArgs s_check_chart, defBody s_check_chart, defScope s_check_chart, [], []⟩
def d_items_of : He5.DefA := ⟨fun K => He.ga K "items_of", "items_of", "items_of", defArgs s_items_of, defBody s_items_of, defScope s_items_of, [], []⟩
def d__is_written : He5.DefA := ⟨fun K => He.ga K "_is_written", "_is_written", "_is_written", defArgs s__is_written, defBody s__is_written, defScope s__is_written, [], []⟩
def d_number_at : He5.DefA := ⟨fun K => He.ga K "number_at", "number_at", "number_at", defArgs s_number_at, defBody s_number_at, defScope s_number_at, [], []⟩
def d__is_step : He5.DefA := ⟨fun K => He.ga K "_is_step", "_is_step", "_is_step", defArgs s__is_step, defBody s__is_step, defScope s__is_step, [], []⟩
def d__is_term : He5.DefA := ⟨fun K => He.ga K "_is_term", "_is_term", "_is_term", defArgs s__is_term, defBody s__is_term, defScope s__is_term, [], []⟩
def d__check_steps : He5.DefA := ⟨fun K => He.ga K "_check_steps", "_check_steps", "_check_steps", defArgs s__check_steps, defBody s__check_steps, defScope s__check_steps, [], []⟩
def d_sum_in : He5.DefA := ⟨fun K => He.ga K "sum_in", "sum_in", "sum_in", defArgs s_sum_in, defBody s_sum_in, defScope s_sum_in, [], []⟩
def d_word_for : He5.DefA := ⟨fun K => He.ga K "word_for", "word_for", "word_for", defArgs s_word_for, defBody s_word_for, defScope s_word_for, [], []⟩
def d__law_pot : He5.DefA := ⟨fun K => He.ga K "_law_pot", "_law_pot", "_law_pot", defArgs s__law_pot, defBody s__law_pot, defScope s__law_pot, [], []⟩
def d__law_divisor : He5.DefA := ⟨fun K => He.ga K "_law_divisor", "_law_divisor", "_law_divisor", defArgs s__law_divisor, defBody s__law_divisor, defScope s__law_divisor, [], []⟩
def d__law_low : He5.DefA := ⟨fun K => He.ga K "_law_low", "_law_low", "_law_low", defArgs s__law_low, defBody s__law_low, defScope s__law_low, [], []⟩
def d__law_gone : He5.DefA := ⟨fun K => He.ga K "_law_gone", "_law_gone", "_law_gone", defArgs s__law_gone, defBody s__law_gone, defScope s__law_gone, [], []⟩
def d__law_come : He5.DefA := ⟨fun K => He.ga K "_law_come", "_law_come", "_law_come", defArgs s__law_come, defBody s__law_come, defScope s__law_come, [], []⟩
def d__law_total : He5.DefA := ⟨fun K => He.ga K "_law_total", "_law_total", "_law_total", defArgs s__law_total, defBody s__law_total, defScope s__law_total, [], []⟩
def d_Chart_init : He5.DefA := ⟨fun K => He.ma K (gs K "Chart") "__init__", "__init__", "Chart.__init__", defArgs s_Chart_init, defBody s_Chart_init, defScope s_Chart_init, [He.Dv.int 1], []⟩
def d_Chart_eq : He5.DefA := ⟨fun K => He.ma K (gs K "Chart") "__eq__", "__eq__", "Chart.__eq__", defArgs s_Chart_eq, defBody s_Chart_eq, defScope s_Chart_eq, [], []⟩
def d_Chart_str : He5.DefA := ⟨fun K => He.ma K (gs K "Chart") "__str__", "__str__", "Chart.__str__", defArgs s_Chart_str, defBody s_Chart_str, defScope s_Chart_str, [], []⟩
def d_Chart_product : He5.DefA := ⟨fun K => He.ma K (gs K "Chart") "product", "product", "Chart.product", defArgs s_Chart_product, defBody s_Chart_product, defScope s_Chart_product, [], []⟩
def d_Chart_square : He5.DefA := ⟨fun K => He.ma K (gs K "Chart") "square", "square", "Chart.square", defArgs s_Chart_square, defBody s_Chart_square, defScope s_Chart_square, [], []⟩
def d_Saying_init : He5.DefA := ⟨fun K => He.ma K (gs K "Saying") "__init__", "__init__", "Saying.__init__", defArgs s_Saying_init, defBody s_Saying_init, defScope s_Saying_init, [], []⟩
def d_Saying_eq : He5.DefA := ⟨fun K => He.ma K (gs K "Saying") "__eq__", "__eq__", "Saying.__eq__", defArgs s_Saying_eq, defBody s_Saying_eq, defScope s_Saying_eq, [], []⟩
def d_Saying_str : He5.DefA := ⟨fun K => He.ma K (gs K "Saying") "__str__", "__str__", "Saying.__str__", defArgs s_Saying_str, defBody s_Saying_str, defScope s_Saying_str, [], []⟩
def d_Saying_longer : He5.DefA := ⟨fun K => sf K "Saying" "longer", "longer", "Saying.longer", defArgs s_Saying_longer, defBody s_Saying_longer, defScope s_Saying_longer, [], []⟩
def d_Saying_right : He5.DefA := ⟨fun K => sf K "Saying" "right", "right", "Saying.right", defArgs s_Saying_right, defBody s_Saying_right, defScope s_Saying_right, [], []⟩
def d_Saying_value : He5.DefA := ⟨fun K => He.ma K (gs K "Saying") "value", "value", "Saying.value", defArgs s_Saying_value, defBody s_Saying_value, defScope s_Saying_value, [], []⟩
def d_Saying_holds : He5.DefA := ⟨fun K => He.ma K (gs K "Saying") "holds", "holds", "Saying.holds", defArgs s_Saying_holds, defBody s_Saying_holds, defScope s_Saying_holds, [], []⟩
def d_Saying_form : He5.DefA := ⟨fun K => He.ma K (gs K "Saying") "form", "form", "Saying.form", defArgs s_Saying_form, defBody s_Saying_form, defScope s_Saying_form, [], []⟩
def d_Saying_others : He5.DefA := ⟨fun K => He.ma K (gs K "Saying") "others", "others", "Saying.others", defArgs s_Saying_others, defBody s_Saying_others, defScope s_Saying_others, [], []⟩
def d_Saying_times : He5.DefA := ⟨fun K => He.ma K (gs K "Saying") "times", "times", "Saying.times", defArgs s_Saying_times, defBody s_Saying_times, defScope s_Saying_times, [], []⟩
def d_saying_at : He5.DefA := ⟨fun K => He.ga K "saying_at", "saying_at", "saying_at", defArgs s_saying_at, defBody s_saying_at, defScope s_saying_at, [], []⟩
def d__law_dip : He5.DefA := ⟨fun K => He.ga K "_law_dip", "_law_dip", "_law_dip", defArgs s__law_dip, defBody s__law_dip, defScope s__law_dip, [], []⟩
def d__law_pick : He5.DefA := ⟨fun K => He.ga K "_law_pick", "_law_pick", "_law_pick", defArgs s__law_pick, defBody s__law_pick, defScope s__law_pick, [], []⟩
def d__law_step : He5.DefA := ⟨fun K => He.ga K "_law_step", "_law_step", "_law_step", defArgs s__law_step, defBody s__law_step, defScope s__law_step, [], []⟩
def d__law_terms : He5.DefA := ⟨fun K => He.ga K "_law_terms", "_law_terms", "_law_terms", defArgs s__law_terms, defBody s__law_terms, defScope s__law_terms, [], []⟩
def d__law_rows : He5.DefA := ⟨fun K => He.ga K "_law_rows", "_law_rows", "_law_rows", defArgs s__law_rows, defBody s__law_rows, defScope s__law_rows, [], []⟩
def d__law_chart : He5.DefA := ⟨fun K => He.ga K "_law_chart", "_law_chart", "_law_chart", defArgs s__law_chart, defBody s__law_chart, defScope s__law_chart, [], []⟩
def d__law_is_so : He5.DefA := ⟨fun K => He.ga K "_law_is_so", "_law_is_so", "_law_is_so", defArgs s__law_is_so, defBody s__law_is_so, defScope s__law_is_so, [], []⟩
def d__law_form_right : He5.DefA := ⟨fun K => He.ga K "_law_form_right", "_law_form_right", "_law_form_right", defArgs s__law_form_right, defBody s__law_form_right, defScope s__law_form_right, [], []⟩
def d__law_words_right : He5.DefA := ⟨fun K => He.ga K "_law_words_right", "_law_words_right", "_law_words_right", defArgs s__law_words_right, defBody s__law_words_right, defScope s__law_words_right, [], []⟩
def d_Saying_read : He5.DefA := ⟨fun K => sf K "Saying" "read", "read", "Saying.read", defArgs s_Saying_read, defBody s_Saying_read, defScope s_Saying_read, [], []⟩
def d__law_kept_right : He5.DefA := ⟨fun K => He.ga K "_law_kept_right", "_law_kept_right", "_law_kept_right", defArgs s__law_kept_right, defBody s__law_kept_right, defScope s__law_kept_right, [], []⟩
def d__law_told_right : He5.DefA := ⟨fun K => He.ga K "_law_told_right", "_law_told_right", "_law_told_right", defArgs s__law_told_right, defBody s__law_told_right, defScope s__law_told_right, [], []⟩
def d_law : He5.DefA := ⟨fun K => He.ga K "law", "law", "law", defArgs s_law, defBody s_law, defScope s_law, [], []⟩
def d_EBadChart : He5.DefA := ⟨fun K => He.ma K (gs K "BadChart") "__init__", "__init__", "BadChart.__init__", defArgs se_BadChart, defBody se_BadChart, defScope se_BadChart, [], []⟩
def d_EBadNumber : He5.DefA := ⟨fun K => He.ma K (gs K "BadNumber") "__init__", "__init__", "BadNumber.__init__", defArgs se_BadNumber, defBody se_BadNumber, defScope se_BadNumber, [], []⟩
def d_EBadSaying : He5.DefA := ⟨fun K => He.ma K (gs K "BadSaying") "__init__", "__init__", "BadSaying.__init__", defArgs se_BadSaying, defBody se_BadSaying, defScope se_BadSaying, [], []⟩
def d_EBadText : He5.DefA := ⟨fun K => He.ma K (gs K "BadText") "__init__", "__init__", "BadText.__init__", defArgs se_BadText, defBody se_BadText, defScope se_BadText, [], []⟩
def d_EMisfit : He5.DefA := ⟨fun K => He.ma K (gs K "Misfit") "__init__", "__init__", "Misfit.__init__", defArgs se_Misfit, defBody se_Misfit, defScope se_Misfit, [], []⟩
def d_ENoPin : He5.DefA := ⟨fun K => He.ma K (gs K "NoPin") "__init__", "__init__", "Missing.__init__", defArgs se_Missing, defBody se_Missing, defScope se_Missing, [], []⟩
def d_ETooMany : He5.DefA := ⟨fun K => He.ma K (gs K "TooMany") "__init__", "__init__", "TooMany.__init__", defArgs se_TooMany, defBody se_TooMany, defScope se_TooMany, [], []⟩
def fnL0 : List He5.DefA := [d_is_integer, d_is_within, d_is_list, d_are_integers, d_common_divisor, d_lowest, d_check_pin, d_check_step, d__are_chart_rows, d__told, d_product_in, d_check_chart, d_items_of, d__is_written, d_number_at, d__is_step, d__is_term, d__check_steps, d_sum_in, d_word_for, d__law_pot, d__law_divisor, d__law_low, d__law_gone, d__law_come, d__law_total, d_Chart_init, d_Chart_eq, d_Chart_str, d_Chart_product]
def fnL1 : List He5.DefA := [d_Chart_square, d_Saying_init, d_Saying_eq, d_Saying_str, d_Saying_longer, d_Saying_right, d_Saying_value, d_Saying_holds, d_Saying_form, d_Saying_others, d_Saying_times, d_saying_at, d__law_dip, d__law_pick, d__law_step, d__law_terms, d__law_rows, d__law_chart, d__law_is_so, d__law_form_right, d__law_words_right, d_Saying_read, d__law_kept_right, d__law_told_right, d_law, d_EBadChart, d_EBadNumber, d_EBadSaying, d_EBadText, d_EMisfit]
def fnL2 : List He5.DefA := [d_ENoPin, d_ETooMany]
def fnL : List He5.DefA := fnL0 ++ fnL1 ++ fnL2
def faL0 : List He.Fa := [.free "isinstance", .free "int", .free "bool", .free "list", .free "tuple", .free "dict", .free "all", .free "any", .free "len", .free "range", .free "abs", .free "str", .free "sum", .free "min", .free "max", .free "enumerate", .free "zip", .free "reversed", .free "sorted", .free "set", .glo "Chart", .glo "Saying", .glo "is_integer", .glo "is_list", .glo "are_integers", .glo "BadNumber", .glo "is_within", .glo "NoPin", .glo "check_pin", .glo "_told"]
def faL1 : List He.Fa := [.glo "BadChart", .glo "BadText", .int "MOST_DIGITS" 60, .glo "_is_written", .int "LAST_PIN" 6, .glo "_is_step", .glo "BadSaying", .glo "product_in", .glo "_law_divisor", .glo "_law_gone", .glo "_law_low", .glo "_law_come", .glo "common_divisor", .glo "_are_chart_rows", .glo "lowest", .glo "check_step", .int "MOST_TERMS" 12, .glo "TooMany", .glo "WORDS", .glo "_is_term", .mkr "Saying", .glo "_check_steps", .glo "sum_in", .glo "Misfit", .glo "check_chart", .glo "word_for", .meth "Saying" "value", .mkr "Chart", .glo "OTHER_WAY", .glo "number_at"]
def faL2 : List He.Fa := [.meth "Saying" "__eq__", .meth "Chart" "__eq__", .glo "_law_dip", .glo "_law_step", .glo "_law_pick", .meth "Saying" "form", .meth "Saying" "holds", .glo "_law_total", .glo "_law_chart", .glo "_law_rows", .glo "saying_at", .glo "items_of", .meth "Saying" "__str__", .meth "Saying" "times", .meth "Saying" "others", .glo "_law_is_so", .glo "_law_kept_right", .glo "_law_told_right", .glo "_law_form_right", .glo "_law_words_right", .glo "_law_terms", .glo "_law_pot", .glo "law"]
def faL : List He.Fa := faL0 ++ faL1 ++ faL2
def exL0 : List (PySem.W.Frag → Bool) := [(fun K => ["Chart", "Saying"].all (ciB K)), (fun K => blB K "gcd" "math.gcd"), (fun K => erB K "BadNumber" ["part"]), (fun K => erB K "NoPin" ["value"]), (fun K => koB K ["Chart", "Saying"] "Chart" ["Chart"]), (fun K => erB K "BadChart" ["part"]), (fun K => erB K "BadText" ["line", "item"]), (fun K => erB K "BadSaying" ["part"]), (fun K => naB K "Chart" ["by", "pins", "rows"]), (fun K => naB K "Saying" ["number", "pins", "terms", "word"]), (fun K => erB K "TooMany" ["what", "most"]), (fun K => He.tupB K "WORDS" [He.Dv.str (Str.ofString "above"), He.Dv.str (Str.ofString "below"), He.Dv.str (Str.ofString "just")]), (fun K => koB K ["Chart", "Saying"] "Saying" ["Saying"]), (fun K => erB K "Misfit" ["part"]), (fun K => He.valsB K (He.ga K "OTHER_WAY") ([("above", "below"), ("below", "above"), ("just", "just")].map fun p => (Str.ofString p.1, He.Dv.str (Str.ofString p.2)))), (fun K => eqB K ["Chart", "Saying"] "Saying"), (fun K => eqB K ["Chart", "Saying"] "Chart"), (fun K => smB K "Saying" "longer"), (fun K => smB K "Saying" "right"), (fun K => smB K "Saying" "read")]
def exL : List (PySem.W.Frag → Bool) := exL0
def tsL : List He.Tab := [((fun K => He.ga K "OTHER_WAY"), [Str.ofString "above", Str.ofString "below", Str.ofString "just"])]
def tfL : List He.Defn := []
def exB (K : PySem.W.Frag) : Bool := exL.all fun f => f K
theorem facts {l : PySem.W.OpenLaw} {w : World} {K : PySem.W.Frag} {h : Heap} {mg : Str → Option Value} {fa' : Addr} (X : K.In h) (G : h.Ns mainGlobals mg) (hfa : mg "law" = some (.ref fa')) (c : SaysZ faL fnL tsL tfL exB w h K)
    (hF : ∀ ns : List Int, ns.length ≤ 63 → (∀ z ∈ ns, Builtin.Int.intBits z ≤ 1048576) → ∃ S, F_law [.scr ns] [] = .ok (.bl true) S) : LamX.LawAtS l w K (L2.CX l.prog w) 12 63 "_law_script" mg fa' h := by
  have cx : ∀ (i : Nat) (f : PySem.W.Frag → Bool), exL[i]? = some f → f K = true := fun i f e => List.all_eq_true.mp c.more f (List.mem_of_getElem? e)
  have e := hfa.symm.trans (He.glo_ok X G (c.fact 82 (f := .glo "law") rfl))
  cases e
  obtain ⟨fd_is_integer, D0_is_integer⟩ := c.def_ 0 (d := d_is_integer) rfl
  have D_is_integer : L2.FunD K "is_integer" "is_integer" (defArgs s_is_integer) (defBody s_is_integer) (defScope s_is_integer) [] [] (He.ga K "is_integer") fd_is_integer := D0_is_integer
  obtain ⟨fd_is_within, D0_is_within⟩ := c.def_ 1 (d := d_is_within) rfl
  have D_is_within : L2.FunD K "is_within" "is_within" (defArgs s_is_within) (defBody s_is_within) (defScope s_is_within) [] [] (He.ga K "is_within") fd_is_within := D0_is_within
  obtain ⟨fd_is_list, D0_is_list⟩ := c.def_ 2 (d := d_is_list) rfl
  have D_is_list : L2.FunD K "is_list" "is_list" (defArgs s_is_list) (defBody s_is_list) (defScope s_is_list) [] [] (He.ga K "is_list") fd_is_list := D0_is_list
  obtain ⟨fd_are_integers, D0_are_integers⟩ := c.def_ 3 (d := d_are_integers) rfl
  have D_are_integers : L2.FunD K "are_integers" "are_integers" (defArgs s_are_integers) (defBody s_are_integers) (defScope s_are_integers) [] [] (He.ga K "are_integers") fd_are_integers := D0_are_integers
  obtain ⟨fd_common_divisor, D0_common_divisor⟩ := c.def_ 4 (d := d_common_divisor) rfl
  have D_common_divisor : L2.FunD K "common_divisor" "common_divisor" (defArgs s_common_divisor) (defBody s_common_divisor) (defScope s_common_divisor) [] [] (He.ga K "common_divisor") fd_common_divisor := D0_common_divisor
  obtain ⟨fd_lowest, D0_lowest⟩ := c.def_ 5 (d := d_lowest) rfl
  have D_lowest : L2.FunD K "lowest" "lowest" (defArgs s_lowest) (defBody s_lowest) (defScope s_lowest) [] [] (He.ga K "lowest") fd_lowest := D0_lowest
  obtain ⟨fd_check_pin, D0_check_pin⟩ := c.def_ 6 (d := d_check_pin) rfl
  have D_check_pin : L2.FunD K "check_pin" "check_pin" (defArgs s_check_pin) (defBody s_check_pin) (defScope s_check_pin) [] [] (He.ga K "check_pin") fd_check_pin := D0_check_pin
  obtain ⟨fd_check_step, D0_check_step⟩ := c.def_ 7 (d := d_check_step) rfl
  have D_check_step : L2.FunD K "check_step" "check_step" (defArgs s_check_step) (defBody s_check_step) (defScope s_check_step) [] [] (He.ga K "check_step") fd_check_step := D0_check_step
  obtain ⟨fd__are_chart_rows, D0__are_chart_rows⟩ := c.def_ 8 (d := d__are_chart_rows) rfl
  have D__are_chart_rows : L2.FunD K "_are_chart_rows" "_are_chart_rows" (defArgs s__are_chart_rows) (defBody s__are_chart_rows) (defScope s__are_chart_rows) [] [] (He.ga K "_are_chart_rows") fd__are_chart_rows := D0__are_chart_rows
  obtain ⟨fd__told, D0__told⟩ := c.def_ 9 (d := d__told) rfl
  have D__told : L2.FunD K "_told" "_told" (defArgs s__told) (defBody s__told) (defScope s__told) [] [] (He.ga K "_told") fd__told := D0__told
  obtain ⟨fd_product_in, D0_product_in⟩ := c.def_ 10 (d := d_product_in) rfl
  have D_product_in : L2.FunD K "product_in" "product_in" (defArgs s_product_in) (defBody s_product_in) (defScope s_product_in) [] [] (He.ga K "product_in") fd_product_in := D0_product_in
  obtain ⟨fd_check_chart, D0_check_chart⟩ := c.def_ 11 (d := d_check_chart) rfl
  have D_check_chart : L2.FunD K "check_chart" "check_chart" (defArgs s_check_chart) (defBody s_check_chart) (defScope s_check_chart) [] [] (He.ga K "check_chart") fd_check_chart := D0_check_chart
  obtain ⟨fd_items_of, D0_items_of⟩ := c.def_ 12 (d := d_items_of) rfl
  have D_items_of : L2.FunD K "items_of" "items_of" (defArgs s_items_of) (defBody s_items_of) (defScope s_items_of) [] [] (He.ga K "items_of") fd_items_of := D0_items_of
  obtain ⟨fd__is_written, D0__is_written⟩ := c.def_ 13 (d := d__is_written) rfl
  have D__is_written : L2.FunD K "_is_written" "_is_written" (defArgs s__is_written) (defBody s__is_written) (defScope s__is_written) [] [] (He.ga K "_is_written") fd__is_written := D0__is_written
  obtain ⟨fd_number_at, D0_number_at⟩ := c.def_ 14 (d := d_number_at) rfl
  have D_number_at : L2.FunD K "number_at" "number_at" (defArgs s_number_at) (defBody s_number_at) (defScope s_number_at) [] [] (He.ga K "number_at") fd_number_at := D0_number_at
  obtain ⟨fd__is_step, D0__is_step⟩ := c.def_ 15 (d := d__is_step) rfl
  have D__is_step : L2.FunD K "_is_step" "_is_step" (defArgs s__is_step) (defBody s__is_step) (defScope s__is_step) [] [] (He.ga K "_is_step") fd__is_step := D0__is_step
  obtain ⟨fd__is_term, D0__is_term⟩ := c.def_ 16 (d := d__is_term) rfl
  have D__is_term : L2.FunD K "_is_term" "_is_term" (defArgs s__is_term) (defBody s__is_term) (defScope s__is_term) [] [] (He.ga K "_is_term") fd__is_term := D0__is_term
  obtain ⟨fd__check_steps, D0__check_steps⟩ := c.def_ 17 (d := d__check_steps) rfl
  have D__check_steps : L2.FunD K "_check_steps" "_check_steps" (defArgs s__check_steps) (defBody s__check_steps) (defScope s__check_steps) [] [] (He.ga K "_check_steps") fd__check_steps := D0__check_steps
  obtain ⟨fd_sum_in, D0_sum_in⟩ := c.def_ 18 (d := d_sum_in) rfl
  have D_sum_in : L2.FunD K "sum_in" "sum_in" (defArgs s_sum_in) (defBody s_sum_in) (defScope s_sum_in) [] [] (He.ga K "sum_in") fd_sum_in := D0_sum_in
  obtain ⟨fd_word_for, D0_word_for⟩ := c.def_ 19 (d := d_word_for) rfl
  have D_word_for : L2.FunD K "word_for" "word_for" (defArgs s_word_for) (defBody s_word_for) (defScope s_word_for) [] [] (He.ga K "word_for") fd_word_for := D0_word_for
  obtain ⟨fd__law_pot, D0__law_pot⟩ := c.def_ 20 (d := d__law_pot) rfl
  have D__law_pot : L2.FunD K "_law_pot" "_law_pot" (defArgs s__law_pot) (defBody s__law_pot) (defScope s__law_pot) [] [] (He.ga K "_law_pot") fd__law_pot := D0__law_pot
  obtain ⟨fd__law_divisor, D0__law_divisor⟩ := c.def_ 21 (d := d__law_divisor) rfl
  have D__law_divisor : L2.FunD K "_law_divisor" "_law_divisor" (defArgs s__law_divisor) (defBody s__law_divisor) (defScope s__law_divisor) [] [] (He.ga K "_law_divisor") fd__law_divisor := D0__law_divisor
  obtain ⟨fd__law_low, D0__law_low⟩ := c.def_ 22 (d := d__law_low) rfl
  have D__law_low : L2.FunD K "_law_low" "_law_low" (defArgs s__law_low) (defBody s__law_low) (defScope s__law_low) [] [] (He.ga K "_law_low") fd__law_low := D0__law_low
  obtain ⟨fd__law_gone, D0__law_gone⟩ := c.def_ 23 (d := d__law_gone) rfl
  have D__law_gone : L2.FunD K "_law_gone" "_law_gone" (defArgs s__law_gone) (defBody s__law_gone) (defScope s__law_gone) [] [] (He.ga K "_law_gone") fd__law_gone := D0__law_gone
  obtain ⟨fd__law_come, D0__law_come⟩ := c.def_ 24 (d := d__law_come) rfl
  have D__law_come : L2.FunD K "_law_come" "_law_come" (defArgs s__law_come) (defBody s__law_come) (defScope s__law_come) [] [] (He.ga K "_law_come") fd__law_come := D0__law_come
  obtain ⟨fd__law_total, D0__law_total⟩ := c.def_ 25 (d := d__law_total) rfl
  have D__law_total : L2.FunD K "_law_total" "_law_total" (defArgs s__law_total) (defBody s__law_total) (defScope s__law_total) [] [] (He.ga K "_law_total") fd__law_total := D0__law_total
  obtain ⟨fd_Chart_init, D0_Chart_init⟩ := c.def_ 26 (d := d_Chart_init) rfl
  have D_Chart_init : L2.FunD K "__init__" "Chart.__init__" (defArgs s_Chart_init) (defBody s_Chart_init) (defScope s_Chart_init) [V.int 1] [] (He.ma K (gs K "Chart") "__init__") fd_Chart_init := D0_Chart_init
  obtain ⟨fd_Chart_eq, D0_Chart_eq⟩ := c.def_ 27 (d := d_Chart_eq) rfl
  have D_Chart_eq : L2.FunD K "__eq__" "Chart.__eq__" (defArgs s_Chart_eq) (defBody s_Chart_eq) (defScope s_Chart_eq) [] [] (He.ma K (gs K "Chart") "__eq__") fd_Chart_eq := D0_Chart_eq
  obtain ⟨fd_Chart_str, D0_Chart_str⟩ := c.def_ 28 (d := d_Chart_str) rfl
  have D_Chart_str : L2.FunD K "__str__" "Chart.__str__" (defArgs s_Chart_str) (defBody s_Chart_str) (defScope s_Chart_str) [] [] (He.ma K (gs K "Chart") "__str__") fd_Chart_str := D0_Chart_str
  obtain ⟨fd_Chart_product, D0_Chart_product⟩ := c.def_ 29 (d := d_Chart_product) rfl
  have D_Chart_product : L2.FunD K "product" "Chart.product" (defArgs s_Chart_product) (defBody s_Chart_product) (defScope s_Chart_product) [] [] (He.ma K (gs K "Chart") "product") fd_Chart_product := D0_Chart_product
  obtain ⟨fd_Chart_square, D0_Chart_square⟩ := c.def_ 30 (d := d_Chart_square) rfl
  have D_Chart_square : L2.FunD K "square" "Chart.square" (defArgs s_Chart_square) (defBody s_Chart_square) (defScope s_Chart_square) [] [] (He.ma K (gs K "Chart") "square") fd_Chart_square := D0_Chart_square
  obtain ⟨fd_Saying_init, D0_Saying_init⟩ := c.def_ 31 (d := d_Saying_init) rfl
  have D_Saying_init : L2.FunD K "__init__" "Saying.__init__" (defArgs s_Saying_init) (defBody s_Saying_init) (defScope s_Saying_init) [] [] (He.ma K (gs K "Saying") "__init__") fd_Saying_init := D0_Saying_init
  obtain ⟨fd_Saying_eq, D0_Saying_eq⟩ := c.def_ 32 (d := d_Saying_eq) rfl
  have D_Saying_eq : L2.FunD K "__eq__" "Saying.__eq__" (defArgs s_Saying_eq) (defBody s_Saying_eq) (defScope s_Saying_eq) [] [] (He.ma K (gs K "Saying") "__eq__") fd_Saying_eq := D0_Saying_eq
  obtain ⟨fd_Saying_str, D0_Saying_str⟩ := c.def_ 33 (d := d_Saying_str) rfl
  have D_Saying_str : L2.FunD K "__str__" "Saying.__str__" (defArgs s_Saying_str) (defBody s_Saying_str) (defScope s_Saying_str) [] [] (He.ma K (gs K "Saying") "__str__") fd_Saying_str := D0_Saying_str
  obtain ⟨fd_Saying_longer, D0_Saying_longer⟩ := c.def_ 34 (d := d_Saying_longer) rfl
  have D_Saying_longer : L2.FunD K "longer" "Saying.longer" (defArgs s_Saying_longer) (defBody s_Saying_longer) (defScope s_Saying_longer) [] [] (sf K "Saying" "longer") fd_Saying_longer := D0_Saying_longer
  obtain ⟨fd_Saying_right, D0_Saying_right⟩ := c.def_ 35 (d := d_Saying_right) rfl
  have D_Saying_right : L2.FunD K "right" "Saying.right" (defArgs s_Saying_right) (defBody s_Saying_right) (defScope s_Saying_right) [] [] (sf K "Saying" "right") fd_Saying_right := D0_Saying_right
  obtain ⟨fd_Saying_value, D0_Saying_value⟩ := c.def_ 36 (d := d_Saying_value) rfl
  have D_Saying_value : L2.FunD K "value" "Saying.value" (defArgs s_Saying_value) (defBody s_Saying_value) (defScope s_Saying_value) [] [] (He.ma K (gs K "Saying") "value") fd_Saying_value := D0_Saying_value
  obtain ⟨fd_Saying_holds, D0_Saying_holds⟩ := c.def_ 37 (d := d_Saying_holds) rfl
  have D_Saying_holds : L2.FunD K "holds" "Saying.holds" (defArgs s_Saying_holds) (defBody s_Saying_holds) (defScope s_Saying_holds) [] [] (He.ma K (gs K "Saying") "holds") fd_Saying_holds := D0_Saying_holds
  obtain ⟨fd_Saying_form, D0_Saying_form⟩ := c.def_ 38 (d := d_Saying_form) rfl
  have D_Saying_form : L2.FunD K "form" "Saying.form" (defArgs s_Saying_form) (defBody s_Saying_form) (defScope s_Saying_form) [] [] (He.ma K (gs K "Saying") "form") fd_Saying_form := D0_Saying_form
  obtain ⟨fd_Saying_others, D0_Saying_others⟩ := c.def_ 39 (d := d_Saying_others) rfl
  have D_Saying_others : L2.FunD K "others" "Saying.others" (defArgs s_Saying_others) (defBody s_Saying_others) (defScope s_Saying_others) [] [] (He.ma K (gs K "Saying") "others") fd_Saying_others := D0_Saying_others
  obtain ⟨fd_Saying_times, D0_Saying_times⟩ := c.def_ 40 (d := d_Saying_times) rfl
  have D_Saying_times : L2.FunD K "times" "Saying.times" (defArgs s_Saying_times) (defBody s_Saying_times) (defScope s_Saying_times) [] [] (He.ma K (gs K "Saying") "times") fd_Saying_times := D0_Saying_times
  obtain ⟨fd_saying_at, D0_saying_at⟩ := c.def_ 41 (d := d_saying_at) rfl
  have D_saying_at : L2.FunD K "saying_at" "saying_at" (defArgs s_saying_at) (defBody s_saying_at) (defScope s_saying_at) [] [] (He.ga K "saying_at") fd_saying_at := D0_saying_at
  obtain ⟨fd__law_dip, D0__law_dip⟩ := c.def_ 42 (d := d__law_dip) rfl
  have D__law_dip : L2.FunD K "_law_dip" "_law_dip" (defArgs s__law_dip) (defBody s__law_dip) (defScope s__law_dip) [] [] (He.ga K "_law_dip") fd__law_dip := D0__law_dip
  obtain ⟨fd__law_pick, D0__law_pick⟩ := c.def_ 43 (d := d__law_pick) rfl
  have D__law_pick : L2.FunD K "_law_pick" "_law_pick" (defArgs s__law_pick) (defBody s__law_pick) (defScope s__law_pick) [] [] (He.ga K "_law_pick") fd__law_pick := D0__law_pick
  obtain ⟨fd__law_step, D0__law_step⟩ := c.def_ 44 (d := d__law_step) rfl
  have D__law_step : L2.FunD K "_law_step" "_law_step" (defArgs s__law_step) (defBody s__law_step) (defScope s__law_step) [] [] (He.ga K "_law_step") fd__law_step := D0__law_step
  obtain ⟨fd__law_terms, D0__law_terms⟩ := c.def_ 45 (d := d__law_terms) rfl
  have D__law_terms : L2.FunD K "_law_terms" "_law_terms" (defArgs s__law_terms) (defBody s__law_terms) (defScope s__law_terms) [] [] (He.ga K "_law_terms") fd__law_terms := D0__law_terms
  obtain ⟨fd__law_rows, D0__law_rows⟩ := c.def_ 46 (d := d__law_rows) rfl
  have D__law_rows : L2.FunD K "_law_rows" "_law_rows" (defArgs s__law_rows) (defBody s__law_rows) (defScope s__law_rows) [] [] (He.ga K "_law_rows") fd__law_rows := D0__law_rows
  obtain ⟨fd__law_chart, D0__law_chart⟩ := c.def_ 47 (d := d__law_chart) rfl
  have D__law_chart : L2.FunD K "_law_chart" "_law_chart" (defArgs s__law_chart) (defBody s__law_chart) (defScope s__law_chart) [] [] (He.ga K "_law_chart") fd__law_chart := D0__law_chart
  obtain ⟨fd__law_is_so, D0__law_is_so⟩ := c.def_ 48 (d := d__law_is_so) rfl
  have D__law_is_so : L2.FunD K "_law_is_so" "_law_is_so" (defArgs s__law_is_so) (defBody s__law_is_so) (defScope s__law_is_so) [] [] (He.ga K "_law_is_so") fd__law_is_so := D0__law_is_so
  obtain ⟨fd__law_form_right, D0__law_form_right⟩ := c.def_ 49 (d := d__law_form_right) rfl
  have D__law_form_right : L2.FunD K "_law_form_right" "_law_form_right" (defArgs s__law_form_right) (defBody s__law_form_right) (defScope s__law_form_right) [] [] (He.ga K "_law_form_right") fd__law_form_right := D0__law_form_right
  obtain ⟨fd__law_words_right, D0__law_words_right⟩ := c.def_ 50 (d := d__law_words_right) rfl
  have D__law_words_right : L2.FunD K "_law_words_right" "_law_words_right" (defArgs s__law_words_right) (defBody s__law_words_right) (defScope s__law_words_right) [] [] (He.ga K "_law_words_right") fd__law_words_right := D0__law_words_right
  obtain ⟨fd_Saying_read, D0_Saying_read⟩ := c.def_ 51 (d := d_Saying_read) rfl
  have D_Saying_read : L2.FunD K "read" "Saying.read" (defArgs s_Saying_read) (defBody s_Saying_read) (defScope s_Saying_read) [] [] (sf K "Saying" "read") fd_Saying_read := D0_Saying_read
  obtain ⟨fd__law_kept_right, D0__law_kept_right⟩ := c.def_ 52 (d := d__law_kept_right) rfl
  have D__law_kept_right : L2.FunD K "_law_kept_right" "_law_kept_right" (defArgs s__law_kept_right) (defBody s__law_kept_right) (defScope s__law_kept_right) [] [] (He.ga K "_law_kept_right") fd__law_kept_right := D0__law_kept_right
  obtain ⟨fd__law_told_right, D0__law_told_right⟩ := c.def_ 53 (d := d__law_told_right) rfl
  have D__law_told_right : L2.FunD K "_law_told_right" "_law_told_right" (defArgs s__law_told_right) (defBody s__law_told_right) (defScope s__law_told_right) [] [] (He.ga K "_law_told_right") fd__law_told_right := D0__law_told_right
  obtain ⟨fd_law, D0_law⟩ := c.def_ 54 (d := d_law) rfl
  have D_law : L2.FunD K "law" "law" (defArgs s_law) (defBody s_law) (defScope s_law) [] [] (He.ga K "law") fd_law := D0_law
  obtain ⟨fd_EBadChart, D0_EBadChart⟩ := c.def_ 55 (d := d_EBadChart) rfl
  have D_EBadChart : L2.FunD K "__init__" "BadChart.__init__" (defArgs se_BadChart) (defBody se_BadChart) (defScope se_BadChart) [] [] (He.ma K (gs K "BadChart") "__init__") fd_EBadChart := D0_EBadChart
  obtain ⟨fd_EBadNumber, D0_EBadNumber⟩ := c.def_ 56 (d := d_EBadNumber) rfl
  have D_EBadNumber : L2.FunD K "__init__" "BadNumber.__init__" (defArgs se_BadNumber) (defBody se_BadNumber) (defScope se_BadNumber) [] [] (He.ma K (gs K "BadNumber") "__init__") fd_EBadNumber := D0_EBadNumber
  obtain ⟨fd_EBadSaying, D0_EBadSaying⟩ := c.def_ 57 (d := d_EBadSaying) rfl
  have D_EBadSaying : L2.FunD K "__init__" "BadSaying.__init__" (defArgs se_BadSaying) (defBody se_BadSaying) (defScope se_BadSaying) [] [] (He.ma K (gs K "BadSaying") "__init__") fd_EBadSaying := D0_EBadSaying
  obtain ⟨fd_EBadText, D0_EBadText⟩ := c.def_ 58 (d := d_EBadText) rfl
  have D_EBadText : L2.FunD K "__init__" "BadText.__init__" (defArgs se_BadText) (defBody se_BadText) (defScope se_BadText) [] [] (He.ma K (gs K "BadText") "__init__") fd_EBadText := D0_EBadText
  obtain ⟨fd_EMisfit, D0_EMisfit⟩ := c.def_ 59 (d := d_EMisfit) rfl
  have D_EMisfit : L2.FunD K "__init__" "Misfit.__init__" (defArgs se_Misfit) (defBody se_Misfit) (defScope se_Misfit) [] [] (He.ma K (gs K "Misfit") "__init__") fd_EMisfit := D0_EMisfit
  obtain ⟨fd_ENoPin, D0_ENoPin⟩ := c.def_ 60 (d := d_ENoPin) rfl
  have D_ENoPin : L2.FunD K "__init__" "Missing.__init__" (defArgs se_Missing) (defBody se_Missing) (defScope se_Missing) [] [] (He.ma K (gs K "NoPin") "__init__") fd_ENoPin := D0_ENoPin
  obtain ⟨fd_ETooMany, D0_ETooMany⟩ := c.def_ 61 (d := d_ETooMany) rfl
  have D_ETooMany : L2.FunD K "__init__" "TooMany.__init__" (defArgs se_TooMany) (defBody se_TooMany) (defScope se_TooMany) [] [] (He.ma K (gs K "TooMany") "__init__") fd_ETooMany := D0_ETooMany
  refine ⟨fd_law, [], spT (gm K mg) F_law 1, fun p hp => (List.not_mem_nil hp).elim, fun p hp => (List.not_mem_nil hp).elim, fun p hp => (List.not_mem_nil hp).elim, fun s u => L2.FunD.bindsA (ps := ["_law_script"]) D_law (fun _ _ _ _ _ _ us hl => match us, hl with | [_], _ => rfl) s [u] rfl, fun H a ns hl hb _ hS => script_ok hS (hF ns hl hb), fun base _ _ _ => ?_⟩
  have B : Bn mg := ⟨He.free_ok X G (c.fact 0 (f := .free "isinstance") rfl), He.free_ok X G (c.fact 1 (f := .free "int") rfl), He.free_ok X G (c.fact 2 (f := .free "bool") rfl), He.free_ok X G (c.fact 3 (f := .free "list") rfl), He.free_ok X G (c.fact 4 (f := .free "tuple") rfl), He.free_ok X G (c.fact 5 (f := .free "dict") rfl), He.free_ok X G (c.fact 6 (f := .free "all") rfl), He.free_ok X G (c.fact 7 (f := .free "any") rfl), He.free_ok X G (c.fact 8 (f := .free "len") rfl), He.free_ok X G (c.fact 9 (f := .free "range") rfl), He.free_ok X G (c.fact 10 (f := .free "abs") rfl), He.free_ok X G (c.fact 11 (f := .free "str") rfl), He.free_ok X G (c.fact 12 (f := .free "sum") rfl), He.free_ok X G (c.fact 13 (f := .free "min") rfl), He.free_ok X G (c.fact 14 (f := .free "max") rfl), He.free_ok X G (c.fact 15 (f := .free "enumerate") rfl), He.free_ok X G (c.fact 16 (f := .free "zip") rfl), He.free_ok X G (c.fact 17 (f := .free "reversed") rfl), He.free_ok X G (c.fact 18 (f := .free "sorted") rfl), He.free_ok X G (c.fact 19 (f := .free "set") rfl)⟩
  have n : Cn mg K ["Chart", "Saying"] := fun z hz => by
    simp only [List.mem_cons, List.not_mem_nil, or_false] at hz
    rcases hz with rfl | rfl
    · exact (He.glo_ok X G (c.fact 20 (f := .glo "Chart") rfl))
    · exact (He.glo_ok X G (c.fact 21 (f := .glo "Saying") rfl))
  have hG : Gok (gm K mg) := gok_of n (cx 0 (fun K => ["Chart", "Saying"].all (ciB K)) rfl)
  have O_is_integer := ok_is_integer (P := l.prog) (w := w) (base := base) ⟨_, _, D_is_integer⟩ B hG 
  have C_is_integer : Cl l.prog w K mg base (gm K mg) 2 "is_integer" ["value"] F_is_integer := ⟨⟨_, fd_is_integer, (He.glo_ok X G (c.fact 22 (f := .glo "is_integer") rfl)), D_is_integer.kp, (D_is_integer.bindsN (ps := ["value"]) fun _ _ _ _ _ _ us hl => match us, hl with | [_], _ => rfl), O_is_integer⟩⟩
  have O_is_within := ok_is_within (P := l.prog) (w := w) (base := base) ⟨_, _, D_is_within⟩ B hG (C_is_integer := C_is_integer)
  have O_is_list := ok_is_list (P := l.prog) (w := w) (base := base) ⟨_, _, D_is_list⟩ B hG 
  have C_is_list : Cl l.prog w K mg base (gm K mg) 2 "is_list" ["value"] F_is_list := ⟨⟨_, fd_is_list, (He.glo_ok X G (c.fact 23 (f := .glo "is_list") rfl)), D_is_list.kp, (D_is_list.bindsN (ps := ["value"]) fun _ _ _ _ _ _ us hl => match us, hl with | [_], _ => rfl), O_is_list⟩⟩
  have O_are_integers := ok_are_integers (P := l.prog) (w := w) (base := base) ⟨_, _, D_are_integers⟩ B hG (C_is_list := C_is_list) (C_is_integer := C_is_integer)
  have g_gcd : mg "gcd" = some (.builtin "math.gcd") := PySem.W.mg_of X G (He.eqO_ok (cx 1 (fun K => blB K "gcd" "math.gcd") rfl))
  have C_are_integers : Cl l.prog w K mg base (gm K mg) 3 "are_integers" ["value"] F_are_integers := ⟨⟨_, fd_are_integers, (He.glo_ok X G (c.fact 24 (f := .glo "are_integers") rfl)), D_are_integers.kp, (D_are_integers.bindsN (ps := ["value"]) fun _ _ _ _ _ _ us hl => match us, hl with | [_], _ => rfl), O_are_integers⟩⟩
  have X_BadNumber : Ec l.prog w K mg base (gm K mg) "BadNumber" ["self", "part"] (spIn1 K "part") ["part"] := ec_of (He.glo_ok X G (c.fact 25 (f := .glo "BadNumber") rfl)) (cx 2 (fun K => erB K "BadNumber" ["part"]) rfl) (D_EBadNumber.bindsN (ps := ["self", "part"]) fun _ _ _ _ _ _ us hl => match us, hl with | [_, _], _ => rfl) (oke_BadNumber D_EBadNumber)
  have O_common_divisor := ok_common_divisor (P := l.prog) (w := w) (base := base) ⟨_, _, D_common_divisor⟩ B hG (g_gcd := g_gcd) (C_are_integers := C_are_integers) (X_BadNumber := X_BadNumber)
  have O_lowest := ok_lowest (P := l.prog) (w := w) (base := base) ⟨_, _, D_lowest⟩ B hG (g_gcd := g_gcd) (C_is_integer := C_is_integer) (X_BadNumber := X_BadNumber)
  have C_is_within : Cl l.prog w K mg base (gm K mg) 3 "is_within" ["value", "least", "most"] F_is_within := ⟨⟨_, fd_is_within, (He.glo_ok X G (c.fact 26 (f := .glo "is_within") rfl)), D_is_within.kp, (D_is_within.bindsN (ps := ["value", "least", "most"]) fun _ _ _ _ _ _ us hl => match us, hl with | [_, _, _], _ => rfl), O_is_within⟩⟩
  have X_NoPin : Ec l.prog w K mg base (gm K mg) "NoPin" ["self", "value"] (spIn1 K "value") ["value"] := ec_of (He.glo_ok X G (c.fact 27 (f := .glo "NoPin") rfl)) (cx 3 (fun K => erB K "NoPin" ["value"]) rfl) (D_ENoPin.bindsN (ps := ["self", "value"]) fun _ _ _ _ _ _ us hl => match us, hl with | [_, _], _ => rfl) (oke_Missing D_ENoPin)
  have O_check_pin := ok_check_pin (P := l.prog) (w := w) (base := base) ⟨_, _, D_check_pin⟩ B hG (C_is_within := C_is_within) (X_NoPin := X_NoPin)
  have C_check_pin : Cl l.prog w K mg base (gm K mg) 4 "check_pin" ["value", "many"] F_check_pin := ⟨⟨_, fd_check_pin, (He.glo_ok X G (c.fact 28 (f := .glo "check_pin") rfl)), D_check_pin.kp, (D_check_pin.bindsN (ps := ["value", "many"]) fun _ _ _ _ _ _ us hl => match us, hl with | [_, _], _ => rfl), O_check_pin⟩⟩
  have O_check_step := ok_check_step (P := l.prog) (w := w) (base := base) ⟨_, _, D_check_step⟩ B hG (C_check_pin := C_check_pin) (C_is_list := C_is_list) (X_NoPin := X_NoPin)
  have O__are_chart_rows := ok__are_chart_rows (P := l.prog) (w := w) (base := base) ⟨_, _, D__are_chart_rows⟩ B hG (C_are_integers := C_are_integers) (C_is_list := C_is_list)
  have O__told := ok__told (P := l.prog) (w := w) (base := base) ⟨_, _, D__told⟩ B hG 
  have C__told : Cl l.prog w K mg base (gm K mg) 2 "_told" ["rows", "pin", "its"] F__told := ⟨⟨_, fd__told, (He.glo_ok X G (c.fact 29 (f := .glo "_told") rfl)), D__told.kp, (D__told.bindsN (ps := ["rows", "pin", "its"]) fun _ _ _ _ _ _ us hl => match us, hl with | [_, _, _], _ => rfl), O__told⟩⟩
  have O_product_in := ok_product_in (P := l.prog) (w := w) (base := base) ⟨_, _, D_product_in⟩ B hG (C__told := C__told)
  have K_Chart : Ko (gm K mg) "Chart" ["Chart"] := ko_of n (He.glo_ok X G (c.fact 20 (f := .glo "Chart") rfl)) (cx 4 (fun K => koB K ["Chart", "Saying"] "Chart" ["Chart"]) rfl)
  have X_BadChart : Ec l.prog w K mg base (gm K mg) "BadChart" ["self", "part"] (spIn1 K "part") ["part"] := ec_of (He.glo_ok X G (c.fact 30 (f := .glo "BadChart") rfl)) (cx 5 (fun K => erB K "BadChart" ["part"]) rfl) (D_EBadChart.bindsN (ps := ["self", "part"]) fun _ _ _ _ _ _ us hl => match us, hl with | [_, _], _ => rfl) (oke_BadChart D_EBadChart)
  have O_check_chart := ok_check_chart (P := l.prog) (w := w) (base := base) ⟨_, _, D_check_chart⟩ B hG (K_Chart := K_Chart) (X_BadChart := X_BadChart)
  have X_BadText : Ec l.prog w K mg base (gm K mg) "BadText" ["self", "line", "item"] (spIn2 K "line" "item") ["line", "item"] := ec_of (He.glo_ok X G (c.fact 31 (f := .glo "BadText") rfl)) (cx 6 (fun K => erB K "BadText" ["line", "item"]) rfl) (D_EBadText.bindsN (ps := ["self", "line", "item"]) fun _ _ _ _ _ _ us hl => match us, hl with | [_, _, _], _ => rfl) (oke_BadText D_EBadText)
  have O_items_of := ok_items_of (P := l.prog) (w := w) (base := base) ⟨_, _, D_items_of⟩ B hG (X_BadText := X_BadText)
  have g_MOST_DIGITS : ∃ t, mg "MOST_DIGITS" = some (.int 60 t) := He.int_ok X G (c.fact 32 (f := .int "MOST_DIGITS" 60) rfl)
  have O__is_written := ok__is_written (P := l.prog) (w := w) (base := base) ⟨_, _, D__is_written⟩ B hG (g_MOST_DIGITS := g_MOST_DIGITS)
  have C__is_written : Cl l.prog w K mg base (gm K mg) 2 "_is_written" ["item"] F__is_written := ⟨⟨_, fd__is_written, (He.glo_ok X G (c.fact 33 (f := .glo "_is_written") rfl)), D__is_written.kp, (D__is_written.bindsN (ps := ["item"]) fun _ _ _ _ _ _ us hl => match us, hl with | [_], _ => rfl), O__is_written⟩⟩
  have O_number_at := ok_number_at (P := l.prog) (w := w) (base := base) ⟨_, _, D_number_at⟩ B hG (C_is_within := C_is_within) (X_BadText := X_BadText) (C__is_written := C__is_written)
  have g_LAST_PIN : ∃ t, mg "LAST_PIN" = some (.int 6 t) := He.int_ok X G (c.fact 34 (f := .int "LAST_PIN" 6) rfl)
  have O__is_step := ok__is_step (P := l.prog) (w := w) (base := base) ⟨_, _, D__is_step⟩ B hG (C_is_list := C_is_list) (C_is_within := C_is_within) (g_LAST_PIN := g_LAST_PIN)
  have C__is_step : Cl l.prog w K mg base (gm K mg) 4 "_is_step" ["value"] F__is_step := ⟨⟨_, fd__is_step, (He.glo_ok X G (c.fact 35 (f := .glo "_is_step") rfl)), D__is_step.kp, (D__is_step.bindsN (ps := ["value"]) fun _ _ _ _ _ _ us hl => match us, hl with | [_], _ => rfl), O__is_step⟩⟩
  have O__is_term := ok__is_term (P := l.prog) (w := w) (base := base) ⟨_, _, D__is_term⟩ B hG (C_is_list := C_is_list) (C_is_integer := C_is_integer) (C__is_step := C__is_step)
  have X_BadSaying : Ec l.prog w K mg base (gm K mg) "BadSaying" ["self", "part"] (spIn1 K "part") ["part"] := ec_of (He.glo_ok X G (c.fact 36 (f := .glo "BadSaying") rfl)) (cx 7 (fun K => erB K "BadSaying" ["part"]) rfl) (D_EBadSaying.bindsN (ps := ["self", "part"]) fun _ _ _ _ _ _ us hl => match us, hl with | [_, _], _ => rfl) (oke_BadSaying D_EBadSaying)
  have O__check_steps := ok__check_steps (P := l.prog) (w := w) (base := base) ⟨_, _, D__check_steps⟩ B hG (C__is_step := C__is_step) (X_BadSaying := X_BadSaying)
  have C_product_in : Cl l.prog w K mg base (gm K mg) 3 "product_in" ["rows", "step", "its"] F_product_in := ⟨⟨_, fd_product_in, (He.glo_ok X G (c.fact 37 (f := .glo "product_in") rfl)), D_product_in.kp, (D_product_in.bindsN (ps := ["rows", "step", "its"]) fun _ _ _ _ _ _ us hl => match us, hl with | [_, _, _], _ => rfl), O_product_in⟩⟩
  have O_sum_in := ok_sum_in (P := l.prog) (w := w) (base := base) ⟨_, _, D_sum_in⟩ B hG (C_product_in := C_product_in)
  have O_word_for := ok_word_for (P := l.prog) (w := w) (base := base) ⟨_, _, D_word_for⟩ B hG 
  have O__law_pot := ok__law_pot (P := l.prog) (w := w) (base := base) ⟨_, _, D__law_pot⟩ B hG 
  have O__law_divisor := ok__law_divisor (P := l.prog) (w := w) (base := base) ⟨_, _, D__law_divisor⟩ B hG 
  have C__law_divisor : Cl l.prog w K mg base (gm K mg) 2 "_law_divisor" ["_law_numbers"] F__law_divisor := ⟨⟨_, fd__law_divisor, (He.glo_ok X G (c.fact 38 (f := .glo "_law_divisor") rfl)), D__law_divisor.kp, (D__law_divisor.bindsN (ps := ["_law_numbers"]) fun _ _ _ _ _ _ us hl => match us, hl with | [_], _ => rfl), O__law_divisor⟩⟩
  have O__law_low := ok__law_low (P := l.prog) (w := w) (base := base) ⟨_, _, D__law_low⟩ B hG (C__law_divisor := C__law_divisor)
  have O__law_gone := ok__law_gone (P := l.prog) (w := w) (base := base) ⟨_, _, D__law_gone⟩ B hG 
  have C__law_gone : Cl l.prog w K mg base (gm K mg) 2 "_law_gone" ["_law_row", "_law_step_here"] F__law_gone := ⟨⟨_, fd__law_gone, (He.glo_ok X G (c.fact 39 (f := .glo "_law_gone") rfl)), D__law_gone.kp, (D__law_gone.bindsN (ps := ["_law_row", "_law_step_here"]) fun _ _ _ _ _ _ us hl => match us, hl with | [_, _], _ => rfl), O__law_gone⟩⟩
  have O__law_come := ok__law_come (P := l.prog) (w := w) (base := base) ⟨_, _, D__law_come⟩ B hG (C__law_gone := C__law_gone)
  have C__law_low : Cl l.prog w K mg base (gm K mg) 3 "_law_low" ["_law_number", "_law_by"] F__law_low := ⟨⟨_, fd__law_low, (He.glo_ok X G (c.fact 40 (f := .glo "_law_low") rfl)), D__law_low.kp, (D__law_low.bindsN (ps := ["_law_number", "_law_by"]) fun _ _ _ _ _ _ us hl => match us, hl with | [_, _], _ => rfl), O__law_low⟩⟩
  have C__law_come : Cl l.prog w K mg base (gm K mg) 3 "_law_come" ["_law_row", "_law_terms_here"] F__law_come := ⟨⟨_, fd__law_come, (He.glo_ok X G (c.fact 41 (f := .glo "_law_come") rfl)), D__law_come.kp, (D__law_come.bindsN (ps := ["_law_row", "_law_terms_here"]) fun _ _ _ _ _ _ us hl => match us, hl with | [_, _], _ => rfl), O__law_come⟩⟩
  have O__law_total := ok__law_total (P := l.prog) (w := w) (base := base) ⟨_, _, D__law_total⟩ B hG (C__law_low := C__law_low) (C__law_come := C__law_come)
  have A_Chart_pins : ∀ C, (gm K mg).mg (Str.ofString "Chart") = some (.ref C) → NoAttr (gm K mg).K C (Str.ofString "pins") := na_of (He.glo_ok X G (c.fact 20 (f := .glo "Chart") rfl)) (cx 8 (fun K => naB K "Chart" ["by", "pins", "rows"]) rfl) (f := "pins") (by decide)
  have A_Chart_by : ∀ C, (gm K mg).mg (Str.ofString "Chart") = some (.ref C) → NoAttr (gm K mg).K C (Str.ofString "by") := na_of (He.glo_ok X G (c.fact 20 (f := .glo "Chart") rfl)) (cx 8 (fun K => naB K "Chart" ["by", "pins", "rows"]) rfl) (f := "by") (by decide)
  have A_Chart_rows : ∀ C, (gm K mg).mg (Str.ofString "Chart") = some (.ref C) → NoAttr (gm K mg).K C (Str.ofString "rows") := na_of (He.glo_ok X G (c.fact 20 (f := .glo "Chart") rfl)) (cx 8 (fun K => naB K "Chart" ["by", "pins", "rows"]) rfl) (f := "rows") (by decide)
  have C_common_divisor : Cl l.prog w K mg base (gm K mg) 4 "common_divisor" ["values"] F_common_divisor := ⟨⟨_, fd_common_divisor, (He.glo_ok X G (c.fact 42 (f := .glo "common_divisor") rfl)), D_common_divisor.kp, (D_common_divisor.bindsN (ps := ["values"]) fun _ _ _ _ _ _ us hl => match us, hl with | [_], _ => rfl), O_common_divisor⟩⟩
  have C__are_chart_rows : Cl l.prog w K mg base (gm K mg) 4 "_are_chart_rows" ["rows"] F__are_chart_rows := ⟨⟨_, fd__are_chart_rows, (He.glo_ok X G (c.fact 43 (f := .glo "_are_chart_rows") rfl)), D__are_chart_rows.kp, (D__are_chart_rows.bindsN (ps := ["rows"]) fun _ _ _ _ _ _ us hl => match us, hl with | [_], _ => rfl), O__are_chart_rows⟩⟩
  have O_Chart_init := ok_Chart_init (P := l.prog) (w := w) (base := base) ⟨_, _, D_Chart_init⟩ B hG (A_Chart_pins := A_Chart_pins) (A_Chart_by := A_Chart_by) (A_Chart_rows := A_Chart_rows) (C_common_divisor := C_common_divisor) (C_is_integer := C_is_integer) (X_BadChart := X_BadChart) (C__are_chart_rows := C__are_chart_rows)
  have O_Chart_eq := ok_Chart_eq (P := l.prog) (w := w) (base := base) ⟨_, _, D_Chart_eq⟩ B hG (K_Chart := K_Chart)
  have O_Chart_str := ok_Chart_str (P := l.prog) (w := w) (base := base) ⟨_, _, D_Chart_str⟩ B hG 
  have C_lowest : Cl l.prog w K mg base (gm K mg) 3 "lowest" ["number", "by"] F_lowest := ⟨⟨_, fd_lowest, (He.glo_ok X G (c.fact 44 (f := .glo "lowest") rfl)), D_lowest.kp, (D_lowest.bindsN (ps := ["number", "by"]) fun _ _ _ _ _ _ us hl => match us, hl with | [_, _], _ => rfl), O_lowest⟩⟩
  have C_check_step : Cl l.prog w K mg base (gm K mg) 5 "check_step" ["value", "many"] F_check_step := ⟨⟨_, fd_check_step, (He.glo_ok X G (c.fact 45 (f := .glo "check_step") rfl)), D_check_step.kp, (D_check_step.bindsN (ps := ["value", "many"]) fun _ _ _ _ _ _ us hl => match us, hl with | [_, _], _ => rfl), O_check_step⟩⟩
  have O_Chart_product := ok_Chart_product (P := l.prog) (w := w) (base := base) ⟨_, _, D_Chart_product⟩ B hG (C_lowest := C_lowest) (C_product_in := C_product_in) (C_check_step := C_check_step)
  have O_Chart_square := ok_Chart_square (P := l.prog) (w := w) (base := base) ⟨_, _, D_Chart_square⟩ B hG (C_lowest := C_lowest) (C_product_in := C_product_in) (C_check_step := C_check_step)
  have A_Saying_pins : ∀ C, (gm K mg).mg (Str.ofString "Saying") = some (.ref C) → NoAttr (gm K mg).K C (Str.ofString "pins") := na_of (He.glo_ok X G (c.fact 21 (f := .glo "Saying") rfl)) (cx 9 (fun K => naB K "Saying" ["number", "pins", "terms", "word"]) rfl) (f := "pins") (by decide)
  have A_Saying_number : ∀ C, (gm K mg).mg (Str.ofString "Saying") = some (.ref C) → NoAttr (gm K mg).K C (Str.ofString "number") := na_of (He.glo_ok X G (c.fact 21 (f := .glo "Saying") rfl)) (cx 9 (fun K => naB K "Saying" ["number", "pins", "terms", "word"]) rfl) (f := "number") (by decide)
  have A_Saying_word : ∀ C, (gm K mg).mg (Str.ofString "Saying") = some (.ref C) → NoAttr (gm K mg).K C (Str.ofString "word") := na_of (He.glo_ok X G (c.fact 21 (f := .glo "Saying") rfl)) (cx 9 (fun K => naB K "Saying" ["number", "pins", "terms", "word"]) rfl) (f := "word") (by decide)
  have A_Saying_terms : ∀ C, (gm K mg).mg (Str.ofString "Saying") = some (.ref C) → NoAttr (gm K mg).K C (Str.ofString "terms") := na_of (He.glo_ok X G (c.fact 21 (f := .glo "Saying") rfl)) (cx 9 (fun K => naB K "Saying" ["number", "pins", "terms", "word"]) rfl) (f := "terms") (by decide)
  have g_MOST_TERMS : ∃ t, mg "MOST_TERMS" = some (.int 12 t) := He.int_ok X G (c.fact 46 (f := .int "MOST_TERMS" 12) rfl)
  have X_TooMany : Ec l.prog w K mg base (gm K mg) "TooMany" ["self", "what", "most"] (spIn2 K "what" "most") ["what", "most"] := ec_of (He.glo_ok X G (c.fact 47 (f := .glo "TooMany") rfl)) (cx 10 (fun K => erB K "TooMany" ["what", "most"]) rfl) (D_ETooMany.bindsN (ps := ["self", "what", "most"]) fun _ _ _ _ _ _ us hl => match us, hl with | [_, _, _], _ => rfl) (oke_TooMany D_ETooMany)
  have g_WORDS : GTup (gm K mg) "WORDS" ([(.str (Str.ofString "above")), (.str (Str.ofString "below")), (.str (Str.ofString "just"))] : List Den.D) := gtup_of (He.glo_ok X G (c.fact 48 (f := .glo "WORDS") rfl)) (cx 11 (fun K => He.tupB K "WORDS" [He.Dv.str (Str.ofString "above"), He.Dv.str (Str.ofString "below"), He.Dv.str (Str.ofString "just")]) rfl) (fun _ _ => ⟨_, _, rfl, rfl, ⟨_, _, rfl, rfl, ⟨_, _, rfl, rfl, rfl⟩⟩⟩)
  have C__is_term : Cl l.prog w K mg base (gm K mg) 5 "_is_term" ["value"] F__is_term := ⟨⟨_, fd__is_term, (He.glo_ok X G (c.fact 49 (f := .glo "_is_term") rfl)), D__is_term.kp, (D__is_term.bindsN (ps := ["value"]) fun _ _ _ _ _ _ us hl => match us, hl with | [_], _ => rfl), O__is_term⟩⟩
  have O_Saying_init := ok_Saying_init (P := l.prog) (w := w) (base := base) ⟨_, _, D_Saying_init⟩ B hG (A_Saying_pins := A_Saying_pins) (A_Saying_number := A_Saying_number) (A_Saying_word := A_Saying_word) (A_Saying_terms := A_Saying_terms) (g_MOST_TERMS := g_MOST_TERMS) (X_TooMany := X_TooMany) (C_is_integer := C_is_integer) (X_BadNumber := X_BadNumber) (g_WORDS := g_WORDS) (X_BadSaying := X_BadSaying) (C_is_list := C_is_list) (C__is_term := C__is_term)
  have K_Saying : Ko (gm K mg) "Saying" ["Saying"] := ko_of n (He.glo_ok X G (c.fact 21 (f := .glo "Saying") rfl)) (cx 12 (fun K => koB K ["Chart", "Saying"] "Saying" ["Saying"]) rfl)
  have O_Saying_eq := ok_Saying_eq (P := l.prog) (w := w) (base := base) ⟨_, _, D_Saying_eq⟩ B hG (K_Saying := K_Saying)
  have O_Saying_str := ok_Saying_str (P := l.prog) (w := w) (base := base) ⟨_, _, D_Saying_str⟩ B hG 
  have M_Saying : Mc l.prog w K mg base (gm K mg) 6 "Saying" ["self", "terms", "word", "number"] F_Saying_init := ⟨⟨_, _, fd_Saying_init, (He.glo_ok X G (c.fact 21 (f := .glo "Saying") rfl)), (show ("Saying" : String) ∈ (["Chart", "Saying"] : List String) by decide), He.mkr_ok (c.fact 50 (f := .mkr "Saying") rfl), (D_Saying_init.bindsN (ps := ["self", "terms", "word", "number"]) fun _ _ _ _ _ _ us hl => match us, hl with | [_, _, _, _], _ => rfl), O_Saying_init⟩⟩
  have C__check_steps : Cl l.prog w K mg base (gm K mg) 5 "_check_steps" ["step", "its"] F__check_steps := ⟨⟨_, fd__check_steps, (He.glo_ok X G (c.fact 51 (f := .glo "_check_steps") rfl)), D__check_steps.kp, (D__check_steps.bindsN (ps := ["step", "its"]) fun _ _ _ _ _ _ us hl => match us, hl with | [_, _], _ => rfl), O__check_steps⟩⟩
  have O_Saying_longer := ok_Saying_longer (P := l.prog) (w := w) (base := base) ⟨_, _, D_Saying_longer⟩ B hG (M_Saying := M_Saying) (C__check_steps := C__check_steps)
  have O_Saying_right := ok_Saying_right (P := l.prog) (w := w) (base := base) ⟨_, _, D_Saying_right⟩ B hG (M_Saying := M_Saying) (C__check_steps := C__check_steps)
  have C_sum_in : Cl l.prog w K mg base (gm K mg) 4 "sum_in" ["rows", "terms"] F_sum_in := ⟨⟨_, fd_sum_in, (He.glo_ok X G (c.fact 52 (f := .glo "sum_in") rfl)), D_sum_in.kp, (D_sum_in.bindsN (ps := ["rows", "terms"]) fun _ _ _ _ _ _ us hl => match us, hl with | [_, _], _ => rfl), O_sum_in⟩⟩
  have X_Misfit : Ec l.prog w K mg base (gm K mg) "Misfit" ["self", "part"] (spIn1 K "part") ["part"] := ec_of (He.glo_ok X G (c.fact 53 (f := .glo "Misfit") rfl)) (cx 13 (fun K => erB K "Misfit" ["part"]) rfl) (D_EMisfit.bindsN (ps := ["self", "part"]) fun _ _ _ _ _ _ us hl => match us, hl with | [_, _], _ => rfl) (oke_Misfit D_EMisfit)
  have C_check_chart : Cl l.prog w K mg base (gm K mg) 3 "check_chart" ["value", "part"] F_check_chart := ⟨⟨_, fd_check_chart, (He.glo_ok X G (c.fact 54 (f := .glo "check_chart") rfl)), D_check_chart.kp, (D_check_chart.bindsN (ps := ["value", "part"]) fun _ _ _ _ _ _ us hl => match us, hl with | [_, _], _ => rfl), O_check_chart⟩⟩
  have O_Saying_value := ok_Saying_value (P := l.prog) (w := w) (base := base) ⟨_, _, D_Saying_value⟩ B hG (C_lowest := C_lowest) (C_sum_in := C_sum_in) (X_Misfit := X_Misfit) (C_check_chart := C_check_chart)
  have C_word_for : Cl l.prog w K mg base (gm K mg) 2 "word_for" ["difference"] F_word_for := ⟨⟨_, fd_word_for, (He.glo_ok X G (c.fact 55 (f := .glo "word_for") rfl)), D_word_for.kp, (D_word_for.bindsN (ps := ["difference"]) fun _ _ _ _ _ _ us hl => match us, hl with | [_], _ => rfl), O_word_for⟩⟩
  have N_Saying_value : Mt l.prog w K mg base (gm K mg) 5 "Saying" "value" ["self", "chart"] F_Saying_value := ⟨⟨_, _, fd_Saying_value, (He.glo_ok X G (c.fact 21 (f := .glo "Saying") rfl)), (show ("Saying" : String) ∈ (["Chart", "Saying"] : List String) by decide), He.meth_ok (c.fact 56 (f := .meth "Saying" "value") rfl), (D_Saying_value.bindsN (ps := ["self", "chart"]) fun _ _ _ _ _ _ us hl => match us, hl with | [_, _], _ => rfl), O_Saying_value⟩⟩
  have O_Saying_holds := ok_Saying_holds (P := l.prog) (w := w) (base := base) ⟨_, _, D_Saying_holds⟩ B hG (C_word_for := C_word_for) (N_Saying_value := N_Saying_value)
  have M_Chart : Mc l.prog w K mg base (gm K mg) 5 "Chart" ["self", "rows", "by"] F_Chart_init := ⟨⟨_, _, fd_Chart_init, (He.glo_ok X G (c.fact 20 (f := .glo "Chart") rfl)), (show ("Chart" : String) ∈ (["Chart", "Saying"] : List String) by decide), He.mkr_ok (c.fact 57 (f := .mkr "Chart") rfl), (FunA.bindsD (ps := ["self", "rows", "by"]) D_Chart_init fun _ _ _ _ _ _ _ us its h1 h2 => match us, its, h1, h2 with | [_, _, _], [_], _, _ => ⟨_, rfl, rfl⟩), O_Chart_init⟩⟩
  have O_Saying_form := ok_Saying_form (P := l.prog) (w := w) (base := base) ⟨_, _, D_Saying_form⟩ B hG (M_Chart := M_Chart) (X_Misfit := X_Misfit) (C_is_within := C_is_within) (g_LAST_PIN := g_LAST_PIN) (X_BadNumber := X_BadNumber)
  have O_Saying_others := ok_Saying_others (P := l.prog) (w := w) (base := base) ⟨_, _, D_Saying_others⟩ B hG (g_WORDS := g_WORDS) (M_Saying := M_Saying)
  obtain ⟨es_OTHER_WAY, n_OTHER_WAY, kd_OTHER_WAY⟩ := (c.tab 0 rfl)
  have g_OTHER_WAY : GDct K mg w "OTHER_WAY" [("above", "below"), ("below", "above"), ("just", "just")] := gdct_of (He.glo_ok X G (c.fact 58 (f := .glo "OTHER_WAY") rfl)) kd_OTHER_WAY (cx 14 (fun K => He.valsB K (He.ga K "OTHER_WAY") ([("above", "below"), ("below", "above"), ("just", "just")].map fun p => (Str.ofString p.1, He.Dv.str (Str.ofString p.2)))) rfl)
  have O_Saying_times := ok_Saying_times (P := l.prog) (w := w) (base := base) ⟨_, _, D_Saying_times⟩ B hG (M_Saying := M_Saying) (g_OTHER_WAY := g_OTHER_WAY) (C_is_integer := C_is_integer) (X_BadNumber := X_BadNumber)
  have C_number_at : Cl l.prog w K mg base (gm K mg) 4 "number_at" ["items", "at", "least", "most"] F_number_at := ⟨⟨_, fd_number_at, (He.glo_ok X G (c.fact 59 (f := .glo "number_at") rfl)), D_number_at.kp, (D_number_at.bindsN (ps := ["items", "at", "least", "most"]) fun _ _ _ _ _ _ us hl => match us, hl with | [_, _, _, _], _ => rfl), O_number_at⟩⟩
  have O_saying_at := ok_saying_at (P := l.prog) (w := w) (base := base) ⟨_, _, D_saying_at⟩ B hG (M_Saying := M_Saying) (X_BadText := X_BadText) (C_number_at := C_number_at) (g_WORDS := g_WORDS) (g_MOST_TERMS := g_MOST_TERMS) (g_LAST_PIN := g_LAST_PIN)
  have Q_Saying : EqC l.prog w K mg base (gm K mg) 2 "Saying" F_Saying_eq := eqC_of n (show ("Saying" : String) ∈ (["Chart", "Saying"] : List String) by decide) (He.meth_ok (c.fact 60 (f := .meth "Saying" "__eq__") rfl)) (D_Saying_eq.bindsN (ps := ["self", "other"]) fun _ _ _ _ _ _ us hl => match us, hl with | [_, _], _ => rfl) O_Saying_eq (cx 15 (fun K => eqB K ["Chart", "Saying"] "Saying") rfl)
  have Q_Chart : EqC l.prog w K mg base (gm K mg) 2 "Chart" F_Chart_eq := eqC_of n (show ("Chart" : String) ∈ (["Chart", "Saying"] : List String) by decide) (He.meth_ok (c.fact 61 (f := .meth "Chart" "__eq__") rfl)) (D_Chart_eq.bindsN (ps := ["self", "other"]) fun _ _ _ _ _ _ us hl => match us, hl with | [_, _], _ => rfl) O_Chart_eq (cx 16 (fun K => eqB K ["Chart", "Saying"] "Chart") rfl)
  have O__law_dip := ok__law_dip (P := l.prog) (w := w) (base := base) ⟨_, _, D__law_dip⟩ B hG (Q_Saying := Q_Saying) (Q_Chart := Q_Chart)
  have C__law_dip : Cl l.prog w K mg base (gm K mg) 5 "_law_dip" ["_law_pot_here", "_law_many"] F__law_dip := ⟨⟨_, fd__law_dip, (He.glo_ok X G (c.fact 62 (f := .glo "_law_dip") rfl)), D__law_dip.kp, (D__law_dip.bindsN (ps := ["_law_pot_here", "_law_many"]) fun _ _ _ _ _ _ us hl => match us, hl with | [_, _], _ => rfl), O__law_dip⟩⟩
  have O__law_pick := ok__law_pick (P := l.prog) (w := w) (base := base) ⟨_, _, D__law_pick⟩ B hG (C__law_dip := C__law_dip)
  have O__law_step := ok__law_step (P := l.prog) (w := w) (base := base) ⟨_, _, D__law_step⟩ B hG (C__law_dip := C__law_dip)
  have C__law_step : Cl l.prog w K mg base (gm K mg) 6 "_law_step" ["_law_pot_here", "_law_pins"] F__law_step := ⟨⟨_, fd__law_step, (He.glo_ok X G (c.fact 63 (f := .glo "_law_step") rfl)), D__law_step.kp, (D__law_step.bindsN (ps := ["_law_pot_here", "_law_pins"]) fun _ _ _ _ _ _ us hl => match us, hl with | [_, _], _ => rfl), O__law_step⟩⟩
  have C__law_pick : Cl l.prog w K mg base (gm K mg) 6 "_law_pick" ["_law_pot_here", "_law_some"] F__law_pick := ⟨⟨_, fd__law_pick, (He.glo_ok X G (c.fact 64 (f := .glo "_law_pick") rfl)), D__law_pick.kp, (D__law_pick.bindsN (ps := ["_law_pot_here", "_law_some"]) fun _ _ _ _ _ _ us hl => match us, hl with | [_, _], _ => rfl), O__law_pick⟩⟩
  have O__law_terms := ok__law_terms (P := l.prog) (w := w) (base := base) ⟨_, _, D__law_terms⟩ B hG (C__law_dip := C__law_dip) (C__law_step := C__law_step) (Q_Saying := Q_Saying) (Q_Chart := Q_Chart) (C__law_pick := C__law_pick)
  have O__law_rows := ok__law_rows (P := l.prog) (w := w) (base := base) ⟨_, _, D__law_rows⟩ B hG (C__law_dip := C__law_dip) (C__law_pick := C__law_pick)
  have O__law_chart := ok__law_chart (P := l.prog) (w := w) (base := base) ⟨_, _, D__law_chart⟩ B hG (M_Chart := M_Chart)
  have O__law_is_so := ok__law_is_so (P := l.prog) (w := w) (base := base) ⟨_, _, D__law_is_so⟩ B hG (Q_Saying := Q_Saying) (Q_Chart := Q_Chart)
  have N_Saying_gd_Saying_form_0_pins : MtP l.prog w K mg base (gm K mg) 7 "Saying" "form" ["self", "pins"] ["pins"] gd_Saying_form_0_pins F_Saying_form := ⟨⟨_, _, fd_Saying_form, (He.glo_ok X G (c.fact 21 (f := .glo "Saying") rfl)), (show ("Saying" : String) ∈ (["Chart", "Saying"] : List String) by decide), He.meth_ok (c.fact 65 (f := .meth "Saying" "form") rfl), (kbd_ofF (ks := ["pins"]) (ps := ["self", "pins"]) (n := 1) (gD := gd_Saying_form_0_pins) D_Saying_form [0, 1] rfl (fun _ _ _ _ _ _ us ws h1 h2 => match us, ws, h1, h2 with | [_], [_], _, _ => rfl) (fun m H ds vs es us r1 r2 h1 h2 => match ds, es, h1, h2, r1, r2 with | [a0], [b0], _, _, r1, r2 => by (obtain ⟨_, _, rfl, ha0, rfl⟩ := r1; obtain ⟨_, _, rfl, hb0, rfl⟩ := r2; exact ⟨⟨_, _, rfl, ha0, ⟨_, _, rfl, hb0, rfl⟩⟩, rfl⟩))), O_Saying_form⟩⟩
  have N_Saying_form : Mt l.prog w K mg base (gm K mg) 7 "Saying" "form" ["self", "pins"] F_Saying_form := ⟨⟨_, _, fd_Saying_form, (He.glo_ok X G (c.fact 21 (f := .glo "Saying") rfl)), (show ("Saying" : String) ∈ (["Chart", "Saying"] : List String) by decide), He.meth_ok (c.fact 65 (f := .meth "Saying" "form") rfl), (D_Saying_form.bindsN (ps := ["self", "pins"]) fun _ _ _ _ _ _ us hl => match us, hl with | [_, _], _ => rfl), O_Saying_form⟩⟩
  have O__law_form_right := ok__law_form_right (P := l.prog) (w := w) (base := base) ⟨_, _, D__law_form_right⟩ B hG (Q_Saying := Q_Saying) (Q_Chart := Q_Chart) (C__law_come := C__law_come) (C__law_dip := C__law_dip) (K_Chart := K_Chart) (M_Saying := M_Saying) (N_Saying_gd_Saying_form_0_pins := N_Saying_gd_Saying_form_0_pins) (N_Saying_form := N_Saying_form)
  have N_Saying_holds : Mt l.prog w K mg base (gm K mg) 6 "Saying" "holds" ["self", "chart"] F_Saying_holds := ⟨⟨_, _, fd_Saying_holds, (He.glo_ok X G (c.fact 21 (f := .glo "Saying") rfl)), (show ("Saying" : String) ∈ (["Chart", "Saying"] : List String) by decide), He.meth_ok (c.fact 66 (f := .meth "Saying" "holds") rfl), (D_Saying_holds.bindsN (ps := ["self", "chart"]) fun _ _ _ _ _ _ us hl => match us, hl with | [_, _], _ => rfl), O_Saying_holds⟩⟩
  have C__law_total : Cl l.prog w K mg base (gm K mg) 4 "_law_total" ["_law_rows_here", "_law_by", "_law_terms_here"] F__law_total := ⟨⟨_, fd__law_total, (He.glo_ok X G (c.fact 67 (f := .glo "_law_total") rfl)), D__law_total.kp, (D__law_total.bindsN (ps := ["_law_rows_here", "_law_by", "_law_terms_here"]) fun _ _ _ _ _ _ us hl => match us, hl with | [_, _, _], _ => rfl), O__law_total⟩⟩
  have T_gd_Saying_longer_0_its_step : SmP l.prog w K mg base (gm K mg) 8 "Saying" "longer" ["step", "its"] ["its", "step"] gd_Saying_longer_0_its_step F_Saying_longer := ⟨⟨_, _, fd_Saying_longer, (He.glo_ok X G (c.fact 21 (f := .glo "Saying") rfl)), smet_of (cx 17 (fun K => smB K "Saying" "longer") rfl) D_Saying_longer.kp, (kbd_ofF (ks := ["its", "step"]) (ps := ["step", "its"]) (n := 0) (gD := gd_Saying_longer_0_its_step) D_Saying_longer [1, 0] rfl (fun _ _ _ _ _ _ us ws h1 h2 => match us, ws, h1, h2 with | [], [_, _], _, _ => rfl) (fun m H ds vs es us r1 r2 h1 h2 => match ds, es, h1, h2, r1, r2 with | [], [b0, b1], _, _, r1, r2 => by (obtain rfl := r1; obtain ⟨_, _, rfl, hb0, ⟨_, _, rfl, hb1, rfl⟩⟩ := r2; exact ⟨⟨_, _, rfl, hb1, ⟨_, _, rfl, hb0, rfl⟩⟩, rfl⟩))), O_Saying_longer⟩⟩
  have T_gd_Saying_right_0_its_step : SmP l.prog w K mg base (gm K mg) 8 "Saying" "right" ["step", "its"] ["its", "step"] gd_Saying_right_0_its_step F_Saying_right := ⟨⟨_, _, fd_Saying_right, (He.glo_ok X G (c.fact 21 (f := .glo "Saying") rfl)), smet_of (cx 18 (fun K => smB K "Saying" "right") rfl) D_Saying_right.kp, (kbd_ofF (ks := ["its", "step"]) (ps := ["step", "its"]) (n := 0) (gD := gd_Saying_right_0_its_step) D_Saying_right [1, 0] rfl (fun _ _ _ _ _ _ us ws h1 h2 => match us, ws, h1, h2 with | [], [_, _], _, _ => rfl) (fun m H ds vs es us r1 r2 h1 h2 => match ds, es, h1, h2, r1, r2 with | [], [b0, b1], _, _, r1, r2 => by (obtain rfl := r1; obtain ⟨_, _, rfl, hb0, ⟨_, _, rfl, hb1, rfl⟩⟩ := r2; exact ⟨⟨_, _, rfl, hb1, ⟨_, _, rfl, hb0, rfl⟩⟩, rfl⟩))), O_Saying_right⟩⟩
  have T_Saying_longer : Sm l.prog w K mg base (gm K mg) 8 "Saying" "longer" ["step", "its"] F_Saying_longer := ⟨⟨_, _, fd_Saying_longer, (He.glo_ok X G (c.fact 21 (f := .glo "Saying") rfl)), smet_of (cx 17 (fun K => smB K "Saying" "longer") rfl) D_Saying_longer.kp, (D_Saying_longer.bindsN (ps := ["step", "its"]) fun _ _ _ _ _ _ us hl => match us, hl with | [_, _], _ => rfl), O_Saying_longer⟩⟩
  have C__law_chart : Cl l.prog w K mg base (gm K mg) 7 "_law_chart" ["_law_rows_here", "_law_by"] F__law_chart := ⟨⟨_, fd__law_chart, (He.glo_ok X G (c.fact 68 (f := .glo "_law_chart") rfl)), D__law_chart.kp, (D__law_chart.bindsN (ps := ["_law_rows_here", "_law_by"]) fun _ _ _ _ _ _ us hl => match us, hl with | [_, _], _ => rfl), O__law_chart⟩⟩
  have C__law_rows : Cl l.prog w K mg base (gm K mg) 7 "_law_rows" ["_law_pot_here", "_law_many"] F__law_rows := ⟨⟨_, fd__law_rows, (He.glo_ok X G (c.fact 69 (f := .glo "_law_rows") rfl)), D__law_rows.kp, (D__law_rows.bindsN (ps := ["_law_pot_here", "_law_many"]) fun _ _ _ _ _ _ us hl => match us, hl with | [_, _], _ => rfl), O__law_rows⟩⟩
  have O__law_words_right := ok__law_words_right (P := l.prog) (w := w) (base := base) ⟨_, _, D__law_words_right⟩ B hG (Q_Saying := Q_Saying) (Q_Chart := Q_Chart) (N_Saying_holds := N_Saying_holds) (C__law_total := C__law_total) (T_gd_Saying_longer_0_its_step := T_gd_Saying_longer_0_its_step) (M_Saying := M_Saying) (T_gd_Saying_right_0_its_step := T_gd_Saying_right_0_its_step) (T_Saying_longer := T_Saying_longer) (C__law_chart := C__law_chart) (C__law_dip := C__law_dip) (C__law_rows := C__law_rows) (C__law_step := C__law_step)
  have C_saying_at : Cl l.prog w K mg base (gm K mg) 8 "saying_at" ["items", "at"] F_saying_at := ⟨⟨_, fd_saying_at, (He.glo_ok X G (c.fact 70 (f := .glo "saying_at") rfl)), D_saying_at.kp, (D_saying_at.bindsN (ps := ["items", "at"]) fun _ _ _ _ _ _ us hl => match us, hl with | [_, _], _ => rfl), O_saying_at⟩⟩
  have C_items_of : Cl l.prog w K mg base (gm K mg) 3 "items_of" ["text"] F_items_of := ⟨⟨_, fd_items_of, (He.glo_ok X G (c.fact 71 (f := .glo "items_of") rfl)), D_items_of.kp, (D_items_of.bindsN (ps := ["text"]) fun _ _ _ _ _ _ us hl => match us, hl with | [_], _ => rfl), O_items_of⟩⟩
  have O_Saying_read := ok_Saying_read (P := l.prog) (w := w) (base := base) ⟨_, _, D_Saying_read⟩ B hG (C_saying_at := C_saying_at) (C_items_of := C_items_of)
  have S_Saying : StC l.prog w K mg base (gm K mg) 2 "Saying" F_Saying_str := stC_of n (show ("Saying" : String) ∈ (["Chart", "Saying"] : List String) by decide) (He.meth_ok (c.fact 72 (f := .meth "Saying" "__str__") rfl)) (D_Saying_str.bindsN (ps := ["self"]) fun _ _ _ _ _ _ us hl => match us, hl with | [_], _ => rfl) O_Saying_str
  have T_Saying_read : Sm l.prog w K mg base (gm K mg) 9 "Saying" "read" ["text"] F_Saying_read := ⟨⟨_, _, fd_Saying_read, (He.glo_ok X G (c.fact 21 (f := .glo "Saying") rfl)), smet_of (cx 19 (fun K => smB K "Saying" "read") rfl) D_Saying_read.kp, (D_Saying_read.bindsN (ps := ["text"]) fun _ _ _ _ _ _ us hl => match us, hl with | [_], _ => rfl), O_Saying_read⟩⟩
  have T_gd_Saying_read_0_text : SmP l.prog w K mg base (gm K mg) 9 "Saying" "read" ["text"] ["text"] gd_Saying_read_0_text F_Saying_read := ⟨⟨_, _, fd_Saying_read, (He.glo_ok X G (c.fact 21 (f := .glo "Saying") rfl)), smet_of (cx 19 (fun K => smB K "Saying" "read") rfl) D_Saying_read.kp, (kbd_ofF (ks := ["text"]) (ps := ["text"]) (n := 0) (gD := gd_Saying_read_0_text) D_Saying_read [0] rfl (fun _ _ _ _ _ _ us ws h1 h2 => match us, ws, h1, h2 with | [], [_], _, _ => rfl) (fun m H ds vs es us r1 r2 h1 h2 => match ds, es, h1, h2, r1, r2 with | [], [b0], _, _, r1, r2 => by (obtain rfl := r1; obtain ⟨_, _, rfl, hb0, rfl⟩ := r2; exact ⟨⟨_, _, rfl, hb0, rfl⟩, rfl⟩))), O_Saying_read⟩⟩
  have O__law_kept_right := ok__law_kept_right (P := l.prog) (w := w) (base := base) ⟨_, _, D__law_kept_right⟩ B hG (Q_Saying := Q_Saying) (Q_Chart := Q_Chart) (S_Saying := S_Saying) (T_Saying_read := T_Saying_read) (T_gd_Saying_read_0_text := T_gd_Saying_read_0_text)
  have N_Saying_gd_Saying_times_0_number : MtP l.prog w K mg base (gm K mg) 8 "Saying" "times" ["self", "number"] ["number"] gd_Saying_times_0_number F_Saying_times := ⟨⟨_, _, fd_Saying_times, (He.glo_ok X G (c.fact 21 (f := .glo "Saying") rfl)), (show ("Saying" : String) ∈ (["Chart", "Saying"] : List String) by decide), He.meth_ok (c.fact 73 (f := .meth "Saying" "times") rfl), (kbd_ofF (ks := ["number"]) (ps := ["self", "number"]) (n := 1) (gD := gd_Saying_times_0_number) D_Saying_times [0, 1] rfl (fun _ _ _ _ _ _ us ws h1 h2 => match us, ws, h1, h2 with | [_], [_], _, _ => rfl) (fun m H ds vs es us r1 r2 h1 h2 => match ds, es, h1, h2, r1, r2 with | [a0], [b0], _, _, r1, r2 => by (obtain ⟨_, _, rfl, ha0, rfl⟩ := r1; obtain ⟨_, _, rfl, hb0, rfl⟩ := r2; exact ⟨⟨_, _, rfl, ha0, ⟨_, _, rfl, hb0, rfl⟩⟩, rfl⟩))), O_Saying_times⟩⟩
  have N_Saying_times : Mt l.prog w K mg base (gm K mg) 8 "Saying" "times" ["self", "number"] F_Saying_times := ⟨⟨_, _, fd_Saying_times, (He.glo_ok X G (c.fact 21 (f := .glo "Saying") rfl)), (show ("Saying" : String) ∈ (["Chart", "Saying"] : List String) by decide), He.meth_ok (c.fact 73 (f := .meth "Saying" "times") rfl), (D_Saying_times.bindsN (ps := ["self", "number"]) fun _ _ _ _ _ _ us hl => match us, hl with | [_, _], _ => rfl), O_Saying_times⟩⟩
  have N_Saying_gd_Saying_holds_0_chart : MtP l.prog w K mg base (gm K mg) 6 "Saying" "holds" ["self", "chart"] ["chart"] gd_Saying_holds_0_chart F_Saying_holds := ⟨⟨_, _, fd_Saying_holds, (He.glo_ok X G (c.fact 21 (f := .glo "Saying") rfl)), (show ("Saying" : String) ∈ (["Chart", "Saying"] : List String) by decide), He.meth_ok (c.fact 66 (f := .meth "Saying" "holds") rfl), (kbd_ofF (ks := ["chart"]) (ps := ["self", "chart"]) (n := 1) (gD := gd_Saying_holds_0_chart) D_Saying_holds [0, 1] rfl (fun _ _ _ _ _ _ us ws h1 h2 => match us, ws, h1, h2 with | [_], [_], _, _ => rfl) (fun m H ds vs es us r1 r2 h1 h2 => match ds, es, h1, h2, r1, r2 with | [a0], [b0], _, _, r1, r2 => by (obtain ⟨_, _, rfl, ha0, rfl⟩ := r1; obtain ⟨_, _, rfl, hb0, rfl⟩ := r2; exact ⟨⟨_, _, rfl, ha0, ⟨_, _, rfl, hb0, rfl⟩⟩, rfl⟩))), O_Saying_holds⟩⟩
  have N_Saying_others : Mt l.prog w K mg base (gm K mg) 8 "Saying" "others" ["self"] F_Saying_others := ⟨⟨_, _, fd_Saying_others, (He.glo_ok X G (c.fact 21 (f := .glo "Saying") rfl)), (show ("Saying" : String) ∈ (["Chart", "Saying"] : List String) by decide), He.meth_ok (c.fact 74 (f := .meth "Saying" "others") rfl), (D_Saying_others.bindsN (ps := ["self"]) fun _ _ _ _ _ _ us hl => match us, hl with | [_], _ => rfl), O_Saying_others⟩⟩
  have C__law_is_so : Cl l.prog w K mg base (gm K mg) 5 "_law_is_so" ["_law_total_here", "_law_word", "_law_number"] F__law_is_so := ⟨⟨_, fd__law_is_so, (He.glo_ok X G (c.fact 75 (f := .glo "_law_is_so") rfl)), D__law_is_so.kp, (D__law_is_so.bindsN (ps := ["_law_total_here", "_law_word", "_law_number"]) fun _ _ _ _ _ _ us hl => match us, hl with | [_, _, _], _ => rfl), O__law_is_so⟩⟩
  have N_Saying_gd_Saying_value_0_chart : MtP l.prog w K mg base (gm K mg) 5 "Saying" "value" ["self", "chart"] ["chart"] gd_Saying_value_0_chart F_Saying_value := ⟨⟨_, _, fd_Saying_value, (He.glo_ok X G (c.fact 21 (f := .glo "Saying") rfl)), (show ("Saying" : String) ∈ (["Chart", "Saying"] : List String) by decide), He.meth_ok (c.fact 56 (f := .meth "Saying" "value") rfl), (kbd_ofF (ks := ["chart"]) (ps := ["self", "chart"]) (n := 1) (gD := gd_Saying_value_0_chart) D_Saying_value [0, 1] rfl (fun _ _ _ _ _ _ us ws h1 h2 => match us, ws, h1, h2 with | [_], [_], _, _ => rfl) (fun m H ds vs es us r1 r2 h1 h2 => match ds, es, h1, h2, r1, r2 with | [a0], [b0], _, _, r1, r2 => by (obtain ⟨_, _, rfl, ha0, rfl⟩ := r1; obtain ⟨_, _, rfl, hb0, rfl⟩ := r2; exact ⟨⟨_, _, rfl, ha0, ⟨_, _, rfl, hb0, rfl⟩⟩, rfl⟩))), O_Saying_value⟩⟩
  have C__law_kept_right : Cl l.prog w K mg base (gm K mg) 10 "_law_kept_right" ["_law_saying", "_law_terms_here", "_law_word", "_law_number"] F__law_kept_right := ⟨⟨_, fd__law_kept_right, (He.glo_ok X G (c.fact 76 (f := .glo "_law_kept_right") rfl)), D__law_kept_right.kp, (D__law_kept_right.bindsN (ps := ["_law_saying", "_law_terms_here", "_law_word", "_law_number"]) fun _ _ _ _ _ _ us hl => match us, hl with | [_, _, _, _], _ => rfl), O__law_kept_right⟩⟩
  have M_Saying_gd_Saying_init_0_number_word_terms : McP l.prog w K mg base (gm K mg) 6 "Saying" ["self", "terms", "word", "number"] 0 ["number", "word", "terms"] gd_Saying_init_0_number_word_terms F_Saying_init := ⟨⟨_, _, fd_Saying_init, (He.glo_ok X G (c.fact 21 (f := .glo "Saying") rfl)), (show ("Saying" : String) ∈ (["Chart", "Saying"] : List String) by decide), He.mkr_ok (c.fact 50 (f := .mkr "Saying") rfl), (kbd_ofF (ks := ["number", "word", "terms"]) (ps := ["self", "terms", "word", "number"]) (n := 1) (gD := gd_Saying_init_0_number_word_terms) D_Saying_init [0, 3, 2, 1] rfl (fun _ _ _ _ _ _ us ws h1 h2 => match us, ws, h1, h2 with | [_], [_, _, _], _, _ => rfl) (fun m H ds vs es us r1 r2 h1 h2 => match ds, es, h1, h2, r1, r2 with | [a0], [b0, b1, b2], _, _, r1, r2 => by (obtain ⟨_, _, rfl, ha0, rfl⟩ := r1; obtain ⟨_, _, rfl, hb0, ⟨_, _, rfl, hb1, ⟨_, _, rfl, hb2, rfl⟩⟩⟩ := r2; exact ⟨⟨_, _, rfl, ha0, ⟨_, _, rfl, hb2, ⟨_, _, rfl, hb1, ⟨_, _, rfl, hb0, rfl⟩⟩⟩⟩, rfl⟩))), O_Saying_init⟩⟩
  have O__law_told_right := ok__law_told_right (P := l.prog) (w := w) (base := base) ⟨_, _, D__law_told_right⟩ B hG (Q_Saying := Q_Saying) (Q_Chart := Q_Chart) (N_Saying_holds := N_Saying_holds) (N_Saying_gd_Saying_times_0_number := N_Saying_gd_Saying_times_0_number) (N_Saying_times := N_Saying_times) (C__law_pick := C__law_pick) (N_Saying_gd_Saying_holds_0_chart := N_Saying_gd_Saying_holds_0_chart) (M_Saying := M_Saying) (N_Saying_others := N_Saying_others) (C__law_is_so := C__law_is_so) (N_Saying_value := N_Saying_value) (N_Saying_gd_Saying_value_0_chart := N_Saying_gd_Saying_value_0_chart) (C__law_kept_right := C__law_kept_right) (M_Saying_gd_Saying_init_0_number_word_terms := M_Saying_gd_Saying_init_0_number_word_terms) (C__law_dip := C__law_dip) (C__law_total := C__law_total) (C__law_chart := C__law_chart) (C__law_rows := C__law_rows)
  have C__law_told_right : Cl l.prog w K mg base (gm K mg) 11 "_law_told_right" ["_law_pot_here", "_law_pins", "_law_terms_here", "_law_number"] F__law_told_right := ⟨⟨_, fd__law_told_right, (He.glo_ok X G (c.fact 77 (f := .glo "_law_told_right") rfl)), D__law_told_right.kp, (D__law_told_right.bindsN (ps := ["_law_pot_here", "_law_pins", "_law_terms_here", "_law_number"]) fun _ _ _ _ _ _ us hl => match us, hl with | [_, _, _, _], _ => rfl), O__law_told_right⟩⟩
  have C__law_form_right : Cl l.prog w K mg base (gm K mg) 8 "_law_form_right" ["_law_pot_here", "_law_pins", "_law_terms_here"] F__law_form_right := ⟨⟨_, fd__law_form_right, (He.glo_ok X G (c.fact 78 (f := .glo "_law_form_right") rfl)), D__law_form_right.kp, (D__law_form_right.bindsN (ps := ["_law_pot_here", "_law_pins", "_law_terms_here"]) fun _ _ _ _ _ _ us hl => match us, hl with | [_, _, _], _ => rfl), O__law_form_right⟩⟩
  have C__law_words_right : Cl l.prog w K mg base (gm K mg) 9 "_law_words_right" ["_law_pot_here", "_law_pins"] F__law_words_right := ⟨⟨_, fd__law_words_right, (He.glo_ok X G (c.fact 79 (f := .glo "_law_words_right") rfl)), D__law_words_right.kp, (D__law_words_right.bindsN (ps := ["_law_pot_here", "_law_pins"]) fun _ _ _ _ _ _ us hl => match us, hl with | [_, _], _ => rfl), O__law_words_right⟩⟩
  have C__law_terms : Cl l.prog w K mg base (gm K mg) 7 "_law_terms" ["_law_pot_here", "_law_pins"] F__law_terms := ⟨⟨_, fd__law_terms, (He.glo_ok X G (c.fact 80 (f := .glo "_law_terms") rfl)), D__law_terms.kp, (D__law_terms.bindsN (ps := ["_law_pot_here", "_law_pins"]) fun _ _ _ _ _ _ us hl => match us, hl with | [_, _], _ => rfl), O__law_terms⟩⟩
  have C__law_pot : Cl l.prog w K mg base (gm K mg) 2 "_law_pot" ["_law_script"] F__law_pot := ⟨⟨_, fd__law_pot, (He.glo_ok X G (c.fact 81 (f := .glo "_law_pot") rfl)), D__law_pot.kp, (D__law_pot.bindsN (ps := ["_law_script"]) fun _ _ _ _ _ _ us hl => match us, hl with | [_], _ => rfl), O__law_pot⟩⟩
  have O_law := ok_law (P := l.prog) (w := w) (base := base) ⟨_, _, D_law⟩ B hG (C__law_told_right := C__law_told_right) (C__law_form_right := C__law_form_right) (C__law_words_right := C__law_words_right) (C__law_pick := C__law_pick) (Q_Saying := Q_Saying) (Q_Chart := Q_Chart) (C__law_dip := C__law_dip) (C__law_step := C__law_step) (C__law_terms := C__law_terms) (C__law_pot := C__law_pot)
  exact O_law
end G44

namespace Den
open PySem PySem.Spec PyProof.Rows L2
/-! ## texts: pure facts, for any law -/
theorem str_len (a b : Str) : (a ++ b).length = a.length + b.length := by
  show (a.cps ++ b.cps).size = a.cps.size + b.cps.size
  exact Array.size_append
def leO : Option Int → Int → Bool
  | none, _ => true
  | some l, i => decide (l ≤ i)
def geO : Option Int → Int → Bool
  | none, _ => true
  | some l, i => decide (i ≤ l)
def shN (n : Int) : Str := Str.ofString (toString n)
theorem sum_le (B : Nat) : ∀ ys : List Str, (∀ y ∈ ys, y.length ≤ B) → (ys.map (·.length)).sum ≤ B * ys.length
  | [], _ => Nat.zero_le _
  | y :: ys, h => by
    have h1 := h y List.mem_cons_self
    have h2 := sum_le B ys fun z hz => h z (List.mem_cons_of_mem _ hz)
    rw [List.map_cons, List.sum_cons, List.length_cons, Nat.mul_add]
    omega
theorem str_join_le (sep : Str) : ∀ ys : List Str, (Str.join sep ys).length ≤ (ys.map (·.length)).sum + ys.length * sep.length
  | [] => Nat.zero_le _
  | [y] => by
    show y.length ≤ (y.length + 0) + 1 * sep.length
    omega
  | y :: z :: ys => by
    have ih := str_join_le sep (z :: ys)
    have e : Str.join sep (y :: z :: ys) = y ++ sep ++ Str.join sep (z :: ys) := rfl
    rw [e, str_len, str_len, List.map_cons, List.sum_cons, List.length_cons, Nat.add_mul]
    omega
theorem txt_join_le (sep : Str) (ys : List Str) : (Txt.join sep ys).length ≤ (ys.map (·.length)).sum + ys.length * sep.length := by
  show (Builtin.Str.glued sep ys).length ≤ _
  rw [StrLaws.glued_eq_join]
  exact str_join_le sep ys
/-! ### numbers written -/
abbrev Cd := List Nat
def dgs (a : Cd) : Cd := if a.head? = some 45 then a.drop 1 else a
def isDg (c : Nat) : Bool := decide (48 ≤ c) && decide (c ≤ 57)
def wrt (a : Cd) : Bool := decide (1 ≤ (dgs a).length) && decide ((dgs a).length ≤ 60) && (dgs a).all isDg && (decide (a = [48]) || decide ((dgs a).head? ≠ some 48))
def vlu (a : Cd) : Int := if a.head? = some 45 then -((NumText.digitsVal (dgs a) : Nat) : Int) else ((NumText.digitsVal (dgs a) : Nat) : Int)
def num (l m : Option Int) (a : Cd) : Option Int := if (wrt a && (leO l (vlu a) && geO m (vlu a))) = true then some (vlu a) else none
/-- a number's signs -/
def shL (n : Int) : Cd := if n < 0 then 45 :: TL.numL n.natAbs else TL.numL n.natAbs
theorem all_dg {a : Cd} (h : a.all isDg = true) : NumText.AllDigits a := fun c hc => by
  have := List.all_eq_true.mp h c hc
  unfold isDg at this
  rw [Bool.and_eq_true, decide_eq_true_iff, decide_eq_true_iff] at this
  exact this
theorem dg_all {a : Cd} (h : NumText.AllDigits a) : a.all isDg = true := List.all_eq_true.mpr fun c hc => by
  unfold isDg
  rw [decide_eq_true (h c hc).1, decide_eq_true (h c hc).2]
  rfl
structure Wr (a : Cd) : Prop where
  l1 : 1 ≤ (dgs a).length
  l2 : (dgs a).length ≤ 60
  d : NumText.AllDigits (dgs a)
  z : a = [48] ∨ (dgs a).head? ≠ some 48
theorem wr_of {a : Cd} (h : wrt a = true) : Wr a := by
  unfold wrt at h
  simp only [Bool.and_eq_true, Bool.or_eq_true, decide_eq_true_eq] at h
  exact ⟨h.1.1.1, h.1.1.2, all_dg h.1.2, h.2⟩
theorem of_wr {a : Cd} (h : Wr a) : wrt a = true := by
  unfold wrt
  rw [decide_eq_true h.l1, decide_eq_true h.l2, dg_all h.d, Bool.true_and, Bool.true_and, Bool.true_and, Bool.or_eq_true, decide_eq_true_iff, decide_eq_true_iff]
  exact h.z
theorem dgs_len (a : Cd) : a.length ≤ (dgs a).length + 1 := by
  unfold dgs
  split
  · rw [List.length_drop]
    omega
  · omega
/-- int of it -/
theorem int_wr {a : Cd} (h : Wr a) : PySem.intText? (SX.S a) = some (vlu a) ∧ (SX.S a).length ≤ 640 := by
  have le := dgs_len a
  have l2 := h.l2
  refine ⟨?_, by rw [SX.S_len]; omega⟩
  by_cases e : a.head? = some 45
  · have ev : vlu a = -((NumText.digitsVal (dgs a) : Nat) : Int) := if_pos e
    have ea : a = 45 :: dgs a := by
      unfold dgs
      rw [if_pos e]
      cases a with
      | nil => cases e
      | cons c r =>
        have : c = 45 := Option.some.inj e
        subst this
        rfl
    rw [ev]
    refine PySem.intText_neg (cs := dgs a) ?_ h.d (fun z => ?_) (by rw [SX.S_len]; omega)
    · show a = _
      exact ea
    · have := h.l1
      rw [z] at this
      exact absurd this (by decide)
  · have ev : vlu a = ((NumText.digitsVal (dgs a) : Nat) : Int) := if_neg e
    have ea : dgs a = a := if_neg e
    rw [ev]
    have := PySem.intText_digits (x := SX.S a) (by show NumText.AllDigits a; rw [← ea]; exact h.d) (by
      show a ≠ []
      intro z
      have := h.l1
      rw [ea, z] at this
      exact absurd this (by decide)) (by rw [SX.S_len]; omega)
    rw [this, ea]
/-! ### written so, and so alone -/
theorem val_snoc (e : Cd) (c : Nat) : NumText.digitsVal (e ++ [c]) = NumText.digitsVal e * 10 + (c - 48) := by
  unfold NumText.digitsVal
  rw [List.foldl_append]
  rfl
theorem snoc_of {a : Cd} (h : a ≠ []) : ∃ e c, a = e ++ [c] := ⟨a.dropLast, a.getLast h, (List.dropLast_concat_getLast h).symm⟩
theorem val_pos : ∀ (n : Nat) {a : Cd}, a.length ≤ n → NumText.AllDigits a → a ≠ [] → a.head? ≠ some 48 → 1 ≤ NumText.digitsVal a := by
  intro n
  induction n with
  | zero =>
    intro a l _ hn _
    exact absurd (List.length_eq_zero_iff.mp (Nat.le_zero.mp l)) hn
  | succ n ih =>
    intro a l d hn z
    obtain ⟨e, c, rfl⟩ := snoc_of hn
    rw [val_snoc]
    by_cases he : e = []
    · subst he
      have hc := d c (by simp)
      have : c ≠ 48 := fun k => z (by rw [k]; rfl)
      omega
    · have := ih (a := e) (by rw [List.length_append] at l; show e.length ≤ n; have : e.length + 1 ≤ n + 1 := l; omega) (fun x hx => d x (List.mem_append_left _ hx)) he (fun k => z (by rw [List.head?_append, k]; rfl))
      omega
theorem canon : ∀ (n : Nat) {a : Cd}, a.length ≤ n → NumText.AllDigits a → a ≠ [] → a.head? ≠ some 48 → TL.numL (NumText.digitsVal a) = a := by
  intro n
  induction n with
  | zero =>
    intro a l _ hn _
    exact absurd (List.length_eq_zero_iff.mp (Nat.le_zero.mp l)) hn
  | succ n ih =>
    intro a l d hn z
    obtain ⟨e, c, rfl⟩ := snoc_of hn
    have hc := d c (by simp)
    by_cases he : e = []
    · subst he
      have ev : NumText.digitsVal ([] ++ [c]) = c - 48 := by
        rw [val_snoc]
        show 0 * 10 + (c - 48) = c - 48
        omega
      rw [ev, TL.numL_lt (by omega)]
      show [48 + (c - 48)] = [c]
      rw [show 48 + (c - 48) = c by omega]
    · have le : e.length ≤ n := by
        rw [List.length_append] at l
        have : e.length + 1 ≤ n + 1 := l
        omega
      have de : NumText.AllDigits e := fun x hx => d x (List.mem_append_left _ hx)
      have ze : e.head? ≠ some 48 := fun k => z (by rw [List.head?_append, k]; rfl)
      have p := val_pos n le de he ze
      have i := ih le de he ze
      have ev : NumText.digitsVal (e ++ [c]) = NumText.digitsVal e * 10 + (c - 48) := val_snoc e c
      rw [ev, TL.numL_step (by omega), show (NumText.digitsVal e * 10 + (c - 48)) / 10 = NumText.digitsVal e by omega, show (NumText.digitsVal e * 10 + (c - 48)) % 10 = c - 48 by omega, i, show 48 + (c - 48) = c by omega]
theorem numL_head {n : Nat} (h : n ≠ 0) : (TL.numL n).head? ≠ some 48 := by
  have : ∀ k n : Nat, n ≤ k → n ≠ 0 → (TL.numL n).head? ≠ some 48 := by
    intro k
    induction k with
    | zero => exact fun n l z => absurd (Nat.le_zero.mp l) z
    | succ k ih =>
      intro n l z
      by_cases h : n < 10
      · rw [TL.numL_lt h]
        intro e
        have : 48 + n = 48 := Option.some.inj e
        omega
      · have s := TL.numL_step (show 10 ≤ n by omega)
        have i := ih (n / 10) (by omega) (by omega)
        rw [s, List.head?_append]
        have ne := TL.numL_ne (n / 10)
        cases e : TL.numL (n / 10) with
        | nil => exact absurd e ne
        | cons c r =>
          rw [e] at i
          exact i
  exact this n n (Nat.le_refl n) h
theorem dgs_sh (n : Int) : dgs (shL n) = TL.numL n.natAbs := by
  unfold dgs shL
  split
  · exact if_pos rfl
  · refine if_neg ?_
    intro e
    cases h : TL.numL n.natAbs with
    | nil => rw [h] at e; cases e
    | cons c r =>
      rw [h] at e
      have ec : c = 45 := Option.some.inj e
      have := TL.numL_digits n.natAbs c (by rw [h]; exact List.mem_cons_self)
      omega
theorem head_sh (n : Int) : (shL n).head? = some 45 ↔ n < 0 := by
  unfold shL
  split
  · rename_i h
    exact ⟨fun _ => h, fun _ => rfl⟩
  · rename_i h
    refine ⟨fun e => ?_, fun z => absurd z h⟩
    cases k : TL.numL n.natAbs with
    | nil => rw [k] at e; cases e
    | cons c r =>
      rw [k] at e
      have ec : c = 45 := Option.some.inj e
      have := TL.numL_digits n.natAbs c (by rw [k]; exact List.mem_cons_self)
      omega
theorem vlu_sh (n : Int) : vlu (shL n) = n := by
  unfold vlu
  rw [dgs_sh, TL.numL_val]
  by_cases h : n < 0
  · rw [if_pos ((head_sh n).mpr h)]
    omega
  · rw [if_neg (fun e => h ((head_sh n).mp e))]
    omega
theorem num_sh {l m : Option Int} {n : Int} (hn : n.natAbs < 10 ^ 60) (h1 : leO l n = true) (h2 : geO m n = true) : num l m (shL n) = some n := by
  have w : Wr (shL n) := by
    refine ⟨?_, ?_, ?_, ?_⟩
    · rw [dgs_sh]
      exact Nat.succ_le_of_lt (List.length_pos_iff.mpr (TL.numL_ne _))
    · rw [dgs_sh]
      exact TL.numL_len (k := 60) (by decide) hn
    · rw [dgs_sh]
      exact TL.numL_digits _
    · by_cases z : n = 0
      · subst z
        exact .inl (by decide +kernel)
      · refine .inr ?_
        rw [dgs_sh]
        exact numL_head (by omega)
  unfold num
  rw [of_wr w, vlu_sh, h1, h2]
  rfl
theorem sh_num {l m : Option Int} {a : Cd} {n : Int} (h : num l m a = some n) : a = shL n ∧ leO l n = true ∧ geO m n = true ∧ Wr a ∧ vlu a = n := by
  unfold num at h
  split at h
  · rename_i k
    have e : vlu a = n := Option.some.inj h
    rw [Bool.and_eq_true, Bool.and_eq_true] at k
    obtain ⟨k1, k2, k3⟩ := k
    have w := wr_of k1
    rw [e] at k2 k3
    refine ⟨?_, k2, k3, w, e⟩
    have ne : dgs a ≠ [] := fun z => by
      have := w.l1
      rw [z] at this
      exact absurd this (by decide)
    by_cases hd : a.head? = some 45
    · have ea : a = 45 :: dgs a := by
        unfold dgs
        rw [if_pos hd]
        cases a with
        | nil => cases hd
        | cons c r =>
          have : c = 45 := Option.some.inj hd
          subst this
          rfl
      have z : (dgs a).head? ≠ some 48 := by
        rcases w.z with z | z
        · rw [z] at hd
          cases hd
        · exact z
      have p := val_pos _ (Nat.le_refl _) w.d ne z
      have c := canon _ (Nat.le_refl _) w.d ne z
      have ev : vlu a = -((NumText.digitsVal (dgs a) : Nat) : Int) := if_pos hd
      rw [ev] at e
      unfold shL
      rw [if_pos (by omega), show n.natAbs = NumText.digitsVal (dgs a) by omega, c]
      exact ea
    · have ea : dgs a = a := if_neg hd
      have ev : vlu a = ((NumText.digitsVal (dgs a) : Nat) : Int) := if_neg hd
      rw [ev] at e
      unfold shL
      rw [if_neg (by omega), show n.natAbs = NumText.digitsVal (dgs a) by omega]
      rcases w.z with z | z
      · rw [z]
        decide +kernel
      · rw [canon _ (Nat.le_refl _) w.d ne z, ea]
  · cases h
theorem shN_S (n : Int) : shN n = SX.S (shL n) := by
  unfold shN shL
  by_cases h : n < 0
  · rw [if_pos h]
    obtain ⟨m, rfl⟩ : ∃ m : Nat, n = Int.negSucc m := by
      cases n with
      | ofNat m => exact absurd h (by simp)
      | negSucc m => exact ⟨m, rfl⟩
    have e : Str.ofString (toString (Int.negSucc m)) = Str.ofString ("-" ++ toString ((m + 1 : Nat) : Int)) := rfl
    rw [e]
    refine TL.ext_tl ?_
    rw [TL.tl_ofString, String.toList_append, List.map_append, ← TL.tl_ofString (toString ((m + 1 : Nat) : Int)), TL.tl_num]
    rfl
  · rw [if_neg h]
    obtain ⟨m, rfl⟩ := Int.eq_ofNat_of_zero_le (show 0 ≤ n by omega)
    exact SX.num_S m
abbrev Its := List Cd
abbrev slC : Cd := [47]
def nAt (l m : Option Int) (its : Its) (i : Nat) : Option Int := its[i]?.bind (num l m)
def fin (its ends : Its) (i : Nat) : Bool := decide (i = its.length) || (match its[i]? with
  | some a => decide (a ∈ ends)
  | none => false)
/-! ### texts of items -/
theorem pre_one (c : Nat) (r : Cd) : TL.pre [32] (c :: r) = decide (c = 32) := by
  show ([c] == [32]) = _
  by_cases h : c = 32
  · subst h
    rfl
  · rw [decide_eq_false h]
    exact beq_eq_false_iff_ne.mpr fun z => h (List.cons.inj z).1
theorem spl_ne : ∀ (l acc : Cd), TL.spl [32] 0 acc l ≠ []
  | [], acc => by rw [TL.spl_nil]; simp
  | c :: r, acc => by
    by_cases h : c = 32
    · rw [TL.spl_hit (by rw [pre_one, decide_eq_true h])]
      simp
    · rw [TL.spl_miss (by rw [pre_one, decide_eq_false h])]
      exact spl_ne r _
theorem joinL_cons (s p : Cd) {r : Its} (h : r ≠ []) : TL.joinL s (p :: r) = p ++ (s ++ TL.joinL s r) := by
  cases r with
  | nil => exact absurd rfl h
  | cons a b => rfl
theorem join_spl : ∀ (l acc : Cd), TL.joinL [32] (TL.spl [32] 0 acc l) = acc ++ l
  | [], acc => by
    rw [TL.spl_nil, List.append_nil]
    rfl
  | c :: r, acc => by
    by_cases h : c = 32
    · rw [TL.spl_hit (by rw [pre_one, decide_eq_true h])]
      show TL.joinL [32] (acc :: TL.spl [32] 0 [] r) = _
      rw [joinL_cons _ _ (spl_ne r []), join_spl r [], h]
      rfl
    · rw [TL.spl_miss (by rw [pre_one, decide_eq_false h]), join_spl r (acc ++ [c]), List.append_assoc]
      rfl
theorem joinL_app (s : Cd) : ∀ {a b : Its}, a ≠ [] → b ≠ [] → TL.joinL s (a ++ b) = TL.joinL s a ++ (s ++ TL.joinL s b)
  | [], _, h, _ => absurd rfl h
  | [p], b, _, hb => joinL_cons s p hb
  | p :: q :: r, b, _, hb => by
    have ih := joinL_app s (a := q :: r) (b := b) (by simp) hb
    show TL.joinL s (p :: ((q :: r) ++ b)) = _
    rw [joinL_cons s p (by simp), ih, joinL_cons s p (by simp)]
    simp
/-- no blank stands in a written number -/
theorem sh_free (n : Int) : (32 : Nat) ∉ shL n := by
  unfold shL
  have f := TL.numL_free (n := n.natAbs) (s := 32) (.inl (by decide))
  split
  · intro h
    rcases List.mem_cons.mp h with z | z
    · cases z
    · exact f z
  · exact f
/-- the text of items without blanks is cut into these -/
theorem split_items {its : Its} (h : its ≠ []) (f : ∀ a ∈ its, (32 : Nat) ∉ a) : TL.spl [32] 0 [] (TL.joinL [32] its) = its := SX.spl_join h f
/-! ### texts of code lists -/
theorem str_S {s : String} {a : Cd} (h : (PySem.Str.ofString s).cps.toList = a) : PySem.Str.ofString s = SX.S a := TL.ext_tl h
theorem dg_uni : ∀ c, c < 128 → Unicode.isDigit c = isDg c := by decide +kernel
theorem dg_lt {c : Nat} (h : isDg c = true) : c < 128 := by
  unfold isDg at h
  rw [Bool.and_eq_true, decide_eq_true_iff, decide_eq_true_iff] at h
  omega
theorem asc_S (a : Cd) : Txt.isascii (SX.S a) = a.all fun c => decide (c < 128) := by
  unfold Txt.isascii
  rw [← Array.all_toList]
theorem dig_S {a : Cd} (h : 1 ≤ a.length) : Txt.isdigit (SX.S a) = a.all Unicode.isDigit := by
  unfold Txt.isdigit
  rw [← Array.all_toList, SX.S_len, decide_eq_true (show a.length > 0 from h), Bool.true_and]
theorem all_two : ∀ a : Cd, ((a.all fun c => decide (c < 128)) && a.all Unicode.isDigit) = a.all isDg
  | [] => rfl
  | c :: r => by
    have ih := all_two r
    rw [List.all_cons, List.all_cons, List.all_cons, ← ih]
    by_cases h : c < 128
    · rw [decide_eq_true h, dg_uni c h]
      cases isDg c <;> simp
    · rw [decide_eq_false h]
      have : isDg c = false := by
        cases e : isDg c with
        | false => rfl
        | true => exact absurd (dg_lt e) h
      rw [this]
      rfl
theorem sw_neg (a : Cd) : Txt.startswith (SX.S a) (SX.S [45]) = decide (a.head? = some 45) := by
  unfold Txt.startswith
  rw [PySem.StrLaws.subAt_eq, SX.S_len, SX.S_len]
  cases a with
  | nil => rfl
  | cons c r =>
    rw [decide_eq_true (show 0 + ([45] : Cd).length ≤ (c :: r).length by simp), Bool.true_and]
    show ([c] == [45]) = decide (some c = some 45)
    by_cases h : c = 45
    · subst h
      rfl
    · rw [decide_eq_false fun z => h (Option.some.inj z)]
      exact beq_eq_false_iff_ne.mpr fun z => h (List.cons.inj z).1
theorem cut1_S {a : Cd} : Txt.slice (SX.S a) (some 1) none = SX.S (a.drop 1) := SX.slice_from (by decide)
theorem spl_le : ∀ (l acc : Cd), (TL.spl [32] 0 acc l).length ≤ l.length + 1 ∧ ∀ x ∈ TL.spl [32] 0 acc l, x.length ≤ acc.length + l.length
  | [], acc => by
    rw [TL.spl_nil]
    exact ⟨Nat.le_refl _, fun x hx => by rw [List.mem_singleton.mp hx]; exact Nat.le_refl _⟩
  | c :: r, acc => by
    by_cases h : c = 32
    · rw [TL.spl_hit (by rw [pre_one, decide_eq_true h])]
      obtain ⟨i1, i2⟩ := spl_le r []
      refine ⟨by simp only [List.length_cons]; exact Nat.succ_le_succ i1, fun x hx => ?_⟩
      rcases List.mem_cons.mp hx with z | z
      · rw [z]
        omega
      · have := i2 x z
        simp only [List.length_cons, List.length_nil] at this ⊢
        omega
    · rw [TL.spl_miss (by rw [pre_one, decide_eq_false h])]
      obtain ⟨i1, i2⟩ := spl_le r (acc ++ [c])
      refine ⟨Nat.le_trans i1 (by simp only [List.length_cons]; omega), fun x hx => ?_⟩
      have := i2 x hx
      simp only [List.length_append, List.length_cons, List.length_nil] at this ⊢
      omega
end Den

namespace Den
open PySem PySem.Spec PyProof.Rows L2
/-! ## texts as lists of codes, worked out -/
section
variable {env : En} {S S' : Sd} {φ : TX} {φs : List TX}
def asc (a : Cd) : Bool := a.all fun c => decide (c < 128)
theorem ok_S {a : Cd} (h : ∀ c ∈ a, c < 1114112) : PyData.strOk (SX.S a) = true := by
  show (SX.S a).cps.all _ = true
  rw [← Array.all_toList]
  exact List.all_eq_true.mpr fun c hc => decide_eq_true (h c hc)
theorem S_eq {a b : Cd} : decide (SX.S a = SX.S b) = decide (a = b) := by
  by_cases h : a = b
  · rw [h, decide_eq_true rfl, decide_eq_true rfl]
  · rw [decide_eq_false h, decide_eq_false fun z => h (SX.S_inj z)]
theorem eq_S {neg : Bool} {eqs : Eqs} {a b : Cd} (ha : ∀ c ∈ a, c < 1114112) (hb : ∀ c ∈ b, c < 1114112) : oEqN neg eqs (.str (SX.S a)) (.str (SX.S b)) S = .ok (.bl (if neg then !decide (a = b) else decide (a = b))) S := by
  rw [← S_eq]
  exact eStr.eqN (Nat.zero_le _) (SX.S a) (SX.S b) (ok_S ha) (ok_S hb)
theorem ix_S {c : Nat} {r : Cd} (h : (c :: r).length ≤ 16000000) : oIx (.str (SX.S (c :: r))) (.int 0) S = .ok (.str (SX.S [c])) S := by
  have z : decide ((SX.S (c :: r)).length ≤ sizeLine) = true := decide_eq_true (by rw [SX.S_len]; exact Nat.le_trans h (by decide))
  show guardR (decide ((SX.S (c :: r)).length ≤ sizeLine)) (okR ((atI (c :: r) 0).map fun c => .str ⟨#[c]⟩) S) = _
  rw [z, show atI (c :: r) 0 = some c from atI_nat (j := 0) rfl]
  rfl
theorem len_S {a : Cd} (h : a.length ≤ 16000000) : oLen [.str (SX.S a)] S = .ok (.int a.length) S := by
  unfold oLen
  simp only [SX.S_len]
  rw [show decide (a.length ≤ sizeLine) = true from decide_eq_true (Nat.le_trans h (by decide))]
  rfl
theorem fst_nil {a : Cd} : fstL [] (SX.S a) env S = .ok (.str (SX.S a)) S := rfl
theorem fst_lit {z : Str} {a b : Cd} (e : z = SX.S b) (l : (a ++ b).length ≤ 16000000) : fstL (xC (.str z) :: φs) (SX.S a) env S = fstL φs (SX.S (a ++ b)) env S := by
  subst e
  show guardR (decide ((SX.S a ++ SX.S b).length ≤ sizeLine)) (fstL φs (SX.S a ++ SX.S b) env S) = _
  rw [SX.S_cat, SX.S_len, decide_eq_true (Nat.le_trans l (by decide : 16000000 ≤ sizeLine))]
  rfl
theorem fst_str {a b : Cd} (e : φ env S = .ok (.str (SX.S b)) S) (l : (a ++ b).length ≤ 16000000) : fstL (xUn oFmt φ :: φs) (SX.S a) env S = fstL φs (SX.S (a ++ b)) env S := by
  have l2 : b.length ≤ 16000000 := by rw [List.length_append] at l; omega
  show (((φ env S).bind fun x S1 => oFmt x S1).bind fun d S1 => match d with
    | .str y => guardR (decide ((SX.S a ++ y).length ≤ sizeLine)) (fstL φs (SX.S a ++ y) env S1)
    | _ => .stuck) = _
  rw [e]
  show ((guardR (decide ((SX.S b).length ≤ sizeLine)) (R.ok (D.str (SX.S b)) S)).bind fun d S1 => match d with
    | .str y => guardR (decide ((SX.S a ++ y).length ≤ sizeLine)) (fstL φs (SX.S a ++ y) env S1)
    | _ => .stuck) = _
  rw [SX.S_len, decide_eq_true (Nat.le_trans l2 (by decide : 16000000 ≤ sizeLine))]
  show guardR (decide ((SX.S a ++ SX.S b).length ≤ sizeLine)) (fstL φs (SX.S a ++ SX.S b) env S) = _
  rw [SX.S_cat, SX.S_len, decide_eq_true (Nat.le_trans l (by decide : 16000000 ≤ sizeLine))]
  rfl
theorem sh_len {n : Int} (h : n.natAbs < 10 ^ 60) : (shL n).length ≤ 61 := by
  have w := (sh_num (num_sh (l := none) (m := none) h rfl rfl)).2.2.2.1
  have := dgs_len (shL n)
  have := w.l2
  omega
theorem sh_log {n : Int} (h : n.natAbs < 10 ^ 60) : n.natAbs.log2 < 1920 := PySem.Flt.log2_lt_of (by decide) (Nat.lt_trans h (by decide +kernel))
theorem sh_asc (n : Int) : ∀ c ∈ shL n, c < 128 := by
  intro c hc
  have d := TL.numL_digits n.natAbs
  unfold shL at hc
  split at hc
  · rcases List.mem_cons.mp hc with rfl | hc
    · decide
    · have := d c hc; omega
  · have := d c hc; omega
theorem fst_int {a : Cd} {n : Int} (e : φ env S = .ok (.int n) S) (h : n.natAbs < 10 ^ 60) (l : a.length ≤ 1000000) : fstL (xUn oFmt φ :: φs) (SX.S a) env S = fstL φs (SX.S (a ++ shL n)) env S := by
  have ll := sh_len h
  show (((φ env S).bind fun x S1 => oFmt x S1).bind fun d S1 => match d with
    | .str y => guardR (decide ((SX.S a ++ y).length ≤ sizeLine)) (fstL φs (SX.S a ++ y) env S1)
    | _ => .stuck) = _
  rw [e]
  show ((guardR (decide (n.natAbs.log2 < 1920)) (R.ok (D.str (shN n)) S)).bind fun d S1 => match d with
    | .str y => guardR (decide ((SX.S a ++ y).length ≤ sizeLine)) (fstL φs (SX.S a ++ y) env S1)
    | _ => .stuck) = _
  rw [decide_eq_true (sh_log h), shN_S]
  show guardR (decide ((SX.S a ++ SX.S (shL n)).length ≤ sizeLine)) (fstL φs (SX.S a ++ SX.S (shL n)) env S) = _
  rw [SX.S_cat, SX.S_len, decide_eq_true (Nat.le_trans (show (a ++ shL n).length ≤ 1000061 by rw [List.length_append]; omega) (by decide : 1000061 ≤ sizeLine))]
  rfl
theorem str_int {n : Int} {sts : Strs} (h : n.natAbs < 10 ^ 60) : oStrN sts [.int n] S = .ok (.str (SX.S (shL n))) S := by
  show guardR (decide (n.natAbs.log2 < 1920)) (R.ok (D.str (shN n)) S) = _
  rw [decide_eq_true (sh_log h), shN_S]
  rfl
theorem add_S {a b : Cd} (l : (a ++ b).length ≤ 16000000) : oAdd (.str (SX.S a)) (.str (SX.S b)) S = .ok (.str (SX.S (a ++ b))) S := by
  show guardR (decide ((SX.S a).length + (SX.S b).length ≤ sizeLine)) (R.ok (D.str (SX.S a ++ SX.S b)) S) = _
  rw [SX.S_cat, SX.S_len, SX.S_len, ← List.length_append, decide_eq_true (Nat.le_trans l (by decide : 16000000 ≤ sizeLine))]
  rfl
theorem join_at {d : D} {s : Cd} {as : List Cd} (h : SqV S d (as.map fun a => .str (SX.S a))) (l : (as.map (·.length)).sum + as.length * s.length ≤ 16000000) : oJoin (SX.S s) [d] S = .ok (.str (SX.S (TL.joinL s as))) S := by
  have e : (d.items S).bind (allOf D.str?) = some (as.map SX.S) := by
    rw [h.items]
    exact allOf_map (f := D.str?) (g := fun a : Cd => D.str (SX.S a)) (h := SX.S) (fun _ => rfl) as
  unfold oJoin
  simp only [e]
  rw [SX.lens, List.length_map, SX.S_len, SX.join_S, decide_eq_true (Nat.le_trans l (by decide : 16000000 ≤ 16777216))]
  rfl
theorem split_at {a b : Cd} (hb : b ≠ []) (hk : b.all (· < 256) = true) (l : a.length ≤ 16000000) : oSplit (SX.S a) [.str (SX.S b)] S = .ok (.lst ((TL.spl b 0 [] a).map fun a => .str (SX.S a))) S := by
  unfold oSplit
  simp only [SX.S_len, SX.split_S hb hk]
  have z : b.length ≠ 0 := fun z => hb (List.length_eq_zero_iff.mp z)
  rw [show ((!(b.length == 0)) && decide (a.length + 2 ≤ sizeLine)) = true by
    rw [beq_eq_false_iff_ne.mpr z, decide_eq_true (show a.length + 2 ≤ sizeLine from Nat.le_trans (Nat.add_le_add_right l 2) (by decide))]
    rfl]
  rw [List.map_map]
  rfl
theorem int_S {a : Cd} (h : Wr a) : oInt [.str (SX.S a)] S = .ok (.int (vlu a)) S := by
  obtain ⟨e1, e2⟩ := int_wr h
  unfold oInt
  simp only [e1]
  rw [decide_eq_true e2]
  rfl
theorem starts_S {a : Cd} : oStarts (SX.S a) [.str (SX.S [45])] S = .ok (.bl (decide (a.head? = some 45))) S := by
  rw [← sw_neg]
  rfl
theorem cut1_at {a : Cd} (h : a.length ≤ 16000000) : oSl (.str (SX.S a)) (some 1) none S = .ok (.str (SX.S (a.drop 1))) S := by
  show guardR (decide ((SX.S a).length ≤ sizeLine)) (R.ok (D.str (Txt.slice (SX.S a) (some 1) none)) S) = _
  rw [SX.S_len, cut1_S, decide_eq_true (Nat.le_trans h (by decide : 16000000 ≤ sizeLine))]
  rfl
end
end Den

namespace Den
open PySem PySem.Spec PyProof.Rows L2
/-! ## a body, statement by statement -/
section
variable {S0 S S' S1 : Sd} {env env' : En} {A B : TSt} {X : R D} {c : TC} {φ : TX} {d : D}
theorem run_seq (h : A env S = .ok (.nx env') S') (k : exitR S0 (outR (B env' S')) = X) : exitR S0 (outR (sSeq A B env S)) = X := by
  rw [ev_seq, h]
  exact k
theorem run_if (h : c env S = .ok false S') (k : exitR S0 (outR (B env S')) = X) : exitR S0 (outR (sSeq (sIf c A sNext) B env S)) = X := by
  rw [ev_seq, ev_if, h]
  exact k
theorem run_ifR {d : D} {T : TSt} (h : c env S = .ok true S') (k : exitR S0 (outR (A env S')) = X) (he : ∀ e S2, A env S' ≠ .ok (.nx e) S2) : exitR S0 (outR (sSeq (sIf c A T) B env S)) = X := by
  rw [ev_seq, ev_if, h]
  rw [← k]
  show exitR S0 (outR ((A env S').bind _)) = _
  cases e : A env S' with
  | ok o S2 => cases o with
    | nx e2 => exact absurd e (he _ _)
    | _ => rfl
  | _ => rfl
theorem run_ret (h : φ env S = .ok d S') (k : exitR S0 (.ok d S') = X) : exitR S0 (outR (sSeq (sRet φ) B env S)) = X := by
  rw [ev_seq, ev_ret, h]
  exact k
theorem lst_last {ds : List D} : lstAt (S ++ [MO.lst ds]) (.hnd S.length) = some (S.length, ds) := by
  unfold lstAt
  have : (S ++ [MO.lst ds])[S.length]? = some (.lst ds) := by
    rw [List.getElem?_append_right (Nat.le_refl _), Nat.sub_self]
    rfl
  simp only [this]
theorem set_last {o p : MO} : (S ++ [o]).set S.length p = S ++ [p] := by
  rw [List.set_append_right _ _ (Nat.le_refl _), Nat.sub_self]
  rfl
theorem lst_is {i : Nat} {ds : List D} (h : S[i]? = some (.lst ds)) : lstAt S (.hnd i) = some (i, ds) := by
  unfold lstAt
  simp only [h]
/-- the drawing's list changed, own lists let go -/
theorem ex_pot {o o' : MO} {R T : Sd} (ho : ∀ g : Nat → Option D, mapHs g o'.ds = some o'.ds) (hc : ∀ g : Nat → Option D, mapH g d = some d) : exitR (o :: R) (.ok d (o' :: (R ++ T))) = .ok d (o' :: R) := by
  unfold exitR
  by_cases hT : T = []
  · subst hT
    rw [List.append_nil]
    dsimp only
    rw [if_pos (show (o' :: R).length = (o :: R).length from rfl)]
  have l : (o' :: (R ++ T)).length ≠ (o :: R).length := fun z => hT (by rw [List.length_cons, List.length_cons, List.length_append] at z; exact List.length_eq_zero_iff.mp (by omega))
  have k : (o :: R).length ≤ (o' :: (R ++ T)).length ∧ KeepOk (o :: R) (o' :: (R ++ T)) := ⟨by rw [List.length_cons, List.length_cons, List.length_append]; omega, fun i u hi e => by
    cases i with
    | zero =>
      have : o' = u := Option.some.inj e
      subst this
      exact .inr (ho _)
    | succ i =>
      refine .inl ?_
      rw [List.getElem?_cons_succ] at e ⊢
      rw [List.getElem?_append_left (by rw [List.length_cons] at hi; omega)] at e
      exact e⟩
  dsimp only
  rw [if_neg l, if_pos k]
  unfold fz
  rw [hc]
  show Den.R.ok d ((o' :: (R ++ T)).take (R.length + 1)) = _
  rw [List.take_succ_cons, List.take_append_of_le_length (Nat.le_refl _), List.take_length]
end
end Den

namespace G44
open PySem PySem.Spec PyProof.Rows L2 Den
section
variable {S : Sd}
@[simp] theorem v_int {i : Int} : F_is_integer [.int i] S = .ok (.bl true) S := by
  simp [F_is_integer, p_is_integer, fn_eq, startE, isB]
def loD : Option Int → D
  | none => .non
  | some i => .int i
@[simp] theorem v_within {i : Int} {l m : Option Int} : F_is_within [.int i, loD l, loD m] S = .ok (.bl (leO l i && geO m i)) S := by
  cases l <;> cases m <;> simp [F_is_within, p_is_within, fn_eq, startE, loD, leO, geO, D.isRaw, D.isNon]
  all_goals (split <;> simp_all) <;> omega
theorem v_within2 {i l m : Int} : F_is_within [.int i, .int l, .int m] S = .ok (.bl (decide (l ≤ i) && decide (i ≤ m))) S := v_within (l := some l) (m := some m)
theorem v_list {d : D} {ds : List D} (h : SqV S d ds) : F_is_list [d] S = .ok (.bl true) S := by
  simp [F_is_list, p_is_list, fn_eq, startE, h.isList]
theorem sz {n m : Nat} (h : n ≤ m) (hm : m ≤ 1000000 := by decide) : n ≤ sizeLine := Nat.le_trans h (Nat.le_trans hm (by decide))
theorem v_ints {d : D} {ns : List Int} (h : SqV S d (ns.map .int)) (hl : ns.length ≤ 1000) : F_are_integers [d] S = .ok (.bl true) S := by
  obtain ⟨w, hw, hw2⟩ := h.walk
  have e : lcL (tName 1) cYes (xFn F_is_integer (xsCons (xVar 1) xsNil)) [some d, none] w (ns.map .int) S = .ok (ns.map fun _ => .bl true) S := lcL_mapG D.int (fun _ => .bl true) hw2 fun x _ => ⟨_, rfl, by simp⟩
  simp [F_are_integers, p_are_integers, fn_eq, startE, v_list h, hw, sz hl, e, ev_all]
abbrev gI (n d : Int) : Nat := n.natAbs.gcd d.natAbs
theorem v_low {n d : Int} (hd : 0 < d) (hb : d.natAbs < 2 ^ 8000) : F_lowest [.int n, .int d] S = .ok (.tup [.int (n / (gI n d : Nat)), .int (d / (gI n d : Nat))]) S := by
  have h0 : d ≠ 0 := by omega
  have h1 : ¬ d < 0 := by omega
  have g0 : gI n d ≠ 0 := fun z => h0 (Int.natAbs_eq_zero.mp (Nat.gcd_eq_zero_iff.mp z).2)
  have g1 : (gI n d).log2 < 9000 := by
    have : gI n d ≤ d.natAbs := Nat.le_of_dvd (by omega) (Nat.gcd_dvd_right _ _)
    exact PySem.Flt.log2_lt_of (by decide) (Nat.lt_of_le_of_lt this (Nat.lt_trans hb (Nat.pow_lt_pow_right (by decide) (by decide))))
  have e1 : n.fdiv (gI n d : Nat) = n / (gI n d : Nat) := Int.fdiv_eq_ediv_of_nonneg _ (by omega)
  have e2 : d.fdiv (gI n d : Nat) = d / (gI n d : Nat) := Int.fdiv_eq_ediv_of_nonneg _ (by omega)
  have s2 : (2 : Nat) ≤ sizeLine := by decide
  have z1 : ¬ ((gI n d : Nat) : Int) < 0 := by omega
  simp only [F_lowest, p_lowest, fn_eq]
  simp [startE, h0, h1]
  simp [g0, g1, e1, e2, s2]
/-! rows, steps -/
abbrev NS2 := Nat × Nat
abbrev NTm := Int × NS2 × NS2
abbrev eS : Enc NS2 := e2 eNat eNat
abbrev eTm : Enc NTm := e3 eInt eS eS
abbrev eRow : Enc (List Int) := eT eInt
abbrev eRows : Enc (List (List Int)) := eT eRow
def told (rs : List (List Int)) (i j : Nat) : Int := if i = 0 ∨ j = 0 then 0 else ((rs[i - 1]?.getD [])[j - 1]?).getD 0
theorem atI_get {τ : Type} {g : τ → D} {l : List τ} {i : Nat} {z : τ} (h : i < l.length) : atI (l.map g) (i : Int) = some (g (l[i]?.getD z)) := by
  refine atI_nat ?_
  rw [List.getElem?_map, List.getElem?_eq_getElem h]
  rfl
theorem v_told {rs : List (List Int)} {i j : Nat} (hi : i ≤ rs.length) (hj : ∀ r ∈ rs, j ≤ r.length) : F__told [eRows.d rs, .int i, .int j] S = .ok (.int (told rs i j)) S := by
  by_cases h1 : i = 0
  · subst h1
    simp [F__told, p__told, fn_eq, startE, told]
  · by_cases h2 : j = 0
    · subst h2
      simp [F__told, p__told, fn_eq, startE, told, h1]
    · have h3 : ((i : Int) - 1) = ((i - 1 : Nat) : Int) := by omega
      have h4 : ((j : Int) - 1) = ((j - 1 : Nat) : Int) := by omega
      have l1 : i - 1 < rs.length := by omega
      have hm : (rs[i - 1]?.getD []) ∈ rs := by
        rw [List.getElem?_eq_getElem l1]
        exact List.getElem_mem l1
      have l2 : j - 1 < ((rs[i - 1]?.getD [])).length := by have := hj _ hm; omega
      have a1 : atI (rs.map eRow.d) ((i - 1 : Nat) : Int) = some (eRow.d ((rs[i - 1]?.getD []))) := atI_get l1
      have a2 : atI (((rs[i - 1]?.getD [])).map D.int) ((j - 1 : Nat) : Int) = some (.int (((rs[i - 1]?.getD [])[j - 1]?).getD 0)) := atI_get l2
      have x1 : oIx (eRows.d rs) (.int ((i - 1 : Nat) : Int)) S = .ok (eRow.d ((rs[i - 1]?.getD []))) S := by
        show okR (atI (rs.map eRow.d) _) S = _
        rw [a1]
        rfl
      have x2 : oIx (eRow.d ((rs[i - 1]?.getD []))) (.int ((j - 1 : Nat) : Int)) S = .ok (.int (((rs[i - 1]?.getD [])[j - 1]?).getD 0)) S := by
        show okR (atI (((rs[i - 1]?.getD [])).map D.int) _) S = _
        rw [a2]
        rfl
      simp only [F__told, p__told, fn_eq]
      simp [startE, told, h1, h2, h3, h4, x1, x2]
def prodI (rs : List (List Int)) (s u : NS2) : Int := told rs s.2 u.2 + told rs s.1 u.1 - told rs s.2 u.1 - told rs s.1 u.2
def Fit (rs : List (List Int)) (s : NS2) : Prop := s.1 ≤ rs.length ∧ s.2 ≤ rs.length ∧ ∀ r ∈ rs, s.1 ≤ r.length ∧ s.2 ≤ r.length
theorem v_prod {rs : List (List Int)} {s u : NS2} (h1 : Fit rs s) (h2 : Fit rs u) : F_product_in [eRows.d rs, eS.d s, eS.d u] S = .ok (.int (prodI rs s u)) S := by
  obtain ⟨a1, a2, a3⟩ := h1
  obtain ⟨b1, b2, b3⟩ := h2
  have t1 := v_told (S := S) a2 (fun r hr => (b3 r hr).2)
  have t2 := v_told (S := S) a1 (fun r hr => (b3 r hr).1)
  have t3 := v_told (S := S) a2 (fun r hr => (b3 r hr).1)
  have t4 := v_told (S := S) a1 (fun r hr => (b3 r hr).2)
  have s2 : (2 : Nat) ≤ sizeLine := by decide
  have eS' : ∀ s : NS2, eS.d s = .tup [.int (s.1 : Nat), .int (s.2 : Nat)] := fun _ => rfl
  simp only [F_product_in, p_product_in, fn_eq]
  simp [startE, s2, eS', t1, t2, t3, t4, prodI]
end
end G44

namespace G44
open PySem PySem.Spec PyProof.Rows L2 Den
section
variable {S : Sd}
def gcdF (g : Nat) (ns : List Int) : Nat := ns.foldl (fun g n => Nat.gcd g n.natAbs) g
theorem gcd_fold (ns : List Int) : ∀ (g : Nat) (o : Option D), (ns.foldl (fun (s : Nat × Option D) n => (Nat.gcd s.1 n.natAbs, some (D.int n))) (g, o)).1 = gcdF g ns := by
  induction ns with
  | nil => intro g o; rfl
  | cons n ns ih => intro g o; exact ih _ _
theorem v_cd {d : D} {ns : List Int} (h : SqV S d (ns.map .int)) (hl : ns.length ≤ 1000) : F_common_divisor [d] S = .ok (.int (gcdF 0 ns : Nat)) S := by
  obtain ⟨w, hw, hw2⟩ := h.walk
  have e := forL_fold (S := S) (w := w) (γ := tName 2) (ψ := sSeq (sSet 1 (xCall oGcd (xsCons (xVar 1) (xsCons (xVar 2) xsNil)))) sNext) D.int (fun (s : Nat × Option D) n => (Nat.gcd s.1 n.natAbs, some (D.int n))) (fun s => [some d, some (.int (s.1 : Nat)), s.2]) hw2 (xs := ns) (s := (0, none)) fun s x _ => ⟨_, rfl, by simp⟩
  simp only [F_common_divisor, p_common_divisor, fn_eq]
  simp [startE, v_ints h hl, hw]
  rw [show ([some d, some (D.int 0), none] : En) = [some d, some (.int ((0 : Nat) : Int)), none] from rfl]
  rw [e]
  simp [gcd_fold]
/-- rows, each told by a list or a tuple -/
def RwV (S : Sd) (d : D) (ps : List (D × List Int)) : Prop := SqV S d (ps.map (·.1)) ∧ ∀ p ∈ ps, SqV S p.1 (p.2.map .int)
abbrev rw (ps : List (D × List Int)) : List (List Int) := ps.map (·.2)
def SymR (rs : List (List Int)) : Prop := 2 ≤ rs.length ∧ rs.length ≤ 6 ∧ (∀ r ∈ rs, r.length = rs.length) ∧ ∀ i j : Nat, ((rs[i]?.getD [])[j]?).getD 0 = ((rs[j]?.getD [])[i]?).getD 0
theorem rw_at {d : D} {ps : List (D × List Int)} (h : RwV S d ps) (sy : SymR (rw ps)) {i j : Nat} (hi : i < ps.length) (hj : j < ps.length) : ∃ x, oIx d (.int (i : Int)) S = .ok x S ∧ oIx x (.int (j : Int)) S = .ok (.int ((((rw ps)[i]?.getD [])[j]?).getD 0)) S := by
  have e1 : ps[i]? = some ps[i] := List.getElem?_eq_getElem hi
  refine ⟨ps[i].1, h.1.ix (atI_nat (by rw [List.getElem?_map, e1]; rfl)), ?_⟩
  have hm : ps[i] ∈ ps := List.getElem_mem hi
  have hl : ps[i].2.length = ps.length := by
    have := sy.2.2.1 ps[i].2 (List.mem_map.mpr ⟨_, hm, rfl⟩)
    rw [List.length_map] at this
    exact this
  have e2 : ps[i].2[j]? = some ps[i].2[j] := List.getElem?_eq_getElem (by omega)
  rw [(h.2 _ hm).ix (atI_nat (by rw [List.getElem?_map, e2]; rfl)), List.getElem?_map, e1]
  show R.ok (D.int ps[i].2[j]) S = R.ok (D.int ((ps[i].2[j]?).getD 0)) S
  rw [e2]
  rfl
theorem acr1 {d : D} {ps : List (D × List Int)} {w : Sd → Bool} (h : RwV S d ps) (sy : SymR (rw ps)) (hw2 : w S = true) : lcL (tName 2) cYes (xAnd (xFn F_are_integers (xsCons (xVar 2) xsNil)) (xBin (oEq []) (xCall oLen (xsCons (xVar 2) xsNil)) (xVar 1))) [some d, some (.int (ps.length : Nat)), none, none, none] w (ps.map (·.1)) S = .ok (ps.map fun _ => .bl true) S := by
  obtain ⟨s1, s2, s3, s4⟩ := id sy
  rw [List.length_map] at s1 s2
  exact lcL_mapG (fun p : D × List Int => p.1) (fun _ => .bl true) hw2 fun x hx => ⟨_, rfl, by
    have l := s3 x.2 (List.mem_map.mpr ⟨_, hx, rfl⟩)
    rw [List.length_map] at l
    have a1 := v_ints (h.2 x hx) (by omega)
    have a2 := (h.2 x hx).len
    rw [List.length_map, l] at a2
    simp [a1, a2]⟩
theorem acr2 {d : D} {ps : List (D × List Int)} (h : RwV S d ps) (sy : SymR (rw ps)) : lcL2 (tName 3) cYes (wRng1 (xsCons (xVar 3) xsNil)) (tName 4) cYes (xBin (oEq []) (xBin oIx (xBin oIx (xVar 0) (xVar 3)) (xVar 4)) (xBin oIx (xBin oIx (xVar 0) (xVar 4)) (xVar 3))) [4] [some d, some (.int (ps.length : Nat)), none, none, none] anyS (rng 0 ps.length) S = .ok ((List.range ps.length).flatMap fun a => (List.range a).map fun _ => .bl true) S := by
  obtain ⟨s1, s2, s3, s4⟩ := id sy
  rw [List.length_map] at s1 s2
  refine lcL2_flat (fun k : Nat => D.int (0 + (k : Int))) _ rfl fun a ha => ⟨_, rng 0 a, anyS, rfl, ?_, ?_⟩
  · have : inRng ((a : Nat) : Int) = true := inRng_nat (by have := List.mem_range.mp ha; omega)
    simp [this]
  · refine lcL_mapG (fun k : Nat => D.int (0 + (k : Int))) (fun _ => .bl true) rfl fun b hb => ⟨_, rfl, ?_⟩
    have ha := List.mem_range.mp ha
    have hb := List.mem_range.mp hb
    obtain ⟨x, x1, x2⟩ := rw_at h sy ha (show b < ps.length by omega)
    obtain ⟨y, y1, y2⟩ := rw_at h sy (show b < ps.length by omega) ha
    have := s4 a b
    simp [x1, x2, y1, y2]
    simpa using this
theorem v_acr {d : D} {ps : List (D × List Int)} (h : RwV S d ps) (sy : SymR (rw ps)) : F__are_chart_rows [d] S = .ok (.bl true) S := by
  obtain ⟨w, hw, hw2⟩ := h.1.walk
  obtain ⟨s1, s2, s3, s4⟩ := id sy
  rw [List.length_map] at s1 s2
  have hl := h.1.len
  rw [List.length_map] at hl
  have e1 := acr1 h sy hw2
  have e2 := acr2 h sy
  have e3 : (((List.range ps.length).flatMap fun a => (List.range a).map fun _ => D.bl true)) = ((List.range ps.length).flatMap fun a => List.range a).map fun _ => D.bl true := by
    rw [List.map_flatMap]
  have e4 : (List.range ps.length).sum ≤ 21 := by
    have : ∀ n, n < 7 → (List.range n).sum ≤ 21 := by decide
    exact this _ (by omega)
  have i1 : inRng ((ps.length : Nat) : Int) = true := inRng_nat (by omega)
  have z1 : (2 : Int) ≤ ps.length := by omega
  have z2 : (ps.length : Int) ≤ 6 := by omega
  simp only [F__are_chart_rows, p__are_chart_rows, fn_eq]
  simp [startE, v_list h.1, hl, hw, sz (show ps.length ≤ 6 from s2), e1, ev_all, i1, z1, z2]
  rw [e2, e3]
  simp [ev_all, sz e4]
/-! Chart -/
def chG (ps : List (D × List Int)) (b : Int) : Nat := gcdF 0 (b :: (rw ps).flatten)
def chR (rs : List (List Int)) (g : Nat) : List (List Int) := rs.map fun r => r.map fun n => n / (g : Int)
/-- a chart -/
def chD (rs : List (List Int)) (b : Int) (pins : Nat) : D := .ins "Chart" ["rows", "by", "pins"] [eRows.d rs, .int b, .int (pins : Nat)]
theorem gcdF_dvd : ∀ (l : List Int) (g : Nat), gcdF g l ∣ g ∧ ∀ n ∈ l, gcdF g l ∣ n.natAbs
  | [], g => ⟨Nat.dvd_refl _, fun _ h => (List.not_mem_nil h).elim⟩
  | n :: l, g => by
    have ih := gcdF_dvd l (Nat.gcd g n.natAbs)
    refine ⟨Nat.dvd_trans ih.1 (Nat.gcd_dvd_left _ _), fun m hm => ?_⟩
    rcases List.mem_cons.mp hm with rfl | hm
    · exact Nat.dvd_trans ih.1 (Nat.gcd_dvd_right _ _)
    · exact ih.2 m hm
theorem fdiv_nat (n : Int) (g : Nat) : n.fdiv (g : Int) = n / (g : Int) := Int.fdiv_eq_ediv_of_nonneg _ (by omega)
theorem RwV.more {d : D} {ps : List (D × List Int)} (h : RwV S d ps) (o : MO) : RwV (S ++ [o]) d ps := by
  have k : ∀ (i : Nat) (u : MO), S[i]? = some u → (S ++ [o])[i]? = some u := fun i u e => by rw [List.getElem?_append_left (List.getElem?_eq_some_iff.mp e).1]; exact e
  exact ⟨h.1.more k, fun p hp => (h.2 p hp).more k⟩
theorem ch1 {d x : D} {b : Int} {ps : List (D × List Int)} {w : Sd → Bool} (h : RwV S d ps) (sy : SymR (rw ps)) (hw2 : w S = true) : lcL2 (tName 4) cYes (wOf (xVar 4)) (tName 5) cYes (xVar 5) [5] [some x, some d, some (.int b), none, none, none] w (ps.map (·.1)) S = .ok ((rw ps).flatten.map .int) S := by
  have e : ((rw ps).flatten.map D.int) = ps.flatMap fun p => p.2.map D.int := by
    rw [List.map_flatten, List.map_map]
    rfl
  rw [e]
  refine lcL2_flat (fun p : D × List Int => p.1) _ hw2 fun p hp => ?_
  obtain ⟨w1, h1, h2⟩ := (h.2 p hp).walk
  refine ⟨_, p.2.map .int, w1, rfl, by simp [h1], ?_⟩
  exact lcL_mapG D.int D.int h2 fun n _ => ⟨_, rfl, by simp⟩
theorem ch2 {d x : D} {b : Int} {g : Nat} {ps : List (D × List Int)} {w : Sd → Bool} (h : RwV S d ps) (sy : SymR (rw ps)) (g0 : g ≠ 0) (g1 : g.log2 < 9000) (hw2 : w S = true) : lcL (tName 4) cYes (xCall oTuple (xsCons (xLc (wOf (xVar 4)) (tName 5) cYes (xBin oDiv (xVar 5) (xVar 3)) [5]) xsNil)) [some x, some d, some (.int b), some (.int (g : Nat)), none, none] w (ps.map (·.1)) S = .ok (ps.map fun p => eRow.d (p.2.map fun n => n / (g : Int))) S := by
  refine lcL_mapG (fun p : D × List Int => p.1) (fun p => eRow.d (p.2.map fun n => n / (g : Int))) hw2 fun p hp => ⟨_, rfl, ?_⟩
  obtain ⟨w1, h1, h2⟩ := (h.2 p hp).walk
  have l : p.2.length ≤ 6 := by
    have := sy.2.2.1 p.2 (List.mem_map.mpr ⟨_, hp, rfl⟩)
    have := sy.2.1
    omega
  have e : lcL (tName 5) cYes (xBin oDiv (xVar 5) (xVar 3)) [some x, some d, some (.int b), some (.int (g : Nat)), some p.1, none] w1 (p.2.map .int) S = .ok (p.2.map fun n => .int (n / (g : Int))) S := lcL_mapG D.int (fun n => .int (n / (g : Int))) h2 fun n _ => ⟨_, rfl, by simp [g0, g1, fdiv_nat]⟩
  have e2 : eRow.d (p.2.map fun n => n / (g : Int)) = .tup (p.2.map fun n => .int (n / (g : Int))) := by
    show D.tup ((p.2.map _).map D.int) = _
    rw [List.map_map]
    rfl
  simp [h1, sz l, e, e2]
theorem v_chart {d : D} {ps : List (D × List Int)} {b : Int} (h : RwV S d ps) (sy : SymR (rw ps)) (hb : 0 < b) (hb2 : b.natAbs < 2 ^ 8000) : newR "Chart" F_Chart_init [d, .int b] S = .ok (chD (chR (rw ps) (chG ps b)) (b / (chG ps b : Nat)) (ps.length + 1)) S := by
  refine newR_ins ?_ fun g => ?_
  · have hA := h.more (.ins "Chart" [] [])
    obtain ⟨w, hw, hw2⟩ := hA.1.walk
    have hl : (rw ps).flatten.length ≤ 999 := by
      have : ∀ rs : List (List Int), (∀ r ∈ rs, r.length ≤ 6) → rs.flatten.length ≤ 6 * rs.length := fun rs => by
        induction rs with
        | nil => intro _; exact Nat.zero_le _
        | cons r rs ih =>
          intro z
          have a := ih fun r hr => z r (List.mem_cons_of_mem _ hr)
          have c := z r List.mem_cons_self
          rw [List.flatten_cons, List.length_append, List.length_cons]
          omega
      have a := this (rw ps) fun r hr => by rw [sy.2.2.1 r hr]; exact sy.2.1
      have c := sy.2.1
      omega
    have gd : chG ps b ∣ b.natAbs := (gcdF_dvd (b :: (rw ps).flatten) 0).2 b List.mem_cons_self
    have gb : chG ps b ≤ b.natAbs := Nat.le_of_dvd (by omega) gd
    have g0 : chG ps b ≠ 0 := fun z => by rw [z] at gd; have := Nat.eq_zero_of_zero_dvd gd; omega
    have g1 : (chG ps b).log2 < 9000 := PySem.Flt.log2_lt_of (by decide) (Nat.lt_of_le_of_lt gb (Nat.lt_trans hb2 (Nat.pow_lt_pow_right (by decide) (by decide))))
    have hb1 : ¬ b < 1 := by omega
    have cd := v_cd (S := S ++ [.ins "Chart" [] []]) (d := .lst (D.int b :: (rw ps).flatten.map D.int)) (ns := b :: (rw ps).flatten) .lst (by rw [List.length_cons]; omega)
    have e1 := ch1 (x := .hnd S.length) (b := b) hA sy hw2
    have e2 := ch2 (x := .hnd S.length) (b := b) hA sy g0 g1 hw2
    have s1 : (rw ps).flatten.length ≤ sizeLine := sz (Nat.le_trans hl (by decide : 999 ≤ 1000))
    have s2 : 1 + (rw ps).flatten.length ≤ sizeLine := sz (show 1 + (rw ps).flatten.length ≤ 1000 by omega)
    have s3 : ps.length ≤ sizeLine := by have := sy.2.1; rw [List.length_map] at this; exact sz this
    have s4 : (1 : Nat) ≤ sizeLine := by decide
    have hg : gcdF 0 (b :: (rw ps).flatten) = chG ps b := rfl
    rw [hg] at cd
    generalize (rw ps).flatten = fl at *
    have e3 : (ps.map fun p => eRow.d (p.2.map fun n => n / ((chG ps b : Nat) : Int))) = (chR (rw ps) (chG ps b)).map eRow.d := by
      unfold chR
      rw [List.map_map, List.map_map]
      rfl
    have e4 : eRows.d (chR (rw ps) (chG ps b)) = .tup ((chR (rw ps) (chG ps b)).map eRow.d) := rfl
    rw [e3] at e2
    have lA := fun o => ((h.more o).1.len)
    simp only [List.length_map] at lA
    simp only [F_Chart_init, p_Chart_init, fn_eq]
    simp [startE, v_acr hA sy, hb1, hw, e1, s1, s2, s4, cd, s3, e2, fld_new, putD, g0, g1, fdiv_nat, lA, chD, e4]
  · simp only [mapHs, mapH]
    rw [eRows.cl]
end
end G44

namespace G44
open PySem PySem.Spec PyProof.Rows L2 Den
section
variable {S : Sd}
theorem ok_rows (rs : List (List Int)) : eRows.ok rs = true := by
  show rs.all (fun r => r.all fun _ => true) = true
  simp
theorem eq_rows {neg : Bool} {eqs : Eqs} {rs qs : List (List Int)} : oEqN neg eqs (eRows.d rs) (eRows.d qs) S = .ok (.bl (if neg then !decide (rs = qs) else decide (rs = qs))) S := eRows.eqN (by decide) rs qs (ok_rows rs) (ok_rows qs)
theorem v_cheq {rs qs : List (List Int)} {b c : Int} {m n : Nat} : F_Chart_eq [chD rs b m, chD qs c n] S = .ok (.bl (decide (rs = qs) && decide (b = c))) S := by
  simp only [F_Chart_eq, p_Chart_eq, fn_eq]
  simp [startE, chD, eq_rows]
  by_cases h : rs = qs <;> simp [h]
noncomputable abbrev eqs44 : Eqs := ("Chart", F_Chart_eq) :: (("Saying", F_Saying_eq) :: [])
theorem v_ch_eq {neg : Bool} {rs qs : List (List Int)} {b c : Int} {m n : Nat} : oEqN neg eqs44 (chD rs b m) (chD qs c n) S = .ok (.bl (if neg then !(decide (rs = qs) && decide (b = c)) else (decide (rs = qs) && decide (b = c)))) S := by
  show (if ((chD qs c n).kn S).isSome = true then oEqI F_Chart_eq (chD rs b m) (chD qs c n) S neg else .stuck) = _
  have e : ((chD qs c n).kn S).isSome = true := rfl
  rw [if_pos e]
  unfold oEqI
  rw [v_cheq]
  rfl
theorem v_cc {rs : List (List Int)} {b : Int} {m : Nat} {x : D} : F_check_chart [chD rs b m, x] S = .ok .non S := by
  simp only [F_check_chart, p_check_chart, fn_eq]
  simp [startE, chD]
def wordF (d : Int) : String := if d = 0 then "just" else if 0 < d then "above" else "below"
theorem v_wf {d : Int} : F_word_for [.int d] S = .ok (.str (Str.ofString (wordF d))) S := by
  simp only [F_word_for, p_word_for, fn_eq, wordF]
  by_cases h : d = 0
  · simp [startE, h]
  · by_cases h2 : 0 < d <;> simp [startE, h, h2]
def tmB (t : NTm) : Prop := t.1.natAbs < 2 ^ 40000
def sumI (rs : List (List Int)) (ts : List NTm) : Int := (ts.map fun t => t.1 * prodI rs t.2.1 t.2.2).sum
theorem mul_ok {i j : Int} (hi : i.natAbs < 2 ^ 60000) (hj : j.natAbs < 2 ^ 60000) : mulOkX i j = true := decide_eq_true (mulx_ok hi hj (by decide))
abbrev eTs : Enc (List NTm) := eT eTm
theorem v_sum {rs : List (List Int)} {ts : List NTm} (hl : ts.length ≤ 100) (hf : ∀ t ∈ ts, Fit rs t.2.1 ∧ Fit rs t.2.2) (hm : ∀ t ∈ ts, t.1.natAbs < 2 ^ 60000 ∧ (prodI rs t.2.1 t.2.2).natAbs < 2 ^ 60000) : F_sum_in [eRows.d rs, eTs.d ts] S = .ok (.int (sumI rs ts)) S := by
  have e : lcL (Den.tTup [(tName 2), (tName 3), (tName 4)]) cYes (xBin oMulT (xVar 2) (xFn F_product_in (xsCons (xVar 0) (xsCons (xVar 3) (xsCons (xVar 4) xsNil))))) [some (eRows.d rs), some (eTs.d ts), none, none, none] anyS (ts.map eTm.d) S = .ok (ts.map fun t => .int (t.1 * prodI rs t.2.1 t.2.2)) S := by
    refine lcL_mapG eTm.d (fun t => .int (t.1 * prodI rs t.2.1 t.2.2)) rfl fun t ht => ⟨[some (eRows.d rs), some (eTs.d ts), some (.int t.1), some (eS.d t.2.1), some (eS.d t.2.2)], rfl, ?_⟩
    obtain ⟨f1, f2⟩ := hf t ht
    obtain ⟨m1, m2⟩ := hm t ht
    simp [v_prod f1 f2, mul_ok m1 m2]
  have ed : eTs.d ts = .tup (ts.map eTm.d) := rfl
  simp only [F_sum_in, p_sum_in, fn_eq]
  simp [startE]
  rw [ed] at e ⊢
  simp [e, sz hl, ev_sum, sumI]
/-! steps, terms, as they are handed -/
def StV (S : Sd) (d : D) (s : NS2) : Prop := SqV S d [.int (s.1 : Nat), .int (s.2 : Nat)]
def In6 (s : NS2) : Prop := s.1 ≤ 6 ∧ s.2 ≤ 6
theorem v_step {d : D} {s : NS2} (h : StV S d s) (i : In6 s) : F__is_step [d] S = .ok (.bl true) S := by
  obtain ⟨w, hw, hw2⟩ := h.walk
  have hl : oLen [d] S = .ok (.int 2) S := h.len
  have e : lcL (tName 1) cYes (xFn F_is_within (xsCons (xVar 1) (xsCons (xC (.int 0)) (xsCons (xC (.int 6)) xsNil)))) [some d, none] w [.int (s.1 : Nat), .int (s.2 : Nat)] S = .ok ([s.1, s.2].map fun _ => .bl true) S := by
    refine lcL_mapG (fun n : Nat => D.int n) (fun _ => .bl true) hw2 (xs := [s.1, s.2]) fun n hn => ⟨_, rfl, ?_⟩
    have : n ≤ 6 := by
      rcases List.mem_cons.mp hn with rfl | hn
      · exact i.1
      · rw [List.mem_singleton.mp hn]; exact i.2
    have z1 : (0 : Int) ≤ n := by omega
    have z2 : (n : Int) ≤ 6 := by omega
    simp [v_within2, z1, z2]
  have s2 : (2 : Nat) ≤ sizeLine := by decide
  have ea := ev_all (S := S) (fun _ : Nat => true) [s.1, s.2]
  simp only [F__is_step, p__is_step, fn_eq]
  simp [startE, v_list h, hl, hw, s2, e]
  simp at ea
  simp [ea]
structure TmV (S : Sd) (d : D) (t : NTm) : Prop where
  ex : ∃ x y, SqV S d [.int t.1, x, y] ∧ StV S x t.2.1 ∧ StV S y t.2.2
theorem v_term {d : D} {t : NTm} (h : TmV S d t) (i1 : In6 t.2.1) (i2 : In6 t.2.2) : F__is_term [d] S = .ok (.bl true) S := by
  obtain ⟨x, y, h, hx, hy⟩ := h.ex
  have hl : oLen [d] S = .ok (.int 3) S := h.len
  have a0 : oIx d (.int 0) S = .ok (.int t.1) S := h.ix rfl
  have a1 : oIx d (.int 1) S = .ok x S := h.ix rfl
  have a2 : oIx d (.int 2) S = .ok y S := h.ix rfl
  simp only [F__is_term, p__is_term, fn_eq]
  simp [startE, v_list h, hl, a0, a1, a2, v_step hx i1, v_step hy i2]
theorem v_steps {x y : D} {s t : NS2} (hx : StV S x s) (hy : StV S y t) (i1 : In6 s) (i2 : In6 t) : F__check_steps [x, y] S = .ok .non S := by
  have s2 : (2 : Nat) ≤ sizeLine := by decide
  simp only [F__check_steps, p__check_steps, fn_eq]
  simp [startE, s2, v_step hx i1, v_step hy i2]
end
end G44

namespace G44
open PySem PySem.Spec PyProof.Rows L2 Den
section
variable {S : Sd}
def Wd3 (wd : String) : Prop := wd = "above" ∨ wd = "below" ∨ wd = "just"
abbrev wordsD : D := .tup [(.str (Str.ofString "above")), (.str (Str.ofString "below")), (.str (Str.ofString "just"))]
theorem v_nin {wd : String} (h : Wd3 wd) : oInN true (.str (Str.ofString wd)) wordsD S = .ok (.bl false) S := by
  rcases h with rfl | rfl | rfl <;> rfl
theorem v_in {wd : String} (h : Wd3 wd) : oInN false (.str (Str.ofString wd)) wordsD S = .ok (.bl true) S := by
  rcases h with rfl | rfl | rfl <;> rfl
def mx4 (t : NTm) : Int := [((t.2.1.2 : Nat) : Int), (t.2.2.1 : Nat), (t.2.2.2 : Nat)].foldl max ((t.2.1.1 : Nat) : Int)
theorem v_mx4 {t : NTm} : oMax [.tup [.int (t.2.1.1 : Nat), .int (t.2.1.2 : Nat), .int (t.2.2.1 : Nat), .int (t.2.2.2 : Nat)]] S = .ok (.int (mx4 t)) S := by
  rfl
def pinsI (ts : List NTm) : Int := 1 + match ts.map mx4 with
  | [] => 0
  | n :: ns => ns.foldl max n
def syD (ts : List NTm) (wd : String) (n : Int) : D := .ins "Saying" ["terms", "word", "number", "pins"] [eTs.d ts, .str (Str.ofString wd), .int n, .int (pinsI ts)]
/-- terms, as they are handed -/
def TsV (S : Sd) (d : D) (ps : List (D × NTm)) : Prop := SqV S d (ps.map (·.1)) ∧ ∀ p ∈ ps, TmV S p.1 p.2 ∧ In6 p.2.2.1 ∧ In6 p.2.2.2
theorem StV.more {d : D} {s : NS2} (h : StV S d s) (o : MO) : StV (S ++ [o]) d s := SqV.more h fun i u e => by rw [List.getElem?_append_left (List.getElem?_eq_some_iff.mp e).1]; exact e
theorem TmV.more {d : D} {t : NTm} (h : TmV S d t) (o : MO) : TmV (S ++ [o]) d t := by
  obtain ⟨x, y, h, hx, hy⟩ := h.ex
  exact ⟨x, y, h.more fun i u e => by rw [List.getElem?_append_left (List.getElem?_eq_some_iff.mp e).1]; exact e, hx.more o, hy.more o⟩
theorem TsV.more {d : D} {ps : List (D × NTm)} (h : TsV S d ps) (o : MO) : TsV (S ++ [o]) d ps := ⟨h.1.more fun i u e => by rw [List.getElem?_append_left (List.getElem?_eq_some_iff.mp e).1]; exact e, fun p hp => ⟨(h.2 p hp).1.more o, (h.2 p hp).2⟩⟩
theorem sy1 {d x y z : D} {ps : List (D × NTm)} {w : Sd → Bool} (h : TsV S d ps) (hw2 : w S = true) : lcL (tName 4) cYes (xFn F__is_term (xsCons (xVar 4) xsNil)) [some x, some d, some y, some z, none, none, none, none, none] w (ps.map (·.1)) S = .ok (ps.map fun _ => .bl true) S :=
  lcL_mapG (fun p : D × NTm => p.1) (fun _ => .bl true) hw2 fun p hp => ⟨_, rfl, by
    obtain ⟨a, b, c⟩ := h.2 p hp
    simp [v_term a b c]⟩
theorem sy2 {d x y z : D} {ps : List (D × NTm)} {w : Sd → Bool} (h : TsV S d ps) (hw2 : w S = true) : lcL (Den.tTup [(tName 5), (tName 6), (tName 7)]) cYes (xTup (xsCons (xVar 5) (xsCons (xCall oTuple (xsCons (xVar 6) xsNil)) (xsCons (xCall oTuple (xsCons (xVar 7) xsNil)) xsNil)))) [some x, some d, some y, some z, none, none, none, none, none] w (ps.map (·.1)) S = .ok ((ps.map (·.2)).map eTm.d) S := by
  rw [List.map_map]
  refine lcL_mapG (fun p : D × NTm => p.1) (fun p => eTm.d p.2) hw2 fun p hp => ?_
  obtain ⟨a, b, hs, hx, hy⟩ := (h.2 p hp).1.ex
  have s3 : (3 : Nat) ≤ sizeLine := by decide
  have q1 := SqV.tuple hx
  have q2 := SqV.tuple hy
  refine ⟨[some x, some d, some y, some z, none, some (.int p.2.1), some a, some b, none], ?_, ?_⟩
  · rw [hs.tgt]
    simp
  · simp [q1, q2, s3]
    rfl
theorem sy3 {d x y z : D} {ts : List NTm} {u : Sd → Bool} (hu : u S = true) : lcL (Den.tTup [(tName 8), (tName 6), (tName 7)]) cYes (xCall oMax (xsCons (xBin oAdd (xVar 6) (xVar 7)) xsNil)) [some x, some d, some y, some z, none, none, none, none, none] u (ts.map eTm.d) S = .ok (ts.map fun t => .int (mx4 t)) S := by
  refine lcL_mapG eTm.d (fun t => .int (mx4 t)) hu fun t ht => ⟨[some x, some d, some y, some z, none, none, some (eS.d t.2.1), some (eS.d t.2.2), some (.int t.1)], rfl, ?_⟩
  have s4 : (4 : Nat) ≤ sizeLine := by decide
  have e1 : ∀ s : NS2, eS.d s = .tup [.int (s.1 : Nat), .int (s.2 : Nat)] := fun _ => rfl
  simp [e1, s4, v_mx4]
theorem v_maxL {ts : List NTm} (h : ts ≠ []) : oMax [.lst (ts.map fun t => .int (mx4 t))] S = .ok (.int (pinsI ts - 1)) S := by
  have e : ((D.itemsL S (.lst (ts.map fun t => .int (mx4 t)))).bind (allOf D.int?)) = some (ts.map mx4) := allOf_map (f := D.int?) (g := fun t : NTm => D.int (mx4 t)) (h := mx4) (fun _ => rfl) ts
  show (match ((D.itemsL S (.lst (ts.map fun t => .int (mx4 t)))).bind (allOf D.int?)) with | some (n :: ns) => R.ok (D.int (ns.foldl max n)) S | _ => .stuck) = _
  rw [e]
  unfold pinsI
  cases ts with
  | nil => exact absurd rfl h
  | cons t ts =>
    show R.ok (D.int _) S = R.ok (D.int (1 + _ - 1)) S
    rw [Int.add_comm 1, Int.add_sub_cancel]
    rfl
theorem v_saying {d : D} {ps : List (D × NTm)} {wd : String} {n : Int} (h : TsV S d ps) (ne : ps ≠ []) (hl : ps.length ≤ 12) (hwd : Wd3 wd) : newR "Saying" F_Saying_init [d, .str (Str.ofString wd), .int n] S = .ok (syD (ps.map (·.2)) wd n) S := by
  refine newR_ins ?_ fun g => ?_
  · have hA := h.more (.ins "Saying" [] [])
    obtain ⟨w, hw, hw2⟩ := hA.1.walk
    have hlen := hA.1.len
    rw [List.length_map] at hlen
    have htr := hA.1.truth
    have e1 := sy1 (x := .hnd S.length) (y := .str (Str.ofString wd)) (z := .int n) hA hw2
    have e2 := sy2 (x := .hnd S.length) (y := .str (Str.ofString wd)) (z := .int n) hA hw2
    have nt : ps.map (·.2) ≠ [] := fun z => ne (List.map_eq_nil_iff.mp z)
    have s1 := sz hl
    have l12 : ¬ (12 : Int) < ps.length := by omega
    have s2 : (ps.map (·.2)).length ≤ sizeLine := by rw [List.length_map]; exact s1
    generalize hts : ps.map (·.2) = ts at *
    have ed : eTs.d ts = .tup (ts.map eTm.d) := rfl
    have np : ps.isEmpty = false := by cases ps with | nil => exact absurd rfl ne | cons _ _ => rfl
    have np1 : (ps.map (·.1)).isEmpty = false := by cases ps with | nil => exact absurd rfl ne | cons _ _ => rfl
    rw [np1] at htr
    have pe : (1 : Int) + (pinsI ts - 1) = pinsI ts := by omega
    have vl := v_list hA.1
    have e3 := fun o => sy3 (S := S ++ [o]) (x := .hnd S.length) (d := d) (y := .str (Str.ofString wd)) (z := .int n) (ts := ts) (u := anyS) rfl
    simp only [F_Saying_init, p_Saying_init, fn_eq]
    simp [startE, isB, vl, htr, hw, s1, e1, ev_all, v_nin hwd, hlen, l12, e2, fld_new, fld_at, putD, e3, s2, v_maxL nt, pe, syD, ed]
  · simp only [mapHs, mapH]
    rw [eTs.cl]
end
end G44

namespace G44
open PySem PySem.Spec PyProof.Rows L2 Den
section
variable {S : Sd}
theorem ok_tms (ts : List NTm) : eTs.ok ts = true := by
  show ts.all (fun t => true && ((true && true) && (true && true))) = true
  simp
theorem eq_tms {neg : Bool} {eqs : Eqs} {ts us : List NTm} : oEqN neg eqs (eTs.d ts) (eTs.d us) S = .ok (.bl (if neg then !decide (ts = us) else decide (ts = us))) S := eTs.eqN (by decide) ts us (ok_tms ts) (ok_tms us)
theorem eq_wd {neg : Bool} {eqs : Eqs} {u v : String} (hu : Wd3 u) (hv : Wd3 v) : oEqN neg eqs (.str (Str.ofString u)) (.str (Str.ofString v)) S = .ok (.bl (if neg then !decide (u = v) else decide (u = v))) S := by
  have ok : ∀ w, Wd3 w → PyData.strOk (Str.ofString w) = true := fun w h => by rcases h with rfl | rfl | rfl <;> decide +kernel
  have e : decide (Str.ofString u = Str.ofString v) = decide (u = v) := by
    rcases hu with rfl | rfl | rfl <;> rcases hv with rfl | rfl | rfl <;> decide +kernel
  rw [← e]
  exact eStr.eqN (Nat.zero_le _) _ _ (ok _ hu) (ok _ hv)
theorem v_syeq {ts us : List NTm} {u v : String} {m n : Int} (hu : Wd3 u) (hv : Wd3 v) : F_Saying_eq [syD ts u m, syD us v n] S = .ok (.bl (decide (ts = us) && (decide (u = v) && decide (m = n)))) S := by
  simp only [F_Saying_eq, p_Saying_eq, fn_eq]
  simp [startE, syD, eq_tms, eq_wd hu hv]
  by_cases h : ts = us
  · by_cases h2 : u = v <;> simp [h, h2]
  · simp [h]
theorem v_sy_eq {neg : Bool} {ts us : List NTm} {u v : String} {m n : Int} (hu : Wd3 u) (hv : Wd3 v) : oEqN neg eqs44 (syD ts u m) (syD us v n) S = .ok (.bl (if neg then !(decide (ts = us) && (decide (u = v) && decide (m = n))) else (decide (ts = us) && (decide (u = v) && decide (m = n))))) S := by
  show (if ((syD us v n).kn S).isSome = true then oEqI F_Saying_eq (syD ts u m) (syD us v n) S neg else .stuck) = _
  have e : ((syD us v n).kn S).isSome = true := rfl
  rw [if_pos e]
  unfold oEqI
  rw [v_syeq hu hv]
  rfl
/-- a sum fits a chart -/
structure FitV (rs : List (List Int)) (b : Int) (ts : List NTm) : Prop where
  len : ts.length ≤ 100
  fit : ∀ t ∈ ts, Fit rs t.2.1 ∧ Fit rs t.2.2
  low : ∀ t ∈ ts, t.1.natAbs < 2 ^ 60000 ∧ (prodI rs t.2.1 t.2.2).natAbs < 2 ^ 60000
  pos : 0 < b
  bb : b.natAbs < 2 ^ 8000
def lowI (n d : Int) : Int × Int := (n / (gI n d : Nat), d / (gI n d : Nat))
def valI (rs : List (List Int)) (b : Int) (ts : List NTm) : Int × Int := lowI (sumI rs ts) b
theorem v_value {rs : List (List Int)} {b n : Int} {m : Nat} {ts : List NTm} {wd : String} (h : FitV rs b ts) (hm : pinsI ts ≤ m) : F_Saying_value [syD ts wd n, chD rs b m] S = .ok (.tup [.int (valI rs b ts).1, .int (valI rs b ts).2]) S := by
  have l : ¬ (m : Int) < pinsI ts := by omega
  have vs := v_sum (S := S) h.len h.fit h.low
  have vl := v_low (S := S) (n := sumI rs ts) h.pos h.bb
  have vc : F_check_chart [chD rs b m, .str (Str.ofString "chart")] S = .ok .non S := v_cc
  unfold chD at vc
  simp only [F_Saying_value, p_Saying_value, fn_eq]
  simp [startE, syD, chD, vc, l, vs, vl, valI, lowI]
theorem wf3 (d : Int) : Wd3 (wordF d) := by
  unfold wordF Wd3
  split
  · exact .inr (.inr rfl)
  · split
    · exact .inl rfl
    · exact .inr (.inl rfl)
def holdsB (rs : List (List Int)) (b : Int) (ts : List NTm) (wd : String) (n : Int) : Bool := decide (wd = wordF ((valI rs b ts).1 - n * (valI rs b ts).2))
theorem v_holds {rs : List (List Int)} {b n : Int} {m : Nat} {ts : List NTm} {wd : String} (h : FitV rs b ts) (hm : pinsI ts ≤ m) (hwd : Wd3 wd) (hn : n.natAbs < 2 ^ 60000) (hv : (valI rs b ts).2.natAbs < 2 ^ 60000) : F_Saying_holds [syD ts wd n, chD rs b m] S = .ok (.bl (holdsB rs b ts wd n)) S := by
  have vv := v_value (S := S) (n := n) (wd := wd) h hm
  have e : methOf [("Saying", F_Saying_value)] "value" (syD ts wd n) S = some F_Saying_value := by
    unfold methOf syD D.clsOf
    simp
  have mo := mul_ok hn hv
  simp only [F_Saying_holds, p_Saying_holds, fn_eq]
  simp [startE, e, vv, mo, v_wf]
  unfold syD
  simp [mo, v_wf, eq_wd hwd (wf3 _), holdsB]
theorem pairs_of (ts : List NTm) : (ts.map fun t => (eTm.d t, t)).map (·.2) = ts := by
  rw [List.map_map]
  exact List.map_id _
theorem v_longer {x y : D} {s t : NS2} (hx : StV S x s) (hy : StV S y t) (i1 : In6 s) (i2 : In6 t) : F_Saying_longer [x, y] S = .ok (syD [(1, s, s), (-1, t, t)] "above" 0) S := by
  have hT : TsV S (.lst [.tup [.int 1, x, x], .tup [.int (-1), y, y]]) [(.tup [.int 1, x, x], (1, s, s)), (.tup [.int (-1), y, y], (-1, t, t))] := ⟨.lst, fun p hp => by
    rcases List.mem_cons.mp hp with rfl | hp
    · exact ⟨⟨x, x, .tup, hx, hx⟩, i1, i1⟩
    · rw [List.mem_singleton.mp hp]
      exact ⟨⟨y, y, .tup, hy, hy⟩, i2, i2⟩⟩
  have vn := v_saying (n := 0) hT (by simp) (by simp) (show Wd3 "above" from .inl rfl)
  have s3 : (3 : Nat) ≤ sizeLine := by decide
  have s2 : (2 : Nat) ≤ sizeLine := by decide
  simp only [F_Saying_longer, p_Saying_longer, fn_eq]
  simp [startE, v_steps hx hy i1 i2, s3, s2, vn]
theorem v_right {x y : D} {s t : NS2} (hx : StV S x s) (hy : StV S y t) (i1 : In6 s) (i2 : In6 t) : F_Saying_right [x, y] S = .ok (syD [(1, s, t)] "just" 0) S := by
  have hT : TsV S (.lst [.tup [.int 1, x, y]]) [(.tup [.int 1, x, y], (1, s, t))] := ⟨.lst, fun p hp => by
    rw [List.mem_singleton.mp hp]
    exact ⟨⟨x, y, .tup, hx, hy⟩, i1, i2⟩⟩
  have vn := v_saying (n := 0) hT (by simp) (by simp) (show Wd3 "just" from .inr (.inr rfl))
  have s3 : (3 : Nat) ≤ sizeLine := by decide
  have s1 : (1 : Nat) ≤ sizeLine := by decide
  simp only [F_Saying_right, p_Saying_right, fn_eq]
  simp [startE, v_steps hx hy i1 i2, s3, s1, vn]
end
end G44

namespace G44
open PySem PySem.Spec PyProof.Rows L2 Den
section
variable {S : Sd}
/-- terms that stand in a tuple or a list of tuples -/
theorem tsv_of {d : D} {ts : List NTm} (h : SqV S d (ts.map eTm.d)) (i : ∀ t ∈ ts, In6 t.2.1 ∧ In6 t.2.2) : TsV S d (ts.map fun t => (eTm.d t, t)) := by
  refine ⟨by rw [List.map_map]; exact h, fun p hp => ?_⟩
  obtain ⟨t, ht, rfl⟩ := List.mem_map.mp hp
  exact ⟨⟨_, _, .tup, .tup, .tup⟩, i t ht⟩
theorem v_say {d : D} {ts : List NTm} {wd : String} {n : Int} (h : SqV S d (ts.map eTm.d)) (i : ∀ t ∈ ts, In6 t.2.1 ∧ In6 t.2.2) (ne : ts ≠ []) (hl : ts.length ≤ 12) (hwd : Wd3 wd) : newR "Saying" F_Saying_init [d, .str (Str.ofString wd), .int n] S = .ok (syD ts wd n) S := by
  have := v_saying (n := n) (tsv_of h i) (fun z => ne (List.map_eq_nil_iff.mp z)) (by rw [List.length_map]; exact hl) hwd
  rw [pairs_of] at this
  exact this
def turnW (wd : String) : String := if wd = "above" then "below" else if wd = "below" then "above" else "just"
theorem turn3 {wd : String} (h : Wd3 wd) : Wd3 (turnW wd) := by
  rcases h with rfl | rfl | rfl
  · exact .inr (.inl rfl)
  · exact .inl rfl
  · exact .inr (.inr rfl)
theorem v_turn {wd : String} (h : Wd3 wd) : oGd [("above", "below"), ("below", "above"), ("just", "just")] (.str (Str.ofString wd)) S = .ok (.str (Str.ofString (turnW wd))) S := by
  rcases h with rfl | rfl | rfl <;> rfl
def timesT (ts : List NTm) (k : Int) : List NTm := ts.map fun t => (t.1 * k, t.2.1, t.2.2)
theorem v_times {ts : List NTm} {wd : String} {n k : Int} (i : ∀ t ∈ ts, In6 t.2.1 ∧ In6 t.2.2) (ne : ts ≠ []) (hl : ts.length ≤ 12) (hwd : Wd3 wd) (hk : k ≠ 0) (hm : ∀ t ∈ ts, t.1.natAbs < 2 ^ 60000) (hn : n.natAbs < 2 ^ 60000) (hkm : k.natAbs < 2 ^ 60000) :
    F_Saying_times [syD ts wd n, .int k] S = .ok (syD (timesT ts k) (if 0 < k then wd else turnW wd) (n * k)) S := by
  have e : lcL (Den.tTup [(tName 4), (tName 5), (tName 6)]) cYes (xTup (xsCons (xBin oMulT (xVar 4) (xVar 1)) (xsCons (xVar 5) (xsCons (xVar 6) xsNil)))) [some (syD ts wd n), some (.int k), none, none, none, none, none] anyS (ts.map eTm.d) S = .ok ((timesT ts k).map eTm.d) S := by
    unfold timesT
    rw [List.map_map]
    refine lcL_mapG eTm.d (fun t => eTm.d (t.1 * k, t.2.1, t.2.2)) rfl fun t ht => ⟨[some (syD ts wd n), some (.int k), none, none, some (.int t.1), some (eS.d t.2.1), some (eS.d t.2.2)], rfl, ?_⟩
    have s3 : (3 : Nat) ≤ sizeLine := by decide
    simp [mul_ok (hm t ht) hkm, s3]
    rfl
  have w3 : Wd3 (if 0 < k then wd else turnW wd) := by
    by_cases z : 0 < k
    · rw [if_pos z]; exact hwd
    · rw [if_neg z]; exact turn3 hwd
  have vs := v_say (S := S) (d := .lst ((timesT ts k).map eTm.d)) (n := n * k) .lst (fun t ht => by
    obtain ⟨u, hu, rfl⟩ := List.mem_map.mp ht
    exact i u hu) (fun z => ne (List.map_eq_nil_iff.mp z)) (by unfold timesT; rw [List.length_map]; exact hl) w3
  have ed : eTs.d ts = .tup (ts.map eTm.d) := rfl
  have mo := mul_ok hn hkm
  have sl : ts.length ≤ sizeLine := sz hl
  simp only [F_Saying_times, p_Saying_times, fn_eq]
  by_cases z : 0 < k
  · rw [if_pos z] at vs ⊢
    simp [startE, hk, syD, ed, sl] at e ⊢
    simp [e, z, mo, vs, syD, ed] at vs ⊢
  · rw [if_neg z] at vs ⊢
    have vt := v_turn (S := S) hwd
    simp [startE, hk, syD, ed, sl] at e ⊢
    simp [e, z, mo, vs, vt, syD, ed] at vs ⊢
theorem v_others {ts : List NTm} {wd : String} {n : Int} (i : ∀ t ∈ ts, In6 t.2.1 ∧ In6 t.2.2) (ne : ts ≠ []) (hl : ts.length ≤ 12) (hwd : Wd3 wd) :
    F_Saying_others [syD ts wd n] S = .ok (.tup ((["above", "below", "just"].filter fun w => !decide (w = wd)).map fun w => syD ts w n)) S := by
  have e : lcL (tName 1) (cB (xBin (oNe []) (xVar 1) (xUn (oFld "word") (xVar 0)))) (xNew "Saying" F_Saying_init (xsCons (xUn (oFld "terms") (xVar 0)) (xsCons (xVar 1) (xsCons (xUn (oFld "number") (xVar 0)) xsNil)))) [some (syD ts wd n), none] anyS (["above", "below", "just"].map fun w => .str (Str.ofString w)) S = .ok ((["above", "below", "just"].filter fun w => !decide (w = wd)).map fun w => syD ts w n) S := by
    refine lcL_filterG (fun w => D.str (Str.ofString w)) (fun w => syD ts w n) (fun w => !decide (w = wd)) rfl fun w hw => ⟨_, rfl, ?_, fun _ => ?_⟩
    all_goals have w3 : Wd3 w := by simp at hw; exact hw
    · have q := eq_wd (S := S) (neg := true) (eqs := []) w3 hwd
      simp [syD, q]
    · have q := v_say (S := S) (d := eTs.d ts) (wd := w) (n := n) .tup i ne hl w3
      simp [syD] at q ⊢
      exact q
  have s3 : (3 : Nat) ≤ sizeLine := by decide
  simp only [F_Saying_others, p_Saying_others, fn_eq]
  simp [startE, s3]
  simp at e
  rw [e]
  simp
end
end G44

namespace G44
open PySem PySem.Spec PyProof.Rows L2 Den
section
variable {R : Sd}
def potD (cs : List Int) (a r : Int) : MO := .lst [.lst (cs.map .int), .int a, .int r]
structure Pv (cs : List Int) (a r : Int) (n : Nat) : Prop where
  len : cs.length ≤ 60
  a0 : 0 ≤ a
  an : a ≤ n
  r0 : 0 ≤ r
  bits : ∀ c ∈ cs, c.natAbs < 2 ^ 1048577
theorem pot_ix {cs : List Int} {a r : Int} {i : Int} {x : D} (e : atI [.lst (cs.map .int), .int a, .int r] i = some x) : oIx (.hnd 0) (.int i) (potD cs a r :: R) = .ok x (potD cs a r :: R) := SqV.ix (ds := [.lst (cs.map .int), .int a, .int r]) (.inr (.inr ⟨0, rfl, rfl⟩)) e
theorem pot_0 {cs : List Int} {a r : Int} : oIx (.hnd 0) (.int 0) (potD cs a r :: R) = .ok (.lst (cs.map .int)) (potD cs a r :: R) := pot_ix rfl
theorem pot_1 {cs : List Int} {a r : Int} : oIx (.hnd 0) (.int 1) (potD cs a r :: R) = .ok (.int a) (potD cs a r :: R) := pot_ix rfl
theorem pot_2 {cs : List Int} {a r : Int} : oIx (.hnd 0) (.int 2) (potD cs a r :: R) = .ok (.int r) (potD cs a r :: R) := pot_ix rfl
theorem pot_s1 {cs : List Int} {a r b : Int} {env : En} : setR (.hnd 0) (.int 1) (.int b) env (potD cs a r :: R) = .ok env (potD cs b r :: R) := by rfl
theorem pot_s2 {cs : List Int} {a r b : Int} {env : En} : setR (.hnd 0) (.int 2) (.int b) env (potD cs a r :: R) = .ok env (potD cs a b :: R) := by rfl
theorem fmod_nn {i m : Int} (h : 0 < m) : i.fmod m = i % m := Int.fmod_eq_emod_of_nonneg _ (by omega)
theorem fdiv_nn {i m : Int} (h : 0 < m) : i.fdiv m = i / m := Int.fdiv_eq_ediv_of_nonneg _ (by omega)
theorem v_dip1 {cs : List Int} {a r m : Int} {n : Nat} (h : Pv cs a r n) (hm : 0 < m) (hb : m.natAbs < 2 ^ 8000) (hr : 0 < r) : F__law_dip [.hnd 0, .int m] (potD cs a r :: R) = .ok (.int (r % m)) (potD cs a (r / m) :: R) := by
  have m0 : m ≠ 0 := by omega
  have m1 : m.natAbs.log2 < 9000 := PySem.Flt.log2_lt_of (by decide) (Nat.lt_trans hb (Nat.pow_lt_pow_right (by decide) (by decide)))
  simp only [F__law_dip, p__law_dip, fn_eq]
  simp [startE, pot_2, hr, m0, m1, pot_s2, fmod_nn hm, fdiv_nn hm]
theorem ne_nil {cs : List Int} {eqs : Eqs} {S : Sd} : oEqN true eqs (.lst (cs.map .int)) (.lst []) S = .ok (.bl (!decide (cs = []))) S := (eL eInt).eqN (by decide) cs [] (by show cs.all (fun _ => true) = true; simp) rfl
theorem pw_ok {i : Int} {k a : Nat} (h : i.natAbs < 2 ^ a) (hk : a * k ≤ 134217728) : (Builtin.Int.intBits i : Int) * (k : Int) ≤ 134217728 := by
  have x := PyProof.Rows.intBits_le h
  have y : Builtin.Int.intBits i * k ≤ a * k := Nat.mul_le_mul_right _ x
  have z : ((Builtin.Int.intBits i * k : Nat) : Int) ≤ 134217728 := by omega
  rw [Int.natCast_mul] at z
  exact z
def cellV (cs : List Int) (a : Int) : Int := if cs = [] then 71237 * a + 6113 else (cs[(a % (cs.length : Int)).toNat]?).getD 0
def mix1 (c a : Int) : Int := ((c % 2147483647 + 71237 * a + 6113) ^ 5) % 2147483629
def mix2 (y a : Int) : Int := ((y * (2 * a + 3301) + 84131 * a * a + 6113) ^ 3) % 2147483587
theorem mix1_lt (c a : Int) : 0 ≤ mix1 c a ∧ mix1 c a < 2147483629 := ⟨Int.emod_nonneg _ (by decide), Int.emod_lt_of_pos _ (by decide)⟩
theorem small_nat {i : Int} {k : Nat} (h0 : 0 ≤ i) (h : i < k) {a : Nat} (hk : k ≤ 2 ^ a) : i.natAbs < 2 ^ a := by
  have : i.natAbs < k := by omega
  omega
/-- what the mixing asks, of any cell -/
structure MixOk (c a : Int) : Prop where
  b1 : mulOkX 71237 a = true
  b2 : mulOkX 2 a = true
  b3 : mulOkX 84131 a = true
  b4 : mulOkX (84131 * a) a = true
  b5 : mulOkX (mix1 c a) (2 * a + 3301) = true
  p5 : (Builtin.Int.intBits (c % 2147483647 + 71237 * a + 6113) : Int) * 5 ≤ 134217728
  p3 : (Builtin.Int.intBits (mix1 c a * (2 * a + 3301) + 84131 * a * a + 6113) : Int) * 3 ≤ 134217728
  f1 : c.fmod 2147483647 = c % 2147483647
  f2 : ((c % 2147483647 + 71237 * a + 6113) ^ 5).fmod 2147483629 = mix1 c a
  f3 : ((mix1 c a * (2 * a + 3301) + 84131 * a * a + 6113) ^ 3).fmod 2147483587 = mix2 (mix1 c a) a
  f4 : (mix2 (mix1 c a) a).fdiv 64 = mix2 (mix1 c a) a / 64
theorem mix_ok (c : Int) {a : Int} (a0 : 0 ≤ a) (an : a < 60000) : MixOk c a := by
  have y := mix1_lt c a
  have c0 : 0 ≤ c % 2147483647 ∧ c % 2147483647 < 2147483647 := ⟨Int.emod_nonneg _ (by decide), Int.emod_lt_of_pos _ (by decide)⟩
  have e0 : a * a ≤ 60000 * 60000 := Int.mul_le_mul (by omega) (by omega) a0 (by decide)
  have e1 : 0 ≤ a * a := Int.mul_nonneg a0 a0
  have e2 : 84131 * a * a = 84131 * (a * a) := Int.mul_assoc _ _ _
  have e3 : mix1 c a * (2 * a + 3301) ≤ 2147483629 * 200000 := Int.mul_le_mul (by omega) (by omega) (by omega) (by decide)
  have e4 : 0 ≤ mix1 c a * (2 * a + 3301) := Int.mul_nonneg y.1 (by omega)
  exact { b1 := decide_eq_true (mulx_ok (a := 20) (b := 20) (by decide) (small_nat (k := 1048576) a0 (by omega) (by decide)) (by decide))
          b2 := decide_eq_true (mulx_ok (a := 20) (b := 20) (by decide) (small_nat (k := 1048576) a0 (by omega) (by decide)) (by decide))
          b3 := decide_eq_true (mulx_ok (a := 20) (b := 20) (by decide) (small_nat (k := 1048576) a0 (by omega) (by decide)) (by decide))
          b4 := decide_eq_true (mulx_ok (a := 40) (b := 20) (small_nat (k := 1099511627776) (by omega) (by omega) (by decide)) (small_nat (k := 1048576) a0 (by omega) (by decide)) (by decide))
          b5 := decide_eq_true (mulx_ok (a := 40) (b := 20) (small_nat (k := 1099511627776) y.1 (by omega) (by decide)) (small_nat (k := 1048576) (by omega) (by omega) (by decide)) (by decide))
          p5 := pw_ok (k := 5) (a := 40) (small_nat (k := 1099511627776) (by omega) (by omega) (by decide)) (by decide)
          p3 := pw_ok (k := 3) (a := 60) (small_nat (k := 1152921504606846976) (by omega) (by omega) (by decide)) (by decide)
          f1 := fmod_nn (by decide)
          f2 := fmod_nn (by decide)
          f3 := fmod_nn (by decide)
          f4 := fdiv_nn (by decide) }
theorem v_dip2 {cs : List Int} {a m : Int} {n : Nat} (h : Pv cs a 0 n) (hn : n < 60000) (hm : 0 < m) (hc : ¬ (a < cs.length ∧ (10 : Int) ^ 18 ≤ (if cellV cs a < 0 then -cellV cs a else cellV cs a))) :
    F__law_dip [.hnd 0, .int m] (potD cs a 0 :: R) = .ok (.int (mix2 (mix1 (cellV cs a) a) a / 64 % m)) (potD cs (a + 1) 0 :: R) := by
  have m0 : m ≠ 0 := by omega
  have a0 := h.a0
  have an := h.an
  obtain ⟨b1, b2, b3, b4, b5, p5, p3, f1, f2, f3, f4⟩ := mix_ok (cellV cs a) a0 (by omega)
  have f5 := fmod_nn (i := mix2 (mix1 (cellV cs a) a) a / 64) hm
  have l64 : (64 : Nat).log2 < 9000 := by decide
  simp only [F__law_dip, p__law_dip, fn_eq]
  by_cases hcs : cs = []
  · have ce : cellV cs a = 71237 * a + 6113 := if_pos hcs
    have an0 : ¬ a < 0 := by omega
    rw [ce] at b5 p5 p3 f1 f2 f3 f4 f5 ⊢
    subst hcs
    have q0 : ∀ (eqs : Eqs) (S : Sd), oEqN true eqs (.lst []) (.lst []) S = .ok (.bl false) S := fun eqs S => by simpa using ne_nil (cs := []) (eqs := eqs) (S := S)
    simp [startE, pot_0, pot_1, pot_2, pot_s1, b1, q0, an0, f1, p5, f2, b2, b5, b3, b4, p3, f3, l64, f4, f5, m0]
  · have hl : 0 < cs.length := by cases cs with | nil => exact absurd rfl hcs | cons _ _ => exact Nat.succ_pos _
    have l0 : (cs.length : Int) ≠ 0 := by omega
    have f6 : a.fmod (cs.length : Int) = a % (cs.length : Int) := fmod_nn (by omega)
    have r0 : 0 ≤ a % (cs.length : Int) := Int.emod_nonneg _ (by omega)
    have r1 : a % (cs.length : Int) < cs.length := Int.emod_lt_of_pos _ (by omega)
    have ce : cellV cs a = (cs[(a % (cs.length : Int)).toNat]?).getD 0 := if_neg hcs
    have x1 : ∀ S : Sd, oIx (.lst (cs.map .int)) (.int (a % (cs.length : Int))) S = .ok (.int (cellV cs a)) S := fun S => by
      have hj : (a % (cs.length : Int)).toNat < cs.length := by omega
      have ea : a % (cs.length : Int) = (((a % (cs.length : Int)).toNat : Nat) : Int) := by omega
      rw [ix_lst', ce]
      conv => lhs; rw [ea]
      rw [atI_get (g := D.int) (z := 0) hj]
      rfl
    have q0 : ∀ (eqs : Eqs) (S : Sd), oEqN true eqs (.lst (cs.map .int)) (.lst []) S = .ok (.bl true) S := fun eqs S => by simpa [hcs] using ne_nil (cs := cs) (eqs := eqs) (S := S)
    have p18 : (Builtin.Int.intBits 10 : Int) * 18 ≤ 134217728 := pw_ok (i := 10) (k := 18) (a := 4) (by decide) (by decide)
    by_cases hlt : a < cs.length
    · have hc2 : ¬ ((1000000000000000000 : Int) ≤ (if cellV cs a < 0 then -cellV cs a else cellV cs a)) := fun z => hc ⟨hlt, by
        rw [show (10 : Int) ^ 18 = 1000000000000000000 by decide]
        exact z⟩
      simp [startE, pot_0, pot_1, pot_2, pot_s1, b1, q0, hcs, l0, f6, x1, hlt, p18, hc2, f1, p5, f2, b2, b5, b3, b4, p3, f3, l64, f4, f5, m0]
    · simp [startE, pot_0, pot_1, pot_2, pot_s1, b1, q0, hcs, l0, f6, x1, hlt, f1, p5, f2, b2, b5, b3, b4, p3, f3, l64, f4, f5, m0]
theorem v_dip3 {cs : List Int} {a m : Int} {n : Nat} (h : Pv cs a 0 n) (hn : n < 60000) (hm : 0 < m) (hb : m.natAbs < 2 ^ 8000) (hlt : a < cs.length) (hc2 : (1000000000000000000 : Int) ≤ (if cellV cs a < 0 then -cellV cs a else cellV cs a)) :
    ∃ r : Int, 0 ≤ r ∧ F__law_dip [.hnd 0, .int m] (potD cs a 0 :: R) = .ok (.int (r % m)) (potD cs (a + 1) (r / m) :: R) := by
  have m0 : m ≠ 0 := by omega
  have m1 : m.natAbs.log2 < 9000 := PySem.Flt.log2_lt_of (by decide) (Nat.lt_trans hb (Nat.pow_lt_pow_right (by decide) (by decide)))
  have a0 := h.a0
  have an := h.an
  obtain ⟨b1, b2, b3, b4, b5, p5, p3, f1, f2, f3, f4⟩ := mix_ok (cellV cs a) a0 (by omega)
  have hl : 0 < cs.length := by omega
  have hcs : cs ≠ [] := fun z => by rw [z] at hl; exact absurd hl (by decide)
  have l0 : (cs.length : Int) ≠ 0 := by omega
  have f6 : a.fmod (cs.length : Int) = a % (cs.length : Int) := fmod_nn (by omega)
  have r0 : 0 ≤ a % (cs.length : Int) := Int.emod_nonneg _ (by omega)
  have r1 : a % (cs.length : Int) < cs.length := Int.emod_lt_of_pos _ (by omega)
  have ce : cellV cs a = (cs[(a % (cs.length : Int)).toNat]?).getD 0 := if_neg hcs
  have hj : (a % (cs.length : Int)).toNat < cs.length := by omega
  have x1 : ∀ S : Sd, oIx (.lst (cs.map .int)) (.int (a % (cs.length : Int))) S = .ok (.int (cellV cs a)) S := fun S => by
    have ea : a % (cs.length : Int) = (((a % (cs.length : Int)).toNat : Nat) : Int) := by omega
    rw [ix_lst', ce]
    conv => lhs; rw [ea]
    rw [atI_get (g := D.int) (z := 0) hj]
    rfl
  have cb : (cellV cs a).natAbs < 2 ^ 1048577 := by
    rw [ce, List.getElem?_eq_getElem hj]
    exact h.bits _ (List.getElem_mem hj)
  have q0 : ∀ (eqs : Eqs) (S : Sd), oEqN true eqs (.lst (cs.map .int)) (.lst []) S = .ok (.bl true) S := fun eqs S => by simpa [hcs] using ne_nil (cs := cs) (eqs := eqs) (S := S)
  have p18 : (Builtin.Int.intBits 10 : Int) * 18 ≤ 134217728 := pw_ok (i := 10) (k := 18) (a := 4) (by decide) (by decide)
  generalize hA : (if cellV cs a < 0 then -cellV cs a else cellV cs a) = A at hc2
  have Ab : A.natAbs < 2 ^ 1048577 := by
    rw [← hA]
    split
    · rw [Int.natAbs_neg]; exact cb
    · exact cb
  have mo : mulOkX 2 (A - 1000000000000000000) = true := decide_eq_true (mulx_ok (a := 2) (b := 1048577) (by decide) (by omega) (by decide))
  refine ⟨2 * (A - 1000000000000000000) + (if cellV cs a < 0 then 1 else 0), by split <;> omega, ?_⟩
  have f7 := fmod_nn (i := 2 * (A - 1000000000000000000) + (if cellV cs a < 0 then 1 else 0)) hm
  have f8 := fdiv_nn (i := 2 * (A - 1000000000000000000) + (if cellV cs a < 0 then 1 else 0)) hm
  simp only [F__law_dip, p__law_dip, fn_eq]
  simp [startE, pot_0, pot_1, pot_2, pot_s1, pot_s2, b1, q0, hcs, l0, f6, x1, hlt, p18, hA, hc2, mo, m0, m1, f7, f8]
end
end G44

namespace G44
open PySem PySem.Spec PyProof.Rows L2 Den
section
variable {R : Sd}
theorem v_dip {cs : List Int} {a r m : Int} {n : Nat} (h : Pv cs a r n) (hn : n < 60000) (hm : 0 < m) (hb : m.natAbs < 2 ^ 8000) :
    ∃ v a' r', F__law_dip [.hnd 0, .int m] (potD cs a r :: R) = .ok (.int v) (potD cs a' r' :: R) ∧ 0 ≤ v ∧ v < m ∧ Pv cs a' r' (n + 1) := by
  by_cases hr : 0 < r
  · exact ⟨_, _, _, v_dip1 h hm hb hr, Int.emod_nonneg _ (by omega), Int.emod_lt_of_pos _ hm, ⟨h.len, h.a0, by have := h.an; omega, Int.ediv_nonneg h.r0 (by omega), h.bits⟩⟩
  · have r0 : r = 0 := by have := h.r0; omega
    subst r0
    have ha := h.a0
    have han := h.an
    by_cases hc : a < cs.length ∧ (10 : Int) ^ 18 ≤ (if cellV cs a < 0 then -cellV cs a else cellV cs a)
    · obtain ⟨r, r0, e⟩ := v_dip3 (R := R) h hn hm hb hc.1 (by
        have z := hc.2
        rw [show (10 : Int) ^ 18 = 1000000000000000000 by decide] at z
        exact z)
      exact ⟨_, _, _, e, Int.emod_nonneg _ (by omega), Int.emod_lt_of_pos _ hm, ⟨h.len, by omega, by omega, Int.ediv_nonneg r0 (by omega), h.bits⟩⟩
    · exact ⟨_, _, _, v_dip2 h hn hm hc, Int.emod_nonneg _ (by omega), Int.emod_lt_of_pos _ hm, ⟨h.len, by omega, by omega, Int.le_refl _, h.bits⟩⟩
theorem m_small {k : Nat} (h : k ≤ 2 ^ 40) : ((k : Nat) : Int).natAbs < 2 ^ 8000 := by
  rw [Int.natAbs_natCast]
  exact Nat.lt_of_le_of_lt h (Nat.pow_lt_pow_right (by decide) (by decide))
theorem v_pick {cs : List Int} {a r : Int} {n : Nat} {xs : List D} (h : Pv cs a r n) (hn : n < 60000) (ne : xs ≠ []) (hl : xs.length ≤ 1000) :
    ∃ x a' r', F__law_pick [.hnd 0, .lst xs] (potD cs a r :: R) = .ok x (potD cs a' r' :: R) ∧ x ∈ xs ∧ Pv cs a' r' (n + 1) := by
  have hp : 0 < xs.length := by cases xs with | nil => exact absurd rfl ne | cons _ _ => exact Nat.succ_pos _
  obtain ⟨v, a', r', e, v0, v1, q⟩ := v_dip (R := R) h hn (m := (xs.length : Nat)) (by omega) (m_small (by omega))
  have hj : v.toNat < xs.length := by omega
  have ea : v = ((v.toNat : Nat) : Int) := by omega
  refine ⟨xs[v.toNat], a', r', ?_, List.getElem_mem hj, q⟩
  have x1 : oIx (.lst xs) (.int v) (potD cs a' r' :: R) = .ok xs[v.toNat] (potD cs a' r' :: R) := by
    have e5 : atI xs v = some xs[v.toNat] := by
      have := atI_nat (List.getElem?_eq_getElem hj)
      rwa [← ea] at this
    rw [ix_lst', e5]
    rfl
  simp only [F__law_pick, p__law_pick, fn_eq]
  simp [startE, e, x1]
theorem v_lstep {cs : List Int} {a r : Int} {n p : Nat} (h : Pv cs a r n) (hn : n + 3 < 60000) (h3 : 2 ≤ p) (h7 : p ≤ 7) :
    ∃ (s : NS2) (a' r' : Int), F__law_step [.hnd 0, .int p] (potD cs a r :: R) = .ok (eS.d s) (potD cs a' r' :: R) ∧ s.1 < p ∧ s.2 < p ∧ Pv cs a' r' (n + 3) := by
  obtain ⟨v, a1, r1, e1, v0, v1, q1⟩ := v_dip (R := R) h (by omega) (m := (p : Nat)) (by omega) (m_small (by omega))
  obtain ⟨u, a2, r2, e2, u0, u1, q2⟩ := v_dip (R := R) q1 (by omega) (m := 8) (by decide) (by exact m_small (k := 8) (by decide))
  have s2 : (2 : Nat) ≤ sizeLine := by decide
  by_cases hu : 0 < u
  · obtain ⟨x, a3, r3, e3, x0, x1, q3⟩ := v_dip (R := R) q2 (by omega) (m := (p : Int) - 1) (by omega) (by
      have : (p : Int) - 1 = ((p - 1 : Nat) : Int) := by omega
      rw [this]
      exact m_small (by omega))
    have p0 : (p : Int) ≠ 0 := by omega
    have f := fmod_nn (i := v + 1 + x) (m := (p : Int)) (by omega)
    have w0 : 0 ≤ (v + 1 + x) % (p : Int) := Int.emod_nonneg _ (by omega)
    have w1 : (v + 1 + x) % (p : Int) < p := Int.emod_lt_of_pos _ (by omega)
    refine ⟨(v.toNat, ((v + 1 + x) % (p : Int)).toNat), a3, r3, ?_, by omega, by omega, q3⟩
    have ed : eS.d (v.toNat, ((v + 1 + x) % (p : Int)).toNat) = .tup [.int v, .int ((v + 1 + x) % (p : Int))] := by
      show D.tup [.int ((v.toNat : Nat) : Int), .int ((((v + 1 + x) % (p : Int)).toNat : Nat) : Int)] = _
      rw [Int.toNat_of_nonneg v0, Int.toNat_of_nonneg w0]
    rw [ed]
    have pz : p ≠ 0 := by omega
    simp only [F__law_step, p__law_step, fn_eq]
    simp [startE, e1, e2, hu, e3, f, p0, pz, s2]
  · refine ⟨(v.toNat, v.toNat), a2, r2, ?_, by omega, by omega, ⟨q2.len, q2.a0, by have := q2.an; omega, q2.r0, q2.bits⟩⟩
    have ed : eS.d (v.toNat, v.toNat) = .tup [.int v, .int v] := by
      show D.tup [.int ((v.toNat : Nat) : Int), .int ((v.toNat : Nat) : Int)] = _
      rw [Int.toNat_of_nonneg v0]
    rw [ed]
    simp only [F__law_step, p__law_step, fn_eq]
    simp [startE, e1, e2, hu, s2]
end
end G44

namespace G44
open PySem PySem.Spec PyProof.Rows L2 Den
section
variable {R : Sd}
/-- a term of steps among p pins, its factor small -/
def TmP (p : Nat) (t : NTm) : Prop := t.2.1.1 < p ∧ t.2.1.2 < p ∧ t.2.2.1 < p ∧ t.2.2.2 < p ∧ t.1.natAbs ≤ 1000000000
theorem Pv.le {cs : List Int} {a r : Int} {n m : Nat} (h : Pv cs a r n) (k : n ≤ m) : Pv cs a r m := ⟨h.len, h.a0, by have := h.an; omega, h.r0, h.bits⟩
theorem terms_run {cs : List Int} {p : Nat} {x y z : D} (h3 : 2 ≤ p) (h7 : p ≤ 7) : ∀ {ds : List D} {a r : Int} {n : Nat}, Pv cs a r n → n + 8 * ds.length < 60000 →
    ∃ (ts : List NTm) (a' r' : Int), lcL (tName 5) cYes (xTup (xsCons (xBin oSub (xFn F__law_dip (xsCons (xVar 0) (xsCons (xC (.int 9)) xsNil))) (xC (.int 4))) (xsCons (xFn F__law_step (xsCons (xVar 0) (xsCons (xVar 1) xsNil))) (xsCons (xFn F__law_step (xsCons (xVar 0) (xsCons (xVar 1) xsNil))) xsNil)))) [some (.hnd 0), some (.int p), some x, some y, some z, none] anyS ds (potD cs a r :: R) = .ok (ts.map eTm.d) (potD cs a' r' :: R) ∧ ts.length = ds.length ∧ (∀ t ∈ ts, TmP p t) ∧ Pv cs a' r' (n + 8 * ds.length)
  | [], a, r, n, h, hn => ⟨[], a, r, rfl, rfl, fun _ h => (List.not_mem_nil h).elim, h⟩
  | d :: ds, a, r, n, h, hn => by
    rw [List.length_cons] at hn
    obtain ⟨v, a1, r1, e1, v0, v1, q1⟩ := v_dip (R := R) h (by omega) (m := 9) (by decide) (m_small (k := 9) (by decide))
    obtain ⟨s, a2, r2, e2, s0, s1, q2⟩ := v_lstep (R := R) q1 (by omega) h3 h7
    obtain ⟨u, a3, r3, e3, u0, u1, q3⟩ := v_lstep (R := R) q2 (by omega) h3 h7
    obtain ⟨ts, a4, r4, e4, l4, t4, q4⟩ := terms_run h3 h7 (ds := ds) (q3.le (show n + 1 + 3 + 3 ≤ n + 8 by omega)) (by omega)
    have z3 : (3 : Nat) ≤ sizeLine := by decide
    refine ⟨(v - 4, s, u) :: ts, a4, r4, ?_, by rw [List.length_cons, List.length_cons, l4], fun t ht => ?_, q4.le (by rw [List.length_cons]; omega)⟩
    · refine lcL_consT rfl rfl (S2 := potD cs a3 r3 :: R) ?_ e4
      simp [e1, e2, e3, z3]
      rfl
    · rcases List.mem_cons.mp ht with rfl | ht
      · exact ⟨s0, s1, u0, u1, by show (v - 4).natAbs ≤ _; omega⟩
      · exact t4 t ht
theorem v_lterms {cs : List Int} {a r : Int} {n p : Nat} (h : Pv cs a r n) (hn : n + 60 < 60000) (h3 : 2 ≤ p) (h7 : p ≤ 7) :
    ∃ (ts : List NTm) (a' r' : Int), F__law_terms [.hnd 0, .int p] (potD cs a r :: R) = .ok (.lst (ts.map eTm.d)) (potD cs a' r' :: R) ∧ ts ≠ [] ∧ ts.length ≤ 4 ∧ (∀ t ∈ ts, TmP p t) ∧ Pv cs a' r' (n + 60) := by
  obtain ⟨v, a1, r1, e1, v0, v1, q1⟩ := v_dip (R := R) h (by omega) (m := 7) (by decide) (m_small (k := 7) (by decide))
  obtain ⟨s, a2, r2, e2, s0, s1, q2⟩ := v_lstep (R := R) q1 (by omega) h3 h7
  obtain ⟨u, a3, r3, e3, u0, u1, q3⟩ := v_lstep (R := R) q2 (by omega) h3 h7
  have z3 : (3 : Nat) ≤ sizeLine := by decide
  have z1 : (1 : Nat) ≤ sizeLine := by decide
  have z2 : (2 : Nat) ≤ sizeLine := by decide
  have eS' : ∀ s : NS2, eS.d s = .tup [.int (s.1 : Nat), .int (s.2 : Nat)] := fun _ => rfl
  have eT' : ∀ t : NTm, eTm.d t = .tup [.int t.1, eS.d t.2.1, eS.d t.2.2] := fun _ => rfl
  have tp : ∀ {s u : NS2} {k : Int}, s.1 < p → s.2 < p → u.1 < p → u.2 < p → k.natAbs ≤ 1000000000 → TmP p (k, s, u) := fun a b c d e => ⟨a, b, c, d, e⟩
  simp only [F__law_terms, p__law_terms, fn_eq]
  by_cases c0 : v = 0
  · refine ⟨[(1, s, s)], a3, r3, ?_, by simp, by simp, fun t ht => ?_, q3.le (by omega)⟩
    · simp [startE, e1, e2, e3, z3, c0, z1, eT']
    · rw [List.mem_singleton.mp ht]; exact tp s0 s1 s0 s1 (by decide)
  by_cases c1 : v = 1
  · obtain ⟨x, a4, r4, e4, hx, q4⟩ := v_pick (R := R) (xs := [.int 1, .int (-1), .int 3]) q3 (by omega) (by simp) (by simp)
    obtain ⟨k, rfl, hk⟩ : ∃ k : Int, x = .int k ∧ k.natAbs ≤ 1000000000 := by
      simp at hx
      rcases hx with rfl | rfl | rfl
      · exact ⟨_, rfl, by decide⟩
      · exact ⟨_, rfl, by decide⟩
      · exact ⟨_, rfl, by decide⟩
    refine ⟨[(k, s, u)], a4, r4, ?_, by simp, by simp, fun t ht => ?_, q4.le (by omega)⟩
    · simp [startE, e1, e2, e3, z3, c1, z1, eT', e4]
    · rw [List.mem_singleton.mp ht]; exact tp s0 s1 u0 u1 hk
  by_cases c2 : v = 2
  · obtain ⟨x, a4, r4, e4, hx, q4⟩ := v_pick (R := R) (xs := [.int 1, .int 1, .int 2]) q3 (by omega) (by simp) (by simp)
    obtain ⟨k, rfl, hk⟩ : ∃ k : Int, x = .int k ∧ k.natAbs ≤ 1000000000 := by
      simp at hx
      rcases hx with rfl | rfl
      · exact ⟨_, rfl, by decide⟩
      · exact ⟨_, rfl, by decide⟩
    refine ⟨[(1, s, s), (-k, u, u)], a4, r4, ?_, by simp, by simp, fun t ht => ?_, q4.le (by omega)⟩
    · simp [startE, e1, e2, e3, z3, c2, z2, eT', e4]
    · rcases List.mem_cons.mp ht with rfl | ht
      · exact tp s0 s1 s0 s1 (by decide)
      · rw [List.mem_singleton.mp ht]; exact tp u0 u1 u0 u1 (by rw [Int.natAbs_neg]; exact hk)
  by_cases c3 : v = 3
  · obtain ⟨x, a4, r4, e4, hx, q4⟩ := v_pick (R := R) (xs := [.int 1, .int 2, .int 5]) q3 (by omega) (by simp) (by simp)
    obtain ⟨k, rfl, hk⟩ : ∃ k : Int, x = .int k ∧ k.natAbs ≤ 1000000000 := by
      simp at hx
      rcases hx with rfl | rfl | rfl
      · exact ⟨_, rfl, by decide⟩
      · exact ⟨_, rfl, by decide⟩
      · exact ⟨_, rfl, by decide⟩
    refine ⟨[(1, s, s), (k, u, u)], a4, r4, ?_, by simp, by simp, fun t ht => ?_, q4.le (by omega)⟩
    · simp [startE, e1, e2, e3, z3, c3, z2, eT', e4]
    · rcases List.mem_cons.mp ht with rfl | ht
      · exact tp s0 s1 s0 s1 (by decide)
      · rw [List.mem_singleton.mp ht]; exact tp u0 u1 u0 u1 hk
  by_cases c4 : v = 4
  · refine ⟨[(2, s, u), (-2, (u.2, u.1), (s.2, s.1))], a3, r3, ?_, by simp, by simp, fun t ht => ?_, q3.le (by omega)⟩
    · have g1 : ∀ x y : D, atI [x, y] 1 = some y := fun _ _ => rfl
      have g0 : ∀ x y : D, atI [x, y] 0 = some x := fun _ _ => rfl
      simp [startE, e1, e2, e3, z3, c4, z2, eT', eS', g1, g0]
    · rcases List.mem_cons.mp ht with rfl | ht
      · exact tp s0 s1 u0 u1 (by decide)
      · rw [List.mem_singleton.mp ht]; exact tp u1 u0 s1 s0 (by decide)
  · obtain ⟨x, a4, r4, e4, x0, x1, q4⟩ := v_dip (R := R) q3 (by omega) (m := 3) (by decide) (m_small (k := 3) (by decide))
    obtain ⟨ts, a5, r5, e5, l5, t5, q5⟩ := terms_run (x := .int v) (y := eS.d s) (z := eS.d u) h3 h7 (R := R) (ds := rng 0 (2 + x).toNat) q4 (by rw [rng_map, List.length_map, List.length_range]; omega)
    rw [rng_map, List.length_map, List.length_range] at l5 q5
    have ir : inRng (2 + x) = true := by
      have := inRng_nat (n := (2 + x).toNat) (by omega)
      rwa [Int.toNat_of_nonneg (by omega)] at this
    have rl : (rng 0 (2 + x).toNat).length ≤ sizeLine := by
      rw [rng_map, List.length_map, List.length_range]
      exact sz (show (2 + x).toNat ≤ 10 by omega)
    refine ⟨ts, a5, r5, ?_, fun z => ?_, by omega, t5, q5.le (by omega)⟩
    · simp [startE, e1, e2, e3, z3, c0, c1, c2, c3, c4, e4, ir, rl, e5]
    · rw [z] at l5
      have : (0 : Nat) = (2 + x).toNat := l5
      omega
end
end G44

namespace G44
open PySem PySem.Spec PyProof.Rows L2 Den
section
variable {S : Sd}
theorem nat_of_bits {z : Int} (h : Builtin.Int.intBits z ≤ 1048576) : z.natAbs < 2 ^ 1048577 :=
  Nat.lt_of_lt_of_le (PyProof.Rows.natAbs_lt_pow_bits z) (Nat.pow_le_pow_right (by decide) (Nat.le_trans h (by decide)))
theorem v_pot {ns : List Int} (hl : ns.length ≤ 63) : F__law_pot [.scr ns] [] = .ok (.hnd 0) [potD (ns.take 60) 0 0] := by
  have e : lcL (tName 1) cYes (xCall oInt (xsCons (xVar 1) xsNil)) [some (.scr ns), none] anyS ((ns.take 60).map .int) ([] : Sd) = .ok ((ns.take 60).map .int) [] := lcL_mapG D.int D.int rfl fun n _ => ⟨_, rfl, by simp⟩
  have ec : oSl (.scr ns) none (some 60) ([] : Sd) = .ok (.lst ((ns.take 60).map .int)) [] := by
    have e1 : Den.cutD (ns.map D.int) none (some 60) = (ns.take 60).map D.int := by
      unfold Den.cutD
      rw [show HT.sIx (ns.map D.int).length (ns.map D.int).length (some 60) = min 60 (ns.map D.int).length from HT.sIx_nat _ _ 60]
      show ((ns.map D.int).drop 0).take (min 60 (ns.map D.int).length - 0) = _
      rw [List.drop_zero, Nat.sub_zero, List.map_take, List.length_map]
      by_cases h : ns.length ≤ 60
      · rw [Nat.min_eq_right h, List.take_of_length_le (by simp), List.take_of_length_le (by simp; exact h)]
      · rw [Nat.min_eq_left (by omega)]
    show Den.R.ok (D.lst (Den.cutD (ns.map D.int) none (some 60))) [] = _
    rw [e1]
  have s3 : (3 : Nat) ≤ sizeLine := by decide
  have s60 : (ns.take 60).length ≤ sizeLine := sz (show (ns.take 60).length ≤ 60 by rw [List.length_take]; omega)
  show fnOfK 2 p__law_pot [.scr ns] [] = _
  unfold fnOfK
  simp only [p__law_pot]
  simp [startE, ec]
  simp at e s60
  simp [e, s60, s3]
  unfold potD
  rw [List.map_take]
theorem v_gone {fs : List Int} {s : NS2} (h1 : s.1 < fs.length) (h2 : s.2 < fs.length) : F__law_gone [.lst (fs.map .int), eS.d s] S = .ok (.int ((fs[s.2]?).getD 0 - (fs[s.1]?).getD 0)) S := by
  have a1 : oIx (eS.d s) (.int 1) S = .ok (.int (s.2 : Nat)) S := rfl
  have a0 : oIx (eS.d s) (.int 0) S = .ok (.int (s.1 : Nat)) S := rfl
  have b1 : oIx (.lst (fs.map .int)) (.int (s.2 : Nat)) S = .ok (.int ((fs[s.2]?).getD 0)) S := by rw [ix_lst', atI_get (g := D.int) (z := 0) h2]; rfl
  have b0 : oIx (.lst (fs.map .int)) (.int (s.1 : Nat)) S = .ok (.int ((fs[s.1]?).getD 0)) S := by rw [ix_lst', atI_get (g := D.int) (z := 0) h1]; rfl
  simp only [F__law_gone, p__law_gone, fn_eq]
  simp [startE, a1, a0, b1, b0]
/-! the divisor by hand -/
theorem gcd_step {x y : Nat} (h : 0 < y) : Nat.gcd x y = Nat.gcd y (x % y) := by
  rw [Nat.gcd_comm x y, Nat.gcd_rec y x, Nat.gcd_comm]
theorem gcd_loop {d f v : D} : ∀ (y x k : Nat), y < k → whL (cB (xBin oGt (xVar 4) (xC (.int 0)))) (sSeq (sAsg (xTup (xsCons (xVar 4) (xsCons (xBin oMod (xCall oInt (xsCons (xVar 3) xsNil)) (xVar 4)) xsNil))) (Den.tTup [(tName 3), (tName 4)])) sNext) k [some d, some f, some v, some (.int (x : Nat)), some (.int (y : Nat))] S = .ok (.nx [some d, some f, some v, some (.int (Nat.gcd x y : Nat)), some (.int 0)]) S := by
  intro y
  induction y using Nat.strongRecOn with
  | ind y ih =>
    intro x k hk
    obtain ⟨k, rfl⟩ : ∃ j, k = j + 1 := ⟨k - 1, by omega⟩
    rw [whL]
    by_cases h : y = 0
    · subst h
      simp
    · have hy : 0 < y := Nat.pos_of_ne_zero h
      have s2 : (2 : Nat) ≤ sizeLine := by decide
      have fm : (x : Int).fmod (y : Int) = ((x % y : Nat) : Int) := by
        rw [fmod_nn (by omega)]
        exact (Int.natCast_emod x y).symm
      have := ih (x % y) (Nat.mod_lt _ hy) y k (by have := Nat.mod_lt x hy; omega)
      rw [← gcd_step hy] at this
      simp [hy, h, s2, fm]
      exact this
end
end G44

namespace G44
open PySem PySem.Spec PyProof.Rows L2 Den
section
variable {S : Sd}
theorem abs_nat (n : Int) : (if n < 0 then -n else n) = ((n.natAbs : Nat) : Int) := by split <;> omega
theorem ev_wh {κ : TC} {ψ : TSt} {env : En} : sWh κ ψ env S = whL κ ψ fuel env S := rfl
theorem fuel_lt {y a : Nat} (h : y < 2 ^ a) (ha : a ≤ 10000) : y < fuel := Nat.lt_of_lt_of_le h (Nat.pow_le_pow_right (by decide) ha)
theorem v_div2 {n d : Int} (hn : n.natAbs < 2 ^ 9000) (hd : d.natAbs < 2 ^ 9000) : F__law_divisor [.lst [.int n, .int d]] S = .ok (.int (gI n d : Nat)) S := by
  have l1 := fun (d0 f v : D) (x : Nat) => gcd_loop (S := S) (d := d0) (f := f) (v := v) n.natAbs x fuel (fuel_lt hn (by decide))
  have l2 := fun (d0 f v : D) (x : Nat) => gcd_loop (S := S) (d := d0) (f := f) (v := v) d.natAbs x fuel (fuel_lt hd (by decide))
  have s2 : (2 : Nat) ≤ sizeLine := by decide
  have l10 := l1 (.lst [.int n, .int d]) (.int 0) (.int n) 0
  rw [show ((0 : Nat) : Int) = 0 from rfl] at l10
  simp only [F__law_divisor, p__law_divisor, fn_eq]
  simp [startE, s2, abs_nat, ev_wh]
  rw [l10]
  simp [s2, abs_nat, ev_wh]
  rw [l2]
  simp
theorem v_llow {n d : Int} (hd : 0 < d) (hn : n.natAbs < 2 ^ 9000) (hb : d.natAbs < 2 ^ 8000) : F__law_low [.int n, .int d] S = .ok (.tup [.int (lowI n d).1, .int (lowI n d).2]) S := by
  have h0 : d ≠ 0 := by omega
  have g0 : gI n d ≠ 0 := fun z => h0 (Int.natAbs_eq_zero.mp (Nat.gcd_eq_zero_iff.mp z).2)
  have g1 : (gI n d).log2 < 9000 := by
    have : gI n d ≤ d.natAbs := Nat.le_of_dvd (by omega) (Nat.gcd_dvd_right _ _)
    exact PySem.Flt.log2_lt_of (by decide) (Nat.lt_of_le_of_lt this (Nat.lt_trans hb (Nat.pow_lt_pow_right (by decide) (by decide))))
  have e1 := fdiv_nat n (gI n d)
  have e2 := fdiv_nat d (gI n d)
  have s2 : (2 : Nat) ≤ sizeLine := by decide
  have dv := v_div2 (S := S) hn (Nat.lt_trans hb (Nat.pow_lt_pow_right (by decide) (by decide)) : d.natAbs < 2 ^ 9000)
  simp only [F__law_low, p__law_low, fn_eq]
  simp only [lowI]
  generalize hg : gI n d = g at *
  simp [startE, s2, dv, g0, g1, e1, e2]
/-- what a row's positions give a sum of terms -/
def goneI (fs : List Int) (s : NS2) : Int := (fs[s.2]?).getD 0 - (fs[s.1]?).getD 0
def comeI (row : List Int) (ts : List NTm) : Int := (ts.map fun t => t.1 * goneI (0 :: row) t.2.1 * goneI (0 :: row) t.2.2).sum
theorem v_come {row : D} {r : List Int} {ts : List NTm} {td : D} (hr : SqV S row (r.map .int)) (hl : r.length ≤ 10) (ht : SqV S td (ts.map eTm.d)) (tl : ts.length ≤ 100) (hs : ∀ t ∈ ts, t.2.1.1 ≤ r.length ∧ t.2.1.2 ≤ r.length ∧ t.2.2.1 ≤ r.length ∧ t.2.2.2 ≤ r.length)
    (hm : ∀ t ∈ ts, mulOkX t.1 (goneI (0 :: r) t.2.1) = true ∧ mulOkX (t.1 * goneI (0 :: r) t.2.1) (goneI (0 :: r) t.2.2) = true) : F__law_come [row, td] S = .ok (.int (comeI r ts)) S := by
  obtain ⟨w, hw, hw2⟩ := ht.walk
  have ol : oList [row] S = .ok (.lst (r.map .int)) S := by
    have e := hr.items
    rcases hr with rfl | rfl | ⟨i, rfl, _⟩
    · rfl
    · rfl
    · unfold oList
      simp only [e]
  have e : lcL (Den.tTup [(tName 3), (tName 4), (tName 5)]) cYes (xBin oMulT (xBin oMulT (xVar 3) (xFn F__law_gone (xsCons (xVar 2) (xsCons (xVar 4) xsNil)))) (xFn F__law_gone (xsCons (xVar 2) (xsCons (xVar 5) xsNil)))) [some row, some td, some (.lst ((0 :: r).map .int)), none, none, none] w (ts.map eTm.d) S = .ok (ts.map fun t => .int (t.1 * goneI (0 :: r) t.2.1 * goneI (0 :: r) t.2.2)) S := by
    refine lcL_mapG eTm.d (fun t => .int (t.1 * goneI (0 :: r) t.2.1 * goneI (0 :: r) t.2.2)) hw2 fun t htm => ⟨[some row, some td, some (.lst ((0 :: r).map .int)), some (.int t.1), some (eS.d t.2.1), some (eS.d t.2.2)], rfl, ?_⟩
    obtain ⟨a, b, c, d⟩ := hs t htm
    obtain ⟨m1, m2⟩ := hm t htm
    have g1 := v_gone (S := S) (fs := 0 :: r) (s := t.2.1) (by rw [List.length_cons]; omega) (by rw [List.length_cons]; omega)
    have g2 := v_gone (S := S) (fs := 0 :: r) (s := t.2.2) (by rw [List.length_cons]; omega) (by rw [List.length_cons]; omega)
    generalize hfs : (0 :: r : List Int) = fs at *
    unfold goneI at *
    simp [g1, g2, m1, m2]
  have s1 : (1 : Nat) ≤ sizeLine := by decide
  have s2 : 1 + r.length ≤ sizeLine := sz (show 1 + r.length ≤ 11 by omega)
  simp only [F__law_come, p__law_come, fn_eq]
  simp [startE, s1, ol, s2, hw, sz tl]
  simp only [List.map_cons] at e
  rw [e]
  simp [ev_sum, comeI]
end
end G44

namespace G44
open PySem PySem.Spec PyProof.Rows L2 Den
section
variable {S : Sd}
abbrev RwT := Int × List Int
def rwD (r : RwT) : D := .tup [.int r.1, .lst (r.2.map .int)]
def totS (rs : List RwT) (ts : List NTm) : Int := (rs.map fun r => r.1 * comeI r.2 ts).sum
structure ComeOk (r : List Int) (ts : List NTm) : Prop where
  len : r.length ≤ 10
  tl : ts.length ≤ 100
  fit : ∀ t ∈ ts, t.2.1.1 ≤ r.length ∧ t.2.1.2 ≤ r.length ∧ t.2.2.1 ≤ r.length ∧ t.2.2.2 ≤ r.length
  mul : ∀ t ∈ ts, mulOkX t.1 (goneI (0 :: r) t.2.1) = true ∧ mulOkX (t.1 * goneI (0 :: r) t.2.1) (goneI (0 :: r) t.2.2) = true
theorem v_total {rs : List RwT} {b : Int} {ts : List NTm} {td : D} (ht : SqV S td (ts.map eTm.d)) (hl : rs.length ≤ 100) (hr : ∀ r ∈ rs, ComeOk r.2 ts ∧ mulOkX r.1 (comeI r.2 ts) = true) (hb : 0 < b) (bb : b.natAbs < 2 ^ 8000) (hs : (totS rs ts).natAbs < 2 ^ 9000) :
    F__law_total [.lst (rs.map rwD), .int b, td] S = .ok (.tup [.int (lowI (totS rs ts) b).1, .int (lowI (totS rs ts) b).2]) S := by
  have e : lcL (Den.tTup [(tName 3), (tName 4)]) cYes (xBin oMulT (xVar 3) (xFn F__law_come (xsCons (xVar 4) (xsCons (xVar 2) xsNil)))) [some (.lst (rs.map rwD)), some (.int b), some td, none, none] anyS (rs.map rwD) S = .ok (rs.map fun r => .int (r.1 * comeI r.2 ts)) S := by
    refine lcL_mapG rwD (fun r => .int (r.1 * comeI r.2 ts)) rfl fun r hrm => ⟨[some (.lst (rs.map rwD)), some (.int b), some td, some (.int r.1), some (.lst (r.2.map .int))], rfl, ?_⟩
    obtain ⟨o, m⟩ := hr r hrm
    have vc := v_come (S := S) (row := .lst (r.2.map .int)) .lst o.len ht o.tl o.fit o.mul
    simp [vc, m]
  have vl := v_llow (S := S) hb hs bb
  simp only [F__law_total, p__law_total, fn_eq]
  simp [startE, sz hl, e, ev_sum]
  rw [show (rs.map fun r => r.1 * comeI r.2 ts).sum = totS rs ts from rfl, vl]
  simp
def isSo (t : Int × Int) (wd : String) (n : Int) : Bool := let g := t.1 - n * t.2; if wd = "above" then decide (0 < g) else if wd = "below" then decide (g < 0) else decide (g = 0)
theorem v_isso {t : Int × Int} {wd : String} {n : Int} (hwd : Wd3 wd) (hm : mulOkX n t.2 = true) : F__law_is_so [.tup [.int t.1, .int t.2], .str (Str.ofString wd), .int n] S = .ok (.bl (isSo t wd n)) S := by
  have q1 := eq_wd (S := S) (neg := false) (eqs := eqs44) hwd (show Wd3 "above" from .inl rfl)
  have q2 := eq_wd (S := S) (neg := false) (eqs := eqs44) hwd (show Wd3 "below" from .inr (.inl rfl))
  have a0 : ∀ x y : D, atI [x, y] 0 = some x := fun _ _ => rfl
  have a1 : ∀ x y : D, atI [x, y] 1 = some y := fun _ _ => rfl
  simp only [F__law_is_so, p__law_is_so, fn_eq]
  by_cases h1 : wd = "above"
  · simp [startE, a0, a1, hm, q1, h1, isSo] at q1 ⊢
    simp [q1]
  · by_cases h2 : wd = "below"
    · simp [startE, a0, a1, hm, q1, q2, h1, h2, isSo] at q1 q2 ⊢
      simp [q1, q2]
    · simp [startE, a0, a1, hm, q1, q2, h1, h2, isSo]
end
end G44

namespace G44
open PySem PySem.Spec PyProof.Rows L2 Den
section
variable {R : Sd}
theorem row_run {cs : List Int} {wd : Int} {k x : D} (hw : 0 < wd) (hw2 : wd ≤ 1000000000) : ∀ {ds : List D} {a r : Int} {n : Nat}, Pv cs a r n → n + ds.length < 60000 →
    ∃ (row : List Int) (a' r' : Int), lcL (tName 4) cYes (xBin oSub (xFn F__law_dip (xsCons (xVar 0) (xsCons (xBin oAdd (xBin oMulT (xC (.int 2)) (xVar 2)) (xC (.int 1))) xsNil))) (xVar 2)) [some (.hnd 0), some k, some (.int wd), some x, none] anyS ds (potD cs a r :: R) = .ok (row.map .int) (potD cs a' r' :: R) ∧ row.length = ds.length ∧ (∀ c ∈ row, c.natAbs ≤ 1000000000) ∧ Pv cs a' r' (n + ds.length)
  | [], a, r, n, h, hn => ⟨[], a, r, rfl, rfl, fun _ h => (List.not_mem_nil h).elim, h⟩
  | d :: ds, a, r, n, h, hn => by
    rw [List.length_cons] at hn
    have mb : (2 * wd + 1).natAbs < 2 ^ 8000 := by
      have : (2 * wd + 1) = (((2 * wd + 1).toNat : Nat) : Int) := by omega
      rw [this]
      exact m_small (by omega)
    obtain ⟨v, a1, r1, e1, v0, v1, q1⟩ := v_dip (R := R) h (by omega) (m := 2 * wd + 1) (by omega) mb
    obtain ⟨row, a4, r4, e4, l4, t4, q4⟩ := row_run hw hw2 (ds := ds) q1 (by omega)
    have mo : mulOkX 2 wd = true := decide_eq_true (mulx_ok (a := 2) (b := 40) (by decide) (small_nat (k := 1099511627776) (by omega) (by omega) (by decide)) (by decide))
    refine ⟨(v - wd) :: row, a4, r4, ?_, by rw [List.length_cons, List.length_cons, l4], fun t ht => ?_, q4.le (by rw [List.length_cons]; omega)⟩
    · refine lcL_consT rfl rfl (S2 := potD cs a1 r1 :: R) ?_ e4
      simp [mo, e1]
    · rcases List.mem_cons.mp ht with rfl | ht
      · omega
      · exact t4 t ht
def RwP (k : Nat) (r : RwT) : Prop := r.1.natAbs ≤ 3 ∧ r.2.length = k ∧ ∀ c ∈ r.2, c.natAbs ≤ 1000000000
theorem rows_run {cs : List Int} {wd : Int} {k : Nat} (hk : k ≤ 10) (hw : 0 < wd) (hw2 : wd ≤ 1000000000) : ∀ {ds : List D} {a r : Int} {n : Nat}, Pv cs a r n → n + 20 * ds.length < 60000 →
    ∃ (rs : List RwT) (a' r' : Int), lcL (tName 3) cYes (xTup (xsCons (xBin oSub (xFn F__law_dip (xsCons (xVar 0) (xsCons (xC (.int 7)) xsNil))) (xC (.int 3))) (xsCons (xLc (wRng1 (xsCons (xVar 1) xsNil)) (tName 4) cYes (xBin oSub (xFn F__law_dip (xsCons (xVar 0) (xsCons (xBin oAdd (xBin oMulT (xC (.int 2)) (xVar 2)) (xC (.int 1))) xsNil))) (xVar 2)) [4]) xsNil))) [some (.hnd 0), some (.int k), some (.int wd), none, none] anyS ds (potD cs a r :: R) = .ok (rs.map rwD) (potD cs a' r' :: R) ∧ rs.length = ds.length ∧ (∀ r ∈ rs, RwP k r) ∧ Pv cs a' r' (n + 20 * ds.length)
  | [], a, r, n, h, hn => ⟨[], a, r, rfl, rfl, fun _ h => (List.not_mem_nil h).elim, h⟩
  | d :: ds, a, r, n, h, hn => by
    rw [List.length_cons] at hn
    obtain ⟨v, a1, r1, e1, v0, v1, q1⟩ := v_dip (R := R) h (by omega) (m := 7) (by decide) (m_small (k := 7) (by decide))
    have lr : (rng 0 k).length = k := by rw [rng_map, List.length_map, List.length_range]
    obtain ⟨row, a2, r2, e2, l2, t2, q2⟩ := row_run (R := R) (k := .int k) (x := d) hw hw2 (ds := rng 0 k) q1 (by omega)
    obtain ⟨rs, a4, r4, e4, l4, t4, q4⟩ := rows_run hk hw hw2 (ds := ds) (q2.le (show n + 1 + (rng 0 k).length ≤ n + 20 by omega)) (by omega)
    have s2 : (2 : Nat) ≤ sizeLine := by decide
    have ir := inRng_nat (n := k) (by omega)
    have sr : (rng 0 k).length ≤ sizeLine := sz (show (rng 0 k).length ≤ 10 by omega)
    refine ⟨(v - 3, row) :: rs, a4, r4, ?_, by rw [List.length_cons, List.length_cons, l4], fun t ht => ?_, q4.le (by rw [List.length_cons]; omega)⟩
    · refine lcL_consT rfl rfl (S2 := potD cs a2 r2 :: R) ?_ e4
      simp [e1, ir, sr, e2, s2, rwD]
    · rcases List.mem_cons.mp ht with rfl | ht
      · exact ⟨by show (v - 3).natAbs ≤ 3; omega, by show row.length = k; omega, t2⟩
      · exact t4 t ht
theorem v_lrows {cs : List Int} {a r : Int} {n k : Nat} (h : Pv cs a r n) (hn : n + 100 < 60000) (hk : k ≤ 10) :
    ∃ (rs : List RwT) (a' r' : Int), F__law_rows [.hnd 0, .int k] (potD cs a r :: R) = .ok (.lst (rs.map rwD)) (potD cs a' r' :: R) ∧ rs ≠ [] ∧ rs.length ≤ 3 ∧ (∀ r ∈ rs, RwP k r) ∧ Pv cs a' r' (n + 100) := by
  obtain ⟨x, a1, r1, e1, hx, q1⟩ := v_pick (R := R) (xs := [.int 4, .int 9, .int 1, .int 1000000000]) h (by omega) (by simp) (by simp)
  obtain ⟨wd, rfl, w0, w1⟩ : ∃ w : Int, x = .int w ∧ 0 < w ∧ w ≤ 1000000000 := by
    simp at hx
    rcases hx with rfl | rfl | rfl | rfl
    · exact ⟨_, rfl, by decide, by decide⟩
    · exact ⟨_, rfl, by decide, by decide⟩
    · exact ⟨_, rfl, by decide, by decide⟩
    · exact ⟨_, rfl, by decide, by decide⟩
  obtain ⟨v, a2, r2, e2, v0, v1, q2⟩ := v_dip (R := R) q1 (by omega) (m := 3) (by decide) (m_small (k := 3) (by decide))
  have lr : (rng 0 (1 + v).toNat).length = (1 + v).toNat := by rw [rng_map, List.length_map, List.length_range]
  obtain ⟨rs, a3, r3, e3, l3, t3, q3⟩ := rows_run (R := R) hk w0 w1 (ds := rng 0 (1 + v).toNat) q2 (by omega)
  have ir : inRng (1 + v) = true := by
    have := inRng_nat (n := (1 + v).toNat) (by omega)
    rwa [Int.toNat_of_nonneg (by omega)] at this
  have sr : (rng 0 (1 + v).toNat).length ≤ sizeLine := sz (show (rng 0 (1 + v).toNat).length ≤ 10 by omega)
  have s4 : (4 : Nat) ≤ sizeLine := by decide
  have p9 : (Builtin.Int.intBits 10 : Int) * 9 ≤ 134217728 := pw_ok (i := 10) (k := 9) (a := 4) (by decide) (by decide)
  refine ⟨rs, a3, r3, ?_, fun z => by rw [z] at l3; rw [lr] at l3; have : (0 : Nat) = (1 + v).toNat := l3; omega, by omega, t3, q3.le (by omega)⟩
  simp only [F__law_rows, p__law_rows, fn_eq]
  simp [startE, s4, p9, e1, e2, ir, sr, e3]
end
end G44

namespace G44
open PySem PySem.Spec PyProof.Rows L2 Den
section
variable {S : Sd}
theorem forL_runM {γ : TGt} {ψ : TSt} {τ : Type} (g : τ → D) (I : List τ → En → Sd → Prop) : ∀ {xs ys : List τ} {env : En} {S : Sd}, I ys env S → (∀ ys x env S, x ∈ xs → I ys env S → ∃ env1 S1 env2 S2, γ (g x) env S = .ok env1 S1 ∧ ψ env1 S1 = .ok (.nx env2) S2 ∧ I (ys ++ [x]) env2 S2) → ∃ env' S', forL γ ψ anyS (xs.map g) env S = .ok (.nx env') S' ∧ I (ys ++ xs) env' S'
  | [], ys, env, S, h0, hs => ⟨env, S, forL_nil rfl, by rw [List.append_nil]; exact h0⟩
  | x :: xs, ys, env, S, h0, hs => by
    obtain ⟨env1, S1, env2, S2, h1, h2, h3⟩ := hs ys x env S List.mem_cons_self h0
    obtain ⟨env', S', e, q⟩ := forL_runM g I (xs := xs) h3 fun ys y env S hy => hs ys y env S (List.mem_cons_of_mem _ hy)
    refine ⟨env', S', ?_, by rw [List.append_assoc] at q; exact q⟩
    rw [List.map_cons, forL_cons rfl, h1]
    simp only [R.bind_ok, h2]
    exact e
theorem ex_drop {d : D} {T : Sd} (hT : T ≠ []) (hc : ∀ g : Nat → Option D, mapH g d = some d) : exitR S (.ok d (S ++ T)) = .ok d S := by
  unfold exitR
  have l : (S ++ T).length ≠ S.length := fun z => hT (by rw [List.length_append] at z; exact List.length_eq_zero_iff.mp (by omega))
  have k : S.length ≤ (S ++ T).length ∧ KeepOk S (S ++ T) := ⟨by rw [List.length_append]; omega, fun i o hi e => .inl (by rw [List.getElem?_append_left hi] at e; exact e)⟩
  dsimp only
  rw [if_neg l, if_pos k]
  unfold fz
  rw [hc]
  show R.ok d ((S ++ T).take S.length) = _
  rw [List.take_append_of_le_length (Nat.le_refl _), List.take_length]
theorem app_last {ds : List D} {φ χ : TX} {env : En} {d : D} (h1 : φ env (S ++ [.lst ds]) = .ok (.hnd S.length) (S ++ [.lst ds])) (h2 : χ env (S ++ [.lst ds]) = .ok d (S ++ [.lst ds])) (hl : ds.length < sizeLine) : xApp φ χ env (S ++ [.lst ds]) = .ok .non (S ++ [.lst (ds ++ [d])]) := by
  have e : lstAt (S ++ [MO.lst ds]) (.hnd S.length) = some (S.length, ds) := by
    unfold lstAt
    have : (S ++ [MO.lst ds])[S.length]? = some (.lst ds) := by
      rw [List.getElem?_append_right (Nat.le_refl _), Nat.sub_self]
      rfl
    simp only [this]
  rw [ev_app, h1]
  simp only [R.bind_ok, e, h2]
  rw [show decide (ds.length < sizeLine) = true from decide_eq_true hl]
  show R.ok D.non ((S ++ [MO.lst ds]).set S.length _) = _
  rw [List.set_append_right _ _ (Nat.le_refl _), Nat.sub_self]
  rfl
def chS (rs : List RwT) (i j : Nat) : Int := (rs.map fun r => r.1 * (r.2[i]?).getD 0 * (r.2[j]?).getD 0).sum
def chRow (rs : List RwT) (k i : Nat) : List Int := (List.range k).map fun j => chS rs i j
theorem ch_in {rs : List RwT} {k i j : Nat} {x y z u : D} (hr : ∀ r ∈ rs, RwP k r) (hi : i < k) (hj : j < k) (hl : rs.length ≤ 100) (hk : k ≤ 10) :
    (xCall oSum (xsCons (xLc (wOf (xVar 0)) (Den.tTup [(tName 6), (tName 7)]) cYes (xBin oMulT (xBin oMulT (xVar 6) (xBin oIx (xVar 7) (xVar 4))) (xBin oIx (xVar 7) (xVar 5))) [6, 7]) xsNil)) [some (.lst (rs.map rwD)), some x, some y, some z, some (.int (i : Nat)), some (.int (j : Nat)), none, none] S = .ok (.int (chS rs i j)) S := by
  have e : lcL (Den.tTup [(tName 6), (tName 7)]) cYes (xBin oMulT (xBin oMulT (xVar 6) (xBin oIx (xVar 7) (xVar 4))) (xBin oIx (xVar 7) (xVar 5))) [some (.lst (rs.map rwD)), some x, some y, some z, some (.int (i : Nat)), some (.int (j : Nat)), none, none] anyS (rs.map rwD) S = .ok (rs.map fun r => .int (r.1 * (r.2[i]?).getD 0 * (r.2[j]?).getD 0)) S := by
    refine lcL_mapG rwD (fun r => .int (r.1 * (r.2[i]?).getD 0 * (r.2[j]?).getD 0)) rfl fun r hrm => ⟨[some (.lst (rs.map rwD)), some x, some y, some z, some (.int (i : Nat)), some (.int (j : Nat)), some (.int r.1), some (.lst (r.2.map .int))], rfl, ?_⟩
    obtain ⟨a, b, c⟩ := hr r hrm
    have i1 : atI (r.2.map D.int) (i : Int) = some (.int ((r.2[i]?).getD 0)) := atI_get (by omega)
    have j1 : atI (r.2.map D.int) (j : Int) = some (.int ((r.2[j]?).getD 0)) := atI_get (by omega)
    have gb : ∀ q, q < k → ((r.2[q]?).getD 0).natAbs < 2 ^ 40 := fun q hq => by
      rw [List.getElem?_eq_getElem (by omega)]
      exact Nat.lt_of_le_of_lt (c _ (List.getElem_mem _)) (by decide)
    have m1 : mulOkX r.1 ((r.2[i]?).getD 0) = true := decide_eq_true (mulx_ok (a := 3) (b := 40) (Nat.lt_of_le_of_lt a (by decide)) (gb i hi) (by decide))
    have m2 : mulOkX (r.1 * (r.2[i]?).getD 0) ((r.2[j]?).getD 0) = true := decide_eq_true (mulx_ok (a := 43) (b := 40) (by
      rw [Int.natAbs_mul]
      calc r.1.natAbs * ((r.2[i]?).getD 0).natAbs ≤ 3 * ((r.2[i]?).getD 0).natAbs := Nat.mul_le_mul_right _ a
        _ < 2 ^ 43 := by have := gb i hi; omega) (gb j hj) (by decide))
    simp [i1, j1, m1, m2]
  simp [sz hl, e, ev_sum, chS]
theorem chS_sym (rs : List RwT) (i j : Nat) : chS rs i j = chS rs j i := by
  unfold chS
  congr 1
  refine List.map_congr_left fun r _ => ?_
  rw [Int.mul_assoc, Int.mul_comm ((r.2[i]?).getD 0), ← Int.mul_assoc]
theorem ch_row {rs : List RwT} {k i : Nat} {x y z o : D} (hr : ∀ r ∈ rs, RwP k r) (hi : i < k) (hl : rs.length ≤ 100) (hk : k ≤ 10) :
    lcL (tName 5) cYes (xCall oSum (xsCons (xLc (wOf (xVar 0)) (Den.tTup [(tName 6), (tName 7)]) cYes (xBin oMulT (xBin oMulT (xVar 6) (xBin oIx (xVar 7) (xVar 4))) (xBin oIx (xVar 7) (xVar 5))) [6, 7]) xsNil)) [some (.lst (rs.map rwD)), some x, some y, some z, some (.int (i : Nat)), none, none, none] anyS (rng 0 k) S = .ok ((chRow rs k i).map .int) S := by
  unfold chRow
  rw [List.map_map]
  refine lcL_mapG (fun j : Nat => D.int (0 + (j : Int))) (fun j => .int (chS rs i j)) rfl fun j hj => ⟨_, rfl, ?_⟩
  have := ch_in (S := S) (x := x) (y := y) (z := z) (u := x) hr hi (List.mem_range.mp hj) hl hk
  rw [show (0 : Int) + (j : Int) = (j : Int) by omega]
  exact this
end
end G44

namespace G44
open PySem PySem.Spec PyProof.Rows L2 Den
section
variable {S : Sd}
def chRows (rs : List RwT) (k : Nat) : List (List Int) := (List.range k).map fun i => chRow rs k i
abbrev rowL (r : List Int) : D := .lst (r.map .int)
theorem chart_run {rs : List RwT} {k : Nat} {b : D} (hr : ∀ r ∈ rs, RwP k r) (hk : k ≤ 6) (hl : rs.length ≤ 100) : ∀ {is : List Nat} {zs : List (List Int)} {o : Option D}, (∀ i ∈ is, i < k) → zs.length + is.length ≤ 6 →
    ∃ o', forL (tName 4) (sSeq (sExpr (xApp (xVar 3) (xLc (wRng1 (xsCons (xVar 2) xsNil)) (tName 5) cYes (xCall oSum (xsCons (xLc (wOf (xVar 0)) (Den.tTup [(tName 6), (tName 7)]) cYes (xBin oMulT (xBin oMulT (xVar 6) (xBin oIx (xVar 7) (xVar 4))) (xBin oIx (xVar 7) (xVar 5))) [6, 7]) xsNil)) [5]))) sNext) anyS (is.map fun i : Nat => D.int (0 + (i : Int))) [some (.lst (rs.map rwD)), some b, some (.int k), some (.hnd S.length), o, none, none, none] (S ++ [.lst (zs.map rowL)]) = .ok (.nx [some (.lst (rs.map rwD)), some b, some (.int k), some (.hnd S.length), o', none, none, none]) (S ++ [.lst ((zs ++ is.map (chRow rs k)).map rowL)])
  | [], zs, o, hi, hn => ⟨o, by rw [List.map_nil, forL_nil rfl, List.map_nil, List.append_nil]⟩
  | i :: is, zs, o, hi, hn => by
    rw [List.length_cons] at hn
    have ir := inRng_nat (n := k) (by omega)
    have lr : (rng 0 k).length ≤ sizeLine := by rw [rng_map, List.length_map, List.length_range]; exact sz hk
    have hik := hi i List.mem_cons_self
    have cr := ch_row (S := S ++ [.lst (zs.map rowL)]) (x := b) (y := .int k) (z := .hnd S.length) (o := b) hr hik hl (by omega)
    obtain ⟨o', ih⟩ := chart_run (b := b) hr hk hl (is := is) (zs := zs ++ [chRow rs k i]) (o := some (.int (i : Nat))) (fun j hj => hi j (List.mem_cons_of_mem _ hj)) (by rw [List.length_append, List.length_singleton]; omega)
    refine ⟨o', ?_⟩
    have ap := app_last (S := S) (ds := zs.map rowL) (φ := xVar 3) (χ := xLc (wRng1 (xsCons (xVar 2) xsNil)) (tName 5) cYes (xCall oSum (xsCons (xLc (wOf (xVar 0)) (Den.tTup [(tName 6), (tName 7)]) cYes (xBin oMulT (xBin oMulT (xVar 6) (xBin oIx (xVar 7) (xVar 4))) (xBin oIx (xVar 7) (xVar 5))) [6, 7]) xsNil)) [5]) (env := [some (.lst (rs.map rwD)), some b, some (.int k), some (.hnd S.length), some (.int (i : Nat)), none, none, none]) (d := rowL (chRow rs k i)) rfl (by simp [ir, lr, cr]) (Nat.lt_of_le_of_lt (show (zs.map rowL).length ≤ 6 by rw [List.length_map]; omega) (by decide))
    rw [List.map_cons, forL_cons rfl, show (0 : Int) + (i : Int) = (i : Int) by omega]
    show R.bind ((sSeq _ _) [some (.lst (rs.map rwD)), some b, some (.int k), some (.hnd S.length), some (.int (i : Nat)), none, none, none] _) _ = _
    rw [ev_seq, ev_expr, ap]
    simp only [R.bind_ok, ev_next]
    rw [show zs.map rowL ++ [rowL (chRow rs k i)] = (zs ++ [chRow rs k i]).map rowL by rw [List.map_append]; rfl, ih, List.append_assoc]
    rfl
theorem chRows_at {rs : List RwT} {k i j : Nat} (hi : i < k) (hj : j < k) : (((chRows rs k)[i]?.getD [])[j]?).getD 0 = chS rs i j := by
  unfold chRows chRow
  simp [List.getElem?_map, List.getElem?_range hi, List.getElem?_range hj]
theorem chRows_sym {rs : List RwT} {k : Nat} (h2 : 2 ≤ k) (hk : k ≤ 6) : SymR (chRows rs k) := by
  have l : (chRows rs k).length = k := by unfold chRows; rw [List.length_map, List.length_range]
  have lr : ∀ r ∈ chRows rs k, r.length = k := fun r hr => by
    obtain ⟨i, _, rfl⟩ := List.mem_map.mp hr
    unfold chRow
    rw [List.length_map, List.length_range]
  have out : ∀ i j : Nat, k ≤ i ∨ k ≤ j → (((chRows rs k)[i]?.getD [])[j]?).getD 0 = 0 := fun i j h => by
    by_cases hi : i < k
    · have hj : k ≤ j := by omega
      have e : (chRows rs k)[i]? = some ((chRows rs k)[i]'(by omega)) := List.getElem?_eq_getElem _
      have key : ∀ x : List Int, x.length = k → (x[j]?).getD 0 = 0 := fun x hx => by
        rw [List.getElem?_eq_none (by omega)]
        rfl
      rw [e]
      exact key _ (lr _ (List.getElem_mem _))
    · rw [List.getElem?_eq_none (by omega : (chRows rs k).length ≤ i)]
      rfl
  refine ⟨by omega, by omega, fun r hr => by rw [l]; exact lr r hr, fun i j => ?_⟩
  by_cases hi : i < k
  · by_cases hj : j < k
    · rw [chRows_at hi hj, chRows_at hj hi, chS_sym]
    · rw [out i j (by omega), out j i (by omega)]
  · rw [out i j (by omega), out j i (by omega)]
def lchG (rs : List RwT) (k : Nat) (b : Int) : Nat := gcdF 0 (b :: (chRows rs k).flatten)
def lchD (rs : List RwT) (k : Nat) (b : Int) : D := chD (chR (chRows rs k) (lchG rs k b)) (b / (lchG rs k b : Nat)) (k + 1)
theorem v_lchart {rs : List RwT} {k : Nat} {b : Int} (ne : rs ≠ []) (hr : ∀ r ∈ rs, RwP k r) (h2 : 2 ≤ k) (hk : k ≤ 6) (hl : rs.length ≤ 100) (hb : 0 < b) (hb2 : b.natAbs < 2 ^ 8000) : F__law_chart [.lst (rs.map rwD), .int b] S = .ok (lchD rs k b) S := by
  obtain ⟨r0, hr0, f0⟩ : ∃ r0, r0 ∈ rs ∧ atI (rs.map rwD) 0 = some (rwD r0) := by
    cases rs with
    | nil => exact absurd rfl ne
    | cons a l => exact ⟨a, List.mem_cons_self, show atI _ ((0 : Nat) : Int) = _ from atI_nat rfl⟩
  have hm0 := (hr r0 hr0).2.1
  have f1 : atI [D.int r0.1, .lst (r0.2.map .int)] 1 = some (.lst (r0.2.map .int)) := rfl
  have ir := inRng_nat (n := k) (by omega)
  have s2 : (2 : Nat) ≤ sizeLine := by decide
  obtain ⟨o', lp⟩ := chart_run (S := S) (b := .int b) hr hk hl (is := List.range k) (zs := []) (o := none) (fun i hi => List.mem_range.mp hi) (by simp; exact hk)
  rw [List.nil_append] at lp
  have hV : RwV (S ++ [.lst ((chRows rs k).map rowL)]) (.hnd S.length) ((chRows rs k).map fun r => (rowL r, r)) := ⟨.inr (.inr ⟨S.length, rfl, by
    rw [List.getElem?_append_right (Nat.le_refl _), Nat.sub_self, List.map_map]
    rfl⟩), fun p hp => by
    obtain ⟨r, _, rfl⟩ := List.mem_map.mp hp
    exact .lst⟩
  have er : rw ((chRows rs k).map fun r => (rowL r, r)) = chRows rs k := by
    show ((chRows rs k).map _).map _ = _
    rw [List.map_map]
    exact List.map_id _
  have nw := v_chart hV (by rw [er]; exact chRows_sym h2 hk) hb hb2
  have eg : chG ((chRows rs k).map fun r => (rowL r, r)) b = lchG rs k b := by unfold chG lchG; rw [er]
  rw [er, eg, List.length_map, show (chRows rs k).length = k by unfold chRows; rw [List.length_map, List.length_range]] at nw
  simp only [F__law_chart, p__law_chart, fn_eq]
  simp [startE, f0, rwD, f1, hm0, s2, ir]
  rw [show rng 0 k = (List.range k).map fun i : Nat => D.int (0 + (i : Int)) from rfl, show (S ++ [MO.lst []] : Sd) = S ++ [MO.lst (List.map rowL [])] from rfl, lp]
  rw [show (List.range k).map (chRow rs k) = chRows rs k from rfl]
  simp only [R.bind_ok, ev_varS, ev_var0, nw, out_ret]
  exact ex_drop (by simp) fun g => by
    unfold chD
    simp only [mapH, mapHs]
    rw [eRows.cl]
    rfl
end
end G44

namespace G44
open PySem PySem.Spec PyProof.Rows L2 Den
section
variable {S : Sd}
def rowF (n : Nat) (f : Nat → Nat → Int) (i : Nat) : List Int := (List.range n).map (f i)
def tabF (n : Nat) (f : Nat → Nat → Int) : List (List Int) := (List.range n).map (rowF n f)
def rowsM (n : Nat) (f : Nat → Nat → Int) : List MO := (List.range n).map fun i => MO.lst ((rowF n f i).map .int)
def hnds (b n : Nat) : List D := (List.range n).map fun i => D.hnd (b + i)
def formS (S : Sd) (n : Nat) (f : Nat → Nat → Int) : Sd := S ++ (rowsM n f ++ [MO.lst (hnds S.length n)])
theorem rowsM_len {n : Nat} {f : Nat → Nat → Int} : (rowsM n f).length = n := by unfold rowsM; rw [List.length_map, List.length_range]
theorem form_top {n : Nat} {f : Nat → Nat → Int} : (formS S n f)[S.length + n]? = some (.lst (hnds S.length n)) := by
  unfold formS
  rw [List.getElem?_append_right (by omega), show S.length + n - S.length = n by omega, List.getElem?_append_right (by rw [rowsM_len]; exact Nat.le_refl _), rowsM_len, Nat.sub_self]
  rfl
theorem form_row {n i : Nat} {f : Nat → Nat → Int} (hi : i < n) : (formS S n f)[S.length + i]? = some (.lst ((rowF n f i).map .int)) := by
  unfold formS
  rw [List.getElem?_append_right (by omega), show S.length + i - S.length = i by omega, List.getElem?_append_left (by rw [rowsM_len]; exact hi)]
  unfold rowsM
  rw [List.getElem?_map, List.getElem?_range hi]
  rfl
theorem form_ix {n i : Nat} {f : Nat → Nat → Int} (hi : i < n) : oIx (.hnd (S.length + n)) (.int (i : Nat)) (formS S n f) = .ok (.hnd (S.length + i)) (formS S n f) := SqV.ix (ds := hnds S.length n) (.inr (.inr ⟨_, rfl, form_top⟩)) (atI_nat (by unfold hnds; rw [List.getElem?_map, List.getElem?_range hi]; rfl))
theorem rowF_at {n i j : Nat} {f : Nat → Nat → Int} (hj : j < n) : (rowF n f i)[j]? = some (f i j) := by
  unfold rowF
  rw [List.getElem?_map, List.getElem?_range hj]
  rfl
theorem form_get {n i j : Nat} {f : Nat → Nat → Int} (hi : i < n) (hj : j < n) : oIxL (.hnd (S.length + i)) (.int (j : Nat)) (formS S n f) = .ok (.int (f i j)) (formS S n f) := by
  have e : D.itemsL (formS S n f) (.hnd (S.length + i)) = some ((rowF n f i).map .int) := by
    show (match (formS S n f)[S.length + i]? with | some (.lst ds) => some ds | _ => none) = _
    rw [form_row hi]
  unfold oIxL
  simp only [e, Option.bind_some]
  rw [atI_nat (by rw [List.getElem?_map, rowF_at hj]; rfl)]
  rfl
def updF (f : Nat → Nat → Int) (i j : Nat) (z : Int) : Nat → Nat → Int := fun a b => if a = i ∧ b = j then z else f a b
theorem rowF_set {n i j : Nat} {f : Nat → Nat → Int} {z : Int} : (rowF n f i).set j z = rowF n (updF f i j z) i := by
  refine List.ext_getElem? fun k => ?_
  unfold rowF updF
  by_cases hk : k < n
  · rw [List.getElem?_map, List.getElem?_range hk]
    by_cases h : k = j
    · subst h
      rw [List.getElem?_set_self (by rw [List.length_map, List.length_range]; exact hk)]
      simp
    · rw [List.getElem?_set_ne (fun z => h z.symm), List.getElem?_map, List.getElem?_range hk]
      simp [h]
  · rw [List.getElem?_eq_none (by rw [List.length_set, List.length_map, List.length_range]; omega), List.getElem?_eq_none (by rw [List.length_map, List.length_range]; omega)]
theorem rowF_other {n i j k : Nat} {f : Nat → Nat → Int} {z : Int} (h : k ≠ i) : rowF n (updF f i j z) k = rowF n f k := by
  unfold rowF updF
  simp [h]
theorem ixNn {n j : Nat} (hj : j < n) : ixN n (j : Int) = some j := by
  unfold ixN
  rw [if_pos (by omega), if_pos (by omega)]
  simp
theorem form_set {n i j : Nat} {f : Nat → Nat → Int} {z : Int} {env : En} (hi : i < n) (hj : j < n) : setR (.hnd (S.length + i)) (.int (j : Nat)) (.int z) env (formS S n f) = .ok env (formS S n (updF f i j z)) := by
  have e : lstAt (formS S n f) (.hnd (S.length + i)) = some (S.length + i, (rowF n f i).map .int) := by
    unfold lstAt
    simp only [form_row hi]
  have e2 : ixN ((rowF n f i).map D.int).length (j : Int) = some j := ixNn (by rw [List.length_map]; unfold rowF; rw [List.length_map, List.length_range]; exact hj)
  unfold setR
  simp only [e, e2]
  congr 1
  unfold formS
  rw [List.set_append_right _ _ (by omega), show S.length + i - S.length = i by omega, List.set_append_left _ _ (by rw [rowsM_len]; exact hi)]
  congr 2
  rw [← List.map_set, rowF_set]
  refine List.ext_getElem? fun k => ?_
  unfold rowsM
  by_cases hk : k < n
  · by_cases h : k = i
    · subst h
      rw [List.getElem?_set_self (by rw [List.length_map, List.length_range]; exact hk), List.getElem?_map, List.getElem?_range hk]
      rfl
    · rw [List.getElem?_set_ne (fun z => h z.symm), List.getElem?_map, List.getElem?_map, List.getElem?_range hk]
      show some (MO.lst ((rowF n f k).map D.int)) = some (MO.lst ((rowF n _ k).map D.int))
      rw [rowF_other h]
  · rw [List.getElem?_eq_none (by rw [List.length_set, List.length_map, List.length_range]; omega), List.getElem?_eq_none (by rw [List.length_map, List.length_range]; omega)]
/-- what one turn adds -/
def putF (f : Nat → Nat → Int) (p o : Nat) (v : Int) : Nat → Nat → Int := if 0 < p ∧ 0 < o then updF (updF f (p - 1) (o - 1) (f (p - 1) (o - 1) + v)) (o - 1) (p - 1) (updF f (p - 1) (o - 1) (f (p - 1) (o - 1) + v) (o - 1) (p - 1) + v) else f
abbrev formB : TSt := (sSeq (sIf (cAnd (cB (xBin oGt (xVar 6) (xC (.int 0)))) (cB (xBin oGt (xVar 8) (xC (.int 0))))) (sSeq (sAugS (xBin oIx (xVar 2) (xBin oSub (xVar 6) (xC (.int 1)))) (xBin oSub (xVar 8) (xC (.int 1))) oIAdd (xVar 9))
    (sSeq (sAugS (xBin oIx (xVar 2) (xBin oSub (xVar 8) (xC (.int 1)))) (xBin oSub (xVar 6) (xC (.int 1))) oIAdd (xVar 9))
    sNext)) sNext)
    sNext)
theorem form_b {n p o : Nat} {f : Nat → Nat → Int} {v : Int} {x0 x1 x3 x4 x5 x7 x10 : Option D} (hp : p ≤ n) (ho : o ≤ n) : formB [x0, x1, some (.hnd (S.length + n)), x3, x4, x5, some (.int (p : Nat)), x7, some (.int (o : Nat)), some (.int v), x10] (formS S n f) = .ok (.nx [x0, x1, some (.hnd (S.length + n)), x3, x4, x5, some (.int (p : Nat)), x7, some (.int (o : Nat)), some (.int v), x10]) (formS S n (putF f p o v)) := by
  by_cases h1 : 0 < p
  · by_cases h2 : 0 < o
    · have e1 : (p : Int) - 1 = ((p - 1 : Nat) : Int) := by omega
      have e2 : (o : Int) - 1 = ((o - 1 : Nat) : Int) := by omega
      have i1 := fun f => form_ix (S := S) (f := f) (show p - 1 < n by omega)
      have i2 := fun f => form_ix (S := S) (f := f) (show o - 1 < n by omega)
      have g1 := fun f => form_get (S := S) (f := f) (show p - 1 < n by omega) (show o - 1 < n by omega)
      have g2 := fun f => form_get (S := S) (f := f) (show o - 1 < n by omega) (show p - 1 < n by omega)
      have s1 := fun f z env => form_set (S := S) (f := f) (z := z) (env := env) (show p - 1 < n by omega) (show o - 1 < n by omega)
      have s2 := fun f z env => form_set (S := S) (f := f) (z := z) (env := env) (show o - 1 < n by omega) (show p - 1 < n by omega)
      unfold putF
      rw [if_pos ⟨h1, h2⟩]
      simp [formB, h1, h2, e1, e2, i1, i2, g1, g2, s1, s2]
    · unfold putF
      rw [if_neg (fun z => h2 z.2)]
      simp [formB, h1, h2]
  · unfold putF
    rw [if_neg (fun z => h1 z.1)]
    simp [formB, h1]
end
end G44

namespace G44
open PySem PySem.Spec PyProof.Rows L2 Den
section
variable {S : Sd}
theorem at2_1 {x y : D} : atI [x, y] 1 = some y := rfl
theorem at2_0 {x y : D} : atI [x, y] 0 = some x := rfl
def formT (f : Nat → Nat → Int) (t : NTm) : Nat → Nat → Int := putF (putF (putF (putF f t.2.1.2 t.2.2.2 t.1) t.2.1.2 t.2.2.1 (-t.1)) t.2.1.1 t.2.2.2 (-t.1)) t.2.1.1 t.2.2.1 t.1
noncomputable abbrev formB2 : TSt := (sSeq (sFor (wOf (xTup (xsCons (xTup (xsCons (xBin oIx (xVar 4) (xC (.int 1))) (xsCons (xVar 3) xsNil))) (xsCons (xTup (xsCons (xBin oIx (xVar 4) (xC (.int 0))) (xsCons (xUn oNeg (xVar 3)) xsNil))) xsNil)))) (Den.tTup [(tName 6), (tName 7)]) (sSeq (sFor (wOf (xTup (xsCons (xTup (xsCons (xBin oIx (xVar 5) (xC (.int 1))) (xsCons (xVar 7) xsNil))) (xsCons (xTup (xsCons (xBin oIx (xVar 5) (xC (.int 0))) (xsCons (xUn oNeg (xVar 7)) xsNil))) xsNil)))) (Den.tTup [(tName 8), (tName 9)]) formB)
    sNext))
    sNext)
theorem form_t {n : Nat} {f : Nat → Nat → Int} {k : Int} {s u : NS2} {x0 x1 x6 x7 x8 x9 x10 : Option D} (h1 : s.1 ≤ n) (h2 : s.2 ≤ n) (h3 : u.1 ≤ n) (h4 : u.2 ≤ n) :
    formB2 [x0, x1, some (.hnd (S.length + n)), some (.int k), some (eS.d s), some (eS.d u), x6, x7, x8, x9, x10] (formS S n f) = .ok (.nx [x0, x1, some (.hnd (S.length + n)), some (.int k), some (eS.d s), some (eS.d u), some (.int (s.1 : Nat)), some (.int (-k)), some (.int (u.1 : Nat)), some (.int k), x10]) (formS S n (formT f (k, s, u))) := by
  have z2 : (2 : Nat) ≤ sizeLine := by decide
  have eS' : ∀ s : NS2, eS.d s = .tup [.int (s.1 : Nat), .int (s.2 : Nat)] := fun _ => rfl
  have b := fun (p o : Nat) (f : Nat → Nat → Int) (v : Int) (x0 x1 x3 x4 x5 x7 x10 : Option D) => form_b (S := S) (n := n) (p := p) (o := o) (f := f) (v := v) (x0 := x0) (x1 := x1) (x3 := x3) (x4 := x4) (x5 := x5) (x7 := x7) (x10 := x10)
  unfold formB2
  generalize formB = B at b
  simp [eS', z2, at2_0, at2_1, b, h1, h2, h3, h4, formT]
theorem form_loop {n : Nat} {x0 x1 x10 : Option D} : ∀ {ts : List NTm} {f : Nat → Nat → Int} {x3 x4 x5 x6 x7 x8 x9 : Option D}, (∀ t ∈ ts, t.2.1.1 ≤ n ∧ t.2.1.2 ≤ n ∧ t.2.2.1 ≤ n ∧ t.2.2.2 ≤ n) →
    ∃ y3 y4 y5 y6 y7 y8 y9, forL (Den.tTup [(tName 3), (tName 4), (tName 5)]) formB2 anyS (ts.map eTm.d) [x0, x1, some (.hnd (S.length + n)), x3, x4, x5, x6, x7, x8, x9, x10] (formS S n f) = .ok (.nx [x0, x1, some (.hnd (S.length + n)), y3, y4, y5, y6, y7, y8, y9, x10]) (formS S n (ts.foldl formT f))
  | [], f, x3, x4, x5, x6, x7, x8, x9, h => ⟨x3, x4, x5, x6, x7, x8, x9, rfl⟩
  | (k, s, u) :: ts, f, x3, x4, x5, x6, x7, x8, x9, h => by
    obtain ⟨h1, h2, h3, h4⟩ := h _ List.mem_cons_self
    obtain ⟨y3, y4, y5, y6, y7, y8, y9, ih⟩ := form_loop (x0 := x0) (x1 := x1) (x10 := x10) (ts := ts) (f := formT f (k, s, u)) (x3 := some (.int k)) (x4 := some (eS.d s)) (x5 := some (eS.d u)) (x6 := some (.int (s.1 : Nat))) (x7 := some (.int (-k))) (x8 := some (.int (u.1 : Nat))) (x9 := some (.int k)) fun t ht => h t (List.mem_cons_of_mem _ ht)
    refine ⟨y3, y4, y5, y6, y7, y8, y9, ?_⟩
    have ft := form_t (S := S) (f := f) (k := k) (x0 := x0) (x1 := x1) (x6 := x6) (x7 := x7) (x8 := x8) (x9 := x9) (x10 := x10) h1 h2 h3 h4
    rw [List.map_cons, forL_cons rfl, List.foldl_cons]
    show R.bind (formB2 [x0, x1, some (.hnd (S.length + n)), some (.int k), some (eS.d s), some (eS.d u), x6, x7, x8, x9, x10] (formS S n f)) _ = _
    rw [ft]
    exact ih
def zF : Nat → Nat → Int := fun _ _ => 0
def zM (n : Nat) : MO := .lst ((rowF n zF 0).map .int)
theorem zM_eq {n : Nat} : MO.lst (List.replicate n [D.int 0]).flatten = zM n := by
  unfold zM rowF zF
  congr 1
  rw [List.map_map]
  induction n with
  | zero => rfl
  | succ n ih => rw [List.replicate_succ, List.flatten_cons, ih, List.range_succ_eq_map, List.map_cons, List.map_map]; rfl
theorem rowsM_z {n : Nat} : rowsM n zF = List.replicate n (zM n) := by
  unfold rowsM
  rw [show (fun i => MO.lst ((rowF n zF i).map D.int)) = fun _ => zM n from rfl, List.map_const', List.length_range]
theorem mulHz {n : Nat} (hn : n ≤ 10) : oMulH (.lst [.int 0]) (.int (n : Int)) S = .ok (.hnd S.length) (S ++ [zM n]) := by
  have z1 : (-9223372036854775808 : Int) ≤ n := by omega
  have z2 : (n : Int) < 9223372036854775808 := by omega
  have e : D.itemsL S (.lst [.int 0]) = some [.int 0] := rfl
  have s := sz (show n ≤ 10 from hn)
  rw [← zM_eq]
  unfold oMulH
  simp only [e]
  simp [z1, z2, s]
theorem form_zero {n : Nat} {p : Int} {x0 : Option D} (hn : n ≤ 10) (hp : p - 1 = (n : Int)) : ∀ (ds : List D) (m : Nat),
    lcL (tName 10) cYes (xBin oMulH (xLst (xsCons (xC (.int 0)) xsNil)) (xBin oSub (xVar 1) (xC (.int 1)))) [x0, some (.int p), none, none, none, none, none, none, none, none, none] anyS ds (S ++ List.replicate m (zM n)) = .ok ((List.range ds.length).map fun i => .hnd (S.length + m + i)) (S ++ List.replicate (m + ds.length) (zM n))
  | [], m => rfl
  | d :: ds, m => by
    have ih := form_zero (x0 := x0) hn hp ds (m + 1)
    have s1 : (1 : Nat) ≤ sizeLine := by decide
    have e := mulHz (S := S ++ List.replicate m (zM n)) hn
    rw [List.length_append, List.length_replicate, List.append_assoc, ← List.replicate_succ'] at e
    have er : (List.range (d :: ds).length).map (fun i => D.hnd (S.length + m + i)) = D.hnd (S.length + m) :: (List.range ds.length).map fun i => D.hnd (S.length + (m + 1) + i) := by
      rw [List.length_cons, List.range_succ_eq_map, List.map_cons, List.map_map]
      refine List.cons_eq_cons.mpr ⟨rfl, List.map_congr_left fun i _ => ?_⟩
      show D.hnd (S.length + m + (i + 1)) = _
      rw [show S.length + m + (i + 1) = S.length + (m + 1) + i by omega]
    rw [er, List.length_cons, show m + (ds.length + 1) = m + 1 + ds.length by omega]
    refine lcL_consT rfl rfl (S2 := S ++ List.replicate (m + 1) (zM n)) ?_ ih
    have z1 : decide ([D.int 0].length ≤ sizeLine) = true := decide_eq_true s1
    simp only [ev_bin, ev_lst, ev_cons, ev_nil, ev_c, ev_varS, ev_var0, List.set_cons_succ, List.set_cons_zero, R.bind_ok, Den.sub_int, z1, guardR_true]
    rw [hp]
    exact e
end
end G44

namespace G44
open PySem PySem.Spec PyProof.Rows L2 Den
section
variable {S : Sd}
theorem putF_eq {f : Nat → Nat → Int} {p o : Nat} {v : Int} (i j : Nat) : putF f p o v i j = f i j + (if 0 < p ∧ 0 < o then (if i = p - 1 ∧ j = o - 1 then v else 0) + (if i = o - 1 ∧ j = p - 1 then v else 0) else 0) := by
  unfold putF
  by_cases h : 0 < p ∧ 0 < o
  · rw [if_pos h, if_pos h]
    generalize p - 1 = a
    generalize o - 1 = b
    unfold updF
    by_cases h1 : i = a <;> by_cases h2 : j = b <;> by_cases h3 : i = b <;> by_cases h4 : j = a <;> simp_all
    all_goals omega
  · rw [if_neg h, if_neg h, Int.add_zero]
def SymF (f : Nat → Nat → Int) : Prop := ∀ i j, f i j = f j i
theorem sym_put {f : Nat → Nat → Int} {p o : Nat} {v : Int} (h : SymF f) : SymF (putF f p o v) := fun i j => by
  rw [putF_eq, putF_eq, h i j]
  congr 1
  split
  · rw [Int.add_comm]
    congr 1
    · congr 1
      exact propext ⟨fun z => ⟨z.2, z.1⟩, fun z => ⟨z.2, z.1⟩⟩
    · congr 1
      exact propext ⟨fun z => ⟨z.2, z.1⟩, fun z => ⟨z.2, z.1⟩⟩
  · rfl
theorem sym_form : ∀ {ts : List NTm} {f : Nat → Nat → Int}, SymF f → SymF (ts.foldl formT f)
  | [], f, h => h
  | t :: ts, f, h => sym_form (ts := ts) (sym_put (sym_put (sym_put (sym_put h))))
theorem tabF_at {n i j : Nat} {f : Nat → Nat → Int} (hi : i < n) (hj : j < n) : (((tabF n f)[i]?.getD [])[j]?).getD 0 = f i j := by
  unfold tabF
  rw [List.getElem?_map, List.getElem?_range hi]
  show ((rowF n f i)[j]?).getD 0 = _
  rw [rowF_at hj]
  rfl
theorem rowF_len {n i : Nat} {f : Nat → Nat → Int} : (rowF n f i).length = n := by unfold rowF; rw [List.length_map, List.length_range]
theorem tabF_len {n : Nat} {f : Nat → Nat → Int} : (tabF n f).length = n := by unfold tabF; rw [List.length_map, List.length_range]
theorem tabF_sym {n : Nat} {f : Nat → Nat → Int} (h : SymF f) (h2 : 2 ≤ n) (hk : n ≤ 6) : SymR (tabF n f) := by
  have lr : ∀ r ∈ tabF n f, r.length = n := fun r hr => by
    obtain ⟨i, _, rfl⟩ := List.mem_map.mp hr
    exact rowF_len
  have out : ∀ i j : Nat, n ≤ i ∨ n ≤ j → (((tabF n f)[i]?.getD [])[j]?).getD 0 = 0 := fun i j h => by
    by_cases hi : i < n
    · have hj : n ≤ j := by omega
      have key : ∀ x : List Int, x.length = n → (x[j]?).getD 0 = 0 := fun x hx => by
        rw [List.getElem?_eq_none (by omega)]
        rfl
      have e : (tabF n f)[i]? = some ((tabF n f)[i]'(by rw [tabF_len]; exact hi)) := List.getElem?_eq_getElem _
      rw [e]
      exact key _ (lr _ (List.getElem_mem _))
    · have e : (tabF n f)[i]? = none := List.getElem?_eq_none (by rw [tabF_len]; omega)
      rw [e]
      rfl
  refine ⟨by rw [tabF_len]; exact h2, by rw [tabF_len]; exact hk, fun r hr => by rw [tabF_len]; exact lr r hr, fun i j => ?_⟩
  by_cases hi : i < n
  · by_cases hj : j < n
    · rw [tabF_at hi hj, tabF_at hj hi, h]
    · rw [out i j (by omega), out j i (by omega)]
  · rw [out i j (by omega), out j i (by omega)]
def frmF (ts : List NTm) : Nat → Nat → Int := ts.foldl formT zF
def frmG (n : Nat) (ts : List NTm) : Nat := gcdF 0 (2 :: (tabF n (frmF ts)).flatten)
def frmD (n : Nat) (ts : List NTm) : D := chD (chR (tabF n (frmF ts)) (frmG n ts)) (2 / (frmG n ts : Nat)) (n + 1)
theorem form_rw {n : Nat} {f : Nat → Nat → Int} : RwV (formS S n f) (.hnd (S.length + n)) ((List.range n).map fun i => (D.hnd (S.length + i), rowF n f i)) := by
  refine ⟨.inr (.inr ⟨_, rfl, ?_⟩), fun p hp => ?_⟩
  · rw [List.map_map]
    exact form_top
  · obtain ⟨i, hi, rfl⟩ := List.mem_map.mp hp
    exact .inr (.inr ⟨_, rfl, form_row (List.mem_range.mp hi)⟩)
theorem chD_cl {rs : List (List Int)} {b : Int} {m : Nat} (g : Nat → Option D) : mapH g (chD rs b m) = some (chD rs b m) := by
  unfold chD
  simp only [mapH, mapHs]
  rw [eRows.cl]
  rfl
theorem v_form {n : Nat} {ts : List NTm} {wd : String} {m : Int} (h2 : 2 ≤ n) (h6 : n ≤ 6) (hp : pinsI ts ≤ (n : Int) + 1) (h : ∀ t ∈ ts, t.2.1.1 ≤ n ∧ t.2.1.2 ≤ n ∧ t.2.2.1 ≤ n ∧ t.2.2.2 ≤ n) : F_Saying_form [syD ts wd m, .int ((n + 1 : Nat) : Int)] S = .ok (frmD n ts) S := by
  have q1 : (3 : Int) ≤ ((n + 1 : Nat) : Int) := by omega
  have q2 : ((n + 1 : Nat) : Int) ≤ 7 := by omega
  have q3 : ¬ ((n + 1 : Nat) : Int) < pinsI ts := by omega
  have q4 : ((n + 1 : Nat) : Int) - 1 = (n : Int) := by omega
  have ir := inRng_nat (n := n) (by omega)
  have lr : (rng 0 n).length = n := by rw [rng_map, List.length_map, List.length_range]
  have sr : (rng 0 n).length ≤ sizeLine := by rw [lr]; exact sz h6
  have ez := form_zero (S := S) (p := ((n + 1 : Nat) : Int)) (x0 := some (syD ts wd m)) (show n ≤ 10 by omega) q4 (rng 0 n) 0
  rw [List.replicate_zero, List.append_nil, lr, Nat.zero_add, Nat.add_zero] at ez
  obtain ⟨y3, y4, y5, y6, y7, y8, y9, lp⟩ := form_loop (S := S) (n := n) (x0 := some (syD ts wd m)) (x1 := some (.int ((n + 1 : Nat) : Int))) (x10 := none) (ts := ts) (f := zF) (x3 := none) (x4 := none) (x5 := none) (x6 := none) (x7 := none) (x8 := none) (x9 := none) h
  have ef : S ++ List.replicate n (zM n) ++ [MO.lst ((List.range n).map fun i => D.hnd (S.length + i))] = formS S n zF := by
    unfold formS
    rw [rowsM_z, List.append_assoc]
    rfl
  have er : rw ((List.range n).map fun i => (D.hnd (S.length + i), rowF n (frmF ts) i)) = tabF n (frmF ts) := by
    show (List.map _ _).map _ = _
    rw [List.map_map]
    rfl
  have nw := v_chart (b := 2) (form_rw (S := S) (n := n) (f := frmF ts)) (by rw [er]; exact tabF_sym (sym_form fun _ _ => rfl) h2 h6) (by decide) (by exact m_small (k := 2) (by decide))
  have eg : chG ((List.range n).map fun i => (D.hnd (S.length + i), rowF n (frmF ts) i)) 2 = frmG n ts := by
    unfold chG frmG
    rw [er]
  rw [er, eg, List.length_map, List.length_range] at nw
  have s2 : (2 : Nat) ≤ sizeLine := by decide
  have tl : oFld "terms" (syD ts wd m) = fun S => .ok (eTs.d ts) S := by rfl
  have pl : oFld "pins" (syD ts wd m) = fun S => .ok (.int (pinsI ts)) S := by rfl
  have wk : walkR (eTs.d ts) (formS S n zF) = .ok ⟨ts.map eTm.d, anyS⟩ (formS S n zF) := rfl
  generalize hn1 : ((n + 1 : Nat) : Int) = p at *
  simp only [F_Saying_form, p_Saying_form, fn_eq]
  simp only [startE]
  simp [v_within2, q1, q2, pl, q3, q4, ir, sr, ez, ef]
  rw [show ts.foldl formT zF = frmF ts from rfl] at lp
  rw [tl]
  simp only [R.bind_ok, wk]
  rw [lp]
  simp only [R.bind_ok, ev_varS, ev_var0, nw, out_ret]
  exact ex_drop (T := rowsM n (frmF ts) ++ [MO.lst (hnds S.length n)]) (by simp) chD_cl
end
end G44

namespace G44
open PySem PySem.Spec PyProof.Rows L2 Den
section
variable {S : Sd}
/-! sums -/
theorem sum_addM {α : Type} (f g : α → Int) (l : List α) : (l.map fun x => f x + g x).sum = (l.map f).sum + (l.map g).sum := by
  induction l with
  | nil => rfl
  | cons a l ih => simp only [List.map_cons, List.sum_cons, ih]; omega
theorem sum_mulM {α : Type} (c : Int) (f : α → Int) (l : List α) : (l.map fun x => c * f x).sum = c * (l.map f).sum := by
  induction l with
  | nil => simp
  | cons a l ih => simp only [List.map_cons, List.sum_cons, ih, Int.mul_add]
theorem sum_zeroM {α : Type} (f : α → Int) (l : List α) (h : ∀ x ∈ l, f x = 0) : (l.map f).sum = 0 := by
  induction l with
  | nil => rfl
  | cons a l ih => rw [List.map_cons, List.sum_cons, h a List.mem_cons_self, ih fun x hx => h x (List.mem_cons_of_mem _ hx)]; rfl
theorem sum_pick {g : Nat → Int} {a : Nat} (h : ∀ i, i ≠ a → g i = 0) : ∀ n, a < n → ((List.range n).map g).sum = g a
  | 0, z => absurd z (Nat.not_lt_zero _)
  | n + 1, z => by
    rw [List.range_succ, List.map_append, List.sum_append]
    show _ + (g n + 0) = _
    by_cases e : a = n
    · subst e
      rw [sum_zeroM g _ fun i hi => h i (by have := List.mem_range.mp hi; omega)]
      omega
    · rw [sum_pick h n (by omega), h n (fun q => e q.symm)]
      omega
def sumR (n : Nat) (g : Nat → Int) : Int := ((List.range n).map g).sum
def qF (n : Nat) (r f2 : Nat → Int) (f : Nat → Nat → Int) : Int := sumR n fun i => sumR n fun j => r i * f2 j * f i j
def eF (a b : Nat) (v : Int) : Nat → Nat → Int := fun i j => if i = a ∧ j = b then v else 0
theorem q_add {n : Nat} {r : Nat → Int} {f g : Nat → Nat → Int} : qF n r r (fun i j => f i j + g i j) = qF n r r f + qF n r r g := by
  unfold qF sumR
  rw [← sum_addM]
  congr 1
  refine List.map_congr_left fun i _ => ?_
  rw [← sum_addM]
  congr 1
  refine List.map_congr_left fun j _ => ?_
  rw [Int.mul_add]
theorem q_e {n a b : Nat} {r : Nat → Int} {v : Int} (ha : a < n) (hb : b < n) : qF n r r (eF a b v) = r a * r b * v := by
  unfold qF sumR
  rw [sum_pick (a := a) (fun i hi => sum_zeroM _ _ fun j _ => by unfold eF; rw [if_neg (fun z => hi z.1), Int.mul_zero]) n ha]
  rw [sum_pick (a := b) (fun j hj => by unfold eF; rw [if_neg (fun z => hj z.2), Int.mul_zero]) n hb]
  unfold eF
  rw [if_pos ⟨rfl, rfl⟩]
def atR (row : List Int) (p : Nat) : Int := ((0 :: row)[p]?).getD 0
def rF (row : List Int) (i : Nat) : Int := (row[i]?).getD 0
theorem q_put {n p o : Nat} {row : List Int} {f : Nat → Nat → Int} {v : Int} (hp : p ≤ n) (ho : o ≤ n) : qF n (rF row) (rF row) (putF f p o v) = qF n (rF row) (rF row) f + 2 * (v * atR row p * atR row o) := by
  by_cases h : 0 < p ∧ 0 < o
  · have e : putF f p o v = fun i j => f i j + (fun i j => eF (p - 1) (o - 1) v i j + eF (o - 1) (p - 1) v i j) i j := by
      funext i j
      rw [putF_eq, if_pos h]
      rfl
    rw [e, q_add, q_add, q_e (by omega) (by omega), q_e (by omega) (by omega)]
    obtain ⟨p, rfl⟩ : ∃ q, p = q + 1 := ⟨p - 1, by omega⟩
    obtain ⟨o, rfl⟩ : ∃ q, o = q + 1 := ⟨o - 1, by omega⟩
    have e1 : ∀ q, atR row (q + 1) = rF row q := fun q => rfl
    rw [e1, e1, Nat.add_sub_cancel, Nat.add_sub_cancel]
    generalize rF row p = x
    generalize rF row o = y
    grind
  · have e : putF f p o v = f := by
      unfold putF
      rw [if_neg h]
    have z : v * atR row p * atR row o = 0 := by
      by_cases h1 : p = 0
      · subst h1
        show v * 0 * _ = 0
        rw [Int.mul_zero, Int.zero_mul]
      · have h2 : o = 0 := by omega
        subst h2
        show v * _ * 0 = 0
        rw [Int.mul_zero]
    rw [e, z]
    omega
theorem q_form {n : Nat} {row : List Int} : ∀ {ts : List NTm} {f : Nat → Nat → Int}, (∀ t ∈ ts, t.2.1.1 ≤ n ∧ t.2.1.2 ≤ n ∧ t.2.2.1 ≤ n ∧ t.2.2.2 ≤ n) → qF n (rF row) (rF row) (ts.foldl formT f) = qF n (rF row) (rF row) f + 2 * comeI row ts
  | [], f, h => by show qF n (rF row) (rF row) f = qF n (rF row) (rF row) f + 2 * 0; omega
  | t :: ts, f, h => by
    obtain ⟨h1, h2, h3, h4⟩ := h t List.mem_cons_self
    rw [List.foldl_cons, q_form (ts := ts) fun t ht => h t (List.mem_cons_of_mem _ ht)]
    unfold formT
    rw [q_put h1 h3, q_put h1 h4, q_put h2 h3, q_put h2 h4]
    unfold comeI
    rw [List.map_cons, List.sum_cons]
    generalize (ts.map fun t => t.1 * goneI (0 :: row) t.2.1 * goneI (0 :: row) t.2.2).sum = c
    show qF n (rF row) (rF row) f + _ + _ + _ + _ + 2 * c = qF n (rF row) (rF row) f + 2 * (t.1 * (atR row t.2.1.2 - atR row t.2.1.1) * (atR row t.2.2.2 - atR row t.2.2.1) + c)
    generalize atR row t.2.1.2 = a
    generalize atR row t.2.1.1 = b
    generalize atR row t.2.2.2 = d
    generalize atR row t.2.2.1 = e
    generalize t.1 = k
    generalize qF n (rF row) (rF row) f = q
    grind
theorem q_zero {n : Nat} {r : Nat → Int} : qF n r r zF = 0 := by
  unfold qF sumR
  exact sum_zeroM _ _ fun i _ => sum_zeroM _ _ fun j _ => by show _ * 0 = 0; rw [Int.mul_zero]
theorem q_div {n g : Nat} {r : Nat → Int} {f : Nat → Nat → Int} (hd : ∀ i j, i < n → j < n → (g : Int) ∣ f i j) : (g : Int) * qF n r r (fun i j => f i j / (g : Int)) = qF n r r f := by
  unfold qF sumR
  rw [← sum_mulM]
  congr 1
  refine List.map_congr_left fun i hi => ?_
  rw [← sum_mulM]
  congr 1
  refine List.map_congr_left fun j hj => ?_
  have := Int.mul_ediv_cancel' (hd i j (List.mem_range.mp hi) (List.mem_range.mp hj))
  show (g : Int) * (r i * r j * (f i j / (g : Int))) = _
  rw [Int.mul_left_comm, this]
theorem frmG_dvd {n : Nat} {ts : List NTm} : ((frmG n ts : Nat) : Int) ∣ 2 ∧ ∀ i j, i < n → j < n → ((frmG n ts : Nat) : Int) ∣ frmF ts i j := by
  have d := (gcdF_dvd (2 :: (tabF n (frmF ts)).flatten) 0).2
  refine ⟨Int.ofNat_dvd_left.mpr (d 2 List.mem_cons_self), fun i j hi hj => Int.ofNat_dvd_left.mpr (d _ (List.mem_cons_of_mem _ (List.mem_flatten.mpr ⟨rowF n (frmF ts) i, List.mem_map.mpr ⟨i, List.mem_range.mpr hi, rfl⟩, List.mem_map.mpr ⟨j, List.mem_range.mpr hj, rfl⟩⟩)))⟩
/-- each row comes in the form to what the terms come to in it -/
theorem form_come {n : Nat} {ts : List NTm} {row : List Int} (h : ∀ t ∈ ts, t.2.1.1 ≤ n ∧ t.2.1.2 ≤ n ∧ t.2.2.1 ≤ n ∧ t.2.2.2 ≤ n) : qF n (rF row) (rF row) (fun i j => frmF ts i j / (frmG n ts : Int)) = 2 / (frmG n ts : Int) * comeI row ts := by
  obtain ⟨d1, d2⟩ := frmG_dvd (n := n) (ts := ts)
  have g0 : ((frmG n ts : Nat) : Int) ≠ 0 := fun z => by rw [z] at d1; exact absurd d1 (by decide)
  have e1 := q_div (r := rF row) d2
  have e2 := q_form (n := n) (row := row) (ts := ts) (f := zF) h
  rw [q_zero, Int.zero_add] at e2
  unfold frmF at e1
  rw [e2] at e1
  refine Int.eq_of_mul_eq_mul_left g0 ?_
  rw [← Int.mul_assoc, Int.mul_ediv_cancel' d1]
  exact e1
end
end G44

namespace G44
open PySem PySem.Spec PyProof.Rows L2 Den
section
variable {S : Sd}
/-! ### the text of a saying -/
def tmIts (t : NTm) : Its := [shL t.1, shL (t.2.1.1 : Nat), shL (t.2.1.2 : Nat), shL (t.2.2.1 : Nat), shL (t.2.2.2 : Nat)]
def wdL (wd : String) : Cd := (Str.ofString wd).cps.toList
theorem wd_S (wd : String) : Str.ofString wd = SX.S (wdL wd) := str_S rfl
def sayIts (wd : String) (n : Int) : List NTm → Its
  | [] => []
  | [t] => tmIts t ++ [wdL wd, shL n]
  | t :: u :: r => tmIts t ++ ([43] :: sayIts wd n (u :: r))
def sayL (ts : List NTm) (wd : String) (n : Int) : Cd := TL.joinL [32] (sayIts wd n ts)
def termL (t : NTm) : Cd := TL.joinL [32] (tmIts t)
theorem sayIts_ne {wd : String} {n : Int} : ∀ {ts : List NTm}, ts ≠ [] → sayIts wd n ts ≠ []
  | [], h => absurd rfl h
  | [_], _ => List.cons_ne_nil _ _
  | _ :: _ :: _, _ => List.cons_ne_nil _ _
theorem tmIts_ne (t : NTm) : tmIts t ≠ [] := List.cons_ne_nil _ _
theorem say_cat {wd : String} {n : Int} : ∀ {ts : List NTm}, ts ≠ [] → TL.joinL [32, 43, 32] (ts.map termL) ++ ([32] ++ (wdL wd ++ ([32] ++ shL n))) = sayL ts wd n
  | [], h => absurd rfl h
  | [t], _ => by
    show termL t ++ ([32] ++ (wdL wd ++ ([32] ++ shL n))) = TL.joinL [32] (tmIts t ++ [wdL wd, shL n])
    rw [joinL_app [32] (tmIts_ne t) (List.cons_ne_nil _ _)]
    rfl
  | t :: u :: r, _ => by
    have ih := say_cat (wd := wd) (n := n) (ts := u :: r) (List.cons_ne_nil _ _)
    show TL.joinL [32, 43, 32] (termL t :: (u :: r).map termL) ++ _ = TL.joinL [32] (tmIts t ++ ([43] :: sayIts wd n (u :: r)))
    rw [joinL_cons _ _ (by exact List.cons_ne_nil _ _), joinL_app [32] (tmIts_ne t) (List.cons_ne_nil _ _), joinL_cons _ _ (sayIts_ne (List.cons_ne_nil _ _))]
    unfold sayL at ih
    rw [← ih]
    simp only [List.append_assoc, termL]
    rfl
theorem sayIts_len {wd : String} {n : Int} : ∀ {ts : List NTm}, ts ≠ [] → (sayIts wd n ts).length = 6 * ts.length + 1
  | [], h => absurd rfl h
  | [_], _ => rfl
  | t :: u :: r, _ => by
    show (tmIts t ++ ([43] :: sayIts wd n (u :: r))).length = _
    rw [List.length_append, List.length_cons, sayIts_len (List.cons_ne_nil _ _)]
    show 5 + (6 * (u :: r).length + 1 + 1) = 6 * ((u :: r).length + 1) + 1
    omega
theorem sayIts_at {wd : String} {n : Int} : ∀ {ts : List NTm} {k : Nat} {t : NTm}, ts[k]? = some t → (∀ j, j < 5 → (sayIts wd n ts)[6 * k + j]? = (tmIts t)[j]?) ∧ (sayIts wd n ts)[6 * k + 5]? = some (if k + 1 = ts.length then wdL wd else [43]) ∧ (k + 1 = ts.length → (sayIts wd n ts)[6 * k + 6]? = some (shL n))
  | [], _, _, h => by cases h
  | [t], 0, t', h => by
    cases h
    exact ⟨fun j hj => by match j, hj with | 0, _ => rfl | 1, _ => rfl | 2, _ => rfl | 3, _ => rfl | 4, _ => rfl, rfl, fun _ => rfl⟩
  | [t], k + 1, t', h => by simp at h
  | t :: u :: r, 0, t', h => by
    cases h
    refine ⟨fun j hj => by match j, hj with | 0, _ => rfl | 1, _ => rfl | 2, _ => rfl | 3, _ => rfl | 4, _ => rfl, ?_, fun z => absurd z (by simp)⟩
    rw [if_neg (by simp)]
    rfl
  | t :: u :: r, k + 1, t', h => by
    obtain ⟨h1, h2, h3⟩ := sayIts_at (wd := wd) (n := n) (ts := u :: r) (k := k) (t := t') (by simpa using h)
    have sh : ∀ i, (sayIts wd n (t :: u :: r))[6 + i]? = (sayIts wd n (u :: r))[i]? := fun i => by
      show (tmIts t ++ ([43] :: sayIts wd n (u :: r)))[6 + i]? = _
      rw [show tmIts t ++ ([43] :: sayIts wd n (u :: r)) = (tmIts t ++ [[43]]) ++ sayIts wd n (u :: r) by rw [List.append_assoc]; rfl, List.getElem?_append_right (by show 6 ≤ 6 + i; omega)]
      show (sayIts wd n (u :: r))[6 + i - 6]? = _
      rw [show 6 + i - 6 = i by omega]
    refine ⟨fun j hj => ?_, ?_, fun z => ?_⟩
    · rw [show 6 * (k + 1) + j = 6 + (6 * k + j) by omega, sh, h1 j hj]
    · rw [show 6 * (k + 1) + 5 = 6 + (6 * k + 5) by omega, sh, h2]
      simp
    · rw [show 6 * (k + 1) + 6 = 6 + (6 * k + 6) by omega, sh, h3 (by simpa using z)]

abbrev iD (a : Cd) : D := .str (SX.S a)
theorem v_written {a : Cd} (hl : a.length ≤ 16000000) : F__is_written [iD a] S = .ok (.bl (wrt a)) S := by
  have e45 : Str.ofString "-" = SX.S [45] := str_S rfl
  have e48 : Str.ofString "0" = SX.S [48] := str_S rfl
  have ld : (dgs a).length ≤ 16000000 := by
    unfold dgs
    split
    · rw [List.length_drop]; omega
    · exact hl
  have e1 : xIf (cTru (xS1 oStarts (xVar 0) (xC (.str (Str.ofString "-"))))) (xSl (xVar 0) (pAt (xC (.int 1))) pNo) (xVar 0) [some (iD a), none] S = .ok (iD (dgs a)) S := by
    rw [e45]
    unfold dgs
    by_cases c : a.head? = some 45
    · simp [starts_S, c, cut1_at hl]
    · simp [starts_S, c]
  simp only [F__is_written, p__is_written, fn_eq]
  simp only [startE, ev_seq, ev_set]
  show exitR S (outR (((xIf (cTru (xS1 oStarts (xVar 0) (xC (.str (Str.ofString "-"))))) (xSl (xVar 0) (pAt (xC (.int 1))) pNo) (xVar 0) [some (iD a), none] S).bind _).bind _)) = _
  rw [e1, e48]
  have ev : wrt a = (decide (1 ≤ (dgs a).length) && decide ((dgs a).length ≤ 60) && (dgs a).all isDg && (decide (a = [48]) || decide ((dgs a).head? ≠ some 48))) := rfl
  rw [ev]
  have ea : dgs a = a ∨ a = 45 :: dgs a := by
    unfold dgs
    by_cases c : a.head? = some 45
    · rw [if_pos c]
      cases a with
      | nil => cases c
      | cons x r => exact .inr (by rw [Option.some.inj c]; rfl)
    · rw [if_neg c]
      exact .inl rfl
  generalize dgs a = d at *
  have e2 := all_two d
  by_cases h1 : 1 ≤ d.length
  · have z1 : (1 : Int) ≤ (d.length : Int) := by omega
    by_cases h2 : d.length ≤ 60
    · have z2 : (d.length : Int) ≤ 60 := by omega
      cases hA : d.all fun c => decide (c < 128) with
      | false =>
        rw [hA, Bool.false_and] at e2
        simp [len_S ld, z1, z2, asc_S, hA, ← e2]
      | true =>
        rw [hA, Bool.true_and] at e2
        cases hB : d.all isDg with
        | false => simp [len_S ld, z1, z2, asc_S, hA, dig_S h1, e2, hB]
        | true =>
          have dl : ∀ c ∈ d, c < 128 := fun c hc => dg_lt (List.all_eq_true.mp hB c hc)
          have al : ∀ c ∈ a, c < 1114112 := fun c hc => by
            rcases ea with rfl | ea
            · have := dl c hc; omega
            · rw [ea] at hc
              rcases List.mem_cons.mp hc with rfl | hc
              · decide
              · have := dl c hc; omega
          have q1 := eq_S (S := S) (neg := false) (eqs := []) al (b := [48]) (by decide)
          obtain ⟨c, r, hd⟩ : ∃ c r, d = c :: r := by
            cases d with
            | nil => exact absurd h1 (by decide)
            | cons c r => exact ⟨c, r, rfl⟩
          have x0 := ix_S (S := S) (show (c :: r).length ≤ 16000000 by rw [← hd]; exact ld)
          rw [← hd] at x0
          have q2 := eq_S (S := S) (neg := true) (eqs := []) (a := [c]) (b := [48]) (fun x hx => by rw [List.mem_singleton.mp hx]; have := dl c (by rw [hd]; exact List.mem_cons_self); omega) (by decide)
          have eh : d.head? = some c := by rw [hd]; rfl
          have e4 : (!decide ([c] = ([48] : Cd))) = !decide (c = 48) := by simp
          by_cases h0 : a = [48]
          · rw [decide_eq_true h0] at q1
            simp [len_S ld, z1, z2, h1, h2, asc_S, hA, dig_S h1, e2, hB, q1, h0] at q1 ⊢
            simp [q1]
          · rw [decide_eq_false h0] at q1
            rw [e4] at q2
            simp [len_S ld, z1, z2, h1, h2, asc_S, hA, dig_S h1, e2, hB, q1, h0, x0, q2, eh] at q1 ⊢
    · have z2 : ¬ (d.length : Int) ≤ 60 := by omega
      simp [len_S ld, z1, z2, h2]
  · have z1 : ¬ (1 : Int) ≤ (d.length : Int) := by omega
    simp [len_S ld, z1, h1]
end
end G44

namespace G44
open PySem PySem.Spec PyProof.Rows L2 Den
section
variable {S : Sd}
theorem v_num {its : Its} {i : Nat} {a : Cd} {l m : Option Int} (hi : its[i]? = some a) (w : Wr a) (h1 : leO l (vlu a) = true) (h2 : geO m (vlu a) = true) : F_number_at [.lst (its.map iD), .int (i : Nat), loD l, loD m] S = .ok (.int (vlu a)) S := by
  have la : a.length ≤ 16000000 := by have := dgs_len a; have := w.l2; omega
  have vw := v_written (S := S) la
  rw [of_wr w] at vw
  have lt : i < its.length := (List.getElem?_eq_some_iff.mp hi).1
  have c : ¬ ((its.length : Int) ≤ (i : Int)) := by omega
  have c2 : ¬ (its.length ≤ i) := by omega
  have ix : atI (its.map iD) (i : Int) = some (iD a) := atI_nat (by rw [List.getElem?_map, hi]; rfl)
  have vi := v_within (S := S) (i := vlu a) (l := l) (m := m)
  rw [h1, h2] at vi
  simp only [F_number_at, p_number_at, fn_eq]
  simp [startE, c, c2, ix, vw, int_S w, vi]
theorem v_items {its : Its} (ne : its ≠ []) (f : ∀ a ∈ its, (32 : Nat) ∉ a) (l : (TL.joinL [32] its).length ≤ 16000000) : F_items_of [iD (TL.joinL [32] its)] S = .ok (.lst (its.map iD)) S := by
  have e32 : Str.ofString " " = SX.S [32] := str_S rfl
  have sp := split_at (S := S) (a := TL.joinL [32] its) (b := [32]) (by decide) (by decide) l
  rw [split_items ne f] at sp
  simp only [F_items_of, p_items_of, fn_eq]
  rw [e32]
  simp [startE, isB, sp]
theorem wr_sh {n : Int} (h : n.natAbs < 10 ^ 60) : Wr (shL n) := (sh_num (num_sh (l := none) (m := none) h rfl rfl)).2.2.2.1
def P60 (ts : List NTm) (n : Int) : Prop := (∀ t ∈ ts, t.1.natAbs < 10 ^ 60) ∧ n.natAbs < 10 ^ 60
theorem num_at {its : Its} {i : Nat} {n : Int} (hi : its[i]? = some (shL n)) (h : n.natAbs < 10 ^ 60) : F_number_at [.lst (its.map iD), .int (i : Nat), .non, .non] S = .ok (.int n) S := by
  have := v_num (S := S) (l := none) (m := none) hi (wr_sh h) rfl rfl
  rw [vlu_sh] at this
  exact this
theorem pin_at {its : Its} {i k : Nat} (hi : its[i]? = some (shL (k : Nat))) (h : k ≤ 6) : F_number_at [.lst (its.map iD), .int (i : Nat), .int 0, .int 6] S = .ok (.int (k : Nat)) S := by
  have := v_num (S := S) (l := some 0) (m := some 6) hi (wr_sh (by
    have : ((k : Nat) : Int).natAbs ≤ 6 := by omega
    exact Nat.lt_of_le_of_lt this (by decide))) (by rw [vlu_sh]; show decide ((0 : Int) ≤ ((k : Nat) : Int)) = true; exact decide_eq_true (by omega)) (by rw [vlu_sh]; show decide (((k : Nat) : Int) ≤ 6) = true; exact decide_eq_true (by omega))
  rw [vlu_sh] at this
  exact this
end
end G44

namespace G44
open PySem PySem.Spec PyProof.Rows L2 Den
section
variable {S : Sd}
theorem hnd_sq {ds : List D} : SqV (S ++ [.lst ds]) (.hnd S.length) ds := .inr (.inr ⟨_, rfl, by rw [List.getElem?_append_right (Nat.le_refl _), Nat.sub_self]; rfl⟩)
theorem hnd_len {ds : List D} : oLen [.hnd S.length] (S ++ [.lst ds]) = .ok (.int ds.length) (S ++ [.lst ds]) := hnd_sq.len
theorem lst_last {ds : List D} : lstAt (S ++ [MO.lst ds]) (.hnd S.length) = some (S.length, ds) := by
  unfold lstAt
  have : (S ++ [MO.lst ds])[S.length]? = some (.lst ds) := by
    rw [List.getElem?_append_right (Nat.le_refl _), Nat.sub_self]
    rfl
  simp only [this]
theorem set_last {o p : MO} : (S ++ [o]).set S.length p = S ++ [p] := by
  rw [List.set_append_right _ _ (Nat.le_refl _), Nat.sub_self]
  rfl
theorem in_plus : oInN false (iD [43]) wordsD S = .ok (.bl false) S := by rfl
theorem in_word {wd : String} (h : Wd3 wd) : oInN false (iD (wdL wd)) wordsD S = .ok (.bl true) S := by
  have := v_in (S := S) h
  rw [wd_S] at this
  exact this
theorem wd_low {wd : String} (h : Wd3 wd) : (∀ c ∈ wdL wd, c < 128) ∧ wdL wd ≠ [43] ∧ 32 ∉ wdL wd ∧ (wdL wd).length = if wd = "just" then 4 else 5 := by
  rcases h with rfl | rfl | rfl <;> decide +kernel
theorem plus_eq : Str.ofString "+" = SX.S [43] := str_S rfl
noncomputable abbrev sayB : TSt := (sSeq (sSet 3 (xFn F_number_at (xsCons (xVar 0) (xsCons (xVar 1) (xsCons (xC .non) (xsCons (xC .non) xsNil))))))
    (sSeq (sAsg (xLc (wRng2 (xsCons (xC (.int 1)) (xsCons (xC (.int 5)) xsNil))) (tName 9) cYes (xFn F_number_at (xsCons (xVar 0) (xsCons (xBin oAdd (xVar 1) (xVar 9)) (xsCons (xC (.int 0)) (xsCons (xC (.int 6)) xsNil))))) [9]) (Den.tTup [(tName 4), (tName 5), (tName 6), (tName 7)]))
    (sSeq (sExpr (xApp (xVar 2) (xTup (xsCons (xVar 3) (xsCons (xTup (xsCons (xVar 4) (xsCons (xVar 5) xsNil))) (xsCons (xTup (xsCons (xVar 6) (xsCons (xVar 7) xsNil))) xsNil))))))
    (sSeq (sAug 1 oIAdd (xC (.int 6)))
    (sSeq (sIf (cOr (cB (xBin oGe (xBin oSub (xVar 1) (xC (.int 1))) (xCall oLen (xsCons (xVar 0) xsNil)))) (cNot (cOr (cB (xBin (oInN false) (xBin oIx (xVar 0) (xBin oSub (xVar 1) (xC (.int 1)))) (xC (.tup [(.str (Str.ofString "above")), (.str (Str.ofString "below")), (.str (Str.ofString "just"))])))) (cAnd (cB (xBin (oEq []) (xBin oIx (xVar 0) (xBin oSub (xVar 1) (xC (.int 1)))) (xC (.str (Str.ofString "+"))))) (cB (xBin oLt (xCall oLen (xsCons (xVar 2) xsNil)) (xC (.int 12)))))))) (sSeq (sRaise "BadText" ["line", "item"] (xsCons (xC (.int 0)) (xsCons (xBin oSub (xVar 1) (xC (.int 1))) xsNil)))
    sNext) sNext)
    (sSeq (sIf (cB (xBin (oNe []) (xBin oIx (xVar 0) (xBin oSub (xVar 1) (xC (.int 1)))) (xC (.str (Str.ofString "+"))))) (sSeq sBrk
    sNext) sNext)
    sNext))))))
/-- one turn of the reading loop -/
theorem say_turn {its : Its} {k : Nat} {t : NTm} {ds : List D} {x3 x4 x5 x6 x7 x8 x9 : Option D} {w5 : Cd} (hd : ∀ j, j < 5 → its[6 * k + j]? = (tmIts t)[j]?) (h5 : its[6 * k + 5]? = some w5) (i1 : In6 t.2.1) (i2 : In6 t.2.2) (b : t.1.natAbs < 10 ^ 60) (hl : ds.length ≤ 12) (hw : (w5 = [43] ∧ ds.length + 1 < 12) ∨ ∃ wd, Wd3 wd ∧ w5 = wdL wd) :
    sayB [some (.lst (its.map iD)), some (.int ((6 * k : Nat) : Int)), some (.hnd S.length), x3, x4, x5, x6, x7, x8, x9] (S ++ [.lst ds]) = .ok (if w5 = [43] then .nx [some (.lst (its.map iD)), some (.int ((6 * (k + 1) : Nat) : Int)), some (.hnd S.length), some (.int t.1), some (.int (t.2.1.1 : Nat)), some (.int (t.2.1.2 : Nat)), some (.int (t.2.2.1 : Nat)), some (.int (t.2.2.2 : Nat)), x8, x9]
      else .brk [some (.lst (its.map iD)), some (.int ((6 * (k + 1) : Nat) : Int)), some (.hnd S.length), some (.int t.1), some (.int (t.2.1.1 : Nat)), some (.int (t.2.1.2 : Nat)), some (.int (t.2.2.1 : Nat)), some (.int (t.2.2.2 : Nat)), x8, x9]) (S ++ [.lst (ds ++ [eTm.d t])]) := by
  generalize ha : ((6 * k : Nat) : Int) = a
  have n0 := num_at (S := S ++ [.lst ds]) (i := 6 * k) (hd 0 (by decide)) b
  have p1 := pin_at (S := S ++ [.lst ds]) (i := 6 * k + 1) (hd 1 (by decide)) i1.1
  have p2 := pin_at (S := S ++ [.lst ds]) (i := 6 * k + 2) (hd 2 (by decide)) i1.2
  have p3 := pin_at (S := S ++ [.lst ds]) (i := 6 * k + 3) (hd 3 (by decide)) i2.1
  have p4 := pin_at (S := S ++ [.lst ds]) (i := 6 * k + 4) (hd 4 (by decide)) i2.2
  have x5' : atI (its.map iD) ((6 * k + 5 : Nat) : Int) = some (iD w5) := atI_nat (by rw [List.getElem?_map, h5]; rfl)
  have lt : 6 * k + 5 < its.length := (List.getElem?_eq_some_iff.mp h5).1
  rw [ha] at n0
  rw [show ((6 * k + 1 : Nat) : Int) = a + 1 by omega] at p1
  rw [show ((6 * k + 2 : Nat) : Int) = a + 2 by omega] at p2
  rw [show ((6 * k + 3 : Nat) : Int) = a + 3 by omega] at p3
  rw [show ((6 * k + 4 : Nat) : Int) = a + 4 by omega] at p4
  rw [show ((6 * k + 5 : Nat) : Int) = a + 5 by omega] at x5'
  rw [show ((6 * (k + 1) : Nat) : Int) = a + 6 by omega]
  have e65 : a + 6 - 1 = a + 5 := by omega
  have c1 : ¬ ((its.length : Int) ≤ a + 5) := by omega
  have lc : lcL (tName 9) cYes (xFn F_number_at (xsCons (xVar 0) (xsCons (xBin oAdd (xVar 1) (xVar 9)) (xsCons (xC (.int 0)) (xsCons (xC (.int 6)) xsNil))))) [some (.lst (its.map iD)), some (.int a), some (.hnd S.length), some (.int t.1), x4, x5, x6, x7, x8, none] anyS (rng 1 4) (S ++ [.lst ds]) = .ok [.int (t.2.1.1 : Nat), .int (t.2.1.2 : Nat), .int (t.2.2.1 : Nat), .int (t.2.2.2 : Nat)] (S ++ [.lst ds]) := by
    rw [show rng 1 4 = [.int 1, .int 2, .int 3, .int 4] from rfl]
    exact lcL_consT (S1 := S ++ [.lst ds]) (S2 := S ++ [.lst ds]) rfl rfl (by simp [p1]) (lcL_consT (S1 := S ++ [.lst ds]) (S2 := S ++ [.lst ds]) rfl rfl (by simp [p2]) (lcL_consT (S1 := S ++ [.lst ds]) (S2 := S ++ [.lst ds]) rfl rfl (by simp [p3]) (lcL_consT (S1 := S ++ [.lst ds]) (S2 := S ++ [.lst ds]) rfl rfl (by simp [p4]) (lcL_nil rfl))))
  have s2 : (2 : Nat) ≤ sizeLine := by decide
  have s3 : (3 : Nat) ≤ sizeLine := by decide
  have s4 : (rng 1 4).length ≤ sizeLine := by decide
  have r1 : inRng 1 = true := by decide
  have r5 : inRng 5 = true := by decide
  have l9 : ds.length < sizeLine := Nat.lt_of_le_of_lt hl (by decide)
  have eT' : eTm.d t = .tup [.int t.1, .tup [.int (t.2.1.1 : Nat), .int (t.2.1.2 : Nat)], .tup [.int (t.2.2.1 : Nat), .int (t.2.2.2 : Nat)]] := rfl
  rw [sayB, ev_seq, ev_set]
  simp only [ev_fn, ev_cons, ev_nil, ev_varS, ev_var0, ev_c, R.bind_ok, n0, List.set_cons_succ, List.set_cons_zero]
  rw [ev_seq, ev_asg, ev_lc]
  simp [s4, r1, r5, lc, lst_last, set_last, s2, s3, l9, ← eT']
  have hL : ∀ e : List D, oLen [.hnd S.length] (S ++ [.lst e]) = .ok (.int e.length) (S ++ [.lst e]) := fun e => hnd_len
  rcases hw with ⟨rfl, h12⟩ | ⟨wd, w3, rfl⟩
  · have q1 := eq_S (S := S ++ [.lst (ds ++ [eTm.d t])]) (neg := false) (eqs := []) (a := [43]) (b := [43]) (by decide) (by decide)
    have q2 := eq_S (S := S ++ [.lst (ds ++ [eTm.d t])]) (neg := true) (eqs := []) (a := [43]) (b := [43]) (by decide) (by decide)
    have h13 : (ds.length : Int) + 1 < 12 := by omega
    simp at q1 q2
    simp [e65, c1, x5', in_plus, plus_eq, q1, q2, hL, h13]
  · obtain ⟨l1, l2, _⟩ := wd_low w3
    have q2 := eq_S (S := S ++ [.lst (ds ++ [eTm.d t])]) (neg := true) (eqs := []) (a := wdL wd) (b := [43]) (fun c hc => by have := l1 c hc; omega) (by decide)
    rw [decide_eq_false l2] at q2
    simp at q2
    simp [e65, c1, x5', in_word w3, plus_eq, q2, l2]
end
end G44

namespace G44
open PySem PySem.Spec PyProof.Rows L2 Den
section
variable {S : Sd}
structure SayOk (ts : List NTm) (wd : String) (n : Int) : Prop where
  ne : ts ≠ []
  len : ts.length ≤ 12
  wd3 : Wd3 wd
  in6 : ∀ t ∈ ts, In6 t.2.1 ∧ In6 t.2.2
  p60 : P60 ts n
theorem get_mid {α : Type} {pre post : List α} {t : α} : (pre ++ t :: post)[pre.length]? = some t := by
  rw [List.getElem?_append_right (Nat.le_refl _), Nat.sub_self]
  rfl
theorem say_loop {ts : List NTm} {wd : String} {n : Int} {x8 x9 : Option D} (h : SayOk ts wd n) : ∀ (post pre : List NTm) (t : NTm), ts = pre ++ t :: post → ∀ (K : Nat), post.length < K → ∀ {x3 x4 x5 x6 x7 : Option D},
    ∃ y3 y4 y5 y6 y7, whL (cTru (xC (.bl true))) sayB K [some (.lst ((sayIts wd n ts).map iD)), some (.int ((6 * pre.length : Nat) : Int)), some (.hnd S.length), x3, x4, x5, x6, x7, x8, x9] (S ++ [.lst (pre.map eTm.d)]) = .ok (.nx [some (.lst ((sayIts wd n ts).map iD)), some (.int ((6 * ts.length : Nat) : Int)), some (.hnd S.length), y3, y4, y5, y6, y7, x8, x9]) (S ++ [.lst (ts.map eTm.d)]) := by
  intro post
  induction post with
  | nil =>
    intro pre t e K hK x3 x4 x5 x6 x7
    obtain ⟨K, rfl⟩ : ∃ j, K = j + 1 := ⟨K - 1, by omega⟩
    have hm : t ∈ ts := by rw [e]; simp
    have hl : ts.length = pre.length + 1 := by rw [e]; simp
    obtain ⟨g1, g2, g3⟩ := sayIts_at (wd := wd) (n := n) (ts := ts) (k := pre.length) (t := t) (by rw [e]; exact get_mid)
    rw [if_pos hl.symm] at g2
    obtain ⟨l1, l2, _⟩ := wd_low h.wd3
    have tr := say_turn (S := S) (ds := pre.map eTm.d) (x3 := x3) (x4 := x4) (x5 := x5) (x6 := x6) (x7 := x7) (x8 := x8) (x9 := x9) g1 g2 (h.in6 t hm).1 (h.in6 t hm).2 (h.p60.1 t hm) (by rw [List.length_map]; have := h.len; omega) (.inr ⟨wd, h.wd3, rfl⟩)
    rw [if_neg l2] at tr
    refine ⟨some (.int t.1), some (.int (t.2.1.1 : Nat)), some (.int (t.2.1.2 : Nat)), some (.int (t.2.2.1 : Nat)), some (.int (t.2.2.2 : Nat)), ?_⟩
    rw [whL]
    generalize sayB = B at tr
    simp only [ev_tru, ev_c, R.bind_ok, tr_bl, if_true, tr]
    rw [hl, show ts.map eTm.d = pre.map eTm.d ++ [eTm.d t] by rw [e, List.map_append]; rfl]
  | cons u post ih =>
    intro pre t e K hK x3 x4 x5 x6 x7
    obtain ⟨K, rfl⟩ : ∃ j, K = j + 1 := ⟨K - 1, by omega⟩
    have hm : t ∈ ts := by rw [e]; simp
    have hl : ts.length = pre.length + 1 + (post.length + 1) := by rw [e]; simp; omega
    obtain ⟨g1, g2, g3⟩ := sayIts_at (wd := wd) (n := n) (ts := ts) (k := pre.length) (t := t) (by rw [e]; exact get_mid)
    rw [if_neg (by omega)] at g2
    have h12 := h.len
    have tr := say_turn (S := S) (ds := pre.map eTm.d) (x3 := x3) (x4 := x4) (x5 := x5) (x6 := x6) (x7 := x7) (x8 := x8) (x9 := x9) g1 g2 (h.in6 t hm).1 (h.in6 t hm).2 (h.p60.1 t hm) (by rw [List.length_map]; omega) (.inl ⟨rfl, by rw [List.length_map]; omega⟩)
    rw [if_pos rfl] at tr
    obtain ⟨y3, y4, y5, y6, y7, q⟩ := ih (pre ++ [t]) u (by rw [e]; simp) K (by rw [List.length_cons] at hK; omega) (x3 := some (.int t.1)) (x4 := some (.int (t.2.1.1 : Nat))) (x5 := some (.int (t.2.1.2 : Nat))) (x6 := some (.int (t.2.2.1 : Nat))) (x7 := some (.int (t.2.2.2 : Nat)))
    refine ⟨y3, y4, y5, y6, y7, ?_⟩
    rw [List.length_append, List.length_singleton, List.map_append] at q
    rw [whL]
    generalize sayB = B at tr q ⊢
    simp only [ev_tru, ev_c, R.bind_ok, tr_bl, if_true, tr]
    exact q
theorem v_sayat {ts : List NTm} {wd : String} {n : Int} (h : SayOk ts wd n) : F_saying_at [.lst ((sayIts wd n ts).map iD), .int 0] S = .ok (syD ts wd n) S := by
  obtain ⟨t, post, e⟩ : ∃ t post, ts = t :: post := by
    cases hts : ts with
    | nil => exact absurd hts h.ne
    | cons t post => exact ⟨t, post, rfl⟩
  have h12 := h.len
  obtain ⟨y3, y4, y5, y6, y7, lp⟩ := say_loop (S := S) (x8 := none) (x9 := none) h post [] t e fuel (by
    have : post.length ≤ 12 := by rw [e, List.length_cons] at h12; omega
    exact fuel_lt (a := 4) (by omega) (by decide)) (x3 := none) (x4 := none) (x5 := none) (x6 := none) (x7 := none)
  have hl : (sayIts wd n ts).length = 6 * ts.length + 1 := sayIts_len h.ne
  have pl : 0 < ts.length := by rw [e]; simp
  obtain ⟨g1, g2, g3⟩ := sayIts_at (wd := wd) (n := n) (ts := ts) (k := ts.length - 1) (t := ts[ts.length - 1]'(by omega)) (List.getElem?_eq_getElem _)
  rw [if_pos (by omega)] at g2
  have g3 := g3 (by omega)
  rw [show 6 * (ts.length - 1) + 6 = 6 * ts.length by omega] at g3
  have n0 := num_at (S := S ++ [.lst (ts.map eTm.d)]) g3 h.p60.2
  have x5' : atI ((sayIts wd n ts).map iD) ((6 * (ts.length - 1) + 5 : Nat) : Int) = some (iD (wdL wd)) := atI_nat (by rw [List.getElem?_map, g2]; rfl)
  rw [show ((6 * (ts.length - 1) + 5 : Nat) : Int) = ((6 * ts.length : Nat) : Int) - 1 by omega] at x5'
  have c1 : ¬ (((6 * ts.length : Nat) : Int) + 1 < ((sayIts wd n ts).length : Int)) := by omega
  have vs := v_say (n := n) (hnd_sq (S := S) (ds := ts.map eTm.d)) h.in6 h.ne h.len h.wd3
  rw [wd_S] at vs
  simp only [F_saying_at, p_saying_at, fn_eq]
  rw [show startE 10 [.lst ((sayIts wd n ts).map iD), .int 0] = [some (.lst ((sayIts wd n ts).map iD)), some (.int 0), none, none, none, none, none, none, none, none] from rfl, ev_seq, ev_set]
  have s0 : (0 : Nat) ≤ sizeLine := by decide
  have el : xLstH xsNil [some (.lst ((sayIts wd n ts).map iD)), some (.int 0), none, none, none, none, none, none, none, none] S = .ok (.hnd S.length) (S ++ [.lst []]) := by simp [s0]
  rw [el]
  simp only [R.bind_ok, List.set_cons_succ, List.set_cons_zero]
  rw [ev_seq, ev_wh]
  rw [show ([some (.lst ((sayIts wd n ts).map iD)), some (.int 0), some (.hnd S.length), none, none, none, none, none, none, none] : En) = [some (.lst ((sayIts wd n ts).map iD)), some (.int ((6 * ([] : List NTm).length : Nat) : Int)), some (.hnd S.length), none, none, none, none, none, none, none] from rfl]
  rw [show (S ++ [MO.lst []] : Sd) = S ++ [.lst (([] : List NTm).map eTm.d)] from rfl, lp]
  generalize ((6 * ts.length : Nat) : Int) = a at *
  simp [n0, c1, x5', vs]
  exact ex_drop (by simp) fun g => by
    unfold syD
    simp only [mapH, mapHs]
    rw [eTs.cl]
    rfl
theorem say_free {wd : String} {n : Int} (w : Wd3 wd) : ∀ {ts : List NTm}, ∀ a ∈ sayIts wd n ts, (32 : Nat) ∉ a
  | [], a, h => (List.not_mem_nil h).elim
  | [t], a, h => by
    have h : a ∈ tmIts t ++ [wdL wd, shL n] := h
    simp only [tmIts, List.mem_append, List.mem_cons, List.not_mem_nil, or_false] at h
    rcases h with (rfl | rfl | rfl | rfl | rfl) | rfl | rfl
    all_goals first | exact sh_free _ | exact (wd_low w).2.2.1
  | t :: u :: r, a, h => by
    have h : a ∈ tmIts t ++ ([43] :: sayIts wd n (u :: r)) := h
    rcases List.mem_append.mp h with h | h
    · simp only [tmIts, List.mem_cons, List.not_mem_nil, or_false] at h
      rcases h with rfl | rfl | rfl | rfl | rfl
      all_goals exact sh_free _
    · rcases List.mem_cons.mp h with rfl | h
      · decide
      · exact say_free w a h
end
end G44

namespace G44
open PySem PySem.Spec PyProof.Rows L2 Den
section
variable {S : Sd}
theorem joinL_len (s : Cd) : ∀ as : List Cd, (TL.joinL s as).length ≤ (as.map (·.length)).sum + as.length * s.length
  | [] => Nat.zero_le _
  | [a] => by show a.length ≤ (a.length + 0) + 1 * s.length; omega
  | a :: b :: r => by
    have ih := joinL_len s (b :: r)
    rw [joinL_cons s a (List.cons_ne_nil _ _), List.length_append, List.length_append, List.map_cons, List.sum_cons, List.length_cons, Nat.add_mul]
    omega
theorem sum_leM {B : Nat} : ∀ {as : List Cd}, (∀ a ∈ as, a.length ≤ B) → (as.map (·.length)).sum ≤ B * as.length
  | [], _ => Nat.zero_le _
  | a :: r, h => by
    have h1 := h a List.mem_cons_self
    have h2 := sum_leM (as := r) fun b hb => h b (List.mem_cons_of_mem _ hb)
    rw [List.map_cons, List.sum_cons, List.length_cons, Nat.mul_add]
    omega
theorem pin60 {k : Nat} (h : k ≤ 6) : ((k : Nat) : Int).natAbs < 10 ^ 60 := by
  have : ((k : Nat) : Int).natAbs ≤ 6 := by omega
  exact Nat.lt_of_le_of_lt this (by decide)
theorem say_its {wd : String} {n : Int} : ∀ {ts : List NTm}, Wd3 wd → (∀ t ∈ ts, In6 t.2.1 ∧ In6 t.2.2) → P60 ts n → ∀ a ∈ sayIts wd n ts, a.length ≤ 61
  | [], w, i, p, a, h => (List.not_mem_nil h).elim
  | [t], w, i, p, a, h => by
    have h : a ∈ tmIts t ++ [wdL wd, shL n] := h
    obtain ⟨i1, i2⟩ := i t List.mem_cons_self
    simp only [tmIts, List.mem_append, List.mem_cons, List.not_mem_nil, or_false] at h
    rcases h with (rfl | rfl | rfl | rfl | rfl) | rfl | rfl
    · exact sh_len (p.1 t List.mem_cons_self)
    · exact sh_len (pin60 i1.1)
    · exact sh_len (pin60 i1.2)
    · exact sh_len (pin60 i2.1)
    · exact sh_len (pin60 i2.2)
    · rw [(wd_low w).2.2.2]
      split <;> decide
    · exact sh_len p.2
  | t :: u :: r, w, i, p, a, h => by
    have h : a ∈ tmIts t ++ ([43] :: sayIts wd n (u :: r)) := h
    obtain ⟨i1, i2⟩ := i t List.mem_cons_self
    rcases List.mem_append.mp h with h | h
    · simp only [tmIts, List.mem_cons, List.not_mem_nil, or_false] at h
      rcases h with rfl | rfl | rfl | rfl | rfl
      · exact sh_len (p.1 t List.mem_cons_self)
      · exact sh_len (pin60 i1.1)
      · exact sh_len (pin60 i1.2)
      · exact sh_len (pin60 i2.1)
      · exact sh_len (pin60 i2.2)
    · rcases List.mem_cons.mp h with rfl | h
      · decide
      · exact say_its w (fun t ht => i t (List.mem_cons_of_mem _ ht)) ⟨fun t ht => p.1 t (List.mem_cons_of_mem _ ht), p.2⟩ a h
theorem say_len {ts : List NTm} {wd : String} {n : Int} (h : SayOk ts wd n) : (sayL ts wd n).length ≤ 5000 := by
  have j := joinL_len [32] (sayIts wd n ts)
  have s := sum_leM (say_its h.wd3 h.in6 h.p60)
  rw [sayIts_len h.ne] at j s
  have := h.len
  have e : ([32] : Cd).length = 1 := rfl
  unfold sayL
  rw [e] at j
  omega
theorem v_read {ts : List NTm} {wd : String} {n : Int} (h : SayOk ts wd n) : F_Saying_read [iD (sayL ts wd n)] S = .ok (syD ts wd n) S := by
  have l := say_len h
  have vi := v_items (S := S) (sayIts_ne h.ne) (say_free h.wd3) (show (TL.joinL [32] (sayIts wd n ts)).length ≤ 16000000 by unfold sayL at l; omega)
  have va := v_sayat (S := S) h
  rw [show TL.joinL [32] (sayIts wd n ts) = sayL ts wd n from rfl] at vi
  simp only [F_Saying_read, p_Saying_read, fn_eq]
  simp [startE, vi, va]
theorem bl_32 : Str.ofString " " = SX.S [32] := str_S rfl
theorem term_len {t : NTm} (i1 : In6 t.2.1) (i2 : In6 t.2.2) (p : t.1.natAbs < 10 ^ 60) : (termL t).length ≤ 320 := by
  have j := joinL_len [32] (tmIts t)
  have s := sum_leM (B := 61) (as := tmIts t) fun a ha => by
    simp only [tmIts, List.mem_cons, List.not_mem_nil, or_false] at ha
    rcases ha with rfl | rfl | rfl | rfl | rfl
    · exact sh_len p
    · exact sh_len (pin60 i1.1)
    · exact sh_len (pin60 i1.2)
    · exact sh_len (pin60 i2.1)
    · exact sh_len (pin60 i2.2)
  have e : ([32] : Cd).length = 1 := rfl
  have e5 : (tmIts t).length = 5 := rfl
  unfold termL
  rw [e, e5] at j
  rw [e5] at s
  omega
theorem termL_eq (t : NTm) : termL t = [] ++ shL t.1 ++ [32] ++ shL (t.2.1.1 : Nat) ++ [32] ++ shL (t.2.1.2 : Nat) ++ [32] ++ shL (t.2.2.1 : Nat) ++ [32] ++ shL (t.2.2.2 : Nat) := by
  simp [termL, tmIts, TL.joinL]
theorem v_term1 {t : NTm} {x0 x1 : Option D} (i1 : In6 t.2.1) (i2 : In6 t.2.2) (p : t.1.natAbs < 10 ^ 60) : xFst [xUn oFmt (xVar 2), (xC (.str (Str.ofString " "))), xUn oFmt (xVar 3), (xC (.str (Str.ofString " "))), xUn oFmt (xVar 4), (xC (.str (Str.ofString " "))), xUn oFmt (xVar 5), (xC (.str (Str.ofString " "))), xUn oFmt (xVar 6)] [x0, x1, some (.int t.1), some (.int (t.2.1.1 : Nat)), some (.int (t.2.1.2 : Nat)), some (.int (t.2.2.1 : Nat)), some (.int (t.2.2.2 : Nat))] S = .ok (iD (termL t)) S := by
  have l := term_len i1 i2 p
  rw [termL_eq] at l ⊢
  simp only [List.length_append] at l
  show fstL _ (SX.S []) _ _ = _
  rw [fst_int (n := t.1) rfl p (by simp), fst_lit bl_32 (by simp only [List.length_append]; omega), fst_int (n := ((t.2.1.1 : Nat) : Int)) rfl (pin60 i1.1) (by simp only [List.length_append]; omega), fst_lit bl_32 (by simp only [List.length_append]; omega), fst_int (n := ((t.2.1.2 : Nat) : Int)) rfl (pin60 i1.2) (by simp only [List.length_append]; omega), fst_lit bl_32 (by simp only [List.length_append]; omega), fst_int (n := ((t.2.2.1 : Nat) : Int)) rfl (pin60 i2.1) (by simp only [List.length_append]; omega), fst_lit bl_32 (by simp only [List.length_append]; omega), fst_int (n := ((t.2.2.2 : Nat) : Int)) rfl (pin60 i2.2) (by simp only [List.length_append]; omega), fst_nil]
theorem v_sstr {ts : List NTm} {wd : String} {n : Int} (h : SayOk ts wd n) : F_Saying_str [syD ts wd n] S = .ok (iD (sayL ts wd n)) S := by
  have l := say_len h
  rw [← say_cat h.ne] at l ⊢
  have e : lcL (Den.tTup [(tName 2), (Den.tTup [(tName 3), (tName 4)]), (Den.tTup [(tName 5), (tName 6)])]) cYes (xFst [xUn oFmt (xVar 2), (xC (.str (Str.ofString " "))), xUn oFmt (xVar 3), (xC (.str (Str.ofString " "))), xUn oFmt (xVar 4), (xC (.str (Str.ofString " "))), xUn oFmt (xVar 5), (xC (.str (Str.ofString " "))), xUn oFmt (xVar 6)]) [some (syD ts wd n), none, none, none, none, none, none] anyS (ts.map eTm.d) S = .ok (ts.map fun t => iD (termL t)) S := by
    refine lcL_mapG eTm.d (fun t => iD (termL t)) rfl fun t ht => ⟨[some (syD ts wd n), none, some (.int t.1), some (.int (t.2.1.1 : Nat)), some (.int (t.2.1.2 : Nat)), some (.int (t.2.2.1 : Nat)), some (.int (t.2.2.2 : Nat))], rfl, ?_⟩
    exact v_term1 (h.in6 t ht).1 (h.in6 t ht).2 (h.p60.1 t ht)
  have ep : Str.ofString " + " = SX.S [32, 43, 32] := str_S rfl
  have em : ts.map (fun t => iD (termL t)) = (ts.map termL).map fun a => .str (SX.S a) := by rw [List.map_map]; rfl
  have h12 := h.len
  have st : (((ts.map termL).map (·.length)).sum : Nat) ≤ 320 * (ts.map termL).length := sum_leM fun a ha => by
    obtain ⟨t, ht, rfl⟩ := List.mem_map.mp ha
    exact term_len (h.in6 t ht).1 (h.in6 t ht).2 (h.p60.1 t ht)
  have lm : (ts.map termL).length = ts.length := List.length_map _
  have jo := join_at (S := S) (s := [32, 43, 32]) (as := ts.map termL) (d := .lst (ts.map fun t => iD (termL t))) (by rw [em]; exact .lst) (by rw [lm] at st ⊢; have : ([32, 43, 32] : Cd).length = 3 := rfl; rw [this]; omega)
  generalize hJ : TL.joinL [32, 43, 32] (ts.map termL) = J at *
  have sl : ts.length ≤ sizeLine := sz h12
  simp only [F_Saying_str, p_Saying_str, fn_eq, ep]
  have ed : eTs.d ts = .tup (ts.map eTm.d) := rfl
  have fl : oFld "terms" (syD ts wd n) S = .ok (.tup (ts.map eTm.d)) S := rfl
  rw [show startE 7 [syD ts wd n] = [some (syD ts wd n), none, none, none, none, none, none] from rfl, ev_seq, ev_set, ev_s1]
  have e1 : (xLc (wOf (xUn (oFld "terms") (xVar 0))) (Den.tTup [(tName 2), (Den.tTup [(tName 3), (tName 4)]), (Den.tTup [(tName 5), (tName 6)])]) cYes (xFst [xUn oFmt (xVar 2), (xC (.str (Str.ofString " "))), xUn oFmt (xVar 3), (xC (.str (Str.ofString " "))), xUn oFmt (xVar 4), (xC (.str (Str.ofString " "))), xUn oFmt (xVar 5), (xC (.str (Str.ofString " "))), xUn oFmt (xVar 6)]) [2, 3, 4, 5, 6]) [some (syD ts wd n), none, none, none, none, none, none] S = .ok (.lst (ts.map fun t => iD (termL t))) S := by
    simp [fl, sl, e]
  simp only [ev_c, R.bind_ok, e1, jo, List.set_cons_succ, List.set_cons_zero]
  have f2 : (xFst [xUn oFmt (xVar 1), (xC (.str (Str.ofString " "))), xUn oFmt (xUn (oFld "word") (xVar 0)), (xC (.str (Str.ofString " "))), xUn oFmt (xUn (oFld "number") (xVar 0))]) [some (syD ts wd n), some (.str (SX.S J)), none, none, none, none, none] S = .ok (iD (J ++ ([32] ++ (wdL wd ++ ([32] ++ shL n))))) S := by
    simp only [List.length_append] at l
    show fstL _ (SX.S []) _ _ = _
    rw [fst_str (b := J) rfl (by simp only [List.length_append, List.length_nil]; omega), fst_lit bl_32 (by simp only [List.length_append, List.length_nil]; omega), fst_str (b := wdL wd) (by rw [← wd_S]; rfl) (by simp only [List.length_append, List.length_nil]; omega), fst_lit bl_32 (by simp only [List.length_append, List.length_nil]; omega), fst_int (n := n) rfl h.p60.2 (by simp only [List.length_append, List.length_nil]; omega), fst_nil]
    simp
  rw [ev_seq, ev_ret, f2]
  simp
end
end G44

namespace G44
open PySem PySem.Spec PyProof.Rows L2 Den
section
variable {S : Sd}
theorem joinL_mem {c : Nat} {s : Cd} : ∀ {as : List Cd}, c ∈ TL.joinL s as → c ∈ s ∨ ∃ a ∈ as, c ∈ a
  | [], h => (List.not_mem_nil h).elim
  | [a], h => .inr ⟨a, List.mem_cons_self, h⟩
  | a :: b :: r, h => by
    rw [joinL_cons s a (List.cons_ne_nil _ _)] at h
    rcases List.mem_append.mp h with h | h
    · exact .inr ⟨a, List.mem_cons_self, h⟩
    · rcases List.mem_append.mp h with h | h
      · exact .inl h
      · rcases joinL_mem h with h | ⟨x, hx, h⟩
        · exact .inl h
        · exact .inr ⟨x, List.mem_cons_of_mem _ hx, h⟩
theorem its_asc {wd : String} {n : Int} (w : Wd3 wd) : ∀ {ts : List NTm}, ∀ a ∈ sayIts wd n ts, ∀ c ∈ a, c < 128
  | [], a, h => (List.not_mem_nil h).elim
  | [t], a, h => by
    have h : a ∈ tmIts t ++ [wdL wd, shL n] := h
    simp only [tmIts, List.mem_append, List.mem_cons, List.not_mem_nil, or_false] at h
    rcases h with (rfl | rfl | rfl | rfl | rfl) | rfl | rfl
    all_goals first | exact sh_asc _ | exact (wd_low w).1
  | t :: u :: r, a, h => by
    have h : a ∈ tmIts t ++ ([43] :: sayIts wd n (u :: r)) := h
    rcases List.mem_append.mp h with h | h
    · simp only [tmIts, List.mem_cons, List.not_mem_nil, or_false] at h
      rcases h with rfl | rfl | rfl | rfl | rfl
      all_goals exact sh_asc _
    · rcases List.mem_cons.mp h with rfl | h
      · decide
      · exact its_asc w a h
theorem say_asc {ts : List NTm} {wd : String} {n : Int} (h : SayOk ts wd n) : ∀ c ∈ sayL ts wd n, c < 1114112 := fun c hc => by
  rcases joinL_mem hc with h1 | ⟨a, ha, h1⟩
  · rw [List.mem_singleton.mp h1]; decide
  · have := its_asc h.wd3 a ha c h1
    omega
theorem v_mx4L {t : NTm} : oMax [.lst [.int (t.2.1.1 : Nat), .int (t.2.1.2 : Nat), .int (t.2.2.1 : Nat), .int (t.2.2.2 : Nat)]] S = .ok (.int (mx4 t)) S := by
  rfl
theorem str_syD {ts : List NTm} {wd : String} {n : Int} (h : SayOk ts wd n) : oStrN [("Saying", F_Saying_str)] [syD ts wd n] S = .ok (iD (sayL ts wd n)) S := by
  have := v_sstr (S := S) h
  show (noX (F_Saying_str [syD ts wd n] S)).bind _ = _
  rw [this]
  rfl
theorem v_kept {ts : List NTm} {wd : String} {n : Int} (h : SayOk ts wd n) : F__law_kept_right [syD ts wd n, .lst (ts.map eTm.d), .str (Str.ofString wd), .int n] S = .ok (.bl true) S := by
  have l := say_len h
  have sl : ts.length ≤ sizeLine := sz h.len
  have eS' : ∀ s : NS2, eS.d s = .tup [.int (s.1 : Nat), .int (s.2 : Nat)] := fun _ => rfl
  have eT' : ∀ t : NTm, eTm.d t = .tup [.int t.1, eS.d t.2.1, eS.d t.2.2] := fun _ => rfl
  have s3 : (3 : Nat) ≤ sizeLine := by decide
  have s1 : (1 : Nat) ≤ sizeLine := by decide
  have s4 : (4 : Nat) ≤ sizeLine := by decide
  have s5 : (5 : Nat) ≤ sizeLine := by decide
  generalize hA : (some (syD ts wd n) : Option D) = A
  generalize hB : (some (.lst (ts.map eTm.d)) : Option D) = B
  generalize hC : (some (.str (Str.ofString wd)) : Option D) = C
  have e1 : ∀ x4 x5 x6 : Option D, lcL (Den.tTup [(tName 7), (tName 8), (tName 9)]) cYes (xTup (xsCons (xVar 7) (xsCons (xCall oTuple (xsCons (xVar 8) xsNil)) (xsCons (xCall oTuple (xsCons (xVar 9) xsNil)) xsNil)))) [A, B, C, some (.int n), x4, x5, x6, none, none, none, none] anyS (ts.map eTm.d) S = .ok (ts.map eTm.d) S := fun x4 x5 x6 => by
    refine lcL_mapG eTm.d eTm.d rfl fun t ht => ⟨[A, B, C, some (.int n), x4, x5, x6, some (.int t.1), some (eS.d t.2.1), some (eS.d t.2.2), none], rfl, ?_⟩
    simp [eS', eT', s3]
  have e2 : ∀ x4 x5 x6 : Option D, lcL (Den.tTup [(tName 7), (tName 8), (tName 9)]) cYes (xCall oMax (xsCons (xBin oAdd (xCall oList (xsCons (xVar 8) xsNil)) (xCall oList (xsCons (xVar 9) xsNil))) xsNil)) [A, B, C, some (.int n), x4, x5, x6, none, none, none, none] anyS (ts.map eTm.d) S = .ok (ts.map fun t => .int (mx4 t)) S := fun x4 x5 x6 => by
    refine lcL_mapG eTm.d (fun t => .int (mx4 t)) rfl fun t ht => ⟨[A, B, C, some (.int n), x4, x5, x6, some (.int t.1), some (eS.d t.2.1), some (eS.d t.2.2), none], rfl, ?_⟩
    simp [eS', s4, v_mx4L]
  have e3 : ∀ x4 x5 x6 : Option D, lcL (Den.tTup [(tName 7), (tName 8), (tName 9)]) cYes (xS1 oJoin (xC (.str (Str.ofString " "))) (xBin oAdd (xLst (xsCons (xCall (oStrN (("Saying", F_Saying_str) :: [])) (xsCons (xVar 7) xsNil)) xsNil)) (xLc (wOf (xBin oAdd (xCall oList (xsCons (xVar 8) xsNil)) (xCall oList (xsCons (xVar 9) xsNil)))) (tName 10) cYes (xCall (oStrN (("Saying", F_Saying_str) :: [])) (xsCons (xVar 10) xsNil)) [10]))) [A, B, C, some (.int n), x4, x5, x6, none, none, none, none] anyS (ts.map eTm.d) S = .ok (ts.map fun t => iD (termL t)) S := fun x4 x5 x6 => by
    refine lcL_mapG eTm.d (fun t => iD (termL t)) rfl fun t ht => ⟨[A, B, C, some (.int n), x4, x5, x6, some (.int t.1), some (eS.d t.2.1), some (eS.d t.2.2), none], rfl, ?_⟩
    obtain ⟨i1, i2⟩ := h.in6 t ht
    have p := h.p60.1 t ht
    have q0 := str_int (S := S) (sts := [("Saying", F_Saying_str)]) p
    have lc : lcL (tName 10) cYes (xCall (oStrN (("Saying", F_Saying_str) :: [])) (xsCons (xVar 10) xsNil)) [A, B, C, some (.int n), x4, x5, x6, some (.int t.1), some (eS.d t.2.1), some (eS.d t.2.2), none] anyS [.int (t.2.1.1 : Nat), .int (t.2.1.2 : Nat), .int (t.2.2.1 : Nat), .int (t.2.2.2 : Nat)] S = .ok [iD (shL (t.2.1.1 : Nat)), iD (shL (t.2.1.2 : Nat)), iD (shL (t.2.2.1 : Nat)), iD (shL (t.2.2.2 : Nat))] S := by
      have q1 := str_int (S := S) (sts := [("Saying", F_Saying_str)]) (pin60 i1.1)
      have q2 := str_int (S := S) (sts := [("Saying", F_Saying_str)]) (pin60 i1.2)
      have q3 := str_int (S := S) (sts := [("Saying", F_Saying_str)]) (pin60 i2.1)
      have q4 := str_int (S := S) (sts := [("Saying", F_Saying_str)]) (pin60 i2.2)
      exact lcL_consT (S1 := S) (S2 := S) rfl rfl (by simp [q1]) (lcL_consT (S1 := S) (S2 := S) rfl rfl (by simp [q2]) (lcL_consT (S1 := S) (S2 := S) rfl rfl (by simp [q3]) (lcL_consT (S1 := S) (S2 := S) rfl rfl (by simp [q4]) (lcL_nil rfl))))
    have jo := join_at (S := S) (s := [32]) (as := tmIts t) (d := .lst ((tmIts t).map fun a => .str (SX.S a))) .lst (by
      have s := sum_leM (B := 61) (as := tmIts t) fun a ha => by
        simp only [tmIts, List.mem_cons, List.not_mem_nil, or_false] at ha
        rcases ha with rfl | rfl | rfl | rfl | rfl
        · exact sh_len p
        · exact sh_len (pin60 i1.1)
        · exact sh_len (pin60 i1.2)
        · exact sh_len (pin60 i2.1)
        · exact sh_len (pin60 i2.2)
      have e : ([32] : Cd).length = 1 := rfl
      have e5 : (tmIts t).length = 5 := rfl
      rw [e, e5]
      rw [e5] at s
      omega)
    rw [show TL.joinL [32] (tmIts t) = termL t from rfl] at jo
    rw [eS', eS'] at lc ⊢
    simp only [tmIts, List.map_cons, List.map_nil] at jo
    simp [q0, s1, s4, s5, lc, bl_32, jo]
  have ep : Str.ofString " + " = SX.S [32, 43, 32] := str_S rfl
  have em : ts.map (fun t => iD (termL t)) = (ts.map termL).map fun a => .str (SX.S a) := by rw [List.map_map]; rfl
  have h12 := h.len
  have st : (((ts.map termL).map (·.length)).sum : Nat) ≤ 320 * (ts.map termL).length := sum_leM fun a ha => by
    obtain ⟨t, ht, rfl⟩ := List.mem_map.mp ha
    exact term_len (h.in6 t ht).1 (h.in6 t ht).2 (h.p60.1 t ht)
  have lm : (ts.map termL).length = ts.length := List.length_map _
  have jo := join_at (S := S) (s := [32, 43, 32]) (as := ts.map termL) (d := .lst (ts.map fun t => iD (termL t))) (by rw [em]; exact .lst) (by rw [lm] at st ⊢; have : ([32, 43, 32] : Cd).length = 3 := rfl; rw [this]; omega)
  have cat := say_cat (wd := wd) (n := n) h.ne
  have asc := say_asc h
  have vr := v_read (S := S) h
  have vs := str_syD (S := S) h
  have l2 := l
  rw [← cat] at l2
  generalize TL.joinL [32, 43, 32] (ts.map termL) = J at *
  simp only [List.length_append] at l2
  have a1 := add_S (S := S) (a := J) (b := [32]) (by simp only [List.length_append]; omega)
  have a2 := add_S (S := S) (a := J ++ [32]) (b := wdL wd) (by simp only [List.length_append]; omega)
  rw [← wd_S] at a2
  have a3 := add_S (S := S) (a := J ++ [32] ++ wdL wd) (b := [32]) (by simp only [List.length_append]; omega)
  have a4 := add_S (S := S) (a := J ++ [32] ++ wdL wd ++ [32]) (b := shL n) (by simp only [List.length_append]; omega)
  rw [show J ++ [32] ++ wdL wd ++ [32] ++ shL n = sayL ts wd n by rw [← cat]; simp only [List.append_assoc]] at a4
  generalize J ++ [32] ++ wdL wd ++ [32] = J3 at *
  generalize J ++ [32] ++ wdL wd = J2 at *
  generalize J ++ [32] = J1 at *
  have q0 := str_int (S := S) (sts := [("Saying", F_Saying_str)]) h.p60.2
  have qs := eq_S (S := S) (neg := false) (eqs := eqs44) asc asc
  have qy := v_sy_eq (S := S) (neg := false) (ts := ts) (us := ts) (m := n) (n := n) h.wd3 h.wd3
  have qt := eq_tms (S := S) (neg := true) (eqs := eqs44) (ts := ts) (us := ts)
  have qt2 := eq_tms (S := S) (neg := false) (eqs := eqs44) (ts := ts) (us := ts)
  have qw := eq_wd (S := S) (neg := true) (eqs := eqs44) h.wd3 h.wd3
  have ed : eTs.d ts = .tup (ts.map eTm.d) := rfl
  have fT : oFld "terms" (syD ts wd n) S = .ok (eTs.d ts) S := rfl
  have fW : oFld "word" (syD ts wd n) S = .ok (.str (Str.ofString wd)) S := rfl
  have fN : oFld "number" (syD ts wd n) S = .ok (.int n) S := rfl
  have fP : oFld "pins" (syD ts wd n) S = .ok (.int (pinsI ts)) S := rfl
  have iT : oIsi [.tuple] (eTs.d ts) S = .ok (.bl true) S := rfl
  have pe : (1 : Int) + (pinsI ts - 1) = pinsI ts := by omega
  have vm := v_maxL (S := S) h.ne
  simp at qt qt2 qw qs qy
  simp only [F__law_kept_right, p__law_kept_right, fn_eq]
  rw [show startE 11 [syD ts wd n, .lst (ts.map eTm.d), .str (Str.ofString wd), .int n] = [some (syD ts wd n), some (.lst (ts.map eTm.d)), some (.str (Str.ofString wd)), some (.int n), none, none, none, none, none, none, none] from rfl, hA, hB, hC]
  have fA : ∀ r : En, xVar 0 (A :: r) S = .ok (syD ts wd n) S := fun r => by rw [← hA]; rfl
  have fB : ∀ r : En, xVar 0 (B :: r) S = .ok (.lst (ts.map eTm.d)) S := fun r => by rw [← hB]; rfl
  have fC : ∀ r : En, xVar 0 (C :: r) S = .ok (.str (Str.ofString wd)) S := fun r => by rw [← hC]; rfl
  have eA : ∀ r : En, xVar 0 (A :: r) S = .ok (syD ts wd n) S := fA
  rw [ed] at qt qt2 fT iT
  simp only [bl_32] at e3
  simp [isB, fA, fB, fC, e1, e2, e3, sl, fT, fW, fN, fP, iT, qt, qt2, qw, qs, qy, pe, vm, ep, bl_32, jo, a1, a2, a3, a4, q0, vs, vr, gd_Saying_read_0_text]
end
end G44

namespace G44
open PySem PySem.Spec PyProof.Rows L2 Den
section
variable {S : Sd}
theorem abs_sum {α : Type} {f : α → Int} {B : Nat} : ∀ {l : List α}, (∀ x ∈ l, (f x).natAbs ≤ B) → ((l.map f).sum).natAbs ≤ B * l.length
  | [], _ => Nat.zero_le _
  | a :: l, h => by
    have h1 := h a List.mem_cons_self
    have h2 := abs_sum (l := l) fun x hx => h x (List.mem_cons_of_mem _ hx)
    rw [List.map_cons, List.sum_cons, List.length_cons, Nat.mul_add]
    omega
theorem atR_0 {row : List Int} : atR row 0 = 0 := rfl
theorem atR_s {row : List Int} {p : Nat} : atR row (p + 1) = rF row p := rfl
theorem rF_abs {row : List Int} {p : Nat} (h : ∀ c ∈ row, c.natAbs ≤ 1000000000) : (rF row p).natAbs ≤ 1000000000 := by
  unfold rF
  by_cases hp : p < row.length
  · rw [List.getElem?_eq_getElem hp]
    exact h _ (List.getElem_mem hp)
  · rw [List.getElem?_eq_none (by omega)]
    decide
theorem atR_abs {row : List Int} {p : Nat} (h : ∀ c ∈ row, c.natAbs ≤ 1000000000) : (atR row p).natAbs ≤ 1000000000 := by
  cases p with
  | zero => show (0 : Int).natAbs ≤ _; decide
  | succ p => show (rF row p).natAbs ≤ _; exact rF_abs h
theorem gone_eq {row : List Int} {s : NS2} : goneI (0 :: row) s = atR row s.2 - atR row s.1 := rfl
theorem gone_abs {row : List Int} {s : NS2} (h : ∀ c ∈ row, c.natAbs ≤ 1000000000) : (goneI (0 :: row) s).natAbs ≤ 2000000000 := by
  rw [gone_eq]
  have := atR_abs (p := s.2) h
  have := atR_abs (p := s.1) h
  omega
theorem mul_abs {x y : Int} {a b : Nat} (hx : x.natAbs ≤ a) (hy : y.natAbs ≤ b) : (x * y).natAbs ≤ a * b := by
  rw [Int.natAbs_mul]
  exact Nat.mul_le_mul hx hy
theorem mok {x y : Int} {a b : Nat} (hx : x.natAbs ≤ a) (hy : y.natAbs ≤ b) (ha : a < 2 ^ 1000 := by decide) (hb : b < 2 ^ 1000 := by decide) : mulOkX x y = true := decide_eq_true (mulx_ok (a := 1000) (b := 1000) (Nat.lt_of_le_of_lt hx ha) (Nat.lt_of_le_of_lt hy hb) (by decide))
theorem lt_pow {x k : Nat} (h : x ≤ 2 ^ 1000) (hk : 1001 ≤ k) : x < 2 ^ k := Nat.lt_of_le_of_lt h (Nat.pow_lt_pow_right (by decide) hk)
theorem come_abs {row : List Int} {ts : List NTm} {p : Nat} (h : ∀ c ∈ row, c.natAbs ≤ 1000000000) (ht : ∀ t ∈ ts, TmP p t) (hl : ts.length ≤ 12) : (comeI row ts).natAbs ≤ 1000000000 * 2000000000 * 2000000000 * 12 := by
  have : ∀ t ∈ ts, (t.1 * goneI (0 :: row) t.2.1 * goneI (0 :: row) t.2.2).natAbs ≤ 1000000000 * 2000000000 * 2000000000 := fun t htm => mul_abs (mul_abs (ht t htm).2.2.2.2 (gone_abs h)) (gone_abs h)
  exact Nat.le_trans (abs_sum this) (Nat.mul_le_mul_left _ hl)
theorem tot_abs {rs : List RwT} {ts : List NTm} {p k : Nat} (hr : ∀ r ∈ rs, RwP k r) (ht : ∀ t ∈ ts, TmP p t) (hl : ts.length ≤ 12) (rl : rs.length ≤ 3) : (totS rs ts).natAbs ≤ 3 * (1000000000 * 2000000000 * 2000000000 * 12) * 3 :=
  Nat.le_trans (abs_sum fun r hrm => mul_abs (hr r hrm).1 (come_abs (hr r hrm).2.2 ht hl)) (Nat.mul_le_mul_left _ rl)
theorem come_ok {row : List Int} {ts : List NTm} {k : Nat} (hk : k ≤ 6) (hr : row.length = k) (h : ∀ c ∈ row, c.natAbs ≤ 1000000000) (ht : ∀ t ∈ ts, TmP (k + 1) t) (hl : ts.length ≤ 12) : ComeOk row ts where
  len := by omega
  tl := by omega
  fit := fun t htm => by
    obtain ⟨a, b, c, d, _⟩ := ht t htm
    omega
  mul := fun t htm => ⟨mok (ht t htm).2.2.2.2 (gone_abs h), mok (mul_abs (ht t htm).2.2.2.2 (gone_abs h)) (gone_abs h)⟩
theorem v_tot {rs : List RwT} {b : Int} {ts : List NTm} {td : D} {k : Nat} (htd : SqV S td (ts.map eTm.d)) (hk : k ≤ 6) (rl : rs.length ≤ 3) (hr : ∀ r ∈ rs, RwP k r) (ht : ∀ t ∈ ts, TmP (k + 1) t) (hl : ts.length ≤ 12) (hb : 0 < b) (bb : b.natAbs < 2 ^ 8000) :
    F__law_total [.lst (rs.map rwD), .int b, td] S = .ok (.tup [.int (lowI (totS rs ts) b).1, .int (lowI (totS rs ts) b).2]) S :=
  v_total htd (by omega) (fun r hrm => ⟨come_ok hk (hr r hrm).2.1 (hr r hrm).2.2 ht hl, mok (hr r hrm).1 (come_abs (hr r hrm).2.2 ht hl)⟩) hb bb (Nat.lt_of_le_of_lt (tot_abs hr ht hl rl) (by exact lt_pow (by decide) (by decide)))
theorem sum_subM {α : Type} (f g : α → Int) (l : List α) : (l.map fun x => f x - g x).sum = (l.map f).sum - (l.map g).sum := by
  induction l with
  | nil => rfl
  | cons a l ih => simp only [List.map_cons, List.sum_cons, ih]; omega
/-! both sums are one -/
theorem sum_swap {α β : Type} (f : α → β → Int) (l : List α) (m : List β) : (l.map fun x => (m.map fun y => f x y).sum).sum = (m.map fun y => (l.map fun x => f x y).sum).sum := by
  induction l with
  | nil => exact (sum_zeroM _ _ fun _ _ => rfl).symm
  | cons a l ih =>
    simp only [List.map_cons, List.sum_cons, ih]
    rw [← sum_addM]
def chF (rs : List RwT) (i j : Nat) : Int := (rs.map fun r => r.1 * atR r.2 i * atR r.2 j).sum
theorem chF_0l {rs : List RwT} {j : Nat} : chF rs 0 j = 0 := sum_zeroM _ _ fun r _ => by rw [atR_0, Int.mul_zero, Int.zero_mul]
theorem chF_0r {rs : List RwT} {i : Nat} : chF rs i 0 = 0 := sum_zeroM _ _ fun r _ => by rw [atR_0, Int.mul_zero]
theorem told_ch {rs : List RwT} {k i j : Nat} (hi : i ≤ k) (hj : j ≤ k) : told (chRows rs k) i j = chF rs i j := by
  cases i with
  | zero => rw [chF_0l]; unfold told; rw [if_pos (.inl rfl)]
  | succ i =>
    cases j with
    | zero => rw [chF_0r]; unfold told; rw [if_pos (.inr rfl)]
    | succ j =>
      unfold told
      rw [if_neg (by omega), Nat.add_sub_cancel, Nat.add_sub_cancel, chRows_at (by omega) (by omega)]
      rfl
theorem prod_ch {rs : List RwT} {k : Nat} {s u : NS2} (h1 : s.1 ≤ k) (h2 : s.2 ≤ k) (h3 : u.1 ≤ k) (h4 : u.2 ≤ k) : prodI (chRows rs k) s u = (rs.map fun r => r.1 * (goneI (0 :: r.2) s * goneI (0 :: r.2) u)).sum := by
  unfold prodI
  rw [told_ch h2 h4, told_ch h1 h3, told_ch h2 h3, told_ch h1 h4]
  unfold chF
  rw [← sum_addM, ← sum_subM, ← sum_subM]
  congr 1
  refine List.map_congr_left fun r _ => ?_
  rw [gone_eq, gone_eq]
  generalize atR r.2 s.1 = a
  generalize atR r.2 s.2 = b
  generalize atR r.2 u.1 = c
  generalize atR r.2 u.2 = d
  generalize r.1 = x
  grind
def Pn (p : Nat) (t : NTm) : Prop := t.2.1.1 < p ∧ t.2.1.2 < p ∧ t.2.2.1 < p ∧ t.2.2.2 < p
theorem TmP.n {p : Nat} {t : NTm} (h : TmP p t) : Pn p t := ⟨h.1, h.2.1, h.2.2.1, h.2.2.2.1⟩
theorem sum_ch {rs : List RwT} {k : Nat} {ts : List NTm} (ht : ∀ t ∈ ts, Pn (k + 1) t) : sumI (chRows rs k) ts = totS rs ts := by
  unfold sumI totS comeI
  rw [show (rs.map fun r => r.1 * (ts.map fun t => t.1 * goneI (0 :: r.2) t.2.1 * goneI (0 :: r.2) t.2.2).sum) = rs.map fun r => (ts.map fun t => r.1 * (t.1 * goneI (0 :: r.2) t.2.1 * goneI (0 :: r.2) t.2.2)).sum from List.map_congr_left fun r _ => (sum_mulM _ _ _).symm, sum_swap]
  congr 1
  refine List.map_congr_left fun t htm => ?_
  obtain ⟨a, b, c, d⟩ := ht t htm
  rw [prod_ch (by omega) (by omega) (by omega) (by omega), ← sum_mulM]
  congr 1
  refine List.map_congr_left fun r _ => ?_
  generalize goneI (0 :: r.2) t.2.1 = x
  generalize goneI (0 :: r.2) t.2.2 = y
  grind
end
end G44

namespace G44
open PySem PySem.Spec PyProof.Rows L2 Den
section
variable {S : Sd}
theorem low_mul {g n d : Int} (hg : 0 < g) : lowI (g * n) (g * d) = lowI n d := by
  have e : ((gI (g * n) (g * d) : Nat) : Int) = g * (gI n d : Nat) := by
    show (((g * n).natAbs.gcd (g * d).natAbs : Nat) : Int) = _
    rw [Int.natAbs_mul, Int.natAbs_mul, Nat.gcd_mul_left, Int.natCast_mul, Int.natAbs_of_nonneg (by omega)]
  unfold lowI
  rw [e, Int.mul_ediv_mul_of_pos _ _ hg, Int.mul_ediv_mul_of_pos _ _ hg]
theorem lchG_dvd {rs : List RwT} {k : Nat} {b : Int} : ((lchG rs k b : Nat) : Int) ∣ b ∧ ∀ r ∈ chRows rs k, ∀ x ∈ r, ((lchG rs k b : Nat) : Int) ∣ x := by
  have d := (gcdF_dvd (b :: (chRows rs k).flatten) 0).2
  refine ⟨Int.ofNat_dvd_left.mpr (d b List.mem_cons_self), fun r hr x hx => Int.ofNat_dvd_left.mpr (d _ (List.mem_cons_of_mem _ (List.mem_flatten.mpr ⟨r, hr, hx⟩)))⟩
theorem lchG_pos {rs : List RwT} {k : Nat} {b : Int} (hb : 0 < b) : 0 < ((lchG rs k b : Nat) : Int) := by
  have d := (lchG_dvd (rs := rs) (k := k) (b := b)).1
  have : ((lchG rs k b : Nat) : Int) ≠ 0 := fun z => by rw [z] at d; have := Int.zero_dvd.mp d; omega
  omega
theorem told_div {rows : List (List Int)} {g : Nat} (hd : ∀ r ∈ rows, ∀ x ∈ r, (g : Int) ∣ x) (i j : Nat) : (g : Int) * told (chR rows g) i j = told rows i j := by
  unfold told
  by_cases h : i = 0 ∨ j = 0
  · rw [if_pos h, if_pos h, Int.mul_zero]
  · rw [if_neg h, if_neg h]
    unfold chR
    rw [List.getElem?_map]
    cases e : rows[i - 1]? with
    | none =>
      show (g : Int) * (([] : List Int)[j - 1]?).getD 0 = (([] : List Int)[j - 1]?).getD 0
      simp
    | some r =>
      show (g : Int) * ((r.map fun n => n / (g : Int))[j - 1]?).getD 0 = (r[j - 1]?).getD 0
      rw [List.getElem?_map]
      cases e2 : r[j - 1]? with
      | none => simp
      | some x =>
        show (g : Int) * (x / (g : Int)) = x
        exact Int.mul_ediv_cancel' (hd r (List.mem_of_getElem? e) x (List.mem_of_getElem? e2))
theorem prod_div {rows : List (List Int)} {g : Nat} (hd : ∀ r ∈ rows, ∀ x ∈ r, (g : Int) ∣ x) (s u : NS2) : (g : Int) * prodI (chR rows g) s u = prodI rows s u := by
  unfold prodI
  rw [Int.mul_sub, Int.mul_sub, Int.mul_add, told_div hd, told_div hd, told_div hd, told_div hd]
theorem sum_div {rows : List (List Int)} {g : Nat} (hd : ∀ r ∈ rows, ∀ x ∈ r, (g : Int) ∣ x) (ts : List NTm) : (g : Int) * sumI (chR rows g) ts = sumI rows ts := by
  unfold sumI
  rw [← sum_mulM]
  congr 1
  refine List.map_congr_left fun t _ => ?_
  rw [← prod_div hd, Int.mul_left_comm]
/-- a sum by the law's chart is the law's own -/
theorem val_ch {rs : List RwT} {k : Nat} {b : Int} {ts : List NTm} (hb : 0 < b) (ht : ∀ t ∈ ts, Pn (k + 1) t) : valI (chR (chRows rs k) (lchG rs k b)) (b / (lchG rs k b : Nat)) ts = lowI (totS rs ts) b := by
  obtain ⟨d1, d2⟩ := lchG_dvd (rs := rs) (k := k) (b := b)
  have e := sum_div d2 ts
  rw [sum_ch ht] at e
  unfold valI
  rw [← low_mul (lchG_pos (rs := rs) (k := k) hb), e, Int.mul_ediv_cancel' d1]
theorem natAbs_le_mul {g x y : Int} (hg : 0 < g) (e : g * x = y) : x.natAbs ≤ y.natAbs := by
  rw [← e, Int.natAbs_mul]
  exact Nat.le_mul_of_pos_left _ (by omega)
theorem chF_abs {rs : List RwT} {k i j : Nat} (hr : ∀ r ∈ rs, RwP k r) (rl : rs.length ≤ 3) : (chF rs i j).natAbs ≤ 3 * 1000000000 * 1000000000 * 3 :=
  Nat.le_trans (abs_sum fun r hrm => mul_abs (mul_abs (hr r hrm).1 (atR_abs (hr r hrm).2.2)) (atR_abs (hr r hrm).2.2)) (Nat.mul_le_mul_left _ rl)
theorem chRows_len {rs : List RwT} {k : Nat} : (chRows rs k).length = k := by unfold chRows; rw [List.length_map, List.length_range]
theorem chRow_len {rs : List RwT} {k : Nat} : ∀ r ∈ chRows rs k, r.length = k := fun r hr => by
  obtain ⟨i, _, rfl⟩ := List.mem_map.mp hr
  unfold chRow
  rw [List.length_map, List.length_range]
theorem fit_ch {rs : List RwT} {k g : Nat} {s : NS2} (h1 : s.1 ≤ k) (h2 : s.2 ≤ k) : Fit (chR (chRows rs k) g) s := by
  have l : (chR (chRows rs k) g).length = k := by unfold chR; rw [List.length_map, chRows_len]
  refine ⟨by omega, by omega, fun r hr => ?_⟩
  obtain ⟨q, hq, rfl⟩ := List.mem_map.mp hr
  rw [List.length_map, chRow_len q hq]
  omega
theorem fitV_ch {rs : List RwT} {k : Nat} {b : Int} {ts : List NTm} (hr : ∀ r ∈ rs, RwP k r) (rl : rs.length ≤ 3) (hb : 0 < b) (bb : b.natAbs < 2 ^ 8000) (ht : ∀ t ∈ ts, t.2.1.1 < k + 1 ∧ t.2.1.2 < k + 1 ∧ t.2.2.1 < k + 1 ∧ t.2.2.2 < k + 1 ∧ t.1.natAbs < 2 ^ 60000) (hl : ts.length ≤ 12) : FitV (chR (chRows rs k) (lchG rs k b)) (b / (lchG rs k b : Nat)) ts where
  len := by omega
  fit := fun t htm => by
    obtain ⟨p, q, r, s, _⟩ := ht t htm
    exact ⟨fit_ch (by omega) (by omega), fit_ch (by omega) (by omega)⟩
  low := fun t htm => by
    obtain ⟨p, q, r, s, m⟩ := ht t htm
    refine ⟨m, ?_⟩
    obtain ⟨d1, d2⟩ := lchG_dvd (rs := rs) (k := k) (b := b)
    have e := natAbs_le_mul (lchG_pos (rs := rs) (k := k) hb) (prod_div d2 t.2.1 t.2.2)
    refine lt_pow (Nat.le_trans e ?_) (by decide)
    unfold prodI
    rw [told_ch (by omega) (by omega), told_ch (by omega) (by omega), told_ch (by omega) (by omega), told_ch (by omega) (by omega)]
    have c1 := chF_abs (i := t.2.1.2) (j := t.2.2.2) hr rl
    have c2 := chF_abs (i := t.2.1.1) (j := t.2.2.1) hr rl
    have c3 := chF_abs (i := t.2.1.2) (j := t.2.2.1) hr rl
    have c4 := chF_abs (i := t.2.1.1) (j := t.2.2.2) hr rl
    have : (chF rs t.2.1.2 t.2.2.2 + chF rs t.2.1.1 t.2.2.1 - chF rs t.2.1.2 t.2.2.1 - chF rs t.2.1.1 t.2.2.2).natAbs ≤ 4 * (3 * 1000000000 * 1000000000 * 3) := by omega
    exact Nat.le_trans this (by decide)
  pos := by
    have d1 := (lchG_dvd (rs := rs) (k := k) (b := b)).1
    exact Int.ediv_pos_of_pos_of_dvd hb (Int.le_of_lt (lchG_pos hb)) d1
  bb := by
    have d1 := (lchG_dvd (rs := rs) (k := k) (b := b)).1
    exact Nat.lt_of_le_of_lt (natAbs_le_mul (lchG_pos (rs := rs) (k := k) hb) (Int.mul_ediv_cancel' d1)) bb
theorem low_abs {n d : Int} (hd : d ≠ 0) : (lowI n d).1.natAbs ≤ n.natAbs ∧ (lowI n d).2.natAbs ≤ d.natAbs := by
  have g0 : gI n d ≠ 0 := fun z => hd (Int.natAbs_eq_zero.mp (Nat.gcd_eq_zero_iff.mp z).2)
  have g1 : ((gI n d : Nat) : Int) ∣ n := Int.ofNat_dvd_left.mpr (Nat.gcd_dvd_left _ _)
  have g2 : ((gI n d : Nat) : Int) ∣ d := Int.ofNat_dvd_left.mpr (Nat.gcd_dvd_right _ _)
  exact ⟨natAbs_le_mul (g := (gI n d : Nat)) (by omega) (Int.mul_ediv_cancel' g1), natAbs_le_mul (g := (gI n d : Nat)) (by omega) (Int.mul_ediv_cancel' g2)⟩
theorem low_pos {n d : Int} (hd : 0 < d) : 0 < (lowI n d).2 := by
  have g2 : ((gI n d : Nat) : Int) ∣ d := Int.ofNat_dvd_left.mpr (Nat.gcd_dvd_right _ _)
  exact Int.ediv_pos_of_pos_of_dvd hd (by omega) g2
theorem word_so {x : Int} {wd : String} (h : Wd3 wd) : decide (wd = wordF x) = (if wd = "above" then decide (0 < x) else if wd = "below" then decide (x < 0) else decide (x = 0)) := by
  unfold wordF
  by_cases h0 : x = 0
  · subst h0
    rcases h with rfl | rfl | rfl <;> decide
  · by_cases h1 : 0 < x
    · rw [if_neg h0, if_pos h1]
      have h2 : ¬ x < 0 := by omega
      rcases h with rfl | rfl | rfl <;> simp [h0, h1, h2]
    · rw [if_neg h0, if_neg h1]
      have h2 : x < 0 := by omega
      rcases h with rfl | rfl | rfl <;> simp [h0, h1, h2]
theorem holds_so {rs : List RwT} {k : Nat} {b n : Int} {ts : List NTm} {wd : String} (h : Wd3 wd) (hb : 0 < b) (ht : ∀ t ∈ ts, Pn (k + 1) t) : holdsB (chR (chRows rs k) (lchG rs k b)) (b / (lchG rs k b : Nat)) ts wd n = isSo (lowI (totS rs ts) b) wd n := by
  unfold holdsB
  rw [val_ch hb ht, word_so h]
  rfl
theorem word_mul {g x : Int} (hg : 0 < g) : wordF (g * x) = wordF x := by
  unfold wordF
  by_cases h0 : x = 0
  · rw [if_pos h0, if_pos (by rw [h0, Int.mul_zero])]
  · rw [if_neg h0, if_neg (fun z => h0 ((Int.mul_eq_zero.mp z).resolve_left (by omega)))]
    by_cases h1 : 0 < x
    · rw [if_pos h1, if_pos (Int.mul_pos hg h1)]
    · have : g * x < 0 := Int.mul_neg_of_pos_of_neg hg (by omega)
      rw [if_neg h1, if_neg (by omega)]
theorem word_neg {x : Int} : wordF (-x) = turnW (wordF x) := by
  unfold wordF
  by_cases h0 : x = 0
  · subst h0; rfl
  · rw [if_neg h0, if_neg (by omega)]
    by_cases h1 : 0 < x
    · rw [if_pos h1, if_neg (by omega)]; rfl
    · rw [if_neg h1, if_pos (by omega)]; rfl
theorem word_low {n m b : Int} (hb : 0 < b) : wordF ((lowI n b).1 - m * (lowI n b).2) = wordF (n - m * b) := by
  have g0 : gI n b ≠ 0 := fun z => by have := Int.natAbs_eq_zero.mp (Nat.gcd_eq_zero_iff.mp z).2; omega
  have g1 : ((gI n b : Nat) : Int) ∣ n := Int.ofNat_dvd_left.mpr (Nat.gcd_dvd_left _ _)
  have g2 : ((gI n b : Nat) : Int) ∣ b := Int.ofNat_dvd_left.mpr (Nat.gcd_dvd_right _ _)
  rw [← word_mul (g := ((gI n b : Nat) : Int)) (by omega)]
  congr 1
  unfold lowI
  rw [Int.mul_sub, Int.mul_ediv_cancel' g1, Int.mul_left_comm, Int.mul_ediv_cancel' g2]
theorem tot_times {rs : List RwT} {ts : List NTm} {k : Int} : totS rs (timesT ts k) = k * totS rs ts := by
  unfold totS
  rw [← sum_mulM]
  congr 1
  refine List.map_congr_left fun r _ => ?_
  have e : comeI r.2 (timesT ts k) = k * comeI r.2 ts := by
    unfold comeI timesT
    rw [List.map_map, ← sum_mulM]
    congr 1
    refine List.map_congr_left fun t _ => ?_
    show t.1 * k * goneI (0 :: r.2) t.2.1 * goneI (0 :: r.2) t.2.2 = _
    generalize goneI (0 :: r.2) t.2.1 = x
    generalize goneI (0 :: r.2) t.2.2 = y
    grind
  rw [e, Int.mul_left_comm]
theorem holds_word {rs : List RwT} {k : Nat} {b n : Int} {ts : List NTm} {wd : String} (hb : 0 < b) (ht : ∀ t ∈ ts, Pn (k + 1) t) : holdsB (chR (chRows rs k) (lchG rs k b)) (b / (lchG rs k b : Nat)) ts wd n = decide (wd = wordF (totS rs ts - n * b)) := by
  unfold holdsB
  rw [val_ch hb ht, word_low hb]
theorem turn_eq {u v : String} (hu : Wd3 u) (hv : Wd3 v) : decide (turnW u = turnW v) = decide (u = v) := by
  rcases hu with rfl | rfl | rfl <;> rcases hv with rfl | rfl | rfl <;> decide
theorem times_pn {p : Nat} {ts : List NTm} {q : Int} (ht : ∀ t ∈ ts, Pn p t) : ∀ t ∈ timesT ts q, Pn p t := fun t htm => by
  obtain ⟨u, hu, rfl⟩ := List.mem_map.mp htm
  exact ht u hu
theorem holds_times {rs : List RwT} {k : Nat} {b n q : Int} {ts : List NTm} {wd : String} (w : Wd3 wd) (hb : 0 < b) (hq : q ≠ 0) (ht : ∀ t ∈ ts, Pn (k + 1) t) : holdsB (chR (chRows rs k) (lchG rs k b)) (b / (lchG rs k b : Nat)) (timesT ts q) (if 0 < q then wd else turnW wd) (n * q) = holdsB (chR (chRows rs k) (lchG rs k b)) (b / (lchG rs k b : Nat)) ts wd n := by
  rw [holds_word hb ht, holds_word hb (times_pn ht), tot_times]
  have e : q * totS rs ts - n * q * b = q * (totS rs ts - n * b) := by grind
  rw [e]
  generalize totS rs ts - n * b = x
  by_cases h : 0 < q
  · rw [if_pos h, word_mul h]
  · rw [if_neg h]
    have e2 : q * x = -((-q) * x) := by rw [Int.neg_mul, Int.neg_neg]
    rw [e2, word_neg, word_mul (by omega), turn_eq w (wf3 x)]
end
end G44

namespace G44
open PySem PySem.Spec PyProof.Rows L2 Den
section
variable {S : Sd}
def handL (b : Nat) : List NTm → List D
  | [] => []
  | t :: ts => .lst [.int t.1, .hnd b, eS.d t.2.2] :: handL (b + 1) ts
def handM (ts : List NTm) : List MO := ts.map fun t => .lst [.int (t.2.1.1 : Nat), .int (t.2.1.2 : Nat)]
theorem hand_run {x0 x1 x2 x3 x4 x5 x6 x7 x8 x9 x10 x11 x12 x13 x14 x18 x19 : Option D} : ∀ (ts : List NTm) (S : Sd), lcL (Den.tTup [(tName 15), (tName 16), (tName 17)]) cYes (xLst (xsCons (xVar 15) (xsCons (xCall oListH (xsCons (xVar 16) xsNil)) (xsCons (xVar 17) xsNil)))) [x0, x1, x2, x3, x4, x5, x6, x7, x8, x9, x10, x11, x12, x13, x14, none, none, none, x18, x19] anyS (ts.map eTm.d) S = .ok (handL S.length ts) (S ++ handM ts)
  | [], S => by rw [show S ++ handM [] = S from List.append_nil S]; rfl
  | (k, s, u) :: ts, S => by
    have ih := hand_run (x0 := x0) (x1 := x1) (x2 := x2) (x3 := x3) (x4 := x4) (x5 := x5) (x6 := x6) (x7 := x7) (x8 := x8) (x9 := x9) (x10 := x10) (x11 := x11) (x12 := x12) (x13 := x13) (x14 := x14) (x18 := x18) (x19 := x19) ts (S ++ [.lst [.int (s.1 : Nat), .int (s.2 : Nat)]])
    have s3 : (3 : Nat) ≤ sizeLine := by decide
    rw [List.length_append, List.length_singleton, List.append_assoc] at ih
    refine lcL_consT (S1 := S) (S2 := S ++ [.lst [.int (s.1 : Nat), .int (s.2 : Nat)]]) (env1 := [x0, x1, x2, x3, x4, x5, x6, x7, x8, x9, x10, x11, x12, x13, x14, some (.int k), some (eS.d s), some (eS.d u), x18, x19]) rfl rfl ?_ ih
    have e : oListH [eS.d s] S = .ok (.hnd S.length) (S ++ [.lst [.int (s.1 : Nat), .int (s.2 : Nat)]]) := rfl
    simp [e, s3]
def handP (b : Nat) : List NTm → List (D × NTm)
  | [] => []
  | t :: ts => (.lst [.int t.1, .hnd b, eS.d t.2.2], t) :: handP (b + 1) ts
theorem handP_1 : ∀ (b : Nat) (ts : List NTm), (handP b ts).map (·.1) = handL b ts
  | _, [] => rfl
  | b, t :: ts => by rw [handP, handL, List.map_cons, handP_1]
theorem handP_2 : ∀ (b : Nat) (ts : List NTm), (handP b ts).map (·.2) = ts
  | _, [] => rfl
  | b, t :: ts => by rw [handP, List.map_cons, handP_2]
theorem handP_tm : ∀ (ts : List NTm) (S T : Sd), (∀ t ∈ ts, In6 t.2.1 ∧ In6 t.2.2) → ∀ p ∈ handP S.length ts, TmV (S ++ (handM ts ++ T)) p.1 p.2 ∧ In6 p.2.2.1 ∧ In6 p.2.2.2
  | [], S, T, h, p, hp => (List.not_mem_nil hp).elim
  | t :: ts, S, T, h, p, hp => by
    rcases List.mem_cons.mp hp with rfl | hp
    · refine ⟨⟨_, _, .lst, .inr (.inr ⟨_, rfl, ?_⟩), .tup⟩, h t List.mem_cons_self⟩
      rw [List.getElem?_append_right (Nat.le_refl _), Nat.sub_self]
      rfl
    · have := handP_tm ts (S ++ [.lst [.int (t.2.1.1 : Nat), .int (t.2.1.2 : Nat)]]) T (fun u hu => h u (List.mem_cons_of_mem _ hu)) p (by rw [List.length_append]; exact hp)
      rw [List.append_assoc] at this
      exact this
theorem handM_len {ts : List NTm} : (handM ts).length = ts.length := by unfold handM; rw [List.length_map]
def handS (S : Sd) (ts : List NTm) : Sd := S ++ (handM ts ++ [.lst (handL S.length ts)])
theorem hand_top {ts : List NTm} : (handS S ts)[S.length + ts.length]? = some (.lst (handL S.length ts)) := by
  unfold handS
  rw [List.getElem?_append_right (by omega), show S.length + ts.length - S.length = ts.length by omega, List.getElem?_append_right (by rw [handM_len]; exact Nat.le_refl _), handM_len, Nat.sub_self]
  rfl
theorem hand_ts {ts : List NTm} (h : ∀ t ∈ ts, In6 t.2.1 ∧ In6 t.2.2) : TsV (handS S ts) (.hnd (S.length + ts.length)) (handP S.length ts) := ⟨.inr (.inr ⟨_, rfl, by rw [handP_1]; exact hand_top⟩), handP_tm ts S _ h⟩
/-- the handed terms spoilt behind it -/
theorem hand_spoil1 {t : NTm} {ts : List NTm} {env : En} : setR (.hnd S.length) (.int 0) (.int 9) env (handS S (t :: ts)) = .ok env (S ++ (.lst [.int 9, .int (t.2.1.2 : Nat)] :: (handM ts ++ [.lst (handL S.length (t :: ts))]))) := by
  have e : lstAt (handS S (t :: ts)) (.hnd S.length) = some (S.length, [.int (t.2.1.1 : Nat), .int (t.2.1.2 : Nat)]) := lst_is (by
    unfold handS
    rw [List.getElem?_append_right (Nat.le_refl _), Nat.sub_self]
    rfl)
  unfold setR
  simp only [e]
  show R.ok env ((handS S (t :: ts)).set S.length _) = _
  unfold handS
  rw [List.set_append_right _ _ (Nat.le_refl _), Nat.sub_self]
  rfl
theorem hand_spoil2 {ds : List D} {o : MO} {M : List MO} (hl : ds.length < 1000) {env : En} {φ : TX} (hφ : φ env (S ++ (o :: (M ++ [.lst ds]))) = .ok (.hnd (S.length + (M.length + 1))) (S ++ (o :: (M ++ [.lst ds])))) : xApp φ (xC .non) env (S ++ (o :: (M ++ [.lst ds]))) = .ok .non (S ++ (o :: (M ++ [.lst (ds ++ [.non])]))) := by
  have ea : ∀ x : MO, S ++ (o :: (M ++ [x])) = (S ++ (o :: M)) ++ [x] := fun x => by rw [List.append_assoc]; rfl
  have el : S.length + (M.length + 1) = (S ++ (o :: M)).length := by rw [List.length_append, List.length_cons]
  rw [el] at hφ
  rw [ea] at hφ ⊢
  rw [ea]
  exact app_last hφ rfl (Nat.lt_trans hl (by decide))
end
end G44

namespace G44
open PySem PySem.Spec PyProof.Rows L2 Den
section
variable {R : Sd}

theorem sayings_me {F : Fn} {m : String} {ts : List NTm} {wd : String} {n : Int} {S : Sd} (hm : m ≠ "terms" ∧ m ≠ "word" ∧ m ≠ "number" ∧ m ≠ "pins" := by decide) : methOf [("Saying", F)] m (syD ts wd n) S = some F := by
  unfold methOf syD D.clsOf
  simp [hm]
theorem pt_eq {neg : Bool} {eqs : Eqs} {a b : Int × Int} {S : Sd} : oEqN neg eqs (.tup [.int a.1, .int a.2]) (.tup [.int b.1, .int b.2]) S = .ok (.bl (if neg then !decide (a = b) else decide (a = b))) S := (e2 eInt eInt).eqN (by decide) a b
theorem nil_ne {eqs : Eqs} {S : Sd} : oEqN true eqs (.lst []) (.lst []) S = .ok (.bl false) S := by
  have := ne_nil (cs := []) (eqs := eqs) (S := S)
  simpa using this
def oth (wd : String) : List String := ["above", "below", "just"].filter fun w => !decide (w = wd)
theorem words_eq {neg : Bool} {eqs : Eqs} {wd : String} (h : Wd3 wd) {S : Sd} : oEqN neg eqs (.lst ((oth wd).map fun w => .str (Str.ofString w))) (.lst ((oth wd).map fun w => .str (Str.ofString w))) S = .ok (.bl (!neg)) S := by
  have e : ((oth wd).map fun w => D.str (Str.ofString w)) = ((oth wd).map Str.ofString).map D.str := by rw [List.map_map]; rfl
  rw [e]
  have ok : (eL eStr).ok ((oth wd).map Str.ofString) = true := by
    rcases h with rfl | rfl | rfl <;> decide +kernel
  have := (eL eStr).eqN (by decide) (neg := neg) (eqs := eqs) (S := S) _ _ ok ok
  rw [decide_eq_true rfl] at this
  cases neg <;> exact this
theorem dix_w {wd : String} (h : Wd3 wd) {S : Sd} : oDix (.dct [.inr (Str.ofString "above"), .inr (Str.ofString "below"), .inr (Str.ofString "just")] [.str (Str.ofString "below"), .str (Str.ofString "above"), .str (Str.ofString "just")]) (.str (Str.ofString wd)) S = .ok (.str (Str.ofString (turnW wd))) S := by
  rcases h with rfl | rfl | rfl <;> rfl
theorem one_of {X wd : String} (hX : Wd3 X) (h : Wd3 wd) : ((wd :: oth wd).filter fun w => decide (w = X)).length = 1 := by
  rcases hX with rfl | rfl | rfl <;> rcases h with rfl | rfl | rfl <;> decide
theorem oth_w {wd w : String} (h : w ∈ oth wd) : Wd3 w ∧ w ≠ wd := by
  unfold oth at h
  rw [List.mem_filter] at h
  obtain ⟨h1, h2⟩ := h
  simp at h1 h2
  exact ⟨h1, h2⟩
theorem clInts {g : Nat → Option D} : ∀ {cs : List Int}, mapHs g (cs.map D.int) = some (cs.map D.int)
  | [] => by simp [mapHs]
  | c :: cs => by rw [List.map_cons, mapHs, clInts (cs := cs)]; simp [mapH]
theorem foldl_le {B : Int} : ∀ {l : List Int} {a : Int}, a ≤ B → (∀ x ∈ l, x ≤ B) → l.foldl max a ≤ B
  | [], a, h, _ => h
  | x :: l, a, h, hl => foldl_le (l := l) (by have := hl x List.mem_cons_self; omega) fun y hy => hl y (List.mem_cons_of_mem _ hy)
theorem pins_le {k : Nat} {ts : List NTm} (ne : ts ≠ []) (h : ∀ t ∈ ts, Pn (k + 1) t) : pinsI ts ≤ ((k + 1 : Nat) : Int) := by
  have m4 : ∀ t ∈ ts, mx4 t ≤ (k : Int) := fun t ht => by
    obtain ⟨a, b, c, d⟩ := h t ht
    unfold mx4
    refine foldl_le (by omega) fun x hx => ?_
    simp only [List.mem_cons, List.not_mem_nil, or_false] at hx
    rcases hx with rfl | rfl | rfl <;> omega
  unfold pinsI
  cases ts with
  | nil => exact absurd rfl ne
  | cons t ts =>
    have := foldl_le (B := (k : Int)) (l := ts.map mx4) (m4 t List.mem_cons_self) fun x hx => by
      obtain ⟨u, hu, rfl⟩ := List.mem_map.mp hx
      exact m4 u (List.mem_cons_of_mem _ hu)
    show 1 + (ts.map mx4).foldl max (mx4 t) ≤ _
    omega
theorem m60 {x : Int} (h : x.natAbs < 10 ^ 60) : x.natAbs < 2 ^ 60000 := Nat.lt_trans h (Nat.lt_of_lt_of_le (show 10 ^ 60 < 2 ^ 200 by decide) (Nat.pow_le_pow_right (by decide) (by decide)))

theorem v_ltold {cs : List Int} {a r num : Int} {n k : Nat} {ts : List NTm} (h : Pv cs a r n) (hn : n + 200 < 60000) (h2 : 2 ≤ k) (h6 : k ≤ 6) (ne : ts ≠ []) (hl : ts.length ≤ 12) (ht : ∀ t ∈ ts, TmP (k + 1) t) (hnum : num.natAbs ≤ 10 ^ 40) :
    ∃ a' r', F__law_told_right [.hnd 0, .int ((k : Int) + 1), .lst (ts.map eTm.d), .int num] (potD cs a r :: R) = .ok (.bl true) (potD cs a' r' :: R) ∧ Pv cs a' r' (n + 200) := by
  obtain ⟨rs, a1, r1, e1, rne, rl, rp, q1⟩ := v_lrows (R := R) (k := k) h (by omega) (by omega)
  obtain ⟨v1, a2, r2, e2, v10, v11, q2⟩ := v_dip (R := R) q1 (by omega) (m := 6) (by decide) (m_small (k := 6) (by decide))
  obtain ⟨v3, a3, r3, e3, v30, v31, q3⟩ := v_dip (R := R) q2 (by omega) (m := 3) (by decide) (m_small (k := 3) (by decide))
  obtain ⟨w0, a4, r4, e4, hw0, q4⟩ := v_pick (R := R) (xs := [.str (Str.ofString "above"), .str (Str.ofString "below"), .str (Str.ofString "just")]) q3 (by omega) (by simp) (by simp)
  obtain ⟨wd, rfl, w3⟩ : ∃ wd : String, w0 = .str (Str.ofString wd) ∧ Wd3 wd := by
    simp at hw0
    rcases hw0 with rfl | rfl | rfl
    · exact ⟨_, rfl, .inl rfl⟩
    · exact ⟨_, rfl, .inr (.inl rfl)⟩
    · exact ⟨_, rfl, .inr (.inr rfl)⟩
  have bp : (0 : Int) < 1 + v1 := by omega
  have bb : (1 + v1).natAbs < 2 ^ 8000 := lt_pow (Nat.le_trans (show (1 + v1).natAbs ≤ 10 by omega) (by decide)) (by decide)
  generalize hb : 1 + v1 = b at bp bb
  have b10 : b.natAbs ≤ 10 := by omega
  have ec := fun S => v_lchart (S := S) rne rp h2 h6 (by omega : rs.length ≤ 100) bp bb
  have et := fun S => v_tot (S := S) (td := .lst (ts.map eTm.d)) .lst h6 rl rp ht hl bp bb
  have tb := tot_abs rp ht hl rl
  have la := low_abs (n := totS rs ts) (d := b) (by omega)
  have lp := low_pos (n := totS rs ts) bp
  have hpn : ∀ t ∈ ts, Pn (k + 1) t := fun t htm => (ht t htm).n
  have h_so := fun (wd : String) (n : Int) (w : Wd3 wd) => holds_so (rs := rs) (n := n) (ts := ts) w bp hpn
  have h_wo := fun (wd : String) (n : Int) => holds_word (rs := rs) (n := n) (wd := wd) bp hpn
  have h_ti := fun (wd : String) (n q : Int) (w : Wd3 wd) (hq : q ≠ 0) => holds_times (rs := rs) (n := n) w bp hq hpn
  have v_ch := val_ch (rs := rs) bp hpn
  have fv := fitV_ch rp rl bp bb (ts := ts) (fun t htm => ⟨(ht t htm).1, (ht t htm).2.1, (ht t htm).2.2.1, (ht t htm).2.2.2.1, lt_pow (Nat.le_trans (ht t htm).2.2.2.2 (by decide)) (by decide)⟩) hl
  have fvt := fun (q : Int) (hq : q.natAbs ≤ 10 ^ 20) => fitV_ch rp rl bp bb (ts := timesT ts q) (fun t htm => by
    obtain ⟨u, hu, rfl⟩ := List.mem_map.mp htm
    obtain ⟨x1, x2, x3, x4, x5⟩ := ht u hu
    exact ⟨x1, x2, x3, x4, lt_pow (Nat.le_trans (mul_abs x5 hq) (by decide)) (by decide)⟩) (by unfold timesT; rw [List.length_map]; exact hl)
  have pin : ∀ us : List NTm, us ≠ [] → (∀ t ∈ us, Pn (k + 1) t) → pinsI us ≤ ((k + 1 : Nat) : Int) := fun us une hus => pins_le une hus
  have in6 : ∀ t ∈ ts, In6 t.2.1 ∧ In6 t.2.2 := fun t htm => by
    obtain ⟨x1, x2, x3, x4⟩ := hpn t htm
    exact ⟨⟨by omega, by omega⟩, by omega, by omega⟩
  generalize hT : lowI (totS rs ts) b = T at *
  have T2 : T.2 ≠ 0 := by omega
  have T2l : T.2.natAbs.log2 < 9000 := PySem.Flt.log2_lt_of (by decide) (Nat.lt_of_le_of_lt (show T.2.natAbs ≤ 10 by omega) (by decide))
  have Tq : (T.1 / T.2).natAbs ≤ T.1.natAbs := Int.natAbs_ediv_le_natAbs _ _
  have Td : T.1.fdiv T.2 = T.1 / T.2 := fdiv_nn lp
  obtain ⟨N, hN, N41⟩ : ∃ N : Int, N = (if 0 < v3 then T.1 / T.2 + num else num) ∧ N.natAbs ≤ 10 ^ 41 := by
    refine ⟨_, rfl, ?_⟩
    split
    · have : (T.1 / T.2 + num).natAbs ≤ 3 * (1000000000 * 2000000000 * 2000000000 * 12) * 3 + 10 ^ 40 := by omega
      exact Nat.le_trans this (by decide)
    · exact Nat.le_trans hnum (by decide)
  have say : SayOk ts wd N := ⟨ne, hl, w3, in6, fun t htm => Nat.lt_of_le_of_lt (ht t htm).2.2.2.2 (by decide), Nat.lt_of_le_of_lt N41 (by decide)⟩

  obtain ⟨t0, tr, ets⟩ : ∃ t0 tr, ts = t0 :: tr := by
    cases hts : ts with
    | nil => exact absurd hts ne
    | cons t0 tr => exact ⟨t0, tr, rfl⟩
  obtain ⟨T0, hT0⟩ : ∃ T0 : Sd, T0 = MO.lst [.int 9, .int (t0.2.1.2 : Nat)] :: (handM tr ++ [.lst (handL (R.length + 1) ts ++ [.non])]) := ⟨_, rfl⟩
  obtain ⟨tm0, a5, r5, e5, htm0, q5⟩ := v_pick (R := R ++ T0) (xs := [.int 1, .int 2, .int (-1), .int (-3), .int (10 ^ 20)]) q4 (by omega) (by simp) (by simp)
  obtain ⟨q, rfl, q0, q20⟩ : ∃ q : Int, tm0 = .int q ∧ q ≠ 0 ∧ q.natAbs ≤ 10 ^ 20 := by
    simp at htm0
    rcases htm0 with rfl | rfl | rfl | rfl | rfl
    all_goals exact ⟨_, rfl, by decide, by decide⟩
  refine ⟨a5, r5, ?_, q5.le (by omega)⟩
  obtain ⟨X, hX⟩ : ∃ X, X = wordF (totS rs ts - N * b) := ⟨_, rfl⟩
  have wX : Wd3 X := by rw [hX]; exact wf3 _
  have ts0 : (if 0 < q then wd else turnW wd) = (if 0 < q then wd else turnW wd) := rfl
  have vk := fun S => v_kept (S := S) say
  have vsy1 := fun (S : Sd) => v_say (S := S) (d := .tup (ts.map eTm.d)) (n := N) .tup in6 ne hl w3
  have vsy2 := fun (S : Sd) => v_say (S := S) (d := .lst (ts.map eTm.d)) (n := N + 1) .lst in6 ne hl w3
  have np : ∀ (S : Sd) (x y z : D), newRP "Saying" F_Saying_init gd_Saying_init_0_number_word_terms [] [x, y, z] S = newR "Saying" F_Saying_init [z, y, x] S := fun _ _ _ _ => rfl
  have vv : ∀ (S : Sd) (w : String) (M : Int), F_Saying_value [syD ts w M, lchD rs k b] S = .ok (.tup [.int T.1, .int T.2]) S := fun S w M => by
    have := v_value (S := S) (n := M) (wd := w) fv (pin ts ne hpn)
    rw [v_ch] at this
    exact this
  have vh : ∀ (S : Sd) (w : String), Wd3 w → F_Saying_holds [syD ts w N, lchD rs k b] S = .ok (.bl (decide (w = X))) S := fun S w hw => by
    have := v_holds (S := S) (n := N) fv (pin ts ne hpn) hw (m60 say.p60.2) (by rw [v_ch]; exact lt_pow (Nat.le_trans (show T.2.natAbs ≤ 10 by omega) (by decide)) (by decide))
    rw [h_wo, ← hX] at this
    exact this
  have vhw := fun S => vh S wd w3
  have vi : ∀ S : Sd, F__law_is_so [.tup [.int T.1, .int T.2], .str (Str.ofString wd), .int N] S = .ok (.bl (decide (wd = X))) S := fun S => by
    have := v_isso (S := S) (t := T) w3 (n := N) (mok N41 (show T.2.natAbs ≤ 10 by omega))
    rw [← h_so wd N w3, h_wo, ← hX] at this
    exact this
  have vo := fun (S : Sd) => v_others (S := S) (n := N) in6 ne hl w3
  have vt := fun (S : Sd) => v_times (S := S) in6 ne hl w3 q0 (fun t htm => m60 (say.p60.1 t htm)) (m60 say.p60.2) (lt_pow (Nat.le_trans q20 (by decide)) (by decide))
  have vht : ∀ S : Sd, F_Saying_holds [syD (timesT ts q) (if 0 < q then wd else turnW wd) (N * q), lchD rs k b] S = .ok (.bl (decide (wd = X))) S := fun S => by
    have hp2 := times_pn (q := q) hpn
    have ne2 : timesT ts q ≠ [] := fun z => ne (List.map_eq_nil_iff.mp z)
    have hw : Wd3 (if 0 < q then wd else turnW wd) := by
      split
      · exact w3
      · exact turn3 w3
    have v2 := val_ch (rs := rs) bp hp2
    have := v_holds (S := S) (n := N * q) (fvt q q20) (pin _ ne2 hp2) hw (lt_pow (Nat.le_trans (mul_abs N41 q20) (by decide)) (by decide)) (by rw [v2]; exact lt_pow (Nat.le_trans (Nat.le_trans (low_abs (by omega)).2 b10) (by decide)) (by decide))
    rw [h_ti wd N q w3 q0, h_wo, ← hX] at this
    exact this
  have vsy := v_saying (n := N) (hand_ts (S := potD cs a4 r4 :: R) in6) (fun z => ne (by rw [← handP_2 (potD cs a4 r4 :: R).length ts, z]; rfl)) (by have := congrArg List.length (handP_2 (potD cs a4 r4 :: R).length ts); rw [List.length_map] at this; omega) w3
  rw [handP_2, show (potD cs a4 r4 :: R).length = R.length + 1 from rfl] at vsy
  have i1 : oIx (.hnd (R.length + 1 + ts.length)) (.int 0) (handS (potD cs a4 r4 :: R) ts) = .ok (.lst [.int t0.1, .hnd (R.length + 1), eS.d t0.2.2]) (handS (potD cs a4 r4 :: R) ts) := SqV.ix (ds := handL (R.length + 1) ts) (.inr (.inr ⟨_, rfl, hand_top (S := potD cs a4 r4 :: R)⟩)) (by rw [ets]; exact atI_nat (j := 0) rfl)
  have t31 : ∀ x y z : D, atI [x, y, z] 1 = some y := fun _ _ _ => rfl
  have hsp := fun env => hand_spoil1 (S := potD cs a4 r4 :: R) (t := t0) (ts := tr) (env := env)
  simp only [← ets] at hsp
  simp only [List.length_cons] at hsp
  have lhL : (handL (R.length + 1) ts).length < 1000 := by rw [← handP_1, List.length_map]; have := congrArg List.length (handP_2 (R.length + 1) ts); rw [List.length_map] at this; omega
  have hsp2 := fun env φ => hand_spoil2 (S := potD cs a4 r4 :: R) (o := .lst [.int 9, .int (t0.2.1.2 : Nat)]) (M := handM tr) lhL (env := env) (φ := φ)
  have qy := fun (S : Sd) => v_sy_eq (S := S) (neg := true) (ts := ts) (us := ts) (m := N) (n := N) w3 w3
  have qp := fun (S : Sd) (eqs : Eqs) => pt_eq (S := S) (neg := true) (eqs := eqs) (a := T) (b := T)
  simp at qy qp
  have s2 : (2 : Nat) ≤ sizeLine := by decide
  have s3 : (3 : Nat) ≤ sizeLine := by decide
  have s5 : (5 : Nat) ≤ sizeLine := by decide
  have l5 : (5 : Nat) ≤ sizeLine := by decide
  have sl : ts.length ≤ sizeLine := sz hl
  have t0' : ∀ x y : D, atI [x, y] 0 = some x := fun _ _ => rfl
  have t1' : ∀ x y : D, atI [x, y] 1 = some y := fun _ _ => rfl
  simp only [F__law_told_right, p__law_told_right, fn_eq]
  rw [show startE 20 [.hnd 0, .int ((k : Int) + 1), .lst (ts.map eTm.d), .int num] = [some (.hnd 0), some (.int ((k : Int) + 1)), some (.lst (ts.map eTm.d)), some (.int num), none, none, none, none, none, none, none, none, none, none, none, none, none, none, none, none] from rfl]

  refine run_seq (env' := [some (.hnd 0), some (.int ((k : Int) + 1)), some (.lst (ts.map eTm.d)), some (.int num), some (.lst (rs.map rwD)), some (.int b), none, none, none, none, none, none, none, none, none, none, none, none, none, none]) (S' := potD cs a2 r2 :: R) (by simp [e1, e2, hb, s2]) ?_
  refine run_seq (env' := [some (.hnd 0), some (.int ((k : Int) + 1)), some (.lst (ts.map eTm.d)), some (.int num), some (.lst (rs.map rwD)), some (.int b), some (lchD rs k b), some (.tup [.int T.1, .int T.2]), none, none, none, none, none, none, none, none, none, none, none, none]) (S' := potD cs a2 r2 :: R) (by simp [ec, et, s2]) ?_
  refine run_seq (env' := [some (.hnd 0), some (.int ((k : Int) + 1)), some (.lst (ts.map eTm.d)), some (.int N), some (.lst (rs.map rwD)), some (.int b), some (lchD rs k b), some (.tup [.int T.1, .int T.2]), none, none, none, none, none, none, none, none, none, none, none, none]) (S' := potD cs a3 r3 :: R) (by by_cases hv : 0 < v3 <;> simp [e3, hv, t0', t1', T2, T2l, Td, hN]) ?_
  refine run_seq (env' := [some (.hnd 0), some (.int ((k : Int) + 1)), some (.lst (ts.map eTm.d)), some (.int N), some (.lst (rs.map rwD)), some (.int b), some (lchD rs k b), some (.tup [.int T.1, .int T.2]), some (.str (Str.ofString wd)), none, none, none, none, none, none, none, none, none, none, none]) (S' := potD cs a4 r4 :: R) (by simp [s3, e4]) ?_
  refine run_seq (env' := [some (.hnd 0), some (.int ((k : Int) + 1)), some (.lst (ts.map eTm.d)), some (.int N), some (.lst (rs.map rwD)), some (.int b), some (lchD rs k b), some (.tup [.int T.1, .int T.2]), some (.str (Str.ofString wd)), some (.hnd (R.length + 1 + ts.length)), none, none, none, none, none, none, none, none, none, none]) (S' := handS (potD cs a4 r4 :: R) ts) (by simp [sl, hand_run]; exact ⟨by rw [handM_len]; omega, rfl⟩) ?_
  refine run_seq (env' := [some (.hnd 0), some (.int ((k : Int) + 1)), some (.lst (ts.map eTm.d)), some (.int N), some (.lst (rs.map rwD)), some (.int b), some (lchD rs k b), some (.tup [.int T.1, .int T.2]), some (.str (Str.ofString wd)), some (.hnd (R.length + 1 + ts.length)), some (syD ts wd N), none, none, none, none, none, none, none, none, none]) (S' := handS (potD cs a4 r4 :: R) ts) (by simp [vsy]) ?_
  refine run_seq (env' := [some (.hnd 0), some (.int ((k : Int) + 1)), some (.lst (ts.map eTm.d)), some (.int N), some (.lst (rs.map rwD)), some (.int b), some (lchD rs k b), some (.tup [.int T.1, .int T.2]), some (.str (Str.ofString wd)), some (.hnd (R.length + 1 + ts.length)), some (syD ts wd N), none, none, none, none, none, none, none, none, none]) (S' := (potD cs a4 r4 :: R) ++ (.lst [.int 9, .int (t0.2.1.2 : Nat)] :: (handM tr ++ [.lst (handL (R.length + 1) ts)]))) (by simp [i1, t31, hsp]) ?_
  refine run_seq (env' := [some (.hnd 0), some (.int ((k : Int) + 1)), some (.lst (ts.map eTm.d)), some (.int N), some (.lst (rs.map rwD)), some (.int b), some (lchD rs k b), some (.tup [.int T.1, .int T.2]), some (.str (Str.ofString wd)), some (.hnd (R.length + 1 + ts.length)), some (syD ts wd N), none, none, none, none, none, none, none, none, none]) (S' := potD cs a4 r4 :: (R ++ T0)) (by rw [ev_expr, hsp2 _ _ (by rw [handM_len, show tr.length + 1 = ts.length by rw [ets]; rfl]; rfl), hT0]; rfl) ?_
  refine run_if (S' := potD cs a4 r4 :: (R ++ T0)) (by simp [vk, np, vsy1, qy]) ?_
  refine run_if (S' := potD cs a4 r4 :: (R ++ T0)) (by simp [gd_Saying_value_0_chart, gd_Saying_holds_0_chart, sayings_me, vv, vhw, qp, isB]) ?_
  refine run_if (S' := potD cs a4 r4 :: (R ++ T0)) (by simp [sayings_me, vhw, vi]) ?_
  refine run_seq (env' := [some (.hnd 0), some (.int ((k : Int) + 1)), some (.lst (ts.map eTm.d)), some (.int N), some (.lst (rs.map rwD)), some (.int b), some (lchD rs k b), some (.tup [.int T.1, .int T.2]), some (.str (Str.ofString wd)), some (.hnd (R.length + 1 + ts.length)), some (syD ts wd N), some (.tup ((oth wd).map fun w => syD ts w N)), none, none, none, none, none, none, none, none]) (S' := potD cs a4 r4 :: (R ++ T0)) (by simp [sayings_me, vo]; rfl) ?_
  obtain ⟨Z, hZ⟩ : ∃ Z, Z = (potD cs a4 r4 :: (R ++ T0)) := ⟨_, rfl⟩
  rw [← hZ]
  obtain ⟨V, hV⟩ : ∃ V, V = ([some (.hnd 0), some (.int ((k : Int) + 1)), some (.lst (ts.map eTm.d)), some (.int N), some (.lst (rs.map rwD)), some (.int b), some (lchD rs k b), some (.tup [.int T.1, .int T.2]), some (.str (Str.ofString wd)), some (.hnd (R.length + 1 + ts.length)), some (syD ts wd N), some (.tup ((oth wd).map fun w => syD ts w N)), none, none, none, none, none, none, none, none] : En) := ⟨_, rfl⟩
  have c13a : lcL (tName 18) cYes (xUn (oFld "word") (xVar 18)) V anyS ((oth wd).map fun w => syD ts w N) Z = .ok ((oth wd).map fun w => .str (Str.ofString w)) Z := by
    rw [hV]
    exact lcL_mapG (fun w => syD ts w N) (fun w => .str (Str.ofString w)) rfl fun w hw => ⟨_, rfl, rfl⟩
  have c13b : lcL (tName 19) (cB (xBin (oNe (("Chart", F_Chart_eq) :: (("Saying", F_Saying_eq) :: []))) (xVar 19) (xVar 8))) (xVar 19) V anyS (["above", "below", "just"].map fun w => .str (Str.ofString w)) Z = .ok ((oth wd).map fun w => .str (Str.ofString w)) Z := by
    rw [hV]
    refine lcL_filterG (fun w => D.str (Str.ofString w)) (fun w => .str (Str.ofString w)) (fun w => !decide (w = wd)) rfl fun w hw => ⟨_, rfl, ?_, fun _ => rfl⟩
    have w3' : Wd3 w := by simp at hw; exact hw
    have q := eq_wd (S := Z) (neg := true) (eqs := eqs44) w3' w3
    simp at q
    simp [q]
  have c14 : lcL (tName 18) (cOr (cB (xBin (oNe (("Chart", F_Chart_eq) :: (("Saying", F_Saying_eq) :: []))) (xUn (oFld "terms") (xVar 18)) (xUn (oFld "terms") (xVar 10)))) (cOr (cB (xBin (oNe (("Chart", F_Chart_eq) :: (("Saying", F_Saying_eq) :: []))) (xUn (oFld "number") (xVar 18)) (xVar 3))) (cB (xBin (oEq (("Chart", F_Chart_eq) :: (("Saying", F_Saying_eq) :: []))) (xVar 18) (xVar 10))))) (xVar 18) V anyS ((oth wd).map fun w => syD ts w N) Z = .ok [] Z := by
    rw [hV]
    have := lcL_filterG (γ := tName 18) (c := (cOr (cB (xBin (oNe (("Chart", F_Chart_eq) :: (("Saying", F_Saying_eq) :: []))) (xUn (oFld "terms") (xVar 18)) (xUn (oFld "terms") (xVar 10)))) (cOr (cB (xBin (oNe (("Chart", F_Chart_eq) :: (("Saying", F_Saying_eq) :: []))) (xUn (oFld "number") (xVar 18)) (xVar 3))) (cB (xBin (oEq (("Chart", F_Chart_eq) :: (("Saying", F_Saying_eq) :: []))) (xVar 18) (xVar 10)))))) (φ := xVar 18) (env0 := ([some (.hnd 0), some (.int ((k : Int) + 1)), some (.lst (ts.map eTm.d)), some (.int N), some (.lst (rs.map rwD)), some (.int b), some (lchD rs k b), some (.tup [.int T.1, .int T.2]), some (.str (Str.ofString wd)), some (.hnd (R.length + 1 + ts.length)), some (syD ts wd N), some (.tup ((oth wd).map fun w => syD ts w N)), none, none, none, none, none, none, none, none] : En)) (w := anyS) (S := Z) (fun w => syD ts w N) (fun w => syD ts w N) (fun _ => false) rfl (xs := oth wd) fun w hw => ⟨_, rfl, by
      obtain ⟨w3', wn⟩ := oth_w hw
      have q1 := eq_tms (S := Z) (neg := true) (eqs := eqs44) (ts := ts) (us := ts)
      have q2 := v_sy_eq (S := Z) (neg := false) (ts := ts) (us := ts) (m := N) (n := N) w3' w3
      have fT : ∀ w, oFld "terms" (syD ts w N) Z = .ok (eTs.d ts) Z := fun _ => rfl
      have fN : ∀ w, oFld "number" (syD ts w N) Z = .ok (.int N) Z := fun _ => rfl
      simp [wn] at q1 q2
      simp [fT, fN, q1, q2], fun z => by cases z⟩
    rw [show ((oth wd).filter fun _ => false) = [] from by simp] at this
    exact this
  have c15 : lcL (tName 19) (cTru (xMethP [("Saying", F_Saying_holds)] "holds" gd_Saying_holds_0_chart (xVar 19) (xsCons (xVar 6) xsNil))) (xVar 19) V anyS ((wd :: oth wd).map fun w => syD ts w N) Z = .ok (((wd :: oth wd).filter fun w => decide (w = X)).map fun w => syD ts w N) Z := by
    rw [hV]
    refine lcL_filterG (fun w => syD ts w N) (fun w => syD ts w N) (fun w => decide (w = X)) rfl fun w hw => ⟨_, rfl, ?_, fun _ => rfl⟩
    have w3' : Wd3 w := by
      rcases List.mem_cons.mp hw with rfl | hw
      · exact w3
      · exact (oth_w hw).1
    simp [gd_Saying_holds_0_chart, sayings_me, vh Z w w3']
  have olen : (oth wd).length = 2 := by
    rcases w3 with rfl | rfl | rfl <;> decide
  have o1 := one_of wX w3
  have weq := words_eq (neg := true) (eqs := eqs44) w3 (S := Z)
  have qy2 := v_sy_eq (S := Z) (neg := false) (ts := ts) (us := ts) (m := N + 1) (n := N) w3 w3
  have n1 : ¬ (N + 1 = N) := by omega
  simp [n1] at qy2
  simp only [List.map_cons, List.map_nil] at c13b c15
  have w9 : ([2, 3, 18, 19] : List Nat) = [2, 3, 18, 19] := rfl
  have l2 : (2 : Nat) ≤ sizeLine := by decide
  have l1 : (1 : Nat) ≤ sizeLine := by decide
  have l3 : (3 : Nat) ≤ sizeLine := by decide
  have l12 : 1 + 2 ≤ sizeLine := by decide
  refine run_if (S' := Z) (by rw [hV] at c13a c13b; simp [isB, olen, l2, l3, c13a, c13b, weq]) ?_
  refine run_if (S' := Z) (by rw [hV] at c14; simp [olen, l2, c14, nil_ne]) ?_
  refine run_if (S' := Z) (by rw [hV] at c15; simp [olen, l2, l1, l12, c15, o1, vsy2, qy2]) ?_
  have e5' : F__law_pick [.hnd 0, .lst [.int 1, .int 2, .int (-1), .int (-3), .int 100000000000000000000]] Z = .ok (.int q) ((potD cs a5 r5 :: (R ++ T0))) := by rw [hZ]; exact e5
  have p20 : (Builtin.Int.intBits 10 : Int) * 20 ≤ 134217728 := pw_ok (i := 10) (k := 20) (a := 4) (by decide) (by decide)
  obtain ⟨Z5, hZ5⟩ : ∃ Z5, Z5 = (potD cs a5 r5 :: (R ++ T0)) := ⟨_, rfl⟩
  rw [← hZ5] at e5'
  refine run_seq (env' := [some (.hnd 0), some (.int ((k : Int) + 1)), some (.lst (ts.map eTm.d)), some (.int N), some (.lst (rs.map rwD)), some (.int b), some (lchD rs k b), some (.tup [.int T.1, .int T.2]), some (.str (Str.ofString wd)), some (.hnd (R.length + 1 + ts.length)), some (syD ts wd N), some (.tup ((oth wd).map fun w => syD ts w N)), some (.int q), none, none, none, none, none, none, none]) (S' := Z5) (by simp [l5, p20, e5']) ?_
  refine run_seq (env' := [some (.hnd 0), some (.int ((k : Int) + 1)), some (.lst (ts.map eTm.d)), some (.int N), some (.lst (rs.map rwD)), some (.int b), some (lchD rs k b), some (.tup [.int T.1, .int T.2]), some (.str (Str.ofString wd)), some (.hnd (R.length + 1 + ts.length)), some (syD ts wd N), some (.tup ((oth wd).map fun w => syD ts w N)), some (.int q), some (syD (timesT ts q) (if 0 < q then wd else turnW wd) (N * q)), none, none, none, none, none, none]) (S' := Z5) (by simp [sayings_me, vt]) ?_
  have c18 : lcL (Den.tTup [(tName 15), (tName 16), (tName 17)]) cYes (xTup (xsCons (xBin oMulT (xVar 12) (xVar 15)) (xsCons (xVar 16) (xsCons (xVar 17) xsNil)))) ([some (.hnd 0), some (.int ((k : Int) + 1)), some (.lst (ts.map eTm.d)), some (.int N), some (.lst (rs.map rwD)), some (.int b), some (lchD rs k b), some (.tup [.int T.1, .int T.2]), some (.str (Str.ofString wd)), some (.hnd (R.length + 1 + ts.length)), some (syD ts wd N), some (.tup ((oth wd).map fun w => syD ts w N)), some (.int q), some (syD (timesT ts q) (if 0 < q then wd else turnW wd) (N * q)), none, none, none, none, none, none] : En) anyS (ts.map eTm.d) Z5 = .ok ((timesT ts q).map eTm.d) Z5 := by
    unfold timesT
    rw [List.map_map]
    refine lcL_mapG eTm.d (fun t => eTm.d (t.1 * q, t.2.1, t.2.2)) rfl fun t htm => ⟨[some (.hnd 0), some (.int ((k : Int) + 1)), some (.lst (ts.map eTm.d)), some (.int N), some (.lst (rs.map rwD)), some (.int b), some (lchD rs k b), some (.tup [.int T.1, .int T.2]), some (.str (Str.ofString wd)), some (.hnd (R.length + 1 + ts.length)), some (syD ts wd N), some (.tup ((oth wd).map fun w => syD ts w N)), some (.int q), some (syD (timesT ts q) (if 0 < q then wd else turnW wd) (N * q)), none, some (.int t.1), some (eS.d t.2.1), some (eS.d t.2.2), none, none], rfl, ?_⟩
    have mq := mok q20 (ht t htm).2.2.2.2
    simp [mq, l3, Int.mul_comm q]
    rfl
  have w3t : Wd3 (if 0 < q then wd else turnW wd) := by
    split
    · exact w3
    · exact turn3 w3
  have tl : (timesT ts q).length = ts.length := by unfold timesT; rw [List.length_map]
  generalize hW : (if 0 < q then wd else turnW wd) = W at *
  generalize hU : timesT ts q = U at *
  have fT : ∀ us w (M : Int), oFld "terms" (syD us w M) Z5 = .ok (.tup (us.map eTm.d)) Z5 := fun _ _ _ => rfl
  have fN : ∀ us w (M : Int), oFld "number" (syD us w M) Z5 = .ok (.int M) Z5 := fun _ _ _ => rfl
  have fW : ∀ us w (M : Int), oFld "word" (syD us w M) Z5 = .ok (.str (Str.ofString w)) Z5 := fun _ _ _ => rfl
  have q18 := eq_tms (S := Z5) (neg := true) (eqs := eqs44) (ts := U) (us := U)
  have ed : ∀ us : List NTm, eTs.d us = .tup (us.map eTm.d) := fun _ => rfl
  rw [ed] at q18
  simp at q18
  have mN := mok q20 N41
  refine run_if (S' := Z5) (by simp [fT, fN, sl, c18, q18, mN, Int.mul_comm q]) ?_
  have q19 : q < 0 ↔ ¬ 0 < q := by omega
  refine run_seq (env' := [some (.hnd 0), some (.int ((k : Int) + 1)), some (.lst (ts.map eTm.d)), some (.int N), some (.lst (rs.map rwD)), some (.int b), some (lchD rs k b), some (.tup [.int T.1, .int T.2]), some (.str (Str.ofString wd)), some (.hnd (R.length + 1 + ts.length)), some (syD ts wd N), some (.tup ((oth wd).map fun w => syD ts w N)), some (.int q), some (syD U W (N * q)), some (.str (Str.ofString W)), none, none, none, none, none]) (S' := Z5) (by by_cases hq : 0 < q <;> simp [hq, q19, dix_w w3, ← hW]) ?_
  have qw := eq_wd (S := Z5) (neg := false) (eqs := eqs44) w3t w3t
  have qyt := v_sy_eq (S := Z5) (neg := false) (ts := U) (us := U) (m := N * q) (n := N * q) w3t w3t
  simp at qw qyt
  refine run_ret (d := .bl true) (S' := Z5) (by simp [fW, qw, qyt, sayings_me, vht, vhw, gd_Saying_times_0_number, vt]) ?_
  rw [hZ5]
  exact ex_pot (fun g => by simp [potD, MO.ds, mapHs, mapH, clInts]) (fun g => by simp [mapH])
end
end G44

namespace G44
open PySem PySem.Spec PyProof.Rows L2 Den
section
variable {R : Sd}
theorem row9_run {cs : List Int} {x1 x2 x3 x4 x5 x6 x7 x9 : Option D} : ∀ {ds : List D} {a r : Int} {n : Nat}, Pv cs a r n → n + ds.length < 60000 →
    ∃ (row : List Int) (a' r' : Int), lcL (tName 8) cYes (xBin oSub (xFn F__law_dip (xsCons (xVar 0) (xsCons (xC (.int 9)) xsNil))) (xC (.int 4))) [some (.hnd 0), x1, x2, x3, x4, x5, x6, x7, none, x9] anyS ds (potD cs a r :: R) = .ok (row.map .int) (potD cs a' r' :: R) ∧ row.length = ds.length ∧ (∀ c ∈ row, c.natAbs ≤ 1000000000) ∧ Pv cs a' r' (n + ds.length)
  | [], a, r, n, h, hn => ⟨[], a, r, rfl, rfl, fun _ h => (List.not_mem_nil h).elim, h⟩
  | d :: ds, a, r, n, h, hn => by
    rw [List.length_cons] at hn
    obtain ⟨v, a1, r1, e1, v0, v1, q1⟩ := v_dip (R := R) h (by omega) (m := 9) (by decide) (m_small (k := 9) (by decide))
    obtain ⟨row, a4, r4, e4, l4, t4, q4⟩ := row9_run (ds := ds) q1 (by omega)
    refine ⟨(v - 4) :: row, a4, r4, ?_, by rw [List.length_cons, List.length_cons, l4], fun t ht => ?_, q4.le (by rw [List.length_cons]; omega)⟩
    · refine lcL_consT rfl rfl (S2 := potD cs a1 r1 :: R) ?_ e4
      simp [e1]
    · rcases List.mem_cons.mp ht with rfl | ht
      · omega
      · exact t4 t ht
theorem row3_run {cs : List Int} {x1 x2 x3 x4 x5 x6 x7 x9 : Option D} : ∀ {ds : List D} {a r : Int} {n : Nat}, Pv cs a r n → n + ds.length < 60000 →
    ∃ (row : List Int) (a' r' : Int), lcL (tName 8) cYes (xCall oInt (xsCons (xBin oGt (xFn F__law_dip (xsCons (xVar 0) (xsCons (xC (.int 3)) xsNil))) (xC (.int 0))) xsNil)) [some (.hnd 0), x1, x2, x3, x4, x5, x6, x7, none, x9] anyS ds (potD cs a r :: R) = .ok (row.map .int) (potD cs a' r' :: R) ∧ row.length = ds.length ∧ (∀ c ∈ row, c.natAbs ≤ 1000000000) ∧ Pv cs a' r' (n + ds.length)
  | [], a, r, n, h, hn => ⟨[], a, r, rfl, rfl, fun _ h => (List.not_mem_nil h).elim, h⟩
  | d :: ds, a, r, n, h, hn => by
    rw [List.length_cons] at hn
    obtain ⟨v, a1, r1, e1, v0, v1, q1⟩ := v_dip (R := R) h (by omega) (m := 3) (by decide) (m_small (k := 3) (by decide))
    obtain ⟨row, a4, r4, e4, l4, t4, q4⟩ := row3_run (ds := ds) q1 (by omega)
    refine ⟨(if 0 < v then 1 else 0) :: row, a4, r4, ?_, by rw [List.length_cons, List.length_cons, l4], fun t ht => ?_, q4.le (by rw [List.length_cons]; omega)⟩
    · refine lcL_consT rfl rfl (S2 := potD cs a1 r1 :: R) ?_ e4
      by_cases hv : 0 < v <;> simp [e1, hv]
    · rcases List.mem_cons.mp ht with rfl | ht
      · split <;> decide
      · exact t4 t ht
theorem put_abs {f : Nat → Nat → Int} {p o i j : Nat} {v : Int} : (putF f p o v i j).natAbs ≤ (f i j).natAbs + 2 * v.natAbs := by
  rw [putF_eq]
  split
  · split <;> split <;> omega
  · omega
theorem formT_abs {f : Nat → Nat → Int} {t : NTm} {i j : Nat} : (formT f t i j).natAbs ≤ (f i j).natAbs + 8 * t.1.natAbs := by
  unfold formT
  have h1 := put_abs (f := f) (p := t.2.1.2) (o := t.2.2.2) (v := t.1) (i := i) (j := j)
  have h2 := put_abs (f := putF f t.2.1.2 t.2.2.2 t.1) (p := t.2.1.2) (o := t.2.2.1) (v := -t.1) (i := i) (j := j)
  have h3 := put_abs (f := putF (putF f t.2.1.2 t.2.2.2 t.1) t.2.1.2 t.2.2.1 (-t.1)) (p := t.2.1.1) (o := t.2.2.2) (v := -t.1) (i := i) (j := j)
  have h4 := put_abs (f := putF (putF (putF f t.2.1.2 t.2.2.2 t.1) t.2.1.2 t.2.2.1 (-t.1)) t.2.1.1 t.2.2.2 (-t.1)) (p := t.2.1.1) (o := t.2.2.1) (v := t.1) (i := i) (j := j)
  rw [Int.natAbs_neg] at h2 h3
  omega
theorem fold_abs {i j : Nat} : ∀ {ts : List NTm} {f : Nat → Nat → Int}, (∀ t ∈ ts, t.1.natAbs ≤ 1000000000) → (ts.foldl formT f i j).natAbs ≤ (f i j).natAbs + 8000000000 * ts.length
  | [], f, h => by show (f i j).natAbs ≤ _; omega
  | t :: ts, f, h => by
    have a := fold_abs (i := i) (j := j) (ts := ts) (f := formT f t) fun u hu => h u (List.mem_cons_of_mem _ hu)
    have b := formT_abs (f := f) (t := t) (i := i) (j := j)
    have c := h t List.mem_cons_self
    rw [List.foldl_cons, List.length_cons]
    omega
def gF (n : Nat) (ts : List NTm) (i j : Nat) : Int := frmF ts i j / (frmG n ts : Int)
theorem gF_abs {n i j : Nat} {ts : List NTm} (h : ∀ t ∈ ts, t.1.natAbs ≤ 1000000000) (hl : ts.length ≤ 12) : (gF n ts i j).natAbs ≤ 96000000000 := by
  have a := fold_abs (i := i) (j := j) (f := zF) h
  have b : (gF n ts i j).natAbs ≤ (frmF ts i j).natAbs := Int.natAbs_ediv_le_natAbs _ _
  have c : (zF i j).natAbs = 0 := rfl
  unfold frmF at b
  omega
theorem chR_tab {n g : Nat} {f : Nat → Nat → Int} : chR (tabF n f) g = tabF n fun i j => f i j / (g : Int) := by
  unfold chR tabF rowF
  rw [List.map_map]
  refine List.map_congr_left fun i _ => ?_
  show (List.map _ _).map _ = _
  rw [List.map_map]
  rfl
theorem frm_rows {n : Nat} {ts : List NTm} {S : Sd} : oFld "rows" (frmD n ts) S = .ok (eRows.d (tabF n (gF n ts))) S := by
  show R.ok (eRows.d (chR (tabF n (frmF ts)) (frmG n ts))) S = _
  rw [chR_tab]
  rfl
theorem tab_ix {n i : Nat} {f : Nat → Nat → Int} {S : Sd} (hi : i < n) : oIx (eRows.d (tabF n f)) (.int (i : Nat)) S = .ok (eRow.d (rowF n f i)) S := SqV.ix (ds := (tabF n f).map eRow.d) .tup (atI_nat (by unfold tabF; rw [List.getElem?_map, List.getElem?_map, List.getElem?_range hi]; rfl))
theorem rowF_ix {n i j : Nat} {f : Nat → Nat → Int} {S : Sd} (hj : j < n) : oIx (eRow.d (rowF n f i)) (.int (j : Nat)) S = .ok (.int (f i j)) S := SqV.ix (ds := (rowF n f i).map D.int) .tup (atI_nat (by rw [List.getElem?_map, rowF_at hj]; rfl))
theorem row_ix {row : List Int} {j : Nat} {S : Sd} (hj : j < row.length) : oIx (.lst (row.map .int)) (.int (j : Nat)) S = .ok (.int (rF row j)) S := SqV.ix .lst (atI_nat (by rw [List.getElem?_map, List.getElem?_eq_getElem hj]; show some (D.int row[j]) = some (D.int ((row[j]?).getD 0)); rw [List.getElem?_eq_getElem hj]; rfl))
end
end G44

namespace G44
open PySem PySem.Spec PyProof.Rows L2 Den
section
variable {S : Sd}
noncomputable abbrev inX : TX := (xCall oSum (xsCons (xLc (wRng1 (xsCons (xBin oSub (xVar 1) (xC (.int 1))) xsNil)) (tName 9) cYes (xBin oMulT (xBin oMulT (xBin oIx (xVar 5) (xVar 7)) (xBin oIx (xVar 5) (xVar 9))) (xBin oIx (xBin oIx (xUn (oFld "rows") (xVar 3)) (xVar 7)) (xVar 9))) [9]) xsNil))
theorem frm_in {k i : Nat} {ts : List NTm} {row : List Int} {x0 x2 x4 x6 x8 x9 : Option D} (hk : k ≤ 6) (hr : row.length = k) (ra : ∀ c ∈ row, c.natAbs ≤ 1000000000) (ha : ∀ t ∈ ts, t.1.natAbs ≤ 1000000000) (hl : ts.length ≤ 12) (hi : i < k) :
    inX [x0, some (.int ((k : Int) + 1)), x2, some (frmD k ts), x4, some (.lst (row.map .int)), x6, some (.int (i : Nat)), x8, x9] S = .ok (.int (sumR k fun j => rF row i * rF row j * gF k ts i j)) S := by
  have e : lcL (tName 9) cYes (xBin oMulT (xBin oMulT (xBin oIx (xVar 5) (xVar 7)) (xBin oIx (xVar 5) (xVar 9))) (xBin oIx (xBin oIx (xUn (oFld "rows") (xVar 3)) (xVar 7)) (xVar 9))) [x0, some (.int ((k : Int) + 1)), x2, some (frmD k ts), x4, some (.lst (row.map .int)), x6, some (.int (i : Nat)), x8, none] anyS (rng 0 k) S = .ok ((List.range k).map fun j => .int (rF row i * rF row j * gF k ts i j)) S := by
    refine lcL_mapG (fun j : Nat => D.int (0 + (j : Int))) (fun j => .int (rF row i * rF row j * gF k ts i j)) rfl fun j hj => ⟨_, rfl, ?_⟩
    have hj := List.mem_range.mp hj
    rw [show (0 : Int) + (j : Int) = (j : Int) by omega]
    have r1 := row_ix (S := S) (row := row) (j := i) (by omega)
    have r2 := row_ix (S := S) (row := row) (j := j) (by omega)
    have t1 := tab_ix (S := S) (f := gF k ts) hi
    have t2 := rowF_ix (S := S) (f := gF k ts) (i := i) hj
    have m1 := mok (rF_abs (p := i) ra) (rF_abs (p := j) ra)
    have m2 := mok (mul_abs (rF_abs (p := i) ra) (rF_abs (p := j) ra)) (gF_abs (n := k) (i := i) (j := j) ha hl)
    simp only [ev_bin, ev_un, ev_varS, ev_var0, R.bind_ok, r1, r2, Den.mul_int, m1, guardR_true, frm_rows, t1, t2, m2, List.set_cons_succ, List.set_cons_zero]
  have ir := inRng_nat (n := k) (by omega)
  have sr : (rng 0 k).length ≤ sizeLine := by rw [rng_map, List.length_map, List.length_range]; exact sz hk
  have ek : (k : Int) + 1 - 1 = (k : Int) := by omega
  have es := ev_sum (S := S) (fun j => rF row i * rF row j * gF k ts i j) (List.range k)
  unfold inX
  simp only [ev_call, ev_cons, ev_nil, ev_lc, ev_rng1, ev_bin, ev_varS, ev_var0, ev_c, R.bind_ok, Den.sub_int, ek, ir, guardR_true, Int.toNat_natCast, sr, decide_true, ev_wipe, ev_wipe0, List.set_cons_succ, List.set_cons_zero, e, es]
  rfl
theorem foldl_sum {g : Nat → Int} : ∀ (l : List Nat) (c : Int) (o : Option D), (l.foldl (fun (s : Int × Option D) i => (s.1 + g i, some (D.int i))) (c, o)).1 = c + (l.map g).sum
  | [], c, o => by show c = c + 0; omega
  | i :: l, c, o => by
    rw [List.foldl_cons, foldl_sum l, List.map_cons, List.sum_cons]
    omega
noncomputable abbrev atB : TSt := (sSeq (sSet 6 (xBin oAdd (xVar 6) inX)) sNext)
theorem frm_at {k : Nat} {ts : List NTm} {row : List Int} {x0 x2 x4 x7 x8 x9 : Option D} (hk : k ≤ 6) (hr : row.length = k) (ra : ∀ c ∈ row, c.natAbs ≤ 1000000000) (ha : ∀ t ∈ ts, t.1.natAbs ≤ 1000000000) (hl : ts.length ≤ 12) :
    ∃ y7, forL (tName 7) atB anyS (rng 0 k) [x0, some (.int ((k : Int) + 1)), x2, some (frmD k ts), x4, some (.lst (row.map .int)), some (.int 0), x7, x8, x9] S = .ok (.nx [x0, some (.int ((k : Int) + 1)), x2, some (frmD k ts), x4, some (.lst (row.map .int)), some (.int (qF k (rF row) (rF row) (gF k ts))), y7, x8, x9]) S := by
  have := forL_fold (S := S) (w := anyS) (γ := tName 7) (ψ := atB) (fun i : Nat => D.int (0 + (i : Int))) (fun (s : Int × Option D) i => (s.1 + sumR k fun j => rF row i * rF row j * gF k ts i j, some (D.int i))) (fun s => [x0, some (.int ((k : Int) + 1)), x2, some (frmD k ts), x4, some (.lst (row.map .int)), some (.int s.1), s.2, x8, x9]) rfl (xs := List.range k) (s := (0, x7)) fun s i hi => ⟨[x0, some (.int ((k : Int) + 1)), x2, some (frmD k ts), x4, some (.lst (row.map .int)), some (.int s.1), some (.int (i : Nat)), x8, x9], by rw [show (0 : Int) + (i : Int) = (i : Int) by omega]; rfl, by
    have fi := frm_in (S := S) (x0 := x0) (x2 := x2) (x4 := x4) (x6 := some (.int s.1)) (x8 := x8) (x9 := x9) hk hr ra ha hl (List.mem_range.mp hi)
    unfold atB
    generalize inX = I at fi
    simp [fi]⟩
  rw [foldl_sum, Int.zero_add] at this
  exact ⟨_, this⟩
end
end G44

namespace G44
open PySem PySem.Spec PyProof.Rows L2 Den
section
variable {R : Sd}
noncomputable abbrev turnB : TSt := (sSeq (sSet 5 (xIf (cB (xBin oGt (xVar 4) (xC (.int 0)))) (xLc (wRng1 (xsCons (xBin oSub (xVar 1) (xC (.int 1))) xsNil)) (tName 8) cYes (xBin oSub (xFn F__law_dip (xsCons (xVar 0) (xsCons (xC (.int 9)) xsNil))) (xC (.int 4))) [8]) (xLc (wRng1 (xsCons (xBin oSub (xVar 1) (xC (.int 1))) xsNil)) (tName 8) cYes (xCall oInt (xsCons (xBin oGt (xFn F__law_dip (xsCons (xVar 0) (xsCons (xC (.int 3)) xsNil))) (xC (.int 0))) xsNil)) [8])))
    (sSeq (sSet 6 (xC (.int 0)))
    (sSeq (sFor (wRng1 (xsCons (xBin oSub (xVar 1) (xC (.int 1))) xsNil)) (tName 7) atB)
    (sSeq (sIf (cB (xBin (oNe (("Chart", F_Chart_eq) :: (("Saying", F_Saying_eq) :: []))) (xVar 6) (xBin oMulT (xUn (oFld "by") (xVar 3)) (xFn F__law_come (xsCons (xVar 5) (xsCons (xVar 2) xsNil)))))) (sSeq (sRet (xC (.bl false)))
    sNext) sNext)
    sNext))))
theorem seq_ok {A B : TSt} {env env' : En} {S S' : Sd} {X : Den.R Out} (h : A env S = .ok (.nx env') S') (k : B env' S' = X) : sSeq A B env S = X := by
  rw [ev_seq, h]
  exact k
theorem frm_turn {cs : List Int} {a r tn : Int} {n k : Nat} {ts : List NTm} {x5 x6 x7 x9 : Option D} (h : Pv cs a r n) (hn : n + 10 < 60000) (hk : k ≤ 6) (ht : ∀ t ∈ ts, TmP (k + 1) t) (hl : ts.length ≤ 12) :
    ∃ y5 y6 y7 a' r', turnB [some (.hnd 0), some (.int ((k : Int) + 1)), some (.lst (ts.map eTm.d)), some (frmD k ts), some (.int tn), x5, x6, x7, none, x9] (potD cs a r :: R) = .ok (.nx [some (.hnd 0), some (.int ((k : Int) + 1)), some (.lst (ts.map eTm.d)), some (frmD k ts), some (.int tn), y5, y6, y7, none, x9]) (potD cs a' r' :: R) ∧ Pv cs a' r' (n + 10) := by
  have ir := inRng_nat (n := k) (by omega)
  have lr : (rng 0 k).length = k := by rw [rng_map, List.length_map, List.length_range]
  have sr : (rng 0 k).length ≤ sizeLine := by rw [lr]; exact sz hk
  have ek : (k : Int) + 1 - 1 = (k : Int) := by omega
  obtain ⟨row, a1, r1, e1, l1, ra, q1⟩ : ∃ (row : List Int) (a1 r1 : Int), (xIf (cB (xBin oGt (xVar 4) (xC (.int 0)))) (xLc (wRng1 (xsCons (xBin oSub (xVar 1) (xC (.int 1))) xsNil)) (tName 8) cYes (xBin oSub (xFn F__law_dip (xsCons (xVar 0) (xsCons (xC (.int 9)) xsNil))) (xC (.int 4))) [8]) (xLc (wRng1 (xsCons (xBin oSub (xVar 1) (xC (.int 1))) xsNil)) (tName 8) cYes (xCall oInt (xsCons (xBin oGt (xFn F__law_dip (xsCons (xVar 0) (xsCons (xC (.int 3)) xsNil))) (xC (.int 0))) xsNil)) [8])) [some (.hnd 0), some (.int ((k : Int) + 1)), some (.lst (ts.map eTm.d)), some (frmD k ts), some (.int tn), x5, x6, x7, none, x9] (potD cs a r :: R) = .ok (.lst (row.map .int)) (potD cs a1 r1 :: R) ∧ row.length = k ∧ (∀ c ∈ row, c.natAbs ≤ 1000000000) ∧ Pv cs a1 r1 (n + k) := by
    by_cases ht : 0 < tn
    · obtain ⟨row, a1, r1, e1, l1, ra, q1⟩ := row9_run (R := R) (x1 := some (.int ((k : Int) + 1))) (x2 := some (.lst (ts.map eTm.d))) (x3 := some (frmD k ts)) (x4 := some (.int tn)) (x5 := x5) (x6 := x6) (x7 := x7) (x9 := x9) (ds := rng 0 k) h (by omega)
      rw [lr] at l1 q1
      exact ⟨row, a1, r1, by simp [ht, ir, sr, e1], l1, ra, q1⟩
    · obtain ⟨row, a1, r1, e1, l1, ra, q1⟩ := row3_run (R := R) (x1 := some (.int ((k : Int) + 1))) (x2 := some (.lst (ts.map eTm.d))) (x3 := some (frmD k ts)) (x4 := some (.int tn)) (x5 := x5) (x6 := x6) (x7 := x7) (x9 := x9) (ds := rng 0 k) h (by omega)
      rw [lr] at l1 q1
      exact ⟨row, a1, r1, by simp [ht, ir, sr, e1], l1, ra, q1⟩
  have ha : ∀ t ∈ ts, t.1.natAbs ≤ 1000000000 := fun t htm => (ht t htm).2.2.2.2
  obtain ⟨y7, fa⟩ := frm_at (S := potD cs a1 r1 :: R) (ts := ts) (x0 := some (.hnd 0)) (x2 := some (.lst (ts.map eTm.d))) (x4 := some (.int tn)) (x7 := x7) (x8 := none) (x9 := x9) hk l1 ra ha hl
  refine ⟨some (.lst (row.map .int)), some (.int (qF k (rF row) (rF row) (gF k ts))), y7, a1, r1, ?_, q1.le (by omega)⟩
  have co := come_ok hk l1 ra ht hl
  have vc := v_come (S := potD cs a1 r1 :: R) (row := .lst (row.map .int)) (td := .lst (ts.map eTm.d)) .lst co.len .lst co.tl co.fit co.mul
  have fc := form_come (n := k) (ts := ts) (row := row) fun t htm => by
    obtain ⟨p, q, u, v, _⟩ := ht t htm
    exact ⟨by omega, by omega, by omega, by omega⟩
  have ca := come_abs ra ht hl
  have g2 : ((2 : Int) / (frmG k ts : Int)).natAbs ≤ 2 := Int.natAbs_ediv_le_natAbs 2 _
  have m := mok g2 ca
  have fB : oFld "by" (frmD k ts) (potD cs a1 r1 :: R) = .ok (.int (2 / (frmG k ts : Int))) (potD cs a1 r1 :: R) := rfl
  have fc2 : qF k (rF row) (rF row) (gF k ts) = 2 / (frmG k ts : Int) * comeI row ts := fc
  unfold turnB
  refine seq_ok (env' := [some (.hnd 0), some (.int ((k : Int) + 1)), some (.lst (ts.map eTm.d)), some (frmD k ts), some (.int tn), some (.lst (row.map .int)), x6, x7, none, x9]) (S' := potD cs a1 r1 :: R) (by rw [ev_set, e1]; simp only [Den.R.bind_ok, List.set_cons_succ, List.set_cons_zero]) ?_
  refine seq_ok (env' := [some (.hnd 0), some (.int ((k : Int) + 1)), some (.lst (ts.map eTm.d)), some (frmD k ts), some (.int tn), some (.lst (row.map .int)), some (.int 0), x7, none, x9]) (S' := potD cs a1 r1 :: R) (by rw [ev_set, ev_c]; simp only [Den.R.bind_ok, List.set_cons_succ, List.set_cons_zero]) ?_
  generalize atB = B at fa
  refine seq_ok (env' := [some (.hnd 0), some (.int ((k : Int) + 1)), some (.lst (ts.map eTm.d)), some (frmD k ts), some (.int tn), some (.lst (row.map .int)), some (.int (qF k (rF row) (rF row) (gF k ts))), y7, none, x9]) (S' := potD cs a1 r1 :: R) (by rw [ev_for, ev_rng1]; simp only [ev_cons, ev_nil, ev_bin, ev_varS, ev_var0, ev_c, Den.R.bind_ok, Den.sub_int, ek, ir, guardR_true, Int.toNat_natCast]; exact fa) ?_
  simp [fB, vc, m, fc2]
theorem forL_int {γ : TGt} {ψ : TSt} {N : Nat} {I : En → Sd → Nat → Prop} : ∀ {ds : List D} {env : En} {S : Sd} {n : Nat}, n + ds.length ≤ N → I env S n → (∀ d ∈ ds, ∀ env S n, n < N → I env S n → ∃ env1 env2 S2, γ d env S = .ok env1 S ∧ ψ env1 S = .ok (.nx env2) S2 ∧ I env2 S2 (n + 1)) → ∃ env' S', forL γ ψ anyS ds env S = .ok (.nx env') S' ∧ I env' S' (n + ds.length)
  | [], env, S, n, hN, h0, hs => ⟨env, S, rfl, h0⟩
  | d :: ds, env, S, n, hN, h0, hs => by
    rw [List.length_cons] at hN
    obtain ⟨env1, env2, S2, h1, h2, h3⟩ := hs d List.mem_cons_self env S n (by omega) h0
    obtain ⟨env', S', e, q⟩ := forL_int (ds := ds) (by omega) h3 fun d hd => hs d (List.mem_cons_of_mem _ hd)
    refine ⟨env', S', ?_, by rw [List.length_cons, show n + (ds.length + 1) = n + 1 + ds.length by omega]; exact q⟩
    rw [forL_cons rfl, h1]
    simp only [Den.R.bind_ok, h2]
    exact e
theorem v_lform {cs : List Int} {a r : Int} {n k : Nat} {ts : List NTm} (h : Pv cs a r n) (hn : n + 60 < 60000) (h2 : 2 ≤ k) (h6 : k ≤ 6) (ne : ts ≠ []) (hl : ts.length ≤ 12) (ht : ∀ t ∈ ts, TmP (k + 1) t) :
    ∃ a' r', F__law_form_right [.hnd 0, .int ((k : Int) + 1), .lst (ts.map eTm.d)] (potD cs a r :: R) = .ok (.bl true) (potD cs a' r' :: R) ∧ Pv cs a' r' (n + 60) := by
  have in6 : ∀ t ∈ ts, In6 t.2.1 ∧ In6 t.2.2 := fun t htm => by
    obtain ⟨x1, x2, x3, x4, _⟩ := ht t htm
    exact ⟨⟨by omega, by omega⟩, by omega, by omega⟩
  have pin := pins_le ne fun t htm => (ht t htm).n
  have s1 := fun (S : Sd) => v_say (S := S) (d := .lst (ts.map eTm.d)) (n := 0) .lst in6 ne hl (show Wd3 "just" from .inr (.inr rfl))
  have s2 := fun (S : Sd) => v_say (S := S) (d := .lst (ts.map eTm.d)) (n := 5) .lst in6 ne hl (show Wd3 "above" from .inl rfl)
  have vf : ∀ (S : Sd) (wd : String) (m : Int), F_Saying_form [syD ts wd m, .int ((k : Int) + 1)] S = .ok (frmD k ts) S := fun S wd m => v_form h2 h6 (by omega) fun t htm => by
    obtain ⟨p, q, u, v, _⟩ := ht t htm
    exact ⟨by omega, by omega, by omega, by omega⟩
  obtain ⟨env', S', fl, a', r', hS, hP, x4, x5, x6, x7, hE⟩ := forL_int (N := 4) (γ := tName 4) (ψ := turnB) (I := fun env S m => ∃ a' r', S = potD cs a' r' :: R ∧ Pv cs a' r' (n + 10 * m) ∧ ∃ x4 x5 x6 x7, env = [some (.hnd 0), some (.int ((k : Int) + 1)), some (.lst (ts.map eTm.d)), some (frmD k ts), x4, x5, x6, x7, none, none]) (ds := rng 0 4) (n := 0) (env := [some (.hnd 0), some (.int ((k : Int) + 1)), some (.lst (ts.map eTm.d)), some (frmD k ts), none, none, none, none, none, none]) (S := potD cs a r :: R) (by decide) ⟨a, r, rfl, h, none, none, none, none, rfl⟩ (by
      intro d hd env S m hm ⟨a1, r1, hS, hP, x4, x5, x6, x7, hE⟩
      subst hS hE
      obtain ⟨tn, rfl⟩ : ∃ tn, d = .int tn := by
        rw [rng_map] at hd
        obtain ⟨i, _, rfl⟩ := List.mem_map.mp hd
        exact ⟨_, rfl⟩
      obtain ⟨y5, y6, y7, a2, r2, e, q⟩ := frm_turn (R := R) (tn := tn) (x5 := x5) (x6 := x6) (x7 := x7) (x9 := none) hP (by omega) h6 ht hl
      exact ⟨_, _, _, rfl, e, a2, r2, rfl, q.le (by omega), some (.int tn), y5, y6, y7, rfl⟩)
  subst hS hE
  refine ⟨a', r', ?_, hP.le (by have : (rng 0 4).length = 4 := rfl; omega)⟩
  have me : ∀ (F : Fn) (S : Sd) (wd : String) (m : Int), methOf [("Saying", F)] "form" (syD ts wd m) S = some F := fun F S wd m => sayings_me
  have iC : ∀ S : Sd, oIso ["Chart"] (frmD k ts) S = .ok (.bl true) S := fun S => rfl
  have fP : ∀ S : Sd, oFld "pins" (frmD k ts) S = .ok (.int ((k : Int) + 1)) S := fun S => rfl
  have ce : ∀ S : Sd, oEqN true eqs44 (frmD k ts) (frmD k ts) S = .ok (.bl false) S := fun S => by
    have := v_ch_eq (S := S) (neg := true) (rs := chR (tabF k (frmF ts)) (frmG k ts)) (qs := chR (tabF k (frmF ts)) (frmG k ts)) (b := 2 / (frmG k ts : Nat)) (c := 2 / (frmG k ts : Nat)) (m := k + 1) (n := k + 1)
    simp at this
    exact this
  have r4 : inRng 4 = true := by decide
  simp only [F__law_form_right, p__law_form_right, fn_eq]
  rw [show startE 10 [.hnd 0, .int ((k : Int) + 1), .lst (ts.map eTm.d)] = [some (.hnd 0), some (.int ((k : Int) + 1)), some (.lst (ts.map eTm.d)), none, none, none, none, none, none, none] from rfl]
  refine run_seq (env' := [some (.hnd 0), some (.int ((k : Int) + 1)), some (.lst (ts.map eTm.d)), some (frmD k ts), none, none, none, none, none, none]) (S' := potD cs a r :: R) (by simp [s1, me, vf]) ?_
  refine run_if (S' := potD cs a r :: R) (by simp [iC, fP, s2, me, gd_Saying_form_0_pins, vf, ce]) ?_
  refine run_seq (env' := [some (.hnd 0), some (.int ((k : Int) + 1)), some (.lst (ts.map eTm.d)), some (frmD k ts), x4, x5, x6, x7, none, none]) (S' := potD cs a' r' :: R) (by
    rw [ev_for, ev_rng1]
    simp only [ev_cons, ev_nil, ev_c, Den.R.bind_ok, r4, guardR_true]
    exact fl) ?_
  refine run_ret (d := .bl true) (S' := potD cs a' r' :: R) (by simp) ?_
  exact ex_ok rfl
end
end G44

namespace G44
open PySem PySem.Spec PyProof.Rows L2 Den
section
variable {R : Sd}

theorem above_is {x : Int} : decide ("above" = wordF x) = decide (0 < x) := by
  rw [word_so (.inl rfl)]
  rfl
theorem just_is {x : Int} : decide ("just" = wordF x) = decide (x = 0) := by
  rw [word_so (.inr (.inr rfl))]
  rfl
theorem v_lwords {cs : List Int} {a r : Int} {n k : Nat} (h : Pv cs a r n) (hn : n + 200 < 60000) (h2 : 2 ≤ k) (h6 : k ≤ 6) :
    ∃ a' r', F__law_words_right [.hnd 0, .int ((k : Int) + 1)] (potD cs a r :: R) = .ok (.bl true) (potD cs a' r' :: R) ∧ Pv cs a' r' (n + 200) := by
  obtain ⟨s, a1, r1, e1, s1, s2, q1⟩ := v_lstep (R := R) (p := k + 1) h (by omega) (by omega) (by omega)
  obtain ⟨u, a2, r2, e2, u1, u2, q2⟩ := v_lstep (R := R) (p := k + 1) q1 (by omega) (by omega) (by omega)
  rw [show ((k + 1 : Nat) : Int) = (k : Int) + 1 from rfl] at e1 e2
  obtain ⟨rs, a3, r3, e3, rne, rl, rp, q3⟩ := v_lrows (R := R) (k := k) q2 (by omega) (by omega)
  obtain ⟨v1, a4, r4, e4, v10, v11, q4⟩ := v_dip (R := R) q3 (by omega) (m := 3) (by decide) (m_small (k := 3) (by decide))
  refine ⟨a4, r4, ?_, q4.le (by omega)⟩
  have bp : (0 : Int) < 1 + v1 := by omega
  have bb : (1 + v1).natAbs < 2 ^ 8000 := lt_pow (Nat.le_trans (show (1 + v1).natAbs ≤ 10 by omega) (by decide)) (by decide)
  generalize hb : 1 + v1 = b at bp bb
  have b10 : b.natAbs ≤ 10 := by omega
  obtain ⟨A, hA⟩ : ∃ A : List NTm, A = [(1, s, s), (-1, u, u)] := ⟨_, rfl⟩
  obtain ⟨B, hB⟩ : ∃ B : List NTm, B = [(1, s, u)] := ⟨_, rfl⟩
  have ec := fun S => v_lchart (S := S) rne rp h2 h6 (by omega : rs.length ≤ 100) bp bb
  have tA : ∀ t ∈ A, TmP (k + 1) t := fun t ht => by
    rw [hA] at ht
    simp only [List.mem_cons, List.not_mem_nil, or_false] at ht
    rcases ht with rfl | rfl
    · exact ⟨s1, s2, s1, s2, by show (1 : Int).natAbs ≤ _; decide⟩
    · exact ⟨u1, u2, u1, u2, by show (-1 : Int).natAbs ≤ _; decide⟩
  have tB : ∀ t ∈ B, TmP (k + 1) t := fun t ht => by
    rw [hB] at ht
    rw [List.mem_singleton.mp ht]
    exact ⟨s1, s2, u1, u2, by show (1 : Int).natAbs ≤ _; decide⟩
  have key : ∀ (ts : List NTm), ts ≠ [] → ts.length ≤ 12 → (∀ t ∈ ts, TmP (k + 1) t) → ∃ T : Int × Int, (∀ S : Sd, F__law_total [.lst (rs.map rwD), .int b, .lst (ts.map eTm.d)] S = .ok (.tup [.int T.1, .int T.2]) S) ∧ ∀ (S : Sd) (w : String), Wd3 w → F_Saying_holds [syD ts w 0, lchD rs k b] S = .ok (.bl (decide (w = wordF T.1))) S := fun ts ne hl ht => by
    refine ⟨lowI (totS rs ts) b, fun S => v_tot (S := S) (td := .lst (ts.map eTm.d)) .lst h6 rl rp ht hl bp bb, fun S w hw => ?_⟩
    have hpn : ∀ t ∈ ts, Pn (k + 1) t := fun t htm => (ht t htm).n
    have fv := fitV_ch rp rl bp bb (ts := ts) (fun t htm => ⟨(ht t htm).1, (ht t htm).2.1, (ht t htm).2.2.1, (ht t htm).2.2.2.1, lt_pow (Nat.le_trans (ht t htm).2.2.2.2 (by decide)) (by decide)⟩) hl
    have la := low_abs (n := totS rs ts) (d := b) (by omega)
    have := v_holds (S := S) (n := 0) fv (pins_le ne hpn) hw (lt_pow (show (0 : Int).natAbs ≤ 2 ^ 1000 from Nat.zero_le _) (by decide)) (by rw [val_ch bp hpn]; exact lt_pow (Nat.le_trans (show (lowI (totS rs ts) b).2.natAbs ≤ 10 by omega) (by decide)) (by decide))
    unfold holdsB at this
    rw [val_ch bp hpn, Int.zero_mul, Int.sub_zero] at this
    exact this
  obtain ⟨TA, totA, hoA⟩ := key A (by rw [hA]; simp) (by rw [hA]; simp) tA
  obtain ⟨TB, totB, hoB⟩ := key B (by rw [hB]; simp) (by rw [hB]; simp) tB
  have hoA := fun S => hoA S "above" (.inl rfl)
  have hoB := fun S => hoB S "just" (.inr (.inr rfl))
  simp only [above_is, just_is] at hoA hoB
  have is6 : In6 s := ⟨by omega, by omega⟩
  have iu6 : In6 u := ⟨by omega, by omega⟩
  have vl := fun (S : Sd) (x y : D) (hx : StV S x s) (hy : StV S y u) => v_longer (S := S) hx hy is6 iu6
  have vr := fun (S : Sd) => v_right (S := S) (x := eS.d s) (y := eS.d u) .tup .tup is6 iu6
  have in6A : ∀ t ∈ A, In6 t.2.1 ∧ In6 t.2.2 := fun t htm => by
    obtain ⟨x1, x2, x3, x4, _⟩ := tA t htm
    exact ⟨⟨by omega, by omega⟩, by omega, by omega⟩
  have in6B : ∀ t ∈ B, In6 t.2.1 ∧ In6 t.2.2 := fun t htm => by
    obtain ⟨x1, x2, x3, x4, _⟩ := tB t htm
    exact ⟨⟨by omega, by omega⟩, by omega, by omega⟩
  have sA := fun (S : Sd) => v_say (S := S) (d := .lst (A.map eTm.d)) (n := 0) .lst in6A (by rw [hA]; simp) (by rw [hA]; simp) (show Wd3 "above" from .inl rfl)
  have sB := fun (S : Sd) => v_say (S := S) (d := .lst (B.map eTm.d)) (n := 0) .lst in6B (by rw [hB]; simp) (by rw [hB]; simp) (show Wd3 "just" from .inr (.inr rfl))
  have eA : [D.tup [.int 1, eS.d s, eS.d s], .tup [.int (-1), eS.d u, eS.d u]] = A.map eTm.d := by rw [hA]; rfl
  have eB : [D.tup [.int 1, eS.d s, eS.d u]] = B.map eTm.d := by rw [hB]; rfl
  rw [← hA] at vl
  rw [← hB] at vr
  have vl1 : ∀ S : Sd, F_Saying_longer [.lst [.int (s.1 : Nat), .int (s.2 : Nat)], eS.d u] S = .ok (syD A "above" 0) S := fun S => vl S _ _ .lst .tup
  have vl2 : ∀ S : Sd, F_Saying_longer [eS.d s, eS.d u] S = .ok (syD A "above" 0) S := fun S => vl S _ _ .tup .tup
  have ol : ∀ S : Sd, oList [eS.d s] S = .ok (.lst [.int (s.1 : Nat), .int (s.2 : Nat)]) S := fun S => rfl
  have qA := fun (S : Sd) => v_sy_eq (S := S) (neg := true) (ts := A) (us := A) (u := "above") (v := "above") (m := 0) (n := 0) (.inl rfl) (.inl rfl)
  have qA2 := fun (S : Sd) => v_sy_eq (S := S) (neg := false) (ts := A) (us := A) (u := "above") (v := "above") (m := 0) (n := 0) (.inl rfl) (.inl rfl)
  have qB := fun (S : Sd) => v_sy_eq (S := S) (neg := true) (ts := B) (us := B) (u := "just") (v := "just") (m := 0) (n := 0) (.inr (.inr rfl)) (.inr (.inr rfl))
  simp at qA qA2 qB
  have lA : A.length ≤ sizeLine := by rw [hA]; exact (by decide : (2 : Nat) ≤ sizeLine)
  have lB : B.length ≤ sizeLine := by rw [hB]; exact (by decide : (1 : Nat) ≤ sizeLine)
  have z1 : (1 : Nat) ≤ sizeLine := by decide
  have z2 : (2 : Nat) ≤ sizeLine := by decide
  have z3 : (3 : Nat) ≤ sizeLine := by decide
  have t0' : ∀ x y : D, atI [x, y] 0 = some x := fun _ _ => rfl
  simp only [F__law_words_right, p__law_words_right, fn_eq]
  rw [show startE 9 [.hnd 0, .int ((k : Int) + 1)] = [some (.hnd 0), some (.int ((k : Int) + 1)), none, none, none, none, none, none, none] from rfl]

  refine run_seq (env' := [some (.hnd 0), some (.int ((k : Int) + 1)), some (eS.d s), some (eS.d u), none, none, none, none, none]) (S' := potD cs a2 r2 :: R) (by simp [e1, e2, z2]) ?_
  refine run_seq (env' := [some (.hnd 0), some (.int ((k : Int) + 1)), some (eS.d s), some (eS.d u), some (.lst (rs.map rwD)), some (.int b), none, none, none]) (S' := potD cs a4 r4 :: R) (by simp [e3, e4, hb, z2]) ?_
  refine run_seq (env' := [some (.hnd 0), some (.int ((k : Int) + 1)), some (eS.d s), some (eS.d u), some (.lst (rs.map rwD)), some (.int b), some (lchD rs k b), none, none]) (S' := potD cs a4 r4 :: R) (by simp [ec]) ?_
  refine run_seq (env' := [some (.hnd 0), some (.int ((k : Int) + 1)), some (eS.d s), some (eS.d u), some (.lst (rs.map rwD)), some (.int b), some (lchD rs k b), some (syD A "above" 0), some (syD B "just" 0)]) (S' := potD cs a4 r4 :: R) (by simp [ol, vl1, vr, gd_Saying_right_0_its_step, z2]) ?_
  refine run_if (S' := potD cs a4 r4 :: R) (by simp [z1, z2, z3, lA, lB, eA, eB, sA, sB, qA, qB]) ?_
  refine run_if (S' := potD cs a4 r4 :: R) (by simp [z1, z2, z3, lA, eA, sayings_me, hoA, totA, t0']) ?_
  refine run_ret (d := .bl true) (S' := potD cs a4 r4 :: R) (by simp [z1, z2, z3, lB, eB, sayings_me, hoB, totB, t0', gd_Saying_longer_0_its_step, vl2, qA2]) ?_
  exact ex_ok rfl
end
end G44

namespace G44
open PySem PySem.Spec PyProof.Rows L2 Den
section
variable {R : Sd}
theorem take12 {ds : List D} : Den.cutD ds none (some 12) = ds.take 12 := by
  unfold Den.cutD
  rw [show HT.sIx ds.length ds.length (some 12) = min 12 ds.length from HT.sIx_nat _ _ 12]
  show (ds.drop 0).take (min 12 ds.length - 0) = _
  rw [List.drop_zero, Nat.sub_zero]
  by_cases h : ds.length ≤ 12
  · rw [Nat.min_eq_right h, List.take_of_length_le (Nat.le_refl _), List.take_of_length_le h]
  · rw [Nat.min_eq_left (by omega)]
theorem mulL {ds : List D} {S : Sd} (h : ds.length ≤ 1000) : oMulT (.lst ds) (.int 12) S = .ok (.lst (List.replicate 12 ds).flatten) S := by
  have g : decide (-(2 ^ 63) ≤ (12 : Int) ∧ (12 : Int) < 2 ^ 63 ∧ ds.length * (12 : Int).toNat ≤ sizeLine) = true := decide_eq_true ⟨by decide, by decide, Nat.le_trans (Nat.mul_le_mul_right _ h) (by decide)⟩
  show guardR (decide (-(2 ^ 63) ≤ (12 : Int) ∧ (12 : Int) < 2 ^ 63 ∧ ds.length * (12 : Int).toNat ≤ sizeLine)) _ = _
  rw [g]
  rfl
noncomputable abbrev lawB : TSt := (sSeq (sSet 3 (xFn F__law_pick (xsCons (xVar 1) (xsCons (xLst (xsCons (xC (.int 4)) (xsCons (xC (.int 5)) (xsCons (xC (.int 7)) (xsCons (xC (.int 4)) (xsCons (xC (.int 3)) (xsCons (xC (.int 6)) xsNil))))))) xsNil))))
    (sSeq (sSet 4 (xFn F__law_terms (xsCons (xVar 1) (xsCons (xVar 3) xsNil))))
    (sSeq (sIf (cB (xBin (oEq (("Chart", F_Chart_eq) :: (("Saying", F_Saying_eq) :: []))) (xFn F__law_dip (xsCons (xVar 1) (xsCons (xC (.int 6)) xsNil))) (xC (.int 0)))) (sSeq (sSet 4 (xSl (xBin oAdd (xBin oAdd (xVar 4) (xLst (xsCons (xTup (xsCons (xBin oSub (xFn F__law_dip (xsCons (xVar 1) (xsCons (xBin oAdd (xBin oMulT (xC (.int 2)) (xBin oPow (xC (.int 10)) (xC (.int 9)))) (xC (.int 1))) xsNil))) (xBin oPow (xC (.int 10)) (xC (.int 9)))) (xsCons (xFn F__law_step (xsCons (xVar 1) (xsCons (xVar 3) xsNil))) (xsCons (xFn F__law_step (xsCons (xVar 1) (xsCons (xVar 3) xsNil))) xsNil)))) xsNil))) (xBin oMulT (xVar 4) (xC (.int 12)))) pNo (pAt (xC (.int 12)))))
    sNext) sNext)
    (sSeq (sSet 5 (xFn F__law_pick (xsCons (xVar 1) (xsCons (xLst (xsCons (xC (.int 0)) (xsCons (xC (.int 1)) (xsCons (xUn oNeg (xC (.int 1))) (xsCons (xC (.int 0)) (xsCons (xC (.int 2)) (xsCons (xBin oPow (xC (.int 10)) (xC (.int 40))) xsNil))))))) xsNil))))
    (sSeq (sIf (cOr (cNot (cTru (xFn F__law_told_right (xsCons (xVar 1) (xsCons (xVar 3) (xsCons (xVar 4) (xsCons (xVar 5) xsNil))))))) (cOr (cNot (cTru (xFn F__law_form_right (xsCons (xVar 1) (xsCons (xVar 3) (xsCons (xVar 4) xsNil)))))) (cNot (cTru (xFn F__law_words_right (xsCons (xVar 1) (xsCons (xVar 3) xsNil))))))) (sSeq (sRet (xC (.bl false)))
    sNext) sNext)
    sNext)))))
theorem law_turn {cs : List Int} {a r : Int} {n : Nat} {x0 x2 x3 x4 x5 : Option D} (h : Pv cs a r n) (hn : n + 1000 < 60000) :
    ∃ y3 y4 y5 a' r', lawB [x0, some (.hnd 0), x2, x3, x4, x5] (potD cs a r :: R) = .ok (.nx [x0, some (.hnd 0), x2, y3, y4, y5]) (potD cs a' r' :: R) ∧ Pv cs a' r' (n + 1000) := by
  obtain ⟨p0, a1, r1, e1, hp0, q1⟩ := v_pick (R := R) (xs := [.int 4, .int 5, .int 7, .int 4, .int 3, .int 6]) h (by omega) (by simp) (by simp)
  obtain ⟨k, rfl, h2, h6⟩ : ∃ k : Nat, p0 = .int ((k : Int) + 1) ∧ 2 ≤ k ∧ k ≤ 6 := by
    simp at hp0
    rcases hp0 with rfl | rfl | rfl | rfl | rfl | rfl
    · exact ⟨3, rfl, by decide, by decide⟩
    · exact ⟨4, rfl, by decide, by decide⟩
    · exact ⟨6, rfl, by decide, by decide⟩
    · exact ⟨3, rfl, by decide, by decide⟩
    · exact ⟨2, rfl, by decide, by decide⟩
    · exact ⟨5, rfl, by decide, by decide⟩
  obtain ⟨ts, a2, r2, e2, ne, tl, tp, q2⟩ := v_lterms (R := R) (p := k + 1) q1 (by omega) (by omega) (by omega)
  rw [show ((k + 1 : Nat) : Int) = (k : Int) + 1 from rfl] at e2
  obtain ⟨v, a3, r3, e3, v0, v1, q3⟩ := v_dip (R := R) q2 (by omega) (m := 6) (by decide) (m_small (k := 6) (by decide))
  have z6 : (6 : Nat) ≤ sizeLine := by decide
  have z1 : (1 : Nat) ≤ sizeLine := by decide
  have z3 : (3 : Nat) ≤ sizeLine := by decide
  have p9 : (Builtin.Int.intBits 10 : Int) * 9 ≤ 134217728 := pw_ok (i := 10) (k := 9) (a := 4) (by decide) (by decide)
  have p40 : (Builtin.Int.intBits 10 : Int) * 40 ≤ 134217728 := pw_ok (i := 10) (k := 40) (a := 4) (by decide) (by decide)
  have m9 : mulOkX 2 1000000000 = true := mok (a := 2) (b := 1000000000) (by decide) (by decide)
  /- the third statement -/
  obtain ⟨us, a4, r4, e4, une, ul, up, q4⟩ : ∃ (us : List NTm) (a4 r4 : Int), (sIf (cB (xBin (oEq (("Chart", F_Chart_eq) :: (("Saying", F_Saying_eq) :: []))) (xFn F__law_dip (xsCons (xVar 1) (xsCons (xC (.int 6)) xsNil))) (xC (.int 0)))) (sSeq (sSet 4 (xSl (xBin oAdd (xBin oAdd (xVar 4) (xLst (xsCons (xTup (xsCons (xBin oSub (xFn F__law_dip (xsCons (xVar 1) (xsCons (xBin oAdd (xBin oMulT (xC (.int 2)) (xBin oPow (xC (.int 10)) (xC (.int 9)))) (xC (.int 1))) xsNil))) (xBin oPow (xC (.int 10)) (xC (.int 9)))) (xsCons (xFn F__law_step (xsCons (xVar 1) (xsCons (xVar 3) xsNil))) (xsCons (xFn F__law_step (xsCons (xVar 1) (xsCons (xVar 3) xsNil))) xsNil)))) xsNil))) (xBin oMulT (xVar 4) (xC (.int 12)))) pNo (pAt (xC (.int 12)))))
    sNext) sNext) [x0, some (.hnd 0), x2, some (.int ((k : Int) + 1)), some (.lst (ts.map eTm.d)), x5] (potD cs a2 r2 :: R) = .ok (.nx [x0, some (.hnd 0), x2, some (.int ((k : Int) + 1)), some (.lst (us.map eTm.d)), x5]) (potD cs a4 r4 :: R) ∧ us ≠ [] ∧ us.length ≤ 12 ∧ (∀ t ∈ us, TmP (k + 1) t) ∧ Pv cs a4 r4 (n + 100) := by
    by_cases hv : v = 0
    · obtain ⟨w, b1, t1, f1, w0, w1, g1⟩ := v_dip (R := R) q3 (by omega) (m := 2000000001) (by decide) (m_small (k := 2000000001) (by decide))
      obtain ⟨s, b2, t2, f2, s1, s2, g2⟩ := v_lstep (R := R) (p := k + 1) g1 (by omega) (by omega) (by omega)
      obtain ⟨u, b3, t3, f3, u1, u2, g3⟩ := v_lstep (R := R) (p := k + 1) g2 (by omega) (by omega) (by omega)
      rw [show ((k + 1 : Nat) : Int) = (k : Int) + 1 from rfl] at f2 f3
      have et : D.tup [.int (w - 1000000000), eS.d s, eS.d u] = eTm.d (w - 1000000000, s, u) := rfl
      have ml := fun S => mulL (ds := ts.map eTm.d) (S := S) (by rw [List.length_map]; omega)
      have l1 : ts.length + 1 ≤ sizeLine := sz (show ts.length + 1 ≤ 10 by omega)
      have l2 : ts.length + 1 + 12 * ts.length ≤ sizeLine := sz (show ts.length + 1 + 12 * ts.length ≤ 100 by omega)
      have ef : (List.replicate 12 (ts.map eTm.d)).flatten = ((List.replicate 12 ts).flatten).map eTm.d := by
        rw [List.map_flatten, List.map_replicate]
      have lf : ((List.replicate 12 ts).flatten).length = 12 * ts.length := by
        rw [List.length_flatten, List.map_replicate, List.sum_replicate_nat]
      refine ⟨(ts ++ ((w - 1000000000, s, u) :: (List.replicate 12 ts).flatten)).take 12, b3, t3, ?_, ?_, ?_, ?_, g3.le (by omega)⟩
      · have os : ∀ (ds : List D) (S : Sd), oSl (.lst ds) none (some 12) S = .ok (.lst (ds.take 12)) S := fun ds S => by
          show Den.R.ok (D.lst (Den.cutD ds none (some 12))) S = _
          rw [take12]
        have lf2 : ((List.replicate 12 (ts.map eTm.d)).flatten).length = 12 * ts.length := by rw [ef, List.length_map, lf]
        generalize hF : (List.replicate 12 (ts.map eTm.d)).flatten = Fl at *
        simp only [ev_if, ev_cB, ev_bin, ev_fn, ev_cons, ev_nil, ev_varS, ev_var0, ev_c, Den.R.bind_ok, e3, Den.eq_int, hv, decide_true, blR_bl, if_true, ev_seq, ev_set, ev_sl, ev_lst, ev_tup, ev_pno, ev_pat]
        simp [p9, m9, f1, f2, f3, z1, z3, et, l1, ml, lf2, l2, os]
        rw [ef]
        simp
      · intro z
        cases hts : ts with
        | nil => exact ne hts
        | cons t tr => rw [hts] at z; cases z
      · rw [List.length_take]; omega
      · intro t ht
        have ht := List.mem_of_mem_take ht
        rcases List.mem_append.mp ht with ht | ht
        · exact tp t ht
        · rcases List.mem_cons.mp ht with rfl | ht
          · exact ⟨s1, s2, u1, u2, by show (w - 1000000000).natAbs ≤ _; omega⟩
          · obtain ⟨l, hl, ht⟩ := List.mem_flatten.mp ht
            rw [(List.mem_replicate.mp hl).2] at ht
            exact tp t ht
    · refine ⟨ts, a3, r3, ?_, ne, by omega, tp, q3.le (by omega)⟩
      simp [e3, hv]
  obtain ⟨n0, a5, r5, e5, hn0, q5⟩ := v_pick (R := R) (xs := [.int 0, .int 1, .int (-1), .int 0, .int 2, .int 10000000000000000000000000000000000000000]) q4 (by omega) (by simp) (by simp)
  obtain ⟨num, rfl, hnum⟩ : ∃ num : Int, n0 = .int num ∧ num.natAbs ≤ 10 ^ 40 := by
    simp at hn0
    rcases hn0 with rfl | rfl | rfl | rfl | rfl | rfl
    all_goals exact ⟨_, rfl, by decide⟩
  obtain ⟨a6, r6, e6, q6⟩ := v_ltold (R := R) q5 (by omega) h2 h6 une ul up hnum
  obtain ⟨a7, r7, e7, q7⟩ := v_lform (R := R) q6 (by omega) h2 h6 une ul up
  obtain ⟨a8, r8, e8, q8⟩ := v_lwords (R := R) q7 (by omega) h2 h6
  refine ⟨some (.int ((k : Int) + 1)), some (.lst (us.map eTm.d)), some (.int num), a8, r8, ?_, q8.le (by omega)⟩
  unfold lawB
  refine seq_ok (env' := [x0, some (.hnd 0), x2, some (.int ((k : Int) + 1)), x4, x5]) (S' := potD cs a1 r1 :: R) (by simp [z6, e1]) ?_
  refine seq_ok (env' := [x0, some (.hnd 0), x2, some (.int ((k : Int) + 1)), some (.lst (ts.map eTm.d)), x5]) (S' := potD cs a2 r2 :: R) (by simp [e2]) ?_
  refine seq_ok e4 ?_
  refine seq_ok (env' := [x0, some (.hnd 0), x2, some (.int ((k : Int) + 1)), some (.lst (us.map eTm.d)), some (.int num)]) (S' := potD cs a5 r5 :: R) (by simp [z6, p40, e5]) ?_
  simp [e6, e7, e8]
theorem law_true (ns : List Int) (hl : ns.length ≤ 63) (hb : ∀ z ∈ ns, Builtin.Int.intBits z ≤ 1048576) : ∃ S, F_law [.scr ns] [] = .ok (.bl true) S := by
  have h0 : Pv (ns.take 60) 0 0 0 := ⟨by rw [List.length_take]; omega, by omega, by omega, by omega, fun c hc => nat_of_bits (hb c (List.mem_of_mem_take hc))⟩
  obtain ⟨env', S', fl, a', r', hS, hP, x2, x3, x4, x5, hE⟩ := forL_int (N := 3) (γ := tName 2) (ψ := lawB) (I := fun env S m => ∃ a' r', S = [potD (ns.take 60) a' r'] ∧ Pv (ns.take 60) a' r' (1000 * m) ∧ ∃ x2 x3 x4 x5, env = [some (.scr ns), some (.hnd 0), x2, x3, x4, x5]) (ds := rng 0 3) (n := 0) (env := [some (.scr ns), some (.hnd 0), none, none, none, none]) (S := [potD (ns.take 60) 0 0]) (by decide) ⟨0, 0, rfl, h0, none, none, none, none, rfl⟩ (by
      intro d hd env S m hm ⟨a1, r1, hS, hP, x2, x3, x4, x5, hE⟩
      subst hS hE
      obtain ⟨y3, y4, y5, a2, r2, e, q⟩ := law_turn (R := []) (x0 := some (.scr ns)) (x2 := some d) (x3 := x3) (x4 := x4) (x5 := x5) hP (by omega)
      exact ⟨_, _, _, rfl, e, a2, r2, rfl, q.le (by omega), some d, y3, y4, y5, rfl⟩)
  subst hS hE
  refine ⟨[potD (ns.take 60) a' r'], ?_⟩
  have vp := v_pot (ns := ns) hl
  have r3 : inRng 3 = true := by decide
  show fnOfK 6 p_law [.scr ns] [] = _
  unfold fnOfK
  simp only [p_law]
  rw [show startE 6 [.scr ns] = [some (.scr ns), none, none, none, none, none] from rfl, ev_seq, ev_set]
  simp only [ev_fn, ev_cons, ev_nil, ev_var0, Den.R.bind_ok, vp, List.set_cons_succ, List.set_cons_zero]
  rw [ev_seq, ev_for, ev_rng1]
  simp only [ev_cons, ev_nil, ev_c, Den.R.bind_ok, r3, guardR_true]
  rw [show ((3 : Int)).toNat = 3 from rfl]
  refine Eq.trans (congrArg (fun x => outR (Den.R.bind x _)) fl) ?_
  simp
end
end G44

namespace G44
open PySem PySem.Spec PyProof.Rows L2 Den
abbrev R : PySem.W.OpenRow := PySem.W.OpenLaw.row PySem.Challenge.rw_farseen_k44_sayings_made_and_kept
abbrev hk : PySem.W.Hook := hookZ 5 faL fnL tsL tfL exB
def oba (s : PySem.W.SharedT) := withK 5 (HandSHeadRun.getT s) (fun K => faL.all fun f => f.ok K)
def obb (s : PySem.W.SharedT) := withK 5 (HandSHeadRun.getT s) (fun K => fnL.all fun d => d.ok K)
def obc (s : PySem.W.SharedT) := withK 5 (HandSHeadRun.getT s) (fun K => fnL.map fun d => He5.fnA K (d.at_ K))
def obd (s : PySem.W.SharedT) := withK 5 (HandSHeadRun.getT s) (fun K => tsL.map fun t => He.dicW K (t.1 K))
def obe (s : PySem.W.SharedT) := withK 5 (HandSHeadRun.getT s) (fun K => exB K && He.tabsB (HandSHeadRun.getT s) tfL K)
def ob (s : PySem.W.SharedT) : AlZ := (((oba s && obb s, obc s), obd s), obe s)
theorem ob_eq (s : PySem.W.SharedT) : ob s = hk.obs s.abs := by
  refine Eq.trans ?_ (obsZ_eq (HandSHeadRun.getT_eq s))
  unfold ob oba obb obc obd obe
  rw [withK_eq, withK_eq, withK_eq, withK_eq, withK_eq] <;> rfl
def nmL0 : List Str := ["_wall", "SeenError", "BadNumber", "BadChart", "BadSaying", "Misfit", "Missing", "NoPin", "TooMany", "BadText", "is_integer", "is_within", "is_list", "are_integers", "common_divisor", "lowest", "check_pin", "check_step", "_are_chart_rows", "Chart", "_told", "product_in", "check_chart", "MOST_DIGITS", "items_of", "_is_written", "number_at", "WORDS", "OTHER_WAY", "MOST_TERMS"]
def nmL1 : List Str := ["LAST_PIN", "_is_step", "_is_term", "_check_steps", "Saying", "sum_in", "word_for", "saying_at", "_law_pot", "_law_dip", "_law_pick", "_law_divisor", "_law_low", "_law_step", "_law_terms", "_law_gone", "_law_rows", "_law_chart", "_law_come", "_law_total", "_law_is_so", "_law_kept_right", "_law_told_right", "_law_form_right", "_law_words_right"]
def nmL : List Str := nmL0 ++ nmL1
theorem map_l {α β γ : Type} {x : Option α} {f : α → β} {g : α → γ} {a : β} {b : γ} (h : x.map (fun y => (f y, g y)) = some (a, b)) : x.map f = some a := by
  cases x with
  | none => cases h
  | some y => rw [Option.map_some, Option.some.injEq, Prod.mk.injEq] at h; rw [Option.map_some, h.1]
theorem map_r {α β γ : Type} {x : Option α} {f : α → β} {g : α → γ} {a : β} {b : γ} (h : x.map (fun y => (f y, g y)) = some (a, b)) : x.map g = some b := by
  cases x with
  | none => cases h
  | some y => rw [Option.map_some, Option.some.injEq, Prod.mk.injEq] at h; rw [Option.map_some, h.2]
open PySem.W PySem.Calls HandSHeadRun in
theorem runksF (w : World) : (fun w => (wholeF (fun p => stepQ (denQ tabQ) p w) fenceQ 15000 R.prog).map (fun x => (looksF R.prog x.1.heap x.2.abs, seenQ (PySem.W.view R.prog [0, 63]) nmL (importedModules R.prog.main.body) (fun s => xlAt (PySem.W.view R.prog [0, 63]) [] s && recOk R.toRowW.records s) x.2.abs)) = some ((true, openGood (PySem.W.view R.prog [0, 63]) nmL))) (w.withFollow "special-get-raises" false) := by kernel_rfl
open PySem.W PySem.Calls HandSHeadRun in
theorem runksT (w : World) : (fun w => (wholeF (fun p => stepQ (denQ tabQ) p w) fenceQ 15000 R.prog).map (fun x => (looksF R.prog x.1.heap x.2.abs, seenQ (PySem.W.view R.prog [0, 63]) nmL (importedModules R.prog.main.body) (fun s => xlAt (PySem.W.view R.prog [0, 63]) [] s && recOk R.toRowW.records s) x.2.abs)) = some ((true, openGood (PySem.W.view R.prog [0, 63]) nmL))) (w.withFollow "special-get-raises" true) := by kernel_rfl
open PySem.W PySem.Calls HandSHeadRun in
theorem runks (w : World) : (wholeF (fun p => stepQ (denQ tabQ) p w) fenceQ 15000 R.prog).map (fun x => (looksF R.prog x.1.heap x.2.abs, seenQ (PySem.W.view R.prog [0, 63]) nmL (importedModules R.prog.main.body) (fun s => xlAt (PySem.W.view R.prog [0, 63]) [] s && recOk R.toRowW.records s) x.2.abs)) = some ((true, openGood (PySem.W.view R.prog [0, 63]) nmL)) := byRow2 "special-get-raises" (P := fun w => (wholeF (fun p => stepQ (denQ tabQ) p w) fenceQ 15000 R.prog).map (fun x => (looksF R.prog x.1.heap x.2.abs, seenQ (PySem.W.view R.prog [0, 63]) nmL (importedModules R.prog.main.body) (fun s => xlAt (PySem.W.view R.prog [0, 63]) [] s && recOk R.toRowW.records s) x.2.abs)) = some ((true, openGood (PySem.W.view R.prog [0, 63]) nmL))) runksF runksT w
open PySem.W PySem.Calls HandSHeadRun in
theorem runk (w : World) : (wholeF (fun p => stepQ (denQ tabQ) p w) fenceQ 15000 R.prog).map (fun x => looksF R.prog x.1.heap x.2.abs) = some (true) := map_l (runks w)
open PySem.W PySem.Calls HandSHeadRun in
theorem runs (w : World) : (wholeF (fun p => stepQ (denQ tabQ) p w) fenceQ 15000 R.prog).map (fun x => seenQ (PySem.W.view R.prog [0, 63]) nmL (importedModules R.prog.main.body) (fun s => xlAt (PySem.W.view R.prog [0, 63]) [] s && recOk R.toRowW.records s) x.2.abs) = some (openGood (PySem.W.view R.prog [0, 63]) nmL) := map_r (runks w)
open PySem.W PySem.Calls HandSHeadRun in
theorem runaF (w : World) : (fun w => (wholeF (fun p => stepQ (denQ tabQ) p w) fenceQ 15000 R.prog).map (fun x => oba x.2) = some (true)) (w.withFollow "special-get-raises" false) := by kernel_rfl
open PySem.W PySem.Calls HandSHeadRun in
theorem runaT (w : World) : (fun w => (wholeF (fun p => stepQ (denQ tabQ) p w) fenceQ 15000 R.prog).map (fun x => oba x.2) = some (true)) (w.withFollow "special-get-raises" true) := by kernel_rfl
open PySem.W PySem.Calls HandSHeadRun in
theorem runa (w : World) : (wholeF (fun p => stepQ (denQ tabQ) p w) fenceQ 15000 R.prog).map (fun x => oba x.2) = some (true) := byRow2 "special-get-raises" (P := fun w => (wholeF (fun p => stepQ (denQ tabQ) p w) fenceQ 15000 R.prog).map (fun x => oba x.2) = some (true)) runaF runaT w
open PySem.W PySem.Calls HandSHeadRun in
theorem runbF (w : World) : (fun w => (wholeF (fun p => stepQ (denQ tabQ) p w) fenceQ 15000 R.prog).map (fun x => obb x.2) = some (true)) (w.withFollow "special-get-raises" false) := by kernel_rfl
open PySem.W PySem.Calls HandSHeadRun in
theorem runbT (w : World) : (fun w => (wholeF (fun p => stepQ (denQ tabQ) p w) fenceQ 15000 R.prog).map (fun x => obb x.2) = some (true)) (w.withFollow "special-get-raises" true) := by kernel_rfl
open PySem.W PySem.Calls HandSHeadRun in
theorem runb (w : World) : (wholeF (fun p => stepQ (denQ tabQ) p w) fenceQ 15000 R.prog).map (fun x => obb x.2) = some (true) := byRow2 "special-get-raises" (P := fun w => (wholeF (fun p => stepQ (denQ tabQ) p w) fenceQ 15000 R.prog).map (fun x => obb x.2) = some (true)) runbF runbT w
open PySem.W PySem.Calls HandSHeadRun in
theorem runcF (w : World) : (fun w => (wholeF (fun p => stepQ (denQ tabQ) p w) fenceQ 15000 R.prog).map (fun x => obc x.2) = some ((fnL.map He5.DefA.val))) (w.withFollow "special-get-raises" false) := by kernel_rfl
open PySem.W PySem.Calls HandSHeadRun in
theorem runcT (w : World) : (fun w => (wholeF (fun p => stepQ (denQ tabQ) p w) fenceQ 15000 R.prog).map (fun x => obc x.2) = some ((fnL.map He5.DefA.val))) (w.withFollow "special-get-raises" true) := by kernel_rfl
open PySem.W PySem.Calls HandSHeadRun in
theorem runc (w : World) : (wholeF (fun p => stepQ (denQ tabQ) p w) fenceQ 15000 R.prog).map (fun x => obc x.2) = some ((fnL.map He5.DefA.val)) := byRow2 "special-get-raises" (P := fun w => (wholeF (fun p => stepQ (denQ tabQ) p w) fenceQ 15000 R.prog).map (fun x => obc x.2) = some ((fnL.map He5.DefA.val))) runcF runcT w
open PySem.W PySem.Calls HandSHeadRun in
theorem rundeF (w : World) : (fun w => (wholeF (fun p => stepQ (denQ tabQ) p w) fenceQ 15000 R.prog).map (fun x => (obd x.2, obe x.2)) = some (((tsL.map fun t => some (He.keysIn w.params t.2)), true))) (w.withFollow "special-get-raises" false) := by kernel_rfl
open PySem.W PySem.Calls HandSHeadRun in
theorem rundeT (w : World) : (fun w => (wholeF (fun p => stepQ (denQ tabQ) p w) fenceQ 15000 R.prog).map (fun x => (obd x.2, obe x.2)) = some (((tsL.map fun t => some (He.keysIn w.params t.2)), true))) (w.withFollow "special-get-raises" true) := by kernel_rfl
open PySem.W PySem.Calls HandSHeadRun in
theorem runde (w : World) : (wholeF (fun p => stepQ (denQ tabQ) p w) fenceQ 15000 R.prog).map (fun x => (obd x.2, obe x.2)) = some (((tsL.map fun t => some (He.keysIn w.params t.2)), true)) := byRow2 "special-get-raises" (P := fun w => (wholeF (fun p => stepQ (denQ tabQ) p w) fenceQ 15000 R.prog).map (fun x => (obd x.2, obe x.2)) = some (((tsL.map fun t => some (He.keysIn w.params t.2)), true))) rundeF rundeT w
open PySem.W PySem.Calls HandSHeadRun in
theorem rund (w : World) : (wholeF (fun p => stepQ (denQ tabQ) p w) fenceQ 15000 R.prog).map (fun x => obd x.2) = some ((tsL.map fun t => some (He.keysIn w.params t.2))) := map_l (runde w)
open PySem.W PySem.Calls HandSHeadRun in
theorem rune (w : World) : (wholeF (fun p => stepQ (denQ tabQ) p w) fenceQ 15000 R.prog).map (fun x => obe x.2) = some (true) := map_r (runde w)
theorem run (w : World) : HandSHeadRun.RunEqI R (PySem.W.view R.prog [0, 63]) hk ob 15000 nmL w := by
  unfold HandSHeadRun.RunEqI
  exact map_two (runk w) (map_two (runs w) (map_two (map_two (map_two (map_and (runa w) (runb w)) (runc w)) (rund w)) (rune w)))
end G44

open PySem PySem.W PySem.Calls PyProof.Rows in
theorem PySem.Challenge.cw_farseen_k44_sayings_made_and_kept_holds : PySem.Challenge.rw_farseen_k44_sayings_made_and_kept.Holds := by
  w_on; o_law
  refine HandSHeadRun.head_imp (r := OpenLaw.row PySem.Challenge.rw_farseen_k44_sayings_made_and_kept) (q := view (OpenLaw.row PySem.Challenge.rw_farseen_k44_sayings_made_and_kept).prog [0, 63]) (H := G44.hk) (ob := G44.ob) (M := 15000) (loose := G44.nmL) (d := HandSHeadRun.topDef (OpenLaw.row PySem.Challenge.rw_farseen_k44_sayings_made_and_kept).prog 63) (kwd := []) G44.ob_eq
     G44.run (by kernel_rfl) (by kernel_rfl) (by kernel_rfl) (by rfl) (by first | assumption | decide +kernel) (by decide +kernel) ⟨rfl, rfl, rfl, rfl, rfl, by decide +kernel⟩ ?hw ?hc
  case hw => w_witness2
  case hc =>
    refine LamX.walk_ofTsE (l := PySem.Challenge.rw_farseen_k44_sayings_made_and_kept) (n := 63) (k := 12) (x := "_law_script") (CX := fun w => L2.CX (PySem.Challenge.rw_farseen_k44_sayings_made_and_kept).prog w) rfl (by decide) (by kernel_rfl) ⟨rfl, by decide, by decide⟩ ?F (fun w H s e s' z => Den.cx_no z)
    intro w mg fa h Y G hmg0
    obtain ⟨K, KX, c⟩ := Y
    have hmg : mg ("law" : PySem.Str) = some (.ref fa) := by
      have e : (HandSHeadRun.topDef (OpenLaw.row PySem.Challenge.rw_farseen_k44_sayings_made_and_kept).prog 63).name = ("law" : PySem.Str) := by kernel_rfl
      rw [← e]
      exact hmg0
    exact ⟨K, KX, G44.facts KX G hmg c G44.law_true⟩
