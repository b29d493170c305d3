import PyProof.Rows.All
import Wide.All
import OpenK.AllK
import Wide.FinOn
import HandS.ForMost
import HandS.Walk
import HandS.TupAny
import HandS.TupMul
import HandS.IsInst
import HandS.RaiseMore
import HandS.FStr
import HandS.Conv
import PyProof.ReprRoads
import KE.GoesEnum
import KE.GoesMore
import PyProof.EnumMake
import HandS.Iter
import PySem.Challenge.RW_latecharge_k10_texts_written
set_option Elab.async false
set_option linter.all false
set_option maxRecDepth 100000
/-! FW1: data as trees, how they lie in the abstract heap, the reader, the slots; a def's parts as plain functions. -/
namespace FW
open PySem PySem.Spec PyProof.Rows L2

inductive D where
  | non | bl (b : Bool) | int (i : Int) | str (s : Str) | tup (ds : List D) | lst (ds : List D)
deriving Inhabited

mutual
def Rp (K : PySem.W.Frag) (F : Hp) : D → V → Prop
  | .non, v => v = .non
  | .bl b, v => v = .bl b
  | .int i, v => v = .int i
  | .str s, v => v = .str s
  | .tup ds, v => ∃ a vs, v = .ref a ∧ SqT K F a vs ∧ Rps K F ds vs
  | .lst ds, v => ∃ a vs, v = .ref a ∧ F a = some (.lst vs) ∧ Rps K F ds vs
def Rps (K : PySem.W.Frag) (F : Hp) : List D → List V → Prop
  | [], vs => vs = []
  | d :: ds, vs => ∃ v r, vs = v :: r ∧ Rp K F d v ∧ Rps K F ds r
end

theorem sqT_mono {K : PySem.W.Frag} {F F' : Hp} {a : Addr} {xs : List V} (e : Same F F') (h : SqT K F a xs) : SqT K F' a xs := by
  rcases h with (h | ⟨o, h⟩) | h
  · exact .inl (.inl (e _ _ h))
  · exact .inl (.inr ⟨o, e _ _ h⟩)
  · exact .inr h
mutual
theorem Rp.mono {K : PySem.W.Frag} {F F' : Hp} (e : Same F F') : ∀ (d : D) (v : V), Rp K F d v → Rp K F' d v
  | .non, _, h => by simpa only [Rp] using h
  | .bl _, _, h => by simpa only [Rp] using h
  | .int _, _, h => by simpa only [Rp] using h
  | .str _, _, h => by simpa only [Rp] using h
  | .tup ds, v, h => by
    simp only [Rp] at h ⊢
    obtain ⟨a, vs, h1, h2, h3⟩ := h
    exact ⟨a, vs, h1, sqT_mono e h2, Rps.mono e ds vs h3⟩
  | .lst ds, v, h => by
    simp only [Rp] at h ⊢
    obtain ⟨a, vs, h1, h2, h3⟩ := h
    exact ⟨a, vs, h1, e _ _ h2, Rps.mono e ds vs h3⟩
theorem Rps.mono {K : PySem.W.Frag} {F F' : Hp} (e : Same F F') : ∀ (ds : List D) (vs : List V), Rps K F ds vs → Rps K F' ds vs
  | [], _, h => by simpa only [Rps] using h
  | d :: ds, vs, h => by
    simp only [Rps] at h ⊢
    obtain ⟨v, r, h1, h2, h3⟩ := h
    exact ⟨v, r, h1, Rp.mono e d v h2, Rps.mono e ds r h3⟩
end
theorem Rps.nil {K : PySem.W.Frag} {F : Hp} : Rps K F [] [] := by simp only [Rps]
theorem Rps.cons {K : PySem.W.Frag} {F : Hp} {d : D} {ds : List D} {v : V} {vs : List V} (h : Rp K F d v) (t : Rps K F ds vs) : Rps K F (d :: ds) (v :: vs) := by
  simp only [Rps]
  exact ⟨v, vs, rfl, h, t⟩
theorem Rps.length {K : PySem.W.Frag} {F : Hp} : ∀ {ds : List D} {vs : List V}, Rps K F ds vs → ds.length = vs.length
  | [], _, h => by
    simp only [Rps] at h
    rw [h]
    rfl
  | d :: ds, vs, h => by
    simp only [Rps] at h
    obtain ⟨v, r, rfl, _, h3⟩ := h
    rw [List.length_cons, List.length_cons, Rps.length h3]
theorem Rps.get {K : PySem.W.Frag} {F : Hp} : ∀ {ds : List D} {vs : List V} {i : Nat} {d : D}, Rps K F ds vs → ds[i]? = some d → ∃ v, vs[i]? = some v ∧ Rp K F d v
  | [], _, _, _, _, e => by simp at e
  | d :: ds, vs, 0, d', h, e => by
    simp only [Rps] at h
    obtain ⟨v, r, rfl, h2, _⟩ := h
    simp at e
    subst e
    exact ⟨v, rfl, h2⟩
  | d :: ds, vs, i + 1, d', h, e => by
    simp only [Rps] at h
    obtain ⟨v, r, rfl, _, h3⟩ := h
    obtain ⟨v', q1, q2⟩ := Rps.get (i := i) h3 (by simpa using e)
    exact ⟨v', by simpa using q1, q2⟩
theorem Rps.get' {K : PySem.W.Frag} {F : Hp} {ds : List D} {vs : List V} {i : Nat} {v : V} (h : Rps K F ds vs) (e : vs[i]? = some v) : ∃ d, ds[i]? = some d ∧ Rp K F d v := by
  have hi : i < ds.length := by
    rw [h.length]
    exact (List.getElem?_eq_some_iff.mp e).1
  obtain ⟨v', q1, q2⟩ := h.get (List.getElem?_eq_getElem hi)
  rw [e] at q1
  cases q1
  exact ⟨_, List.getElem?_eq_getElem hi, q2⟩
theorem Rps.append {K : PySem.W.Frag} {F : Hp} : ∀ {ds es : List D} {vs ws : List V}, Rps K F ds vs → Rps K F es ws → Rps K F (ds ++ es) (vs ++ ws)
  | [], es, vs, ws, h, h2 => by
    simp only [Rps] at h
    subst h
    exact h2
  | d :: ds, es, vs, ws, h, h2 => by
    simp only [Rps] at h
    obtain ⟨v, r, rfl, q1, q2⟩ := h
    exact Rps.cons q1 (Rps.append q2 h2)
theorem Rps.drop {K : PySem.W.Frag} {F : Hp} : ∀ {ds : List D} {vs : List V} (n : Nat), Rps K F ds vs → Rps K F (ds.drop n) (vs.drop n)
  | _, _, 0, h => h
  | [], vs, n + 1, h => by
    simp only [Rps] at h
    subst h
    exact Rps.nil
  | d :: ds, vs, n + 1, h => by
    simp only [Rps] at h
    obtain ⟨v, r, rfl, q1, q2⟩ := h
    exact Rps.drop n q2
theorem Rps.take {K : PySem.W.Frag} {F : Hp} : ∀ {ds : List D} {vs : List V} (n : Nat), Rps K F ds vs → Rps K F (ds.take n) (vs.take n)
  | _, _, 0, h => by
    rw [List.take_zero, List.take_zero]
    exact Rps.nil
  | [], vs, n + 1, h => by
    simp only [Rps] at h
    subst h
    exact Rps.nil
  | d :: ds, vs, n + 1, h => by
    simp only [Rps] at h
    obtain ⟨v, r, rfl, q1, q2⟩ := h
    exact Rps.cons q1 (Rps.take n q2)
theorem Rps.set {K : PySem.W.Frag} {F : Hp} {d : D} {v : V} (q : Rp K F d v) : ∀ {ds : List D} {vs : List V} (n : Nat), Rps K F ds vs → Rps K F (ds.set n d) (vs.set n v)
  | [], vs, n, h => by
    simp only [Rps] at h
    subst h
    exact Rps.nil
  | e :: ds, vs, 0, h => by
    simp only [Rps] at h
    obtain ⟨w, r, rfl, q1, q2⟩ := h
    exact Rps.cons q q2
  | e :: ds, vs, n + 1, h => by
    simp only [Rps] at h
    obtain ⟨w, r, rfl, q1, q2⟩ := h
    exact Rps.cons q1 (Rps.set q n q2)
theorem Rps.ints {K : PySem.W.Frag} {F : Hp} : ∀ {ns : List Int} {vs : List V}, Rps K F (ns.map D.int) vs → vs = ns.map V.int
  | [], vs, h => by simpa only [List.map_nil, Rps] using h
  | n :: ns, vs, h => by
    simp only [List.map_cons, Rps, Rp] at h
    obtain ⟨v, r, rfl, rfl, q⟩ := h
    rw [Rps.ints q]
    rfl
theorem Rps.strs {K : PySem.W.Frag} {F : Hp} : ∀ {ns : List Str} {vs : List V}, Rps K F (ns.map D.str) vs → vs = ns.map V.str
  | [], vs, h => by simpa only [List.map_nil, Rps] using h
  | n :: ns, vs, h => by
    simp only [List.map_cons, Rps, Rp] at h
    obtain ⟨v, r, rfl, rfl, q⟩ := h
    rw [Rps.strs q]
    rfl
theorem Rps.bls {K : PySem.W.Frag} {F : Hp} : ∀ {ns : List Bool} {vs : List V}, Rps K F (ns.map D.bl) vs → vs = ns.map V.bl
  | [], vs, h => by simpa only [List.map_nil, Rps] using h
  | n :: ns, vs, h => by
    simp only [List.map_cons, Rps, Rp] at h
    obtain ⟨v, r, rfl, rfl, q⟩ := h
    rw [Rps.bls q]
    rfl

/-! ### the reader of the script's numbers; steps of the heap -/
structure Rdr where
  cells : List Int
  ix : Int
  rest : Int
  cnt : Int
abbrev Ro := Option (Addr × Addr)

/-- F: what stands for good; H: all that is tracked. ro: the reader (its list, its cells), which alone may change -/
structure Stp (ro : Ro) (F H F' H' : Hp) : Prop where
  ff : Same F F'
  fh : Same F' H'
  hh : ∀ p o, H p = some o → (∀ c, ro ≠ some (p, c)) → H' p = some o
  hn : ∀ p, H' p = none → H p = none
  fz : ∀ p, H p ≠ none → F p = none → F' p = none
theorem Stp.refl {ro : Ro} {F H : Hp} (h : Same F H) : Stp ro F H F H := ⟨Same.refl _, h, fun _ _ q _ => q, fun _ q => q, fun _ _ q => q⟩
theorem Stp.trans {ro : Ro} {F H F1 H1 F2 H2 : Hp} (a : Stp ro F H F1 H1) (b : Stp ro F1 H1 F2 H2) : Stp ro F H F2 H2 :=
  ⟨a.ff.trans b.ff, b.fh, fun p o q n => b.hh p o (a.hh p o q n) n, fun p q => a.hn p (b.hn p q), fun p q n => b.fz p (fun z => q (a.hn p z)) (a.fz p q n)⟩
/-- only new things -/
structure Alc (F H F' H' : Hp) : Prop where
  ff : Same F F'
  fh : Same F' H'
  hh : Same H H'
  fz : ∀ p, H p ≠ none → F p = none → F' p = none
theorem Alc.refl {F H : Hp} (h : Same F H) : Alc F H F H := ⟨Same.refl _, h, Same.refl _, fun _ _ q => q⟩
theorem Alc.hn {F H F' H' : Hp} (a : Alc F H F' H') (p : Addr) (q : H' p = none) : H p = none := a.hh.free q
theorem Alc.trans {F H F1 H1 F2 H2 : Hp} (a : Alc F H F1 H1) (b : Alc F1 H1 F2 H2) : Alc F H F2 H2 :=
  ⟨a.ff.trans b.ff, b.fh, a.hh.trans b.hh, fun p q n => b.fz p (fun z => q (a.hn p z)) (a.fz p q n)⟩
theorem Alc.stp {ro : Ro} {F H F' H' : Hp} (a : Alc F H F' H') : Stp ro F H F' H' := ⟨a.ff, a.fh, fun p o q _ => a.hh p o q, fun p q => a.hn p q, a.fz⟩
theorem same_new {H : Hp} {p : Addr} {o : HO} (h : H p = none) : Same H (upd H p o) := fun b x e => by
  rw [upd_ne (ne_of_none e h)]
  exact e
theorem Alc.new {F H : Hp} {p : Addr} {o : HO} (h : Same F H) (hp : H p = none) : Alc F H (upd F p o) (upd H p o) := by
  have fp : F p = none := h.free hp
  refine ⟨same_new fp, fun b x e => ?_, same_new hp, fun q n z => ?_⟩
  · by_cases hb : b = p
    · subst hb
      rw [upd_same] at e ⊢
      exact e
    · rw [upd_ne hb] at e ⊢
      exact h b x e
  · by_cases hb : q = p
    · subst hb
      exact absurd hp n
    · rw [upd_ne hb]
      exact z

def RdOk (ro : Ro) (rd : Rdr) (F H : Hp) : Prop := match ro with
  | none => True
  | some (r, c) => F r = none ∧ H r = some (.lst [.ref c, .int rd.ix, .int rd.rest, .int rd.cnt]) ∧ F c = some (.lst (rd.cells.map V.int))
theorem RdOk.alc {ro : Ro} {rd : Rdr} {F H F' H' : Hp} (h : RdOk ro rd F H) (a : Alc F H F' H') : RdOk ro rd F' H' := by
  cases ro with
  | none => trivial
  | some rc =>
    obtain ⟨r, c⟩ := rc
    obtain ⟨h1, h2, h3⟩ := h
    exact ⟨a.fz r (by rw [h2]; exact fun z => by cases z) h1, a.hh _ _ h2, a.ff _ _ h3⟩

/-! ### slots -/
inductive SV where
  | un | val (d : D) | own (ds : List D) | rdr

def SlotOk (K : PySem.W.Frag) (ro : Ro) (H0 F H : Hp) : SV → Option V → Prop
  | .un, _ => True
  | .val d, o => ∃ v, o = some v ∧ Rp K F d v
  | .own ds, o => ∃ p vs, o = some (.ref p) ∧ F p = none ∧ H p = some (.lst vs) ∧ Rps K F ds vs ∧ H0 p = none ∧ (∀ c, ro ≠ some (p, c))
  | .rdr, o => ∃ r c, ro = some (r, c) ∧ o = some (.ref r)

structure EnvOk (K : PySem.W.Frag) (ro : Ro) (H0 F H : Hp) (env : List SV) (σ : L2.St) : Prop where
  len : env.length = σ.length
  ok : ∀ (i : Nat) (sv : SV), env[i]? = some sv → ∃ o : Option V, σ[i]? = some o ∧ SlotOk K ro H0 F H sv o
  sep : ∀ (i j : Nat) (ds es : List D) (p : Addr), i ≠ j → env[i]? = some (.own ds) → env[j]? = some (.own es) → σ[i]? = some (some (.ref p)) → σ[j]? ≠ some (some (.ref p))

structure SRel (K : PySem.W.Frag) (ro : Ro) (F0 H0 F : Hp) (env : List SV) (rd : Rdr) (σ : L2.St) (H : Hp) : Prop where
  st : Stp ro F0 H0 F H
  rd : RdOk ro rd F H
  env : EnvOk K ro H0 F H env σ
theorem SlotOk.step {K : PySem.W.Frag} {ro : Ro} {H0 F H F' H' : Hp} {sv : SV} {o : Option V} (h : SlotOk K ro H0 F H sv o) (a : Stp ro F H F' H') : SlotOk K ro H0 F' H' sv o := by
  cases sv with
  | un => trivial
  | val d =>
    obtain ⟨v, h1, h2⟩ := h
    exact ⟨v, h1, Rp.mono a.ff d v h2⟩
  | own ds =>
    obtain ⟨p, vs, h1, h2, h3, h4, h5, h6⟩ := h
    exact ⟨p, vs, h1, a.fz p (by rw [h3]; exact fun z => by cases z) h2, a.hh p _ h3 h6, Rps.mono a.ff ds vs h4, h5, h6⟩
  | rdr => exact h
theorem EnvOk.step {K : PySem.W.Frag} {ro : Ro} {H0 F H F' H' : Hp} {env : List SV} {σ : L2.St} (h : EnvOk K ro H0 F H env σ) (a : Stp ro F H F' H') : EnvOk K ro H0 F' H' env σ :=
  ⟨h.len, fun i sv e => by
    obtain ⟨o, q1, q2⟩ := h.ok i sv e
    exact ⟨o, q1, q2.step a⟩, h.sep⟩
theorem SRel.step {K : PySem.W.Frag} {ro : Ro} {F0 H0 F H F' H' : Hp} {env : List SV} {rd rd' : Rdr} {σ : L2.St} (h : SRel K ro F0 H0 F env rd σ H) (a : Stp ro F H F' H') (r : RdOk ro rd' F' H') : SRel K ro F0 H0 F' env rd' σ H' :=
  ⟨h.st.trans a, r, h.env.step a⟩
theorem SRel.val {K : PySem.W.Frag} {ro : Ro} {F0 H0 F H : Hp} {env : List SV} {rd : Rdr} {σ : L2.St} {i : Nat} {d : D} (h : SRel K ro F0 H0 F env rd σ H) (e : env[i]? = some (.val d)) : ∃ v, σ[i]? = some (some v) ∧ Rp K F d v := by
  obtain ⟨o, q1, v, rfl, q2⟩ := h.env.ok i _ e
  exact ⟨v, q1, q2⟩
/-- a slot takes a value -/
theorem EnvOk.set {K : PySem.W.Frag} {ro : Ro} {H0 F H : Hp} {env : List SV} {σ : L2.St} (h : EnvOk K ro H0 F H env σ) {i : Nat} {d : D} {v : V} (q : Rp K F d v) : EnvOk K ro H0 F H (env.set i (.val d)) (σ.set i (some v)) := by
  refine ⟨by rw [List.length_set, List.length_set, h.len], fun j sv e => ?_, fun j k ds es p hjk e1 e2 s1 => ?_⟩
  · by_cases hij : i = j
    · subst hij
      have hl : i < env.length := by
        have := (List.getElem?_eq_some_iff.mp e).1
        rwa [List.length_set] at this
      rw [List.getElem?_set_self hl] at e
      cases e
      exact ⟨some v, List.getElem?_set_self (by rw [← h.len]; exact hl), v, rfl, q⟩
    · rw [List.getElem?_set_ne hij] at e
      obtain ⟨o, q1, q2⟩ := h.ok j sv e
      exact ⟨o, by rw [List.getElem?_set_ne hij]; exact q1, q2⟩
  · have nj : i ≠ j := fun z => by
      subst z
      have hl : i < env.length := by
        have := (List.getElem?_eq_some_iff.mp e1).1
        rwa [List.length_set] at this
      rw [List.getElem?_set_self hl] at e1
      cases e1
    have nk : i ≠ k := fun z => by
      subst z
      have hl : i < env.length := by
        have := (List.getElem?_eq_some_iff.mp e2).1
        rwa [List.length_set] at this
      rw [List.getElem?_set_self hl] at e2
      cases e2
    rw [List.getElem?_set_ne nj] at e1 s1
    rw [List.getElem?_set_ne nk] at e2 ⊢
    exact h.sep j k ds es p hjk e1 e2 s1
theorem SRel.set {K : PySem.W.Frag} {ro : Ro} {F0 H0 F H : Hp} {env : List SV} {rd : Rdr} {σ : L2.St} (h : SRel K ro F0 H0 F env rd σ H) {i : Nat} {d : D} {v : V} (q : Rp K F d v) : SRel K ro F0 H0 F (env.set i (.val d)) rd (σ.set i (some v)) H :=
  ⟨h.st, h.rd, h.env.set q⟩

/-! ### readings made of plain functions -/
abbrev MM (α : Type) := List SV → Rdr → Option (α × Rdr)
inductive Fl where
  | nx (env : List SV) | ret (d : D) | brk (env : List SV) | ct (env : List SV)

def tM (K : PySem.W.Frag) (m : MM D) : TE := fun σ H Q => ∃ ro F0 H0 F env rd d rd', SRel K ro F0 H0 F env rd σ H ∧ m env rd = some (d, rd') ∧
  ∀ v F' H', Stp ro F H F' H' → RdOk ro rd' F' H' → Rp K F' d v → Q v H'
def tMT (K : PySem.W.Frag) (m : MM Bool) : TT := fun σ H Q => ∃ ro F0 H0 F env rd b rd', SRel K ro F0 H0 F env rd σ H ∧ m env rd = some (b, rd') ∧
  ∀ F' H', Stp ro F H F' H' → RdOk ro rd' F' H' → Q b H'
def tMA (K : PySem.W.Frag) (m : MM (List D)) : TA := fun σ H Q => ∃ ro F0 H0 F env rd ds rd', SRel K ro F0 H0 F env rd σ H ∧ m env rd = some (ds, rd') ∧
  ∀ vs F' H', Stp ro F H F' H' → RdOk ro rd' F' H' → Rps K F' ds vs → Q vs H'
def flEnd (K : PySem.W.Frag) (ro : Ro) (F0 H0 : Hp) (rd : Rdr) (D : Ends) : Fl → Prop
  | .nx env => ∀ σ F H, SRel K ro F0 H0 F env rd σ H → D.nx σ H
  | .brk env => ∀ σ F H, SRel K ro F0 H0 F env rd σ H → D.bk σ H
  | .ct env => ∀ σ F H, SRel K ro F0 H0 F env rd σ H → D.ct σ H
  | .ret d => ∀ v F H, Stp ro F0 H0 F H → RdOk ro rd F H → Rp K F d v → D.rt v H
def tMS (K : PySem.W.Frag) (m : MM Fl) : TS := fun D σ H => ∃ ro F0 H0 F env rd fl rd', SRel K ro F0 H0 F env rd σ H ∧ m env rd = some (fl, rd') ∧ flEnd K ro F0 H0 rd' D fl

section
variable {X : Cx}
theorem pe_imp {e : Expr} {t t' : TE} (h : PE X e t) (f : ∀ σ H Q, t' σ H Q → t σ H Q) : PE X e t' := ⟨fun pins s σ H Q I q => h.run pins s σ H Q I (f _ _ _ q)⟩
theorem pt_imp {e : Expr} {t t' : TT} (h : PT X e t) (f : ∀ σ H Q, t' σ H Q → t σ H Q) : PT X e t' := ⟨fun pins s σ H Q I q => h.run pins s σ H Q I (f _ _ _ q)⟩
theorem pw_imp {e : Expr} {t t' : TT} (h : PW X e t) (f : ∀ σ H Q, t' σ H Q → t σ H Q) : PW X e t' := ⟨fun wh pins s σ H Q I q => h.run wh pins s σ H Q I (f _ _ _ q)⟩
theorem pa_imp {es : List Expr} {t t' : TA} (h : PA X es t) (f : ∀ σ H Q, t' σ H Q → t σ H Q) : PA X es t' := ⟨fun pos pins s σ H Q I q => h.run pos pins s σ H Q I (f _ _ _ q)⟩
theorem ps_imp {st : Stmt} {t t' : TS} (h : PS X st t) (f : ∀ D σ H, t' D σ H → t D σ H) : PS X st t' := ⟨fun pins s σ H D I q => h.run pins s σ H D I (f _ _ _ q)⟩
theorem pss_imp {st : List Stmt} {t t' : TS} (h : PSs X st t) (f : ∀ D σ H, t' D σ H → t D σ H) : PSs X st t' := ⟨fun pins s σ H D I q => h.run pins s σ H D I (f _ _ _ q)⟩
abbrev PM (X : Cx) (e : Expr) (m : MM D) : Prop := PE X e (tM X.K m)
abbrev PMT (X : Cx) (e : Expr) (m : MM Bool) : Prop := PT X e (tMT X.K m)
abbrev PMW (X : Cx) (e : Expr) (m : MM Bool) : Prop := PW X e (tMT X.K m)
abbrev PMA (X : Cx) (es : List Expr) (m : MM (List D)) : Prop := PA X es (tMA X.K m)
abbrev PMS (X : Cx) (st : Stmt) (m : MM Fl) : Prop := PS X st (tMS X.K m)
abbrev PMSs (X : Cx) (st : List Stmt) (m : MM Fl) : Prop := PSs X st (tMS X.K m)

/-! ### names, constants -/
def eVar (i : Nat) : MM D := fun env rd => match env[i]? with
  | some (.val d) => some (d, rd)
  | _ => none
def eC (d : D) : MM D := fun _ rd => some (d, rd)
theorem pm_of_var {e : Expr} {i : Nat} (h : PE X e (tVar i)) : PM X e (eVar i) := pe_imp h fun σ H Q ⟨ro, F0, H0, F, env, rd, d, rd', hS, hm, q⟩ => by
  unfold eVar at hm
  split at hm
  · rename_i d' e1
    cases hm
    obtain ⟨v, s1, r1⟩ := hS.val e1
    exact ⟨v, s1, q v F H (Stp.refl hS.st.fh) hS.rd r1⟩
  · cases hm
theorem pmv (i : Nat) {x : Str} {pos : Pos} (hN : X.N[i]? = some x := by rfl) (hv : Vis X.env.scope x := by first | exact Or.inl rfl | exact Or.inr (Or.inl rfl) | exact Or.inr (Or.inr rfl)) (hd : (x == ("__debug__" : Str)) = false := by decide)
    (hcd : (x == ("__classdict__" : Str)) = false := by decide) : PM X (.Name x pos) (eVar i) := pm_of_var (pe_var hN hv hd hcd)
theorem pm_of_C {e : Expr} {v : V} {d : D} (h : PE X e (tC v)) (r : ∀ F, Rp X.K F d v) : PM X e (eC d) := pe_imp h fun σ H Q ⟨ro, F0, H0, F, env, rd, d', rd', hS, hm, q⟩ => by
  unfold eC at hm
  cases hm
  exact q v F H (Stp.refl hS.st.fh) hS.rd (r F)
theorem pm_int {i j pos} : PM X (.Constant (.int i) j pos) (eC (.int i)) := pm_of_C pe_int fun _ => by simp only [Rp]
theorem pm_bl {b j pos} : PM X (.Constant (.bool b) j pos) (eC (.bl b)) := pm_of_C pe_bl fun _ => by simp only [Rp]
theorem pm_non {j pos} : PM X (.Constant .none j pos) (eC .non) := pm_of_C pe_non fun _ => by simp only [Rp]
theorem pm_str {x j pos} : PM X (.Constant (.str x) j pos) (eC (.str x)) := pm_of_C pe_str fun _ => by simp only [Rp]

/-! ### two in a row -/
def bind1 {α β : Type} (a : MM α) (k : α → MM β) : MM β := fun env rd => (a env rd).bind fun p => k p.1 env p.2
theorem bind1_some {α β : Type} {a : MM α} {k : α → MM β} {env : List SV} {rd rd' : Rdr} {z : β} (h : bind1 a k env rd = some (z, rd')) : ∃ x rd1, a env rd = some (x, rd1) ∧ k x env rd1 = some (z, rd') := by
  unfold bind1 at h
  obtain ⟨p, h1, h2⟩ := Option.bind_eq_some_iff.mp h
  exact ⟨p.1, p.2, h1, h2⟩
def lift (o : Option α) : MM α := fun _ rd => o.map fun x => (x, rd)
theorem lift_some {α : Type} {o : Option α} {env : List SV} {rd rd' : Rdr} {z : α} (h : lift o env rd = some (z, rd')) : o = some z ∧ rd' = rd := by
  unfold lift at h
  cases o with
  | none => cases h
  | some x =>
    cases h
    exact ⟨rfl, rfl⟩

/-- what an operator on data is worth -/
def R2ok (K : PySem.W.Frag) (r : R2) (op : D → D → Option D) : Prop := ∀ F H x y d e z Q, Same F H → Rp K F d x → Rp K F e y → op d e = some z → (∀ v F' H', Alc F H F' H' → Rp K F' z v → Q v H') → r x y H Q
def rD (K : PySem.W.Frag) (op : D → D → Option D) : R2 := fun x y H Q => ∃ F d e z, Same F H ∧ Rp K F d x ∧ Rp K F e y ∧ op d e = some z ∧ ∀ v F' H', Alc F H F' H' → Rp K F' z v → Q v H'
def eOp (op : D → D → Option D) (a b : MM D) : MM D := bind1 a fun d => bind1 b fun e => lift (op d e)
theorem tM_op {K : PySem.W.Frag} {op : D → D → Option D} {a b : MM D} {σ : L2.St} {H : Hp} {Q : VK} (h : tM K (eOp op a b) σ H Q) : tOp (rD K op) (tM K a) (tM K b) σ H Q := by
  obtain ⟨ro, F0, H0, F, env, rd, z, rd', hS, hm, q⟩ := h
  obtain ⟨d, rd1, m1, hm⟩ := bind1_some hm
  obtain ⟨e, rd2, m2, hm⟩ := bind1_some hm
  obtain ⟨m3, rfl⟩ := lift_some hm
  refine ⟨ro, F0, H0, F, env, rd, d, rd1, hS, m1, fun x F1 H1 a1 r1 p1 => ?_⟩
  refine ⟨ro, F0, H0, F1, env, rd1, e, rd', hS.step a1 r1, m2, fun y F2 H2 a2 r2 p2 => ?_⟩
  refine ⟨F2, d, e, z, a2.fh, Rp.mono a2.ff d x p1, p2, m3, fun v F3 H3 a3 p3 => ?_⟩
  exact q v F3 H3 ((a1.trans a2).trans a3.stp) (r2.alc a3) p3
theorem pm_op {op : Operator} {f : D → D → Option D} {a b : Expr} {ma mb : MM D} {pos : Pos} (ho : OpR X (binaryOp op) (rD X.K f)) (ha : PM X a ma) (hb : PM X b mb) : PM X (.BinOp a op b pos) (eOp f ma mb) :=
  pe_imp (pe_op ho ha hb) fun _ _ _ h => tM_op h
theorem opr_of {f : Value → Value → Sem Value} {r : R2} {op : D → D → Option D} (h : OpR X f r) (k : R2ok X.K r op) : OpR X f (rD X.K op) := fun pins s σ H x y v u Q I rx ry q => by
  obtain ⟨F, d, e, z, s1, p1, p2, p3, q⟩ := q
  exact h pins s σ H x y v u Q I rx ry (k F H x y d e z Q s1 p1 p2 p3 q)
end
end FW

set_option Elab.async false
set_option linter.all false
set_option maxRecDepth 100000
set_option maxHeartbeats 1000000
namespace FW
open PySem PySem.Spec PyProof.Rows L2
section
variable {X : Cx}

theorem Rps.lst {K : PySem.W.Frag} {F : Hp} {ds : List D} {a : Addr} {vs : List V} (h1 : F a = some (.lst vs)) (h2 : Rps K F ds vs) : Rp K F (.lst ds) (.ref a) := by
  simp only [Rp]
  exact ⟨a, vs, rfl, h1, h2⟩
theorem Rps.tup {K : PySem.W.Frag} {F : Hp} {ds : List D} {a : Addr} {vs : List V} (h1 : SqT K F a vs) (h2 : Rps K F ds vs) : Rp K F (.tup ds) (.ref a) := by
  simp only [Rp]
  exact ⟨a, vs, rfl, h1, h2⟩
theorem rp_int {K : PySem.W.Frag} {F : Hp} {i : Int} : Rp K F (.int i) (.int i) := by simp only [Rp]
theorem rp_bl {K : PySem.W.Frag} {F : Hp} {i : Bool} : Rp K F (.bl i) (.bl i) := by simp only [Rp]
theorem rp_str {K : PySem.W.Frag} {F : Hp} {i : Str} : Rp K F (.str i) (.str i) := by simp only [Rp]
theorem rp_non {K : PySem.W.Frag} {F : Hp} : Rp K F .non .non := by simp only [Rp]
theorem new_tup {K : PySem.W.Frag} {F H : Hp} {ds : List D} {vs : List V} {p : Addr} (s : Same F H) (hp : H p = none) (h : Rps K F ds vs) : Alc F H (upd F p (.tup vs)) (upd H p (.tup vs)) ∧ Rp K (upd F p (.tup vs)) (.tup ds) (.ref p) :=
  ⟨Alc.new s hp, Rps.tup (.inl (.inl upd_same)) (Rps.mono (same_new (s.free hp)) ds vs h)⟩
theorem new_lst {K : PySem.W.Frag} {F H : Hp} {ds : List D} {vs : List V} {p : Addr} (s : Same F H) (hp : H p = none) (h : Rps K F ds vs) : Alc F H (upd F p (.lst vs)) (upd H p (.lst vs)) ∧ Rp K (upd F p (.lst vs)) (.lst ds) (.ref p) :=
  ⟨Alc.new s hp, Rps.lst upd_same (Rps.mono (same_new (s.free hp)) ds vs h)⟩
theorem sqL_of {K : PySem.W.Frag} {H : Hp} {a : Addr} {xs : List V} (h : H a = some (.lst xs)) : SqL K H a xs := .inl (.inl h)

/-! ### + - * // % ** -/
def opAdd : D → D → Option D
  | .int i, .int j => some (.int (i + j))
  | .str i, .str j => if i.length + j.length ≤ sizeLine then some (.str (i ++ j)) else none
  | .tup xs, .tup ys => if xs.length + ys.length ≤ sizeLine then some (.tup (xs ++ ys)) else none
  | .lst xs, .lst ys => if xs.length + ys.length ≤ sizeLine then some (.lst (xs ++ ys)) else none
  | _, _ => none
theorem or_add : OpR X (binaryOp .Add) (rD X.K opAdd) := by
  intro pins s σ H x y v u Q I rx ry h
  obtain ⟨F, d, e, z, sf, pd, pe, hz, q⟩ := h
  cases d with
  | int i => cases e with
    | int j =>
      simp only [Rp] at pd pe
      subst pd pe
      simp only [opAdd, Option.some.injEq] at hz
      subst hz
      exact op_add pins s σ H _ _ v u Q I rx ry ⟨i, j, rfl, rfl, q _ F H (Alc.refl sf) rp_int⟩
    | _ => simp [opAdd] at hz
  | str i => cases e with
    | str j =>
      simp only [Rp] at pd pe
      subst pd pe
      simp only [opAdd, Option.ite_none_right_eq_some, Option.some.injEq] at hz
      obtain ⟨hl, rfl⟩ := hz
      exact op_add_str pins s σ H _ _ v u Q I rx ry ⟨i, j, rfl, rfl, hl, q _ F H (Alc.refl sf) rp_str⟩
    | _ => simp [opAdd] at hz
  | tup xs => cases e with
    | tup ys =>
      have pd0 := pd
      have pe0 := pe
      simp only [Rp] at pd pe
      obtain ⟨a, vs, rfl, ta, ra⟩ := pd
      obtain ⟨b, ws, rfl, tb, rb⟩ := pe
      simp only [opAdd, Option.ite_none_right_eq_some, Option.some.injEq] at hz
      obtain ⟨hl, rfl⟩ := hz
      refine op_catA pins s σ H _ _ v u Q I rx ry ⟨a, b, vs, ws, rfl, rfl, sqT_mono sf ta, sqT_mono sf tb, by rw [← ra.length, ← rb.length]; exact hl, fun e => ?_, fun _ e => ?_, fun _ _ p hp => ?_⟩
      · subst e
        have hx : xs = [] := List.eq_nil_of_length_eq_zero ra.length
        subst hx
        exact q _ F H (Alc.refl sf) pe0
      · subst e
        have hx : ys = [] := List.eq_nil_of_length_eq_zero rb.length
        subst hx
        rw [List.append_nil] at q
        exact q _ F H (Alc.refl sf) pd0
      · obtain ⟨q1, q2⟩ := new_tup sf hp (ra.append rb)
        exact q _ _ _ q1 q2
    | _ => simp [opAdd] at hz
  | lst xs => cases e with
    | lst ys =>
      simp only [Rp] at pd pe
      obtain ⟨a, vs, rfl, ta, ra⟩ := pd
      obtain ⟨b, ws, rfl, tb, rb⟩ := pe
      simp only [opAdd, Option.ite_none_right_eq_some, Option.some.injEq] at hz
      obtain ⟨hl, rfl⟩ := hz
      refine op_cat pins s σ H _ _ v u Q I rx ry ⟨a, b, vs, ws, rfl, rfl, sf _ _ ta, sf _ _ tb, by rw [← ra.length, ← rb.length]; exact hl, fun p hp => ?_⟩
      obtain ⟨q1, q2⟩ := new_lst sf hp (ra.append rb)
      exact q _ _ _ q1 q2
    | _ => simp [opAdd] at hz
  | _ => simp [opAdd] at hz
/-- an operator on two ints -/
def opI (c : Int → Int → Bool) (g : Int → Int → D) : D → D → Option D
  | .int i, .int j => if c i j = true then some (g i j) else none
  | _, _ => none
theorem opI_some {c : Int → Int → Bool} {g : Int → Int → D} {d e z : D} (h : opI c g d e = some z) : ∃ i j, d = .int i ∧ e = .int j ∧ c i j = true ∧ z = g i j := by
  cases d with
  | int i => cases e with
    | int j =>
      simp only [opI, Option.ite_none_right_eq_some, Option.some.injEq] at h
      exact ⟨i, j, rfl, rfl, h.1, h.2.symm⟩
    | _ => simp [opI] at h
  | _ => simp [opI] at h
theorem or_I {f : Value → Value → Sem Value} {r : R2} {c : Int → Int → Bool} {g : Int → Int → D} (h : OpR X f r)
    (k : ∀ (i j : Int) (H : Hp) (Q : VK), c i j = true → (∀ v, (∀ F, Rp X.K F (g i j) v) → Q v H) → r (.int i) (.int j) H Q) : OpR X f (rD X.K (opI c g)) := by
  intro pins s σ H x y v u Q I rx ry q
  obtain ⟨F, d, e, z, sf, pd, pe, hz, q⟩ := q
  obtain ⟨i, j, rfl, rfl, hc, rfl⟩ := opI_some hz
  simp only [Rp] at pd pe
  subst pd pe
  exact h pins s σ H _ _ v u Q I rx ry (k i j H Q hc fun v hv => q v F H (Alc.refl sf) (hv F))
abbrev opSub := opI (fun _ _ => true) fun i j => .int (i - j)
theorem or_sub : OpR X (binaryOp .Sub) (rD X.K opSub) := or_I op_sub fun i j H Q _ k => ⟨i, j, rfl, rfl, k _ fun _ => rp_int⟩
abbrev opMod := opI (fun _ j => decide (j ≠ 0)) fun i j => .int (i.fmod j)
theorem or_mod : OpR X (binaryOp .Mod) (rD X.K opMod) := or_I op_modN fun i j H Q hc k => ⟨i, j, rfl, rfl, of_decide_eq_true hc, k _ fun _ => rp_int⟩
abbrev opDiv := opI (fun _ j => decide (j ≠ 0 ∧ j.natAbs < 1073741824)) fun i j => .int (i.fdiv j)
theorem or_div : OpR X (binaryOp .FloorDiv) (rD X.K opDiv) := or_I op_fdivN fun i j H Q hc k => ⟨i, j, rfl, rfl, of_decide_eq_true (p := j ≠ 0 ∧ j.natAbs < 1073741824) hc, k _ fun _ => rp_int⟩
abbrev opPow := opI (fun i j => decide (0 ≤ j ∧ j ≤ 1000000 ∧ i.natAbs < 2 ^ 64)) fun i j => .int (i ^ j.toNat)
theorem or_pow : OpR X (binaryOp .Pow) (rD X.K opPow) := or_I op_pow fun i j H Q hc k => ⟨i, j, rfl, rfl, of_decide_eq_true (p := 0 ≤ j ∧ j ≤ 1000000 ∧ i.natAbs < 2 ^ 64) hc, k _ fun _ => rp_int⟩
theorem mul_bd {i j : Int} (h : i.natAbs < 18446744073709551616 ∨ j.natAbs < 18446744073709551616) : (-(2 ^ 64) < i ∧ i < 2 ^ 64) ∨ (-(2 ^ 64) < j ∧ j < 2 ^ 64) := by
  rcases h with h | h
  · left
    omega
  · right
    omega
def opMul : D → D → Option D
  | .int i, .int j => if i.natAbs < 18446744073709551616 ∨ j.natAbs < 18446744073709551616 then some (.int (i * j)) else none
  | .lst xs, .int k => if -(2 ^ 63) ≤ k ∧ k < 2 ^ 63 ∧ xs.length * k.toNat ≤ sizeLine then some (.lst (List.replicate k.toNat xs).flatten) else none
  | .tup xs, .int k => if xs.length ≠ 0 ∧ 2 ≤ k ∧ k ≤ 1000 ∧ xs.length ≤ 1000 then some (.tup (List.replicate k.toNat xs).flatten) else none
  | _, _ => none
theorem Rps.rep {K : PySem.W.Frag} {F : Hp} {ds : List D} {vs : List V} (h : Rps K F ds vs) : ∀ n : Nat, Rps K F (List.replicate n ds).flatten (List.replicate n vs).flatten
  | 0 => Rps.nil
  | n + 1 => by
    rw [List.replicate_succ, List.replicate_succ, List.flatten_cons, List.flatten_cons]
    exact h.append (Rps.rep h n)
theorem or_mul : OpR X (binaryOp .Mult) (rD X.K opMul) := by
  intro pins s σ H x y v u Q I rx ry h
  obtain ⟨F, d, e, z, sf, pd, pe, hz, q⟩ := h
  cases d with
  | int i => cases e with
    | int j =>
      simp only [Rp] at pd pe
      subst pd pe
      simp only [opMul, Option.ite_none_right_eq_some, Option.some.injEq] at hz
      obtain ⟨hl, rfl⟩ := hz
      exact op_mul pins s σ H _ _ v u Q I rx ry ⟨i, j, rfl, rfl, mul_bd hl, q _ F H (Alc.refl sf) rp_int⟩
    | _ => simp [opMul] at hz
  | lst xs => cases e with
    | int k =>
      simp only [Rp] at pd pe
      obtain ⟨a, vs, rfl, ta, ra⟩ := pd
      subst pe
      simp only [opMul, Option.ite_none_right_eq_some, Option.some.injEq] at hz
      obtain ⟨⟨h1, h2, h3⟩, rfl⟩ := hz
      refine op_rep pins s σ H _ _ v u Q I rx ry ⟨a, k, vs, rfl, rfl, sf _ _ ta, h1, h2, by rw [← ra.length]; exact h3, fun p hp => ?_⟩
      obtain ⟨q1, q2⟩ := new_lst sf hp (ra.rep k.toNat)
      exact q _ _ _ q1 q2
    | _ => simp [opMul] at hz
  | tup xs => cases e with
    | int k =>
      simp only [Rp] at pd pe
      obtain ⟨a, vs, rfl, ta, ra⟩ := pd
      subst pe
      simp only [opMul, Option.ite_none_right_eq_some, Option.some.injEq] at hz
      obtain ⟨⟨h0, h1, h2, h3⟩, rfl⟩ := hz
      refine op_repT pins s σ H _ _ v u Q I rx ry ⟨a, k, vs, rfl, rfl, sqT_mono sf ta, fun z => h0 (by rw [ra.length, z]; rfl), h1, h2, by rw [← ra.length]; exact h3, fun p hp => ?_⟩
      obtain ⟨q1, q2⟩ := new_tup sf hp (ra.rep k.toNat)
      exact q _ _ _ q1 q2
    | _ => simp [opMul] at hz
  | _ => simp [opMul] at hz

/-! ### comparisons -/
theorem pm_cmp {op : CmpOp} {f : D → D → Option D} {a b : Expr} {ma mb : MM D} {pos : Pos} (ho : OpR X (compareOp op) (rD X.K f)) (ha : PM X a ma) (hb : PM X b mb) (hm : behindInMarks op b = false) : PM X (.Compare a [op] [b] pos) (eOp f ma mb) :=
  pe_imp (pe_cmpR ho ha hb hm) fun _ _ _ h => tM_op h
/-- a value that is a bool, as a test -/
def isBl : D → Option Bool
  | .bl b => some b
  | _ => none
theorem isBl_some {d : D} {b : Bool} (h : isBl d = some b) : d = .bl b := by
  cases d with
  | bl c =>
    simp only [isBl, Option.some.injEq] at h
    rw [h]
  | _ => simp [isBl] at h
def eT (m : MM D) : MM Bool := bind1 m fun d => lift (isBl d)
theorem tMT_of {K : PySem.W.Frag} {m : MM D} {σ : L2.St} {H : Hp} {Q : Bool → Hp → Prop} (h : tMT K (eT m) σ H Q) : tM K m σ H fun x H1 => ∃ c, x = .bl c ∧ Q c H1 := by
  obtain ⟨ro, F0, H0, F, env, rd, b, rd', hS, hm, q⟩ := h
  obtain ⟨d, rd1, m1, hm⟩ := bind1_some hm
  obtain ⟨m2, rfl⟩ := lift_some hm
  have := isBl_some m2
  subst this
  refine ⟨ro, F0, H0, F, env, rd, _, rd', hS, m1, fun v F' H' a r p => ?_⟩
  simp only [Rp] at p
  exact ⟨b, p, q F' H' a r⟩
theorem pmt_val {e : Expr} {m : MM D} (h : PM X e m) (he : ∀ whole, isTrue e X.env whole = (do let v ← whole; standAt e.pos; holding [v] (truthy v)) := by intro _; rfl) : PMT X e (eT m) :=
  pt_imp (pt_val h he) fun _ _ _ q => tMT_of q
theorem pmt_cmp {op : CmpOp} {f : D → D → Option D} {a b : Expr} {ma mb : MM D} {pos : Pos} (ho : OpR X (compareOp op) (rD X.K f)) (ha : PM X a ma) (hb : PM X b mb) (hm : behindInMarks op b = false) : PMT X (.Compare a [op] [b] pos) (eT (eOp f ma mb)) :=
  pt_imp (pt_cmpR ho ha hb hm) fun σ H Q h => by
    have q := tMT_of h
    exact tM_op q
def mAnd (a b : MM Bool) : MM Bool := bind1 a fun x => if x = true then b else fun _ rd => some (false, rd)
def mOr (a b : MM Bool) : MM Bool := bind1 a fun x => if x = true then fun _ rd => some (true, rd) else b
def mNot (a : MM Bool) : MM Bool := bind1 a fun x => fun _ rd => some (!x, rd)
theorem tMT_and {K : PySem.W.Frag} {a b : MM Bool} {σ : L2.St} {H : Hp} {Q : Bool → Hp → Prop} (h : tMT K (mAnd a b) σ H Q) : tAnd (tMT K a) (tMT K b) σ H Q := by
  obtain ⟨ro, F0, H0, F, env, rd, z, rd', hS, hm, q⟩ := h
  obtain ⟨x, rd1, m1, hm⟩ := bind1_some hm
  refine ⟨ro, F0, H0, F, env, rd, x, rd1, hS, m1, fun F' H' a1 r1 => ?_⟩
  cases x with
  | true =>
    exact iteT ⟨ro, F0, H0, F', env, rd1, z, rd', hS.step a1 r1, hm, fun F2 H2 a2 r2 => q F2 H2 (a1.trans a2) r2⟩
  | false =>
    cases hm
    exact iteF (q F' H' a1 r1)
theorem tMT_or {K : PySem.W.Frag} {a b : MM Bool} {σ : L2.St} {H : Hp} {Q : Bool → Hp → Prop} (h : tMT K (mOr a b) σ H Q) : tOr (tMT K a) (tMT K b) σ H Q := by
  obtain ⟨ro, F0, H0, F, env, rd, z, rd', hS, hm, q⟩ := h
  obtain ⟨x, rd1, m1, hm⟩ := bind1_some hm
  refine ⟨ro, F0, H0, F, env, rd, x, rd1, hS, m1, fun F' H' a1 r1 => ?_⟩
  cases x with
  | true =>
    cases hm
    exact iteT (q F' H' a1 r1)
  | false =>
    exact iteF ⟨ro, F0, H0, F', env, rd1, z, rd', hS.step a1 r1, hm, fun F2 H2 a2 r2 => q F2 H2 (a1.trans a2) r2⟩
theorem tMT_not {K : PySem.W.Frag} {a : MM Bool} {σ : L2.St} {H : Hp} {Q : Bool → Hp → Prop} (h : tMT K (mNot a) σ H Q) : tNot (tMT K a) σ H Q := by
  obtain ⟨ro, F0, H0, F, env, rd, z, rd', hS, hm, q⟩ := h
  obtain ⟨x, rd1, m1, hm⟩ := bind1_some hm
  cases hm
  exact ⟨ro, F0, H0, F, env, rd, x, rd', hS, m1, q⟩
section
variable {a b : Expr} {rest : List Expr} {pos : Pos} {ma mb : MM Bool}
theorem pmw_and1 (ha : PMT X a ma) : PMW X (.BoolOp .And [a] pos) ma := pw_and1 ha
theorem pmw_or1 (ha : PMT X a ma) : PMW X (.BoolOp .Or [a] pos) ma := pw_or1 ha
theorem pmw_and (ha : PMT X a ma) (hb : PMW X (.BoolOp .And (b :: rest) pos) mb) : PMW X (.BoolOp .And (a :: b :: rest) pos) (mAnd ma mb) := pw_imp (pw_and ha hb) fun _ _ _ h => tMT_and h
theorem pmw_or (ha : PMT X a ma) (hb : PMW X (.BoolOp .Or (b :: rest) pos) mb) : PMW X (.BoolOp .Or (a :: b :: rest) pos) (mOr ma mb) := pw_imp (pw_or ha hb) fun _ _ _ h => tMT_or h
theorem pmt_not (ha : PMT X a ma) : PMT X (.UnaryOp .Not a pos) (mNot ma) := pt_imp (pt_not ha) fun _ _ _ h => tMT_not h
end
/-- and, or, not as values -/
def eAnd (a b : MM D) : MM D := bind1 (eT a) fun x => if x = true then b else fun _ rd => some (.bl false, rd)
def eOr (a b : MM D) : MM D := bind1 (eT a) fun x => if x = true then fun _ rd => some (.bl true, rd) else b
def eNot (a : MM D) : MM D := bind1 (eT a) fun x => fun _ rd => some (.bl (!x), rd)
theorem eT_some {m : MM D} {env : List SV} {rd rd' : Rdr} {b : Bool} (h : eT m env rd = some (b, rd')) : m env rd = some (.bl b, rd') := by
  obtain ⟨d, rd1, m1, hm⟩ := bind1_some h
  obtain ⟨m2, rfl⟩ := lift_some hm
  have := isBl_some m2
  subst this
  exact m1
section
variable {a b : Expr} {rest : List Expr} {pos : Pos} {ma mb : MM D}
theorem pm_one {op : BoolOp} (h : PM X a ma) : PM X (.BoolOp op [a] pos) ma := pe_one h
theorem pm_and (ha : PM X a ma) (hb : PM X (.BoolOp .And (b :: rest) pos) mb) : PM X (.BoolOp .And (a :: b :: rest) pos) (eAnd ma mb) := pe_imp (pe_and ha hb) fun σ H Q h => by
  obtain ⟨ro, F0, H0, F, env, rd, z, rd', hS, hm, q⟩ := h
  obtain ⟨x, rd1, m1, hm⟩ := bind1_some hm
  refine ⟨ro, F0, H0, F, env, rd, _, rd1, hS, eT_some m1, fun v F' H' a1 r1 p1 => ?_⟩
  simp only [Rp] at p1
  refine ⟨x, p1, ?_⟩
  cases x with
  | true => exact iteT ⟨ro, F0, H0, F', env, rd1, z, rd', hS.step a1 r1, hm, fun v2 F2 H2 a2 r2 p2 => q v2 F2 H2 (a1.trans a2) r2 p2⟩
  | false =>
    cases hm
    exact iteF (q _ F' H' a1 r1 rp_bl)
theorem pm_or (ha : PM X a ma) (hb : PM X (.BoolOp .Or (b :: rest) pos) mb) : PM X (.BoolOp .Or (a :: b :: rest) pos) (eOr ma mb) := pe_imp (pe_or ha hb) fun σ H Q h => by
  obtain ⟨ro, F0, H0, F, env, rd, z, rd', hS, hm, q⟩ := h
  obtain ⟨x, rd1, m1, hm⟩ := bind1_some hm
  refine ⟨ro, F0, H0, F, env, rd, _, rd1, hS, eT_some m1, fun v F' H' a1 r1 p1 => ?_⟩
  simp only [Rp] at p1
  refine ⟨x, p1, ?_⟩
  cases x with
  | true =>
    cases hm
    exact iteT (q _ F' H' a1 r1 rp_bl)
  | false => exact iteF ⟨ro, F0, H0, F', env, rd1, z, rd', hS.step a1 r1, hm, fun v2 F2 H2 a2 r2 p2 => q v2 F2 H2 (a1.trans a2) r2 p2⟩
theorem pm_not (ha : PM X a ma) : PM X (.UnaryOp .Not a pos) (eNot ma) := pe_imp (pe_not ha) fun σ H Q h => by
  obtain ⟨ro, F0, H0, F, env, rd, z, rd', hS, hm, q⟩ := h
  obtain ⟨x, rd1, m1, hm⟩ := bind1_some hm
  cases hm
  refine ⟨ro, F0, H0, F, env, rd, _, rd', hS, eT_some m1, fun v F' H' a1 r1 p1 => ?_⟩
  simp only [Rp] at p1
  exact ⟨x, p1, q _ F' H' a1 r1 rp_bl⟩
def eIf (t : MM Bool) (a b : MM D) : MM D := bind1 t fun x => if x = true then a else b
theorem pm_if {c : Expr} {mt : MM Bool} (hc : PMT X c mt) (ha : PM X a ma) (hb : PM X b mb) : PM X (.IfExp c a b pos) (eIf mt ma mb) := pe_imp (pe_ifExp hc ha hb) fun σ H Q h => by
  obtain ⟨ro, F0, H0, F, env, rd, z, rd', hS, hm, q⟩ := h
  obtain ⟨x, rd1, m1, hm⟩ := bind1_some hm
  refine ⟨ro, F0, H0, F, env, rd, x, rd1, hS, m1, fun F' H' a1 r1 => ?_⟩
  cases x with
  | true => exact iteT ⟨ro, F0, H0, F', env, rd1, z, rd', hS.step a1 r1, hm, fun v2 F2 H2 a2 r2 p2 => q v2 F2 H2 (a1.trans a2) r2 p2⟩
  | false => exact iteF ⟨ro, F0, H0, F', env, rd1, z, rd', hS.step a1 r1, hm, fun v2 F2 H2 a2 r2 p2 => q v2 F2 H2 (a1.trans a2) r2 p2⟩
end
/-- a unary minus -/
def opNeg : D → Option D
  | .int i => some (.int (-i))
  | _ => none
def eUn (f : D → Option D) (a : MM D) : MM D := bind1 a fun d => lift (f d)
theorem pm_neg {a : Expr} {ma : MM D} {pos : Pos} (ha : PM X a ma) : PM X (.UnaryOp .USub a pos) (eUn opNeg ma) := pe_imp (pe_un un_neg ha) fun σ H Q h => by
  obtain ⟨ro, F0, H0, F, env, rd, z, rd', hS, hm, q⟩ := h
  obtain ⟨d, rd1, m1, hm⟩ := bind1_some hm
  obtain ⟨m2, rfl⟩ := lift_some hm
  refine ⟨ro, F0, H0, F, env, rd, d, rd', hS, m1, fun v F' H' a1 r1 p1 => ?_⟩
  cases d with
  | int i =>
    simp only [opNeg, Option.some.injEq] at m2
    subst m2
    simp only [Rp] at p1
    subst p1
    exact ⟨i, rfl, q _ F' H' a1 r1 rp_int⟩
  | _ => simp [opNeg] at m2

/-! ### lt, le .. of ints and texts; == of data -/
def opCmp (pi : Int → Int → Bool) (ps : Str → Str → Bool) : D → D → Option D
  | .int i, .int j => some (.bl (pi i j))
  | .str i, .str j => some (.bl (ps i j))
  | _, _ => none
theorem or_cmp {op : CmpOp} {pi : Int → Int → Bool} {ps : Str → Str → Bool} (hi : OpR X (compareOp op) (rI0 fun i j => .bl (pi i j))) (hs : OpR X (compareOp op) fun x y H Q => ∃ i j, x = .str i ∧ y = .str j ∧ Q (.bl (ps i j)) H) :
    OpR X (compareOp op) (rD X.K (opCmp pi ps)) := by
  intro pins s σ H x y v u Q I rx ry h
  obtain ⟨F, d, e, z, sf, pd, pe, hz, q⟩ := h
  cases d with
  | int i => cases e with
    | int j =>
      simp only [Rp] at pd pe
      subst pd pe
      simp only [opCmp, Option.some.injEq] at hz
      subst hz
      exact hi pins s σ H _ _ v u Q I rx ry ⟨i, j, rfl, rfl, q _ F H (Alc.refl sf) rp_bl⟩
    | _ => simp [opCmp] at hz
  | str i => cases e with
    | str j =>
      simp only [Rp] at pd pe
      subst pd pe
      simp only [opCmp, Option.some.injEq] at hz
      subst hz
      exact hs pins s σ H _ _ v u Q I rx ry ⟨i, j, rfl, rfl, q _ F H (Alc.refl sf) rp_bl⟩
    | _ => simp [opCmp] at hz
  | _ => simp [opCmp] at hz
abbrev opLt := opCmp (fun i j => decide (i < j)) fun i j => decide (i.cps.toList < j.cps.toList)
abbrev opLe := opCmp (fun i j => decide (i ≤ j)) fun i j => !decide (j.cps.toList < i.cps.toList)
abbrev opGt := opCmp (fun i j => decide (j < i)) fun i j => decide (j.cps.toList < i.cps.toList)
abbrev opGe := opCmp (fun i j => decide (j ≤ i)) fun i j => !decide (i.cps.toList < j.cps.toList)
theorem or_lt : OpR X (compareOp .Lt) (rD X.K opLt) := or_cmp op_lt op_lt_str
theorem or_le : OpR X (compareOp .LtE) (rD X.K opLe) := or_cmp op_le op_le_str
theorem or_gt : OpR X (compareOp .Gt) (rD X.K opGt) := or_cmp op_gt op_gt_str
theorem or_ge : OpR X (compareOp .GtE) (rD X.K opGe) := or_cmp op_ge op_ge_str
mutual
def toPy : D → PyData
  | .non => .none
  | .bl b => .bool b
  | .int i => .int i
  | .str s => .str s
  | .tup ds => .tuple (toPys ds)
  | .lst ds => .list (toPys ds)
def toPys : List D → List PyData
  | [] => []
  | d :: ds => toPy d :: toPys ds
end
mutual
theorem dp_of {K : PySem.W.Frag} {F H : Hp} (e : Same F H) : ∀ (d : D) (v : V), Rp K F d v → Dp K H v (toPy d)
  | .non, v, h => by
    simp only [Rp] at h
    subst h
    simp only [toPy]
    exact .non
  | .bl b, v, h => by
    simp only [Rp] at h
    subst h
    simp only [toPy]
    exact .bl b
  | .int i, v, h => by
    simp only [Rp] at h
    subst h
    simp only [toPy]
    exact .int i
  | .str i, v, h => by
    simp only [Rp] at h
    subst h
    simp only [toPy]
    exact .str i
  | .tup ds, v, h => by
    simp only [Rp] at h
    obtain ⟨a, vs, rfl, h2, h3⟩ := h
    simp only [toPy]
    exact .tup (sqT_mono e h2) (dps_of e ds vs h3)
  | .lst ds, v, h => by
    simp only [Rp] at h
    obtain ⟨a, vs, rfl, h2, h3⟩ := h
    simp only [toPy]
    exact .lst (sqL_of (e _ _ h2)) (dps_of e ds vs h3)
theorem dps_of {K : PySem.W.Frag} {F H : Hp} (e : Same F H) : ∀ (ds : List D) (vs : List V), Rps K F ds vs → DpAll K H vs (toPys ds)
  | [], vs, h => by
    simp only [Rps] at h
    subst h
    simp only [toPys]
    exact .nil
  | d :: ds, vs, h => by
    simp only [Rps] at h
    obtain ⟨v, r, rfl, h2, h3⟩ := h
    simp only [toPys]
    exact .cons (dp_of e d v h2) (dps_of e ds r h3)
end
def opEq : D → D → Option D
  | .str a, .str b => some (.bl (decide (a = b)))
  | .int a, .int b => some (.bl (decide (a = b)))
  | d, e => if SeqAt.shaped (toPy d) = true ∧ SeqAt.shaped (toPy e) = true then some (.bl (PyData.eqv (toPy d) (toPy e))) else none
def opNe : D → D → Option D
  | .str a, .str b => some (.bl (!decide (a = b)))
  | .int a, .int b => some (.bl (!decide (a = b)))
  | d, e => if SeqAt.shaped (toPy d) = true ∧ SeqAt.shaped (toPy e) = true then some (.bl (!PyData.eqv (toPy d) (toPy e))) else none
theorem or_eq (hu : X.A.units + 64 < cLine) : OpR X (compareOp .Eq) (rD X.K opEq) := by
  intro pins s σ H x y v u Q I rx ry h
  obtain ⟨F, d, e, z, sf, pd, pe, hz, q⟩ := h
  unfold opEq at hz
  split at hz
  · simp only [Rp] at pd pe
    subst pd pe
    cases hz
    refine op_eq pins s σ H _ _ v u Q I rx ry ⟨rfl, ?_⟩
    simpa using q _ F H (Alc.refl sf) rp_bl
  · simp only [Rp] at pd pe
    subst pd pe
    cases hz
    refine op_eq pins s σ H _ _ v u Q I rx ry ⟨rfl, ?_⟩
    simpa using q _ F H (Alc.refl sf) rp_bl
  · simp only [Option.ite_none_right_eq_some, Option.some.injEq] at hz
    obtain ⟨⟨h1, h2⟩, rfl⟩ := hz
    exact op_eqD hu pins s σ H _ _ v u Q I rx ry ⟨_, _, dp_of sf _ x pd, dp_of sf _ y pe, h1, h2, q _ F H (Alc.refl sf) rp_bl⟩
theorem or_ne (hu : X.A.units + 64 < cLine) : OpR X (compareOp .NotEq) (rD X.K opNe) := by
  intro pins s σ H x y v u Q I rx ry h
  obtain ⟨F, d, e, z, sf, pd, pe, hz, q⟩ := h
  unfold opNe at hz
  split at hz
  · simp only [Rp] at pd pe
    subst pd pe
    cases hz
    refine op_ne pins s σ H _ _ v u Q I rx ry ⟨rfl, ?_⟩
    simpa using q _ F H (Alc.refl sf) rp_bl
  · simp only [Rp] at pd pe
    subst pd pe
    cases hz
    refine op_ne pins s σ H _ _ v u Q I rx ry ⟨rfl, ?_⟩
    simpa using q _ F H (Alc.refl sf) rp_bl
  · simp only [Option.ite_none_right_eq_some, Option.some.injEq] at hz
    obtain ⟨⟨h1, h2⟩, rfl⟩ := hz
    exact op_neD hu pins s σ H _ _ v u Q I rx ry ⟨_, _, dp_of sf _ x pd, dp_of sf _ y pe, h1, h2, q _ F H (Alc.refl sf) rp_bl⟩
/-- in, not in: flat items in a list or a tuple -/
def flatD : D → Bool
  | .non | .bl _ | .int _ | .str _ => true
  | _ => false
def seqOf : D → Option (List D)
  | .tup ds | .lst ds => some ds
  | _ => none
def eqF (d e : D) : Bool := PyData.eqv (toPy d) (toPy e)
def chainT (a b : MM D) (c : MM D) (f g : D → D → Option D) : MM D := bind1 a fun x => bind1 b fun y => bind1 (lift ((f x y).bind isBl)) fun k => if k = true then bind1 c fun z => lift (g y z) else fun _ rd => some (.bl false, rd)
theorem tM_chain {K : PySem.W.Frag} {f g : D → D → Option D} {a b c : MM D} {σ : L2.St} {H : Hp} {Q : VK} (h : tM K (chainT a b c f g) σ H Q) : tChain (rD K f) (rD K g) (tM K a) (tM K b) (tM K c) σ H Q := by
  obtain ⟨ro, F0, H0, F, env, rd, z, rd', hS, hm, q⟩ := h
  obtain ⟨d, rd1, m1, hm⟩ := bind1_some hm
  obtain ⟨e, rd2, m2, hm⟩ := bind1_some hm
  obtain ⟨k, rd3, m3, hm'⟩ := bind1_some hm
  obtain ⟨m3', e0⟩ := lift_some m3
  obtain ⟨w, m3, e3⟩ := Option.bind_eq_some_iff.mp m3'
  have e4 := isBl_some e3
  subst e0 e4
  refine ⟨ro, F0, H0, F, env, rd, d, rd1, hS, m1, fun x F1 H1 a1 r1 p1 => ?_⟩
  refine ⟨ro, F0, H0, F1, env, rd1, e, rd3, hS.step a1 r1, m2, fun y F2 H2 a2 r2 p2 => ?_⟩
  refine ⟨F2, d, e, _, a2.fh, Rp.mono a2.ff d x p1, p2, m3, fun v F3 H3 a3 p3 => ?_⟩
  simp only [Rp] at p3
  refine ⟨k, p3, ?_⟩
  have st3 := (a1.trans a2).trans (a3.stp (ro := ro))
  have r3 := r2.alc a3
  cases k with
  | true =>
    obtain ⟨u, rd4, m4, hm2⟩ := bind1_some (show bind1 c (fun z => lift (g e z)) env _ = _ from hm')
    obtain ⟨m5, e5⟩ := lift_some hm2
    subst e5
    refine iteT ⟨ro, F0, H0, F3, env, _, u, _, hS.step st3 r3, m4, fun w F4 H4 a4 r4 p4 => ?_⟩
    refine ⟨F4, e, u, z, a4.fh, Rp.mono (a3.ff.trans a4.ff) e y p2, p4, m5, fun v F5 H5 a5 p5 => ?_⟩
    exact q v F5 H5 ((st3.trans a4).trans a5.stp) (r4.alc a5) p5
  | false =>
    cases hm'
    exact iteF (q _ F3 H3 st3 r3 rp_bl)
theorem pm_chain {op op' : CmpOp} {f g : D → D → Option D} {a b c : Expr} {ma mb mc : MM D} {pos : Pos} (ho : OpR X (compareOp op) (rD X.K f)) (ho' : OpR X (compareOp op') (rD X.K g)) (ha : PM X a ma) (hb : PM X b mb) (hc : PM X c mc) (hm : lastMarks [op, op'] [b, c] = false := by rfl) :
    PM X (.Compare a [op, op'] [b, c] pos) (chainT ma mb mc f g) := pe_imp (pe_chain ho ho' ha hb hc hm) fun _ _ _ h => tM_chain h
theorem pmt_chain {op op' : CmpOp} {f g : D → D → Option D} {a b c : Expr} {ma mb mc : MM D} {pos : Pos} (ho : OpR X (compareOp op) (rD X.K f)) (ho' : OpR X (compareOp op') (rD X.K g)) (ha : PM X a ma) (hb : PM X b mb) (hc : PM X c mc) (hm : lastMarks [op, op'] [b, c] = false := by rfl) :
    PMT X (.Compare a [op, op'] [b, c] pos) (eT (chainT ma mb mc f g)) := pt_imp (pt_chain ho ho' ha hb hc hm) fun _ _ _ h => tM_chain (tMT_of h)
end
end FW

set_option Elab.async false
set_option linter.all false
set_option maxRecDepth 100000
set_option maxHeartbeats 1000000
namespace FW
open PySem PySem.Spec PyProof.Rows L2
section
variable {X : Cx}

/-! ### argument lists, displays -/
def aNil : MM (List D) := fun _ rd => some ([], rd)
def aCons (a : MM D) (r : MM (List D)) : MM (List D) := bind1 a fun d => bind1 r fun ds => fun _ rd => some (d :: ds, rd)
theorem tMA_cons {K : PySem.W.Frag} {a : MM D} {r : MM (List D)} {σ : L2.St} {H : Hp} {Q : List V → Hp → Prop} (h : tMA K (aCons a r) σ H Q) : tCons (tM K a) (tMA K r) σ H Q := by
  obtain ⟨ro, F0, H0, F, env, rd, z, rd', hS, hm, q⟩ := h
  obtain ⟨d, rd1, m1, hm⟩ := bind1_some hm
  obtain ⟨ds, rd2, m2, hm⟩ := bind1_some hm
  cases hm
  refine ⟨ro, F0, H0, F, env, rd, d, rd1, hS, m1, fun v F1 H1 a1 r1 p1 => ?_⟩
  refine ⟨ro, F0, H0, F1, env, rd1, ds, _, hS.step a1 r1, m2, fun vs F2 H2 a2 r2 p2 => ?_⟩
  exact q _ F2 H2 (a1.trans a2) r2 (Rps.cons (Rp.mono a2.ff d v p1) p2)
theorem pma_nil : PMA X [] aNil := pa_imp pa_nil fun σ H Q ⟨ro, F0, H0, F, env, rd, z, rd', hS, hm, q⟩ => by
  cases hm
  exact q [] F H (Stp.refl hS.st.fh) hS.rd Rps.nil
theorem pma_cons {e : Expr} {es : List Expr} {m : MM D} {r : MM (List D)} (ha : PM X e m) (hr : PMA X es r) (hs : starEach (e :: es) X.env = (false, eval e X.env) :: starEach es X.env := by rfl) : PMA X (e :: es) (aCons m r) :=
  pa_imp (pa_cons ha hr hs) fun _ _ _ h => tMA_cons h
def eTup (a : MM (List D)) : MM D := bind1 a fun ds => fun _ rd => if ds.length ≤ sizeLine then some (.tup ds, rd) else none
def eLst (a : MM (List D)) : MM D := bind1 a fun ds => fun _ rd => if ds.length ≤ sizeLine then some (.lst ds, rd) else none
theorem pm_tup {es : List Expr} {x1} {pos : Pos} {m : MM (List D)} (h : PMA X es m) : PM X (.Tuple es x1 pos) (eTup m) := pe_imp (pe_tup h) fun σ H Q h => by
  obtain ⟨ro, F0, H0, F, env, rd, z, rd', hS, hm, q⟩ := h
  obtain ⟨ds, rd1, m1, hm⟩ := bind1_some hm
  simp only [Option.ite_none_right_eq_some, Option.some.injEq, Prod.mk.injEq] at hm
  obtain ⟨hl, rfl, rfl⟩ := hm
  refine ⟨ro, F0, H0, F, env, rd, ds, rd1, hS, m1, fun vs F' H' a r p => ⟨by rw [← p.length]; exact hl, fun x hx => ?_⟩⟩
  obtain ⟨q1, q2⟩ := new_tup a.fh hx p
  exact q _ _ _ (a.trans q1.stp) (r.alc q1) q2
theorem pm_lst {es : List Expr} {pos : Pos} {m : MM (List D)} (h : PMA X es m) : PM X (.List es pos) (eLst m) := pe_imp (pe_lst h) fun σ H Q h => by
  obtain ⟨ro, F0, H0, F, env, rd, z, rd', hS, hm, q⟩ := h
  obtain ⟨ds, rd1, m1, hm⟩ := bind1_some hm
  simp only [Option.ite_none_right_eq_some, Option.some.injEq, Prod.mk.injEq] at hm
  obtain ⟨hl, rfl, rfl⟩ := hm
  refine ⟨ro, F0, H0, F, env, rd, ds, rd1, hS, m1, fun vs F' H' a r p => ⟨by rw [← p.length]; exact hl, fun x hx => ?_⟩⟩
  obtain ⟨q1, q2⟩ := new_lst a.fh hx p
  exact q _ _ _ (a.trans q1.stp) (r.alc q1) q2

/-! ### built-in calls by data -/
def rCD (K : PySem.W.Frag) (op : List D → Option D) : List V → Hp → VK → Prop := fun vs H Q => ∃ F ds z, Same F H ∧ Rps K F ds vs ∧ op ds = some z ∧ ∀ v F' H', Alc F H F' H' → Rp K F' z v → Q v H'
def eCall (op : List D → Option D) (a : MM (List D)) : MM D := bind1 a fun ds => lift (op ds)
theorem tM_call {K : PySem.W.Frag} {op : List D → Option D} {a : MM (List D)} {σ : L2.St} {H : Hp} {Q : VK} (h : tM K (eCall op a) σ H Q) : tCB (rCD K op) (tMA K a) σ H Q := by
  obtain ⟨ro, F0, H0, F, env, rd, z, rd', hS, hm, q⟩ := h
  obtain ⟨ds, rd1, m1, hm⟩ := bind1_some hm
  obtain ⟨m2, rfl⟩ := lift_some hm
  refine ⟨ro, F0, H0, F, env, rd, ds, _, hS, m1, fun vs F1 H1 a1 r1 p1 => ?_⟩
  exact ⟨F1, ds, z, a1.fh, p1, m2, fun v F2 H2 a2 p2 => q v F2 H2 (a1.trans a2.stp) (r1.alc a2) p2⟩
section
variable {x : Str} {p pos : Pos} {e : Expr} {es : List Expr} {m : MM (List D)} {id T : String} {op : List D → Option D}
theorem pm_callB (hc : CallR X (.builtin id) (rCD X.K op)) (hg : Gl X x) (hm : X.mg x = none) (hv : bootBuiltins x = some (.builtin id)) (ha : PMA X (e :: es) m) (hn : x ≠ "__name__" := by decide) (hdb : (x == ("__debug__" : Str)) = false := by decide)
    (he : starEach (e :: es) X.env = (false, eval e X.env) :: starEach es X.env := by rfl) (hpl : (backTo pos (starEach es X.env)).any (·.1) = false := by rfl) : PM X (.Call (.Name x p) (e :: es) [] pos) (eCall op m) :=
  pe_imp (pe_callB hc hg hm hv ha hn hdb he hpl) fun _ _ _ h => tM_call h
theorem pm_callTy (hc : CallR X (.type T) (rCD X.K op)) (hg : Gl X x) (hm : X.mg x = none) (hv : bootBuiltins x = some (.type T)) (ha : PMA X (e :: es) m) (hn : x ≠ "__name__" := by decide) (hdb : (x == ("__debug__" : Str)) = false := by decide)
    (he : starEach (e :: es) X.env = (false, eval e X.env) :: starEach es X.env := by rfl) (hpl : (backTo pos (starEach es X.env)).any (·.1) = false := by rfl) : PM X (.Call (.Name x p) (e :: es) [] pos) (eCall op m) :=
  pe_imp (pe_callTy hc hg hm hv ha hn hdb he hpl) fun _ _ _ h => tM_call h
end
def op1 (f : D → Option D) : List D → Option D
  | [d] => f d
  | _ => none
theorem op1_some {f : D → Option D} {ds : List D} {z : D} (h : op1 f ds = some z) : ∃ d, ds = [d] ∧ f d = some z := by
  match ds, h with
  | [d], h => exact ⟨d, rfl, h⟩
/-- a call of one value -/
theorem cr_1 {f : Value} {r : List V → Hp → VK → Prop} {g : D → Option D} (h : CallR X f r)
    (k : ∀ (F H : Hp) (x : V) (d z : D) (Q : VK), Same F H → Rp X.K F d x → g d = some z → (∀ v F' H', Alc F H F' H' → Rp X.K F' z v → Q v H') → r [x] H Q) : CallR X f (rCD X.K (op1 g)) := by
  intro pins s σ H vs us Q I rv q
  obtain ⟨F, ds, z, sf, p, hz, q⟩ := q
  obtain ⟨d, rfl, hz⟩ := op1_some hz
  simp only [Rps] at p
  obtain ⟨v, r', rfl, p1, rfl⟩ := p
  exact h pins s σ H _ us Q I rv (k F H v d z Q sf p1 hz q)
def opLen : D → Option D
  | .str s => if s.length ≤ sizeLine then some (.int s.length) else none
  | .tup ds => some (.int ds.length)
  | .lst ds => some (.int ds.length)
  | _ => none
theorem cr_len : CallR X (.builtin "len") (rCD X.K (op1 opLen)) := cr_1 (call_len_seq.or call_len_str) fun F H x d z Q sf p hz q => by
  cases d with
  | str s =>
    simp only [opLen, Option.ite_none_right_eq_some, Option.some.injEq] at hz
    obtain ⟨hl, rfl⟩ := hz
    simp only [Rp] at p
    subst p
    exact .inr ⟨s, rfl, hl, q _ F H (Alc.refl sf) rp_int⟩
  | tup ds =>
    simp only [opLen, Option.some.injEq] at hz
    subst hz
    simp only [Rp] at p
    obtain ⟨a, vs, rfl, h2, h3⟩ := p
    exact .inl ⟨a, vs, rfl, .inr (sqT_mono sf h2), by rw [← h3.length]; exact q _ F H (Alc.refl sf) rp_int⟩
  | lst ds =>
    simp only [opLen, Option.some.injEq] at hz
    subst hz
    simp only [Rp] at p
    obtain ⟨a, vs, rfl, h2, h3⟩ := p
    exact .inl ⟨a, vs, rfl, .inl (sqL_of (sf _ _ h2)), by rw [← h3.length]; exact q _ F H (Alc.refl sf) rp_int⟩
  | _ => simp [opLen] at hz
def opInt : D → Option D
  | .int i => some (.int i)
  | .bl b => some (.int (if b then 1 else 0))
  | _ => none
theorem cr_int : CallR X (.type "int") (rCD X.K (op1 opInt)) := cr_1 call_int1 fun F H x d z Q sf p hz q => by
  cases d with
  | int i =>
    simp only [opInt, Option.some.injEq] at hz
    subst hz
    simp only [Rp] at p
    subst p
    exact .inl ⟨i, rfl, q _ F H (Alc.refl sf) rp_int⟩
  | bl b =>
    simp only [opInt, Option.some.injEq] at hz
    subst hz
    simp only [Rp] at p
    subst p
    exact .inr ⟨b, rfl, q _ F H (Alc.refl sf) rp_int⟩
  | _ => simp [opInt] at hz
def opStr : D → Option D
  | .int i => if i.natAbs.log2 < 1920 then some (.str (toString i)) else none
  | .str s => some (.str s)
  | _ => none
theorem cr_str : CallR X (.type "str") (rCD X.K (op1 opStr)) := cr_1 (call_str_int.or SkE.call_str_str) fun F H x d z Q sf p hz q => by
  cases d with
  | int i =>
    simp only [opStr, Option.ite_none_right_eq_some, Option.some.injEq] at hz
    obtain ⟨hl, rfl⟩ := hz
    simp only [Rp] at p
    subst p
    exact .inl ⟨i, rfl, hl, q _ F H (Alc.refl sf) rp_str⟩
  | str s =>
    simp only [opStr, Option.some.injEq] at hz
    subst hz
    simp only [Rp] at p
    subst p
    exact .inr ⟨s, rfl, q _ F H (Alc.refl sf) rp_str⟩
  | _ => simp [opStr] at hz
def opTuple : D → Option D
  | .tup ds => some (.tup ds)
  | .lst ds => some (.tup ds)
  | _ => none
theorem cr_tuple : CallR X (.type "tuple") (rCD X.K (op1 opTuple)) := cr_1 call_tuple_of fun F H x d z Q sf p hz q => by
  cases d with
  | tup ds =>
    simp only [opTuple, Option.some.injEq] at hz
    subst hz
    have p0 := p
    simp only [Rp] at p
    obtain ⟨a, vs, rfl, h2, h3⟩ := p
    exact ⟨a, vs, rfl, .inr ⟨sqT_mono sf h2, q _ F H (Alc.refl sf) p0⟩⟩
  | lst ds =>
    simp only [opTuple, Option.some.injEq] at hz
    subst hz
    simp only [Rp] at p
    obtain ⟨a, vs, rfl, h2, h3⟩ := p
    refine ⟨a, vs, rfl, .inl ⟨sqL_of (sf _ _ h2), fun l hl => ?_⟩⟩
    obtain ⟨q1, q2⟩ := new_tup sf hl h3
    exact q _ _ _ q1 q2
  | _ => simp [opTuple] at hz
def opList : D → Option D
  | .tup ds => some (.lst ds)
  | .lst ds => some (.lst ds)
  | _ => none
theorem cr_list : CallR X (.type "list") (rCD X.K (op1 opList)) := cr_1 call_list_of fun F H x d z Q sf p hz q => by
  cases d with
  | tup ds =>
    simp only [opList, Option.some.injEq] at hz
    subst hz
    simp only [Rp] at p
    obtain ⟨a, vs, rfl, h2, h3⟩ := p
    refine ⟨a, vs, rfl, .inr (sqT_mono sf h2), fun l hl => ?_⟩
    obtain ⟨q1, q2⟩ := new_lst sf hl h3
    exact q _ _ _ q1 q2
  | lst ds =>
    simp only [opList, Option.some.injEq] at hz
    subst hz
    simp only [Rp] at p
    obtain ⟨a, vs, rfl, h2, h3⟩ := p
    refine ⟨a, vs, rfl, .inl (sqL_of (sf _ _ h2)), fun l hl => ?_⟩
    obtain ⟨q1, q2⟩ := new_lst sf hl h3
    exact q _ _ _ q1 q2
  | _ => simp [opList] at hz
/-- lists of ints, of bools, of texts -/
def intsOf : List D → Option (List Int)
  | [] => some []
  | .int i :: r => (intsOf r).map (i :: ·)
  | _ => none
theorem intsOf_some : ∀ {ds : List D} {ns : List Int}, intsOf ds = some ns → ds = ns.map D.int
  | [], ns, h => by
    simp only [intsOf, Option.some.injEq] at h
    subst h
    rfl
  | .int i :: r, ns, h => by
    simp only [intsOf, Option.map_eq_some_iff] at h
    obtain ⟨ms, h1, rfl⟩ := h
    rw [intsOf_some h1]
    rfl
  | .non :: _, _, h => by simp [intsOf] at h
  | .bl _ :: _, _, h => by simp [intsOf] at h
  | .str _ :: _, _, h => by simp [intsOf] at h
  | .tup _ :: _, _, h => by simp [intsOf] at h
  | .lst _ :: _, _, h => by simp [intsOf] at h
def blsOf : List D → Option (List Bool)
  | [] => some []
  | .bl i :: r => (blsOf r).map (i :: ·)
  | _ => none
theorem blsOf_some : ∀ {ds : List D} {ns : List Bool}, blsOf ds = some ns → ds = ns.map D.bl
  | [], ns, h => by
    simp only [blsOf, Option.some.injEq] at h
    subst h
    rfl
  | .bl i :: r, ns, h => by
    simp only [blsOf, Option.map_eq_some_iff] at h
    obtain ⟨ms, h1, rfl⟩ := h
    rw [blsOf_some h1]
    rfl
  | .non :: _, _, h => by simp [blsOf] at h
  | .int _ :: _, _, h => by simp [blsOf] at h
  | .str _ :: _, _, h => by simp [blsOf] at h
  | .tup _ :: _, _, h => by simp [blsOf] at h
  | .lst _ :: _, _, h => by simp [blsOf] at h
def strsOf : List D → Option (List Str)
  | [] => some []
  | .str i :: r => (strsOf r).map (i :: ·)
  | _ => none
theorem strsOf_some : ∀ {ds : List D} {ns : List Str}, strsOf ds = some ns → ds = ns.map D.str
  | [], ns, h => by
    simp only [strsOf, Option.some.injEq] at h
    subst h
    rfl
  | .str i :: r, ns, h => by
    simp only [strsOf, Option.map_eq_some_iff] at h
    obtain ⟨ms, h1, rfl⟩ := h
    rw [strsOf_some h1]
    rfl
  | .non :: _, _, h => by simp [strsOf] at h
  | .int _ :: _, _, h => by simp [strsOf] at h
  | .bl _ :: _, _, h => by simp [strsOf] at h
  | .tup _ :: _, _, h => by simp [strsOf] at h
  | .lst _ :: _, _, h => by simp [strsOf] at h
def opSum : D → Option D
  | .lst ds => (intsOf ds).map fun ns => .int ns.sum
  | _ => none
theorem cr_sumD (hc : X.calm = true) : CallR X (.builtin "sum") (rCD X.K (op1 opSum)) := cr_1 (cr_sum hc) fun F H x d z Q sf p hz q => by
  cases d with
  | lst ds =>
    simp only [opSum, Option.map_eq_some_iff] at hz
    obtain ⟨ns, h1, rfl⟩ := hz
    obtain rfl := intsOf_some h1
    simp only [Rp] at p
    obtain ⟨a, vs, rfl, h2, h3⟩ := p
    obtain rfl := Rps.ints h3
    exact ⟨a, ns, rfl, sqL_of (sf _ _ h2), q _ F H (Alc.refl sf) rp_int⟩
  | _ => simp [opSum] at hz
def opAll : D → Option D
  | .lst ds => (blsOf ds).map fun ns => .bl (ns.all id)
  | _ => none
theorem cr_allD (hc : X.calm = true) : CallR X (.builtin "all") (rCD X.K (op1 opAll)) := cr_1 (cr_all hc) fun F H x d z Q sf p hz q => by
  cases d with
  | lst ds =>
    simp only [opAll, Option.map_eq_some_iff] at hz
    obtain ⟨ns, h1, rfl⟩ := hz
    obtain rfl := blsOf_some h1
    simp only [Rp] at p
    obtain ⟨a, vs, rfl, h2, h3⟩ := p
    obtain rfl := Rps.bls h3
    exact ⟨a, ns, rfl, sqL_of (sf _ _ h2), q _ F H (Alc.refl sf) rp_bl⟩
  | _ => simp [opAll] at hz
def opAny : D → Option D
  | .lst ds => (blsOf ds).map fun ns => .bl (ns.any id)
  | _ => none
theorem cr_anyD (hc : X.calm = true) : CallR X (.builtin "any") (rCD X.K (op1 opAny)) := cr_1 (cr_any hc) fun F H x d z Q sf p hz q => by
  cases d with
  | lst ds =>
    simp only [opAny, Option.map_eq_some_iff] at hz
    obtain ⟨ns, h1, rfl⟩ := hz
    obtain rfl := blsOf_some h1
    simp only [Rp] at p
    obtain ⟨a, vs, rfl, h2, h3⟩ := p
    obtain rfl := Rps.bls h3
    exact ⟨a, ns, rfl, sqL_of (sf _ _ h2), q _ F H (Alc.refl sf) rp_bl⟩
  | _ => simp [opAny] at hz
/-- sep.join(xs) -/
def joinD (a : Str) (ys : List Str) : Option D := if (ys.map (·.length)).sum + ys.length * a.length ≤ 16777216 then some (.str (Txt.join a ys)) else none
def opJoin (s : D) (d : D) : Option D := match s with
  | .str a => ((seqOf d).bind strsOf).bind (joinD a)
  | _ => none
theorem pm_join {o e : Expr} {mo me : MM D} {apos pos : Pos} (ho : PM X o mo) (he : PM X e me) (hs : starEach [e] X.env = [(false, eval e X.env)] := by rfl) (hbase : attributeBase o "join" X.env (eval o X.env) = eval o X.env := by rfl) (hline : (apos.endLine == pos.line) = true := by rfl) :
    PM X (.Call (.Attribute o "join" apos) [e] [] pos) (eOp opJoin mo me) := pe_imp (pe_join ho he hs hbase hline) fun σ H Q h => by
  obtain ⟨ro, F0, H0, F, env, rd, z, rd', hS, hm, q⟩ := h
  obtain ⟨d, rd1, m1, hm⟩ := bind1_some hm
  obtain ⟨e, rd2, m2, hm⟩ := bind1_some hm
  obtain ⟨m3, e3⟩ := lift_some hm
  subst e3
  cases d with
  | str a =>
      simp only [opJoin] at m3
      obtain ⟨ys, hs, m3⟩ := Option.bind_eq_some_iff.mp m3
      obtain ⟨ds, hq, hy⟩ := Option.bind_eq_some_iff.mp hs
      simp only [joinD, Option.ite_none_right_eq_some, Option.some.injEq] at m3
      obtain ⟨hl, rfl⟩ := m3
      obtain rfl := strsOf_some hy
      refine ⟨ro, F0, H0, F, env, rd, _, rd1, hS, m1, fun x F1 H1 a1 r1 p1 => ?_⟩
      simp only [Rp] at p1
      subst p1
      refine ⟨⟨a, rfl⟩, ro, F0, H0, F1, env, rd1, e, _, hS.step a1 r1, m2, fun y F2 H2 a2 r2 p2 => ?_⟩
      have fin := q (.str (Txt.join a ys)) F2 H2 (a1.trans a2) r2 rp_str
      cases e with
      | tup es =>
        simp only [seqOf, Option.some.injEq] at hq
        subst hq
        simp only [Rp] at p2
        obtain ⟨b, vs, rfl, h2, h3⟩ := p2
        obtain rfl := Rps.strs h3
        exact ⟨a, b, ys, rfl, rfl, .inr (sqT_mono a2.fh h2), hl, fin⟩
      | lst es =>
        simp only [seqOf, Option.some.injEq] at hq
        subst hq
        simp only [Rp] at p2
        obtain ⟨b, vs, rfl, h2, h3⟩ := p2
        obtain rfl := Rps.strs h3
        exact ⟨a, b, ys, rfl, rfl, .inl (sqL_of (a2.fh _ _ h2)), hl, fin⟩
      | _ => simp [seqOf] at hq
  | _ => simp [opJoin] at m3

/-! ### subscripts, slices -/
def opIx (d e : D) : Option D := match d, e with
  | .tup ds, .int i => atI ds i
  | .lst ds, .int i => atI ds i
  | .str s, .int i => if s.length ≤ sizeLine then (atI s.cps.toList i).map fun c => .str ⟨#[c]⟩ else none
  | _, _ => none
theorem atI_rps {K : PySem.W.Frag} {F : Hp} {ds : List D} {vs : List V} {i : Int} {z : D} (h : Rps K F ds vs) (e : atI ds i = some z) : ∃ v, atI vs i = some v ∧ Rp K F z v := by
  unfold atI at e ⊢
  rw [← h.length]
  obtain ⟨j, h1, h2⟩ := Option.bind_eq_some_iff.mp e
  obtain ⟨v, h3, h4⟩ := h.get h2
  exact ⟨v, Option.bind_eq_some_iff.mpr ⟨j, h1, h3⟩, h4⟩
theorem r_ix : R2ok X.K (rIx X.K) opIx := fun F H x y d e z Q sf pd pe hz q => by
  cases d with
  | tup ds => cases e with
    | int i =>
      simp only [opIx] at hz
      simp only [Rp] at pd pe
      subst pe
      obtain ⟨a, vs, rfl, h2, h3⟩ := pd
      obtain ⟨v, h4, h5⟩ := atI_rps h3 hz
      exact .inr (.inl ⟨a, vs, i, v, rfl, rfl, sqT_mono sf h2, h4, q _ F H (Alc.refl sf) h5⟩)
    | _ => simp [opIx] at hz
  | lst ds => cases e with
    | int i =>
      simp only [opIx] at hz
      simp only [Rp] at pd pe
      subst pe
      obtain ⟨a, vs, rfl, h2, h3⟩ := pd
      obtain ⟨v, h4, h5⟩ := atI_rps h3 hz
      exact .inl ⟨a, vs, i, v, rfl, rfl, sqL_of (sf _ _ h2), h4, q _ F H (Alc.refl sf) h5⟩
    | _ => simp [opIx] at hz
  | str s => cases e with
    | int i =>
      simp only [opIx, Option.ite_none_right_eq_some, Option.map_eq_some_iff] at hz
      obtain ⟨hl, c, h1, rfl⟩ := hz
      simp only [Rp] at pd pe
      subst pd pe
      exact .inr (.inr ⟨s, i, c, rfl, rfl, hl, h1, q _ F H (Alc.refl sf) rp_str⟩)
    | _ => simp [opIx] at hz
  | _ => simp [opIx] at hz
theorem tOp_r {K : PySem.W.Frag} {r : R2} {op : D → D → Option D} (k : R2ok K r op) {ta tb : TE} {σ : L2.St} {H : Hp} {Q : VK} (ma : ∀ σ H (Q Q' : VK), (∀ v H, Q v H → Q' v H) → ta σ H Q → ta σ H Q') (mb : ∀ σ H (Q Q' : VK), (∀ v H, Q v H → Q' v H) → tb σ H Q → tb σ H Q')
    (h : tOp (rD K op) ta tb σ H Q) : tOp r ta tb σ H Q := ma _ _ _ _ (fun x H1 h1 => mb _ _ _ _ (fun y H2 h2 => by
  obtain ⟨F, d, e, z, s1, p1, p2, p3, q⟩ := h2
  exact k F H2 x y d e z Q s1 p1 p2 p3 q) h1) h
theorem tM_mono {K : PySem.W.Frag} {m : MM D} (σ : L2.St) (H : Hp) (Q Q' : VK) (f : ∀ v H, Q v H → Q' v H) (h : tM K m σ H Q) : tM K m σ H Q' := by
  obtain ⟨ro, F0, H0, F, env, rd, z, rd', hS, hm, q⟩ := h
  exact ⟨ro, F0, H0, F, env, rd, z, rd', hS, hm, fun v F' H' a r p => f _ _ (q v F' H' a r p)⟩
theorem pm_ix {a b : Expr} {ma mb : MM D} {pos : Pos} (ha : PM X a ma) (hb : PM X b mb) (hs : PlainIx b := by exact fun _ _ => rfl) : PM X (.Subscript a b pos) (eOp opIx ma mb) :=
  pe_imp (pe_ix ix_seq ha hb hs) fun σ H Q h => tOp_r r_ix tM_mono tM_mono (tM_op h)
/-- the bounds of a slice -/
def pNone : MM (Option Int) := fun _ rd => some (none, rd)
def pSome (m : MM D) : MM (Option Int) := bind1 m fun d => lift (match d with
  | .int i => some (some i)
  | _ => none)
def tMO (K : PySem.W.Frag) (m : MM (Option Int)) : TO := fun σ H Q => ∃ ro F0 H0 F env rd o rd', SRel K ro F0 H0 F env rd σ H ∧ m env rd = some (o, rd') ∧
  ∀ F' H', Stp ro F H F' H' → RdOk ro rd' F' H' → Q o H'
abbrev PMO (X : Cx) (e : Option Expr) (m : MM (Option Int)) : Prop := PO X e (tMO X.K m)
theorem po_imp {e : Option Expr} {t t' : TO} (h : PO X e t) (f : ∀ σ H Q, t' σ H Q → t σ H Q) : PO X e t' := ⟨fun pins s σ H Q I q => h.run pins s σ H Q I (f _ _ _ q)⟩
theorem pmo_none : PMO X none pNone := po_imp po_none fun σ H Q ⟨ro, F0, H0, F, env, rd, z, rd', hS, hm, q⟩ => by
  cases hm
  exact q F H (Stp.refl hS.st.fh) hS.rd
theorem pmo_some {e : Expr} {m : MM D} (h : PM X e m) : PMO X (some e) (pSome m) := po_imp (po_some h) fun σ H Q ⟨ro, F0, H0, F, env, rd, z, rd', hS, hm, q⟩ => by
  obtain ⟨d, rd1, m1, hm⟩ := bind1_some hm
  obtain ⟨m2, rfl⟩ := lift_some hm
  cases d with
  | int i =>
    cases m2
    refine ⟨ro, F0, H0, F, env, rd, _, _, hS, m1, fun v F' H' a r p => ?_⟩
    simp only [Rp] at p
    exact ⟨i, p, q F' H' a r⟩
  | _ => cases m2
def cutD (xs : List D) (lo hi : Option Int) : List D := (xs.drop (HT.sIx xs.length 0 lo)).take (HT.sIx xs.length xs.length hi - HT.sIx xs.length 0 lo)
def opSl (d : D) (lo hi : Option Int) : Option D := match d with
  | .tup ds => some (.tup (cutD ds lo hi))
  | .lst ds => some (.lst (cutD ds lo hi))
  | .str s => if s.length ≤ sizeLine then some (.str (cutS s lo hi)) else none
  | _ => none
def eSl (m : MM D) (ml mh : MM (Option Int)) : MM D := bind1 m fun d => bind1 ml fun lo => bind1 mh fun hi => lift (opSl d lo hi)
theorem cut_rps {K : PySem.W.Frag} {F : Hp} {ds : List D} {vs : List V} (lo hi : Option Int) (h : Rps K F ds vs) : Rps K F (cutD ds lo hi) (cutV vs lo hi) := by
  unfold cutD cutV
  rw [h.length]
  exact Rps.take _ (Rps.drop _ h)
theorem pm_slice {e : Expr} {lo hi : Option Expr} {m : MM D} {ml mh : MM (Option Int)} {p2 pos : Pos} (he : PM X e m) (hl : PMO X lo ml) (hh : PMO X hi mh) : PM X (.Subscript e (.Slice lo hi none p2) pos) (eSl m ml mh) :=
  pe_imp (pe_slice (sl_list.or (sl_tupA.or sl_str)) he hl hh) fun σ H Q h => by
  obtain ⟨ro, F0, H0, F, env, rd, z, rd', hS, hm, q⟩ := h
  obtain ⟨d, rd1, m1, hm⟩ := bind1_some hm
  obtain ⟨lo, rd2, m2, hm⟩ := bind1_some hm
  obtain ⟨hi, rd3, m3, hm⟩ := bind1_some hm
  obtain ⟨m4, e4⟩ := lift_some hm
  subst e4
  refine ⟨ro, F0, H0, F, env, rd, d, rd1, hS, m1, fun x F1 H1 a1 r1 p1 => ?_⟩
  have S1 := hS.step a1 r1
  refine ⟨ro, F0, H0, F1, env, rd1, lo, rd2, S1, m2, fun F2 H2 a2 r2 => ?_⟩
  refine ⟨ro, F0, H0, F2, env, rd2, hi, _, S1.step a2 r2, m3, fun F3 H3 a3 r3 => ?_⟩
  have q' := fun v F' H' (b : Alc F3 H3 F' H') => q v F' H' (((a1.trans a2).trans a3).trans b.stp) (r3.alc b)
  have p1 := Rp.mono (a2.ff.trans a3.ff) d x p1
  cases d with
  | tup ds =>
    simp only [opSl, Option.some.injEq] at m4
    subst m4
    have p0 := p1
    simp only [Rp] at p1
    obtain ⟨a, vs, rfl, h2, h3⟩ := p1
    refine .inr (.inl ⟨a, vs, rfl, sqT_mono a3.fh h2, fun hw => ?_, fun _ p hp => ?_⟩)
    · have e : cutD ds lo hi = ds := by
        unfold cutD
        rw [← h3.length] at hw
        rw [hw.1, hw.2, List.drop_zero, Nat.sub_zero, List.take_length]
      rw [e] at q'
      exact q' _ F3 H3 (Alc.refl a3.fh) p0
    · obtain ⟨q1, q2⟩ := new_tup a3.fh hp (cut_rps lo hi h3)
      exact q' _ _ _ q1 q2
  | lst ds =>
    simp only [opSl, Option.some.injEq] at m4
    subst m4
    simp only [Rp] at p1
    obtain ⟨a, vs, rfl, h2, h3⟩ := p1
    refine .inl ⟨a, vs, rfl, sqL_of (a3.fh _ _ h2), fun p hp => ?_⟩
    obtain ⟨q1, q2⟩ := new_lst a3.fh hp (cut_rps lo hi h3)
    exact q' _ _ _ q1 q2
  | str s =>
    simp only [opSl, Option.ite_none_right_eq_some, Option.some.injEq] at m4
    obtain ⟨hl, rfl⟩ := m4
    simp only [Rp] at p1
    subst p1
    exact .inr (.inr ⟨s, rfl, hl, q' _ F3 H3 (Alc.refl a3.fh) rp_str⟩)
  | _ => simp [opSl] at m4

/-! ### isinstance -/
def tyName : D → String
  | .non => "NoneType"
  | .bl _ => "bool"
  | .int _ => "int"
  | .str _ => "str"
  | .tup _ => "tuple"
  | .lst _ => "list"
def opIs (T : String) (d : D) : Option D := (kitB (tyName d) T).map D.bl
theorem tyX_of {K : PySem.W.Frag} {F H : Hp} (sf : Same F H) {d : D} {v : V} (h : Rp K F d v) : TyX K H v (.type (tyName d)) := by
  cases d with
  | non => simp only [Rp] at h; subst h; exact .base .non
  | bl b => simp only [Rp] at h; subst h; exact .base (.bl b)
  | int b => simp only [Rp] at h; subst h; exact .base (.int b)
  | str b => simp only [Rp] at h; subst h; exact .base (.str b)
  | lst ds =>
    simp only [Rp] at h
    obtain ⟨a, vs, rfl, h2, _⟩ := h
    exact .base (.lst (sf _ _ h2))
  | tup ds =>
    simp only [Rp] at h
    obtain ⟨a, vs, rfl, h2, _⟩ := h
    rcases h2 with (h2 | ⟨o, h2⟩) | ⟨o, its, n, h2, h3, _⟩
    · exact .base (.tup (sf _ _ h2))
    · exact .fTuple (sf _ _ h2)
    · exact .kTuple h2 h3
theorem pm_isi {x T : Str} {Tn : String} {a : Expr} {ma : MM D} {p p2 pos : Pos} (hg : Gl X "isinstance") (hm : X.mg "isinstance" = none) (hgT : Gl X T) (hmT : X.mg T = none) (hvT : bootBuiltins T = some (.type Tn)) (ha : PM X a ma) (hn : T ≠ "__name__" := by decide) (hd : (T == ("__debug__" : Str)) = false := by decide)
    (h1 : starEach [a, .Name T p2] X.env = (false, eval a X.env) :: starEach [.Name T p2] X.env := by rfl) :
    PM X (.Call (.Name "isinstance" p) [a, .Name T p2] [] pos) (eUn (opIs Tn) ma) :=
  pe_imp (pe_callB (r := rIsi X.K) (id := "isinstance") call_isi hg hm (by decide +kernel) (pa_cons ha (pa_cons (pe_bltn (v := .ty Tn) hgT hmT hvT rfl hn hd) pa_nil) h1) (by decide) (by decide) h1) fun σ H Q h => by
  obtain ⟨ro, F0, H0, F, env, rd, z, rd', hS, hm, q⟩ := h
  obtain ⟨d, rd1, m1, hm⟩ := bind1_some hm
  obtain ⟨m2, e2⟩ := lift_some hm
  subst e2
  simp only [opIs, Option.map_eq_some_iff] at m2
  obtain ⟨b, hb, rfl⟩ := m2
  refine ⟨ro, F0, H0, F, env, rd, d, _, hS, m1, fun v F' H' a r p => ?_⟩
  exact ⟨v, .ty Tn, .type (tyName d), .type Tn, b, rfl, .ty Tn, tyX_of a.fh p, kit_ty hb, q _ F' H' a r rp_bl⟩
theorem kit_tab : kitB "NoneType" "int" = some false ∧ kitB "bool" "int" = some true ∧ kitB "int" "int" = some true ∧ kitB "str" "int" = some false ∧ kitB "tuple" "int" = some false ∧ kitB "list" "int" = some false := by decide +kernel
theorem kit_tab2 : kitB "NoneType" "str" = some false ∧ kitB "bool" "str" = some false ∧ kitB "int" "str" = some false ∧ kitB "str" "str" = some true ∧ kitB "tuple" "str" = some false ∧ kitB "list" "str" = some false := by decide +kernel
theorem kit_tab3 : kitB "NoneType" "bool" = some false ∧ kitB "bool" "bool" = some true ∧ kitB "int" "bool" = some false ∧ kitB "str" "bool" = some false ∧ kitB "tuple" "bool" = some false ∧ kitB "list" "bool" = some false := by decide +kernel
theorem kit_tab4 : kitB "NoneType" "tuple" = some false ∧ kitB "bool" "tuple" = some false ∧ kitB "int" "tuple" = some false ∧ kitB "str" "tuple" = some false ∧ kitB "tuple" "tuple" = some true ∧ kitB "list" "tuple" = some false := by decide +kernel
theorem kit_tab5 : kitB "NoneType" "list" = some false ∧ kitB "bool" "list" = some false ∧ kitB "int" "list" = some false ∧ kitB "str" "list" = some false ∧ kitB "tuple" "list" = some false ∧ kitB "list" "list" = some true := by decide +kernel
end
end FW

set_option Elab.async false
set_option linter.all false
set_option maxRecDepth 100000
set_option maxHeartbeats 1000000
namespace FW
open PySem PySem.Spec PyProof.Rows L2
section
variable {X : Cx}

/-! ### targets -/
inductive Pat where
  | nm (i : Nat) | tp (is : List Nat)
def setAll : List Nat → List D → List SV → List SV
  | i :: is, d :: ds, env => setAll is ds (env.set i (.val d))
  | _, _, env => env
def setPat : Pat → D → List SV → Option (List SV)
  | .nm i, d, env => some (env.set i (.val d))
  | .tp is, .tup ds, env => if ds.length = is.length then some (setAll is ds env) else none
  | _, _, _ => none
def gAll : List Nat → TGs
  | [] => gNil
  | i :: is => gCons (gName i) (gAll is)
def gOf (K : PySem.W.Frag) : Pat → TG
  | .nm i => gName i
  | .tp is => gTup K is.length (gAll is)
def Pat.slots : Pat → List Nat
  | .nm i => [i]
  | .tp is => is
theorem wipe_set {σ : L2.St} {i : Nat} {o : Option V} : ∀ {vs : List Nat}, i ∈ vs → wipe (σ.set i o) vs = wipe σ vs
  | [], h => absurd h List.not_mem_nil
  | v :: vs, h => by
    unfold wipe
    by_cases hi : i ∈ vs
    · rw [wipe_set hi]
    · have e : i = v := by
        rcases List.mem_cons.mp h with e | e
        · exact e
        · exact absurd e hi
      subst e
      have aux : ∀ ws : List Nat, i ∉ ws → wipe (σ.set i o) ws = (wipe σ ws).set i o := by
        intro ws
        induction ws with
        | nil => intro _; rfl
        | cons w ws ih =>
          intro hw
          have h1 : i ≠ w := fun e => hw (by rw [e]; exact List.mem_cons_self)
          unfold wipe
          rw [ih fun z => hw (List.mem_cons_of_mem _ z), List.set_comm _ _ h1]
      rw [aux vs hi, List.set_set]
theorem gAll_ok {K : PySem.W.Frag} {ro : Ro} {H0 F H : Hp} {Q : L2.St → Hp → Prop} : ∀ {is : List Nat} {ds : List D} {vs : List V} {env : List SV} {σ : L2.St}, EnvOk K ro H0 F H env σ → Rps K F ds vs → ds.length = is.length →
    (∀ σ', EnvOk K ro H0 F H (setAll is ds env) σ' → (∀ ws : List Nat, (∀ i ∈ is, i ∈ ws) → wipe σ' ws = wipe σ ws) → Q σ' H) → gAll is vs σ H Q
  | [], [], vs, env, σ, hE, hR, _, q => by
    simp only [Rps] at hR
    exact ⟨hR, q σ hE fun _ _ => rfl⟩
  | i :: is, d :: ds, vs, env, σ, hE, hR, hl, q => by
    simp only [Rps] at hR
    obtain ⟨v, r, rfl, p1, p2⟩ := hR
    refine ⟨v, r, rfl, ?_⟩
    show gAll is r (σ.set i (some v)) H Q
    refine gAll_ok (hE.set p1) p2 (by simpa using hl) fun σ' e1 e2 => q σ' e1 fun ws hw => ?_
    rw [e2 ws fun j hj => hw j (List.mem_cons_of_mem _ hj), wipe_set (hw i List.mem_cons_self)]
  | [], _ :: _, _, _, _, _, _, hl, _ => by simp at hl
  | _ :: _, [], _, _, _, _, _, hl, _ => by simp at hl
theorem gOf_ok {K : PySem.W.Frag} {ro : Ro} {H0 F H : Hp} {Q : L2.St → Hp → Prop} {p : Pat} {d : D} {v : V} {env env' : List SV} {σ : L2.St} (hE : EnvOk K ro H0 F H env σ) (sf : Same F H) (hR : Rp K F d v) (hs : setPat p d env = some env')
    (q : ∀ σ', EnvOk K ro H0 F H env' σ' → (∀ ws : List Nat, (∀ i ∈ p.slots, i ∈ ws) → wipe σ' ws = wipe σ ws) → Q σ' H) : gOf K p v σ H Q := by
  cases p with
  | nm i =>
    simp only [setPat, Option.some.injEq] at hs
    subst hs
    exact q _ (hE.set hR) fun ws hw => wipe_set (hw i (by simp [Pat.slots]))
  | tp is =>
    cases d with
    | tup ds =>
      simp only [setPat, Option.ite_none_right_eq_some, Option.some.injEq] at hs
      obtain ⟨hl, rfl⟩ := hs
      simp only [Rp] at hR
      obtain ⟨a, vs, rfl, h2, h3⟩ := hR
      exact ⟨a, vs, rfl, sqT_mono sf h2, by rw [← h3.length, hl], gAll_ok hE h3 hl q⟩
    | _ => simp [setPat] at hs

/-! ### what is walked -/
structure Wk (K : PySem.W.Frag) (F : Hp) (J : It) (ds : List D) : Prop where
  go : ∀ i H, i < ds.length → Same F H → J.go i H
  stop : ∀ H, Same F H → J.stop ds.length H
  yld : ∀ i H x H' F2, i < ds.length → Same F F2 → Same F2 H → J.yld i H x H' → ∃ F3, Alc F2 H F3 H' ∧ ∃ d, ds[i]? = some d ∧ Rp K F3 d x
def tMI (K : PySem.W.Frag) (m : MM (List D)) : TI := fun σ H R => ∃ ro F0 H0 F env rd ds rd', SRel K ro F0 H0 F env rd σ H ∧ m env rd = some (ds, rd') ∧
  ∀ J F' H', Stp ro F H F' H' → RdOk ro rd' F' H' → Wk K F' J ds → R J H'
abbrev PMI (X : Cx) (tg iter : Expr) (m : MM (List D)) : Prop := PI X tg iter (tMI X.K m)
def signsD (s : Str) : List D := s.cps.toList.map fun c => .str ⟨#[c]⟩
def iterD : D → Option (List D)
  | .tup ds => some ds
  | .lst ds => some ds
  | .str s => some (signsD s)
  | _ => none
def eIter (m : MM D) : MM (List D) := bind1 m fun d => lift (iterD d)
theorem wk_list {K : PySem.W.Frag} {F : Hp} {a : Addr} {vs : List V} {ds : List D} (h : F a = some (.lst vs)) (r : Rps K F ds vs) : Wk K F (Itl K a) ds := by
  refine ⟨fun i H hi e => ?_, fun H e => ⟨vs, sqL_of (e _ _ h), by rw [r.length]; exact Nat.le_refl _⟩, fun i H x H' F2 hi e e2 y => ?_⟩
  · rw [r.length] at hi
    exact ⟨vs, vs[i], sqL_of (e _ _ h), List.getElem?_eq_getElem hi⟩
  · obtain ⟨rfl, y⟩ := y
    obtain ⟨d, h1, h2⟩ := r.get' (y vs (sqL_of (e2 _ _ (e _ _ h))))
    exact ⟨F2, Alc.refl e2, d, h1, Rp.mono e d x h2⟩
theorem wk_tup {K : PySem.W.Frag} {F : Hp} {a : Addr} {vs : List V} {ds : List D} (h : SqT K F a vs) (r : Rps K F ds vs) : Wk K F (Itt K a) ds := by
  refine ⟨fun i H hi e => ?_, fun H e => ⟨vs, sqT_mono e h, by rw [r.length]; exact Nat.le_refl _⟩, fun i H x H' F2 hi e e2 y => ?_⟩
  · rw [r.length] at hi
    exact ⟨vs, vs[i], sqT_mono e h, List.getElem?_eq_getElem hi⟩
  · obtain ⟨rfl, y⟩ := y
    obtain ⟨d, h1, h2⟩ := r.get' (y vs (sqT_mono (e.trans e2) h))
    exact ⟨F2, Alc.refl e2, d, h1, Rp.mono e d x h2⟩
theorem wk_str {K : PySem.W.Frag} {F : Hp} {z : Str} : Wk K F (Its z) (signsD z) := by
  have hl : (signsD z).length = z.cps.size := by
    unfold signsD
    rw [List.length_map, Array.length_toList]
  refine ⟨fun i H hi e => ?_, fun H e => ?_, fun i H x H' F2 hi e e2 y => ?_⟩
  · rw [hl] at hi
    exact walk_str.goes i H hi trivial
  · rw [hl]
    exact walk_str.stops H trivial
  · rw [hl] at hi
    obtain ⟨rfl, c, h1, rfl⟩ := walk_str.yields i H x H' hi trivial y
    refine ⟨F2, Alc.refl e2, .str ⟨#[c]⟩, ?_, rp_str⟩
    unfold signsD
    rw [List.getElem?_map, Array.getElem?_toList, h1]
    rfl
theorem pmi_seq {tg e : Expr} {m : MM D} (he : PM X e m) : PMI X tg e (eIter m) := by
  refine ⟨fun pins s σ H R I h => ?_⟩
  obtain ⟨ro, F0, H0, F, env, rd, ds, rd', hS, hm, q⟩ := h
  obtain ⟨d, rd1, m1, hm⟩ := bind1_some hm
  obtain ⟨m2, e2⟩ := lift_some hm
  subst e2
  cases d with
  | tup es =>
    simp only [iterD, Option.some.injEq] at m2
    subst m2
    refine (pi_tup he).run pins s σ H R I ⟨ro, F0, H0, F, env, rd, _, _, hS, m1, fun v F' H' a r p => ?_⟩
    simp only [Rp] at p
    obtain ⟨b, vs, rfl, h2, h3⟩ := p
    exact ⟨b, rfl, ⟨vs, sqT_mono a.fh h2⟩, q _ F' H' a r (wk_tup h2 h3)⟩
  | lst es =>
    simp only [iterD, Option.some.injEq] at m2
    subst m2
    refine (pi_list he).run pins s σ H R I ⟨ro, F0, H0, F, env, rd, _, _, hS, m1, fun v F' H' a r p => ?_⟩
    simp only [Rp] at p
    obtain ⟨b, vs, rfl, h2, h3⟩ := p
    exact ⟨b, rfl, ⟨vs, sqL_of (a.fh _ _ h2)⟩, q _ F' H' a r (wk_list h2 h3)⟩
  | str z =>
    simp only [iterD, Option.some.injEq] at m2
    subst m2
    refine (pi_str he).run pins s σ H R I ⟨ro, F0, H0, F, env, rd, _, _, hS, m1, fun v F' H' a r p => ?_⟩
    simp only [Rp] at p
    exact ⟨z, p, q _ F' H' a r wk_str⟩
  | _ => simp [iterD] at m2
def rangeD (lo : Int) (n : Nat) : List D := (List.range n).map fun (i : Nat) => D.int (lo + (i : Int))
theorem wk_range {K : PySem.W.Frag} {F : Hp} {lo : Int} {n : Nat} : Wk K F (Itr lo n) (rangeD lo n) := by
  have hl : (rangeD lo n).length = n := by
    unfold rangeD
    rw [List.length_map, List.length_range]
  refine ⟨fun i H hi e => ?_, fun H e => ?_, fun i H x H' F2 hi e e2 y => ?_⟩
  · rw [hl] at hi
    exact hi
  · show n ≤ (rangeD lo n).length
    rw [hl]
    exact Nat.le_refl _
  · rw [hl] at hi
    obtain ⟨rfl, rfl⟩ := y
    refine ⟨F2, Alc.refl e2, .int (lo + i), ?_, rp_int⟩
    unfold rangeD
    rw [List.getElem?_map, List.getElem?_range hi]
    rfl
def okR (j : Int) : Bool := decide (j.natAbs < 4611686018427387904)
theorem okR_of {j : Int} (h : okR j = true) : -(2 ^ 62) ≤ j ∧ j < 2 ^ 62 := by
  have h' : j.natAbs < 4611686018427387904 := of_decide_eq_true h
  omega
def range1 : List D → Option (List D)
  | [.int j] => if okR j = true then some (rangeD 0 j.toNat) else none
  | _ => none
def range2 : List D → Option (List D)
  | [.int i, .int j] => if okR i = true ∧ okR j = true then some (rangeD i (j - i).toNat) else none
  | _ => none
def eRange (f : List D → Option (List D)) (m : MM (List D)) : MM (List D) := bind1 m fun ds => lift (f ds)
theorem pmi_range1 {tg a : Expr} {m : MM (List D)} {p pos : Pos} (hg : Gl X "range") (hm : X.mg "range" = none) (ha : PMA X [a] m) (hs : starEach [a] X.env = [(false, eval a X.env)] := by rfl) : PMI X tg (.Call (.Name "range" p) [a] [] pos) (eRange range1 m) := by
  refine ⟨fun pins s σ H R I h => ?_⟩
  obtain ⟨ro, F0, H0, F, env, rd, ds, rd', hS, hm1, q⟩ := h
  obtain ⟨as, rd1, m1, hm2⟩ := bind1_some hm1
  obtain ⟨m2, e2⟩ := lift_some hm2
  subst e2
  match as, m2 with
  | [.int j], m2 =>
    simp only [range1, Option.ite_none_right_eq_some, Option.some.injEq] at m2
    obtain ⟨hj, rfl⟩ := m2
    have hj : -(2 ^ 62) ≤ j ∧ j < 2 ^ 62 := okR_of hj
    refine (pi_range1 hg hm ha hs).run pins s σ H R I ⟨ro, F0, H0, F, env, rd, _, _, hS, m1, fun vs F' H' a r p => ?_⟩
    simp only [Rps, Rp] at p
    obtain ⟨v, r', rfl, rfl, rfl⟩ := p
    exact ⟨j, rfl, hj.1, hj.2, q _ F' H' a r wk_range⟩
theorem pmi_range2 {tg a b : Expr} {m : MM (List D)} {p pos : Pos} (hg : Gl X "range") (hm : X.mg "range" = none) (ha : PMA X [a, b] m) (hs : starEach [a, b] X.env = [(false, eval a X.env), (false, eval b X.env)] := by rfl) (hs2 : starEach [b] X.env = [(false, eval b X.env)] := by rfl) :
    PMI X tg (.Call (.Name "range" p) [a, b] [] pos) (eRange range2 m) := by
  refine ⟨fun pins s σ H R I h => ?_⟩
  obtain ⟨ro, F0, H0, F, env, rd, ds, rd', hS, hm1, q⟩ := h
  obtain ⟨as, rd1, m1, hm2⟩ := bind1_some hm1
  obtain ⟨m2, e2⟩ := lift_some hm2
  subst e2
  match as, m2 with
  | [.int i, .int j], m2 =>
    simp only [range2, Option.ite_none_right_eq_some, Option.some.injEq] at m2
    obtain ⟨⟨hi, hj⟩, rfl⟩ := m2
    have hi : -(2 ^ 62) ≤ i ∧ i < 2 ^ 62 := okR_of hi
    have hj : -(2 ^ 62) ≤ j ∧ j < 2 ^ 62 := okR_of hj
    refine (pi_range2 hg hm ha hs hs2).run pins s σ H R I ⟨ro, F0, H0, F, env, rd, _, _, hS, m1, fun vs F' H' a r p => ?_⟩
    simp only [Rps, Rp] at p
    obtain ⟨v, r', rfl, rfl, v2, r2, rfl, rfl, rfl⟩ := p
    exact ⟨i, j, rfl, ⟨hi.1, hi.2, hj.1, hj.2⟩, q _ F' H' a r wk_range⟩

/-! ### comprehensions -/
def wipeE (env : List SV) : List Nat → List SV
  | [] => env
  | v :: vs => (wipeE env vs).set v .un
theorem EnvOk.forget {K : PySem.W.Frag} {ro : Ro} {H0 F H : Hp} {env : List SV} {σ : L2.St} {i : Nat} (h : EnvOk K ro H0 F H env σ) : EnvOk K ro H0 F H (env.set i .un) (σ.set i none) := by
  refine ⟨by rw [List.length_set, List.length_set, h.len], fun j sv e => ?_, fun j k ds es p hjk e1 e2 s1 => ?_⟩
  · by_cases hij : i = j
    · subst hij
      have hl : i < env.length := by
        have := (List.getElem?_eq_some_iff.mp e).1
        rwa [List.length_set] at this
      rw [List.getElem?_set_self hl] at e
      cases e
      exact ⟨none, List.getElem?_set_self (by rw [← h.len]; exact hl), trivial⟩
    · rw [List.getElem?_set_ne hij] at e
      obtain ⟨o, q1, q2⟩ := h.ok j sv e
      exact ⟨o, by rw [List.getElem?_set_ne hij]; exact q1, q2⟩
  · have nj : i ≠ j := fun z => by
      subst z
      have hl : i < env.length := by
        have := (List.getElem?_eq_some_iff.mp e1).1
        rwa [List.length_set] at this
      rw [List.getElem?_set_self hl] at e1
      cases e1
    have nk : i ≠ k := fun z => by
      subst z
      have hl : i < env.length := by
        have := (List.getElem?_eq_some_iff.mp e2).1
        rwa [List.length_set] at this
      rw [List.getElem?_set_self hl] at e2
      cases e2
    rw [List.getElem?_set_ne nj] at e1 s1
    rw [List.getElem?_set_ne nk] at e2 ⊢
    exact h.sep j k ds es p hjk e1 e2 s1
theorem EnvOk.wipe {K : PySem.W.Frag} {ro : Ro} {H0 F H : Hp} {env : List SV} {σ : L2.St} (h : EnvOk K ro H0 F H env σ) : ∀ vs : List Nat, EnvOk K ro H0 F H (wipeE env vs) (L2.wipe σ vs)
  | [] => h
  | v :: vs => (EnvOk.wipe h vs).forget
theorem wipe_idem {σ : L2.St} (vs : List Nat) : L2.wipe (L2.wipe σ vs) vs = L2.wipe σ vs := by
  have aux : ∀ ws : List Nat, (∀ w ∈ ws, w ∈ vs) → L2.wipe (L2.wipe σ ws) vs = L2.wipe σ vs := by
    intro ws
    induction ws with
    | nil => intro _; rfl
    | cons w ws ih =>
      intro hw
      show L2.wipe ((L2.wipe σ ws).set w none) vs = _
      rw [wipe_set (hw w List.mem_cons_self), ih fun z hz => hw z (List.mem_cons_of_mem _ hz)]
  exact aux vs fun _ h => h
def lcGo (p : Pat) (t : MM Bool) (e : MM D) : List D → List SV → Rdr → Option (List D × Rdr)
  | [], _, rd => some ([], rd)
  | d :: ds, env, rd => (setPat p d env).bind fun env1 => (t env1 rd).bind fun b => if b.1 = true then (e env1 b.2).bind fun y => (lcGo p t e ds env y.2).map fun r => (y.1 :: r.1, r.2) else lcGo p t e ds env b.2
def eLc (mi : MM (List D)) (p : Pat) (vs : List Nat) (t : MM Bool) (e : MM D) : MM D := bind1 mi fun ds env rd => if ds.length ≤ sizeLine then (lcGo p t e ds (wipeE env vs) rd).map fun r => (.lst r.1, r.2) else none
def mYes : MM Bool := fun _ rd => some (true, rd)
abbrev PMTs (X : Cx) (ifs : List Expr) (m : MM Bool) : Prop := PTs X ifs (tMT X.K m)
theorem pts_imp {ifs : List Expr} {t t' : TT} (h : PTs X ifs t) (f : ∀ σ H Q, t' σ H Q → t σ H Q) : PTs X ifs t' := ⟨fun pins s σ H Q I q => h.run pins s σ H Q I (f _ _ _ q)⟩
theorem pmts_nil : PMTs X [] mYes := pts_imp pts_nil fun σ H Q ⟨ro, F0, H0, F, env, rd, z, rd', hS, hm, q⟩ => by
  cases hm
  exact q F H (Stp.refl hS.st.fh) hS.rd
theorem pmts_one {c : Expr} {m : MM Bool} (h : PMT X c m) : PMTs X [c] m := pts_one h
/-- one turn's state: the new list at L holds what the first i items gave -/
def LcI (K : PySem.W.Frag) (ro : Ro) (F1 H1 : Hp) (L : Addr) (p : Pat) (t : MM Bool) (e : MM D) (ds : List D) (env : List SV) (out : List D) (rdE : Rdr) (i : Nat) (H : Hp) : Prop :=
  ∃ F rd done rest acc, Stp ro F1 H1 F H ∧ RdOk ro rd F H ∧ F L = none ∧ H L = some (.lst acc) ∧ Rps K F done acc ∧ done.length ≤ i ∧ lcGo p t e (ds.drop i) env rd = some (rest, rdE) ∧ done ++ rest = out
theorem tM_lc {K : PySem.W.Frag} {mi : MM (List D)} {p : Pat} {vs : List Nat} {t : MM Bool} {e : MM D} {σ : L2.St} {H : Hp} {Q : VK} (hp : ∀ i ∈ p.slots, i ∈ vs) (h : tM K (eLc mi p vs t e) σ H Q) :
    tLc (tMI K mi) (gOf K p) (tMT K t) (tM K e) vs σ H Q := by
  obtain ⟨ro, F0, H0, F, env, rd, z, rdE, hS, hm, q⟩ := h
  obtain ⟨ds, rd1, m1, hm⟩ := bind1_some hm
  simp only [Option.ite_none_right_eq_some, Option.map_eq_some_iff, Prod.mk.injEq] at hm
  obtain ⟨hsz, ⟨out, rdE'⟩, hgo, rfl, rfl⟩ := hm
  refine ⟨ro, F0, H0, F, env, rd, ds, rd1, hS, m1, fun J F1 H1 a1 r1 w => fun L hL => ?_⟩
  have S1 := hS.step a1 r1
  have fL : F1 L = none := a1.fh.free hL
  have roL : ∀ c, ro ≠ some (L, c) := fun c z => by
    subst z
    rw [r1.2.1] at hL
    cases hL
  have st0 : Stp ro F1 H1 F1 (upd H1 L (.lst [])) :=
    ⟨Same.refl _, a1.fh.trans (same_new hL), fun b o hb _ => (same_new hL) b o hb, fun b hb => (same_new hL).free hb, fun _ _ z => z⟩
  have rd0 : RdOk ro rd1 F1 (upd H1 L (.lst [])) := by
    cases ro with
    | none => trivial
    | some rc =>
      obtain ⟨r, c⟩ := rc
      exact ⟨r1.1, (same_new hL) _ _ r1.2.1, r1.2.2⟩
  refine ⟨fun i m H => m = ds.length - i ∧ i ≤ ds.length ∧ LcI K ro F1 H1 L p t e ds (wipeE env vs) out rdE' i H, ⟨ds.length, by simp, Nat.zero_le _, F1, rd1, [], out, [], st0, rd0, fL, upd_same, Rps.nil, Nat.le_refl _, hgo, rfl⟩, ?_⟩
  rintro i m Hi ⟨rfl, hi, Fi, rdi, done, rest, acc, sti, roi, fLi, hLi, pi, hdl, gi, ei⟩
  by_cases hlt : i < ds.length
  · have e1 : ds.drop i = ds[i] :: ds.drop (i + 1) := List.drop_eq_getElem_cons hlt
    rw [e1] at gi
    simp only [lcGo] at gi
    obtain ⟨env1, g1, gi⟩ := Option.bind_eq_some_iff.mp gi
    obtain ⟨⟨b, rdb⟩, g2, gi⟩ := Option.bind_eq_some_iff.mp gi
    refine .inr ⟨w.go i Hi hlt (sti.ff.trans sti.fh), LcI K ro F1 H1 L p t e ds (wipeE env vs) out rdE' (i + 1), fun H' h' => ⟨ds.length - (i + 1), by omega, rfl, hlt, h'⟩, fun x Hx hy => ?_⟩
    obtain ⟨F3, al, d', hd', px⟩ := w.yld i Hi x Hx Fi hlt sti.ff sti.fh hy
    rw [List.getElem?_eq_getElem hlt] at hd'
    cases hd'
    have S3 : SRel K ro F0 H0 F3 env rdi σ Hx := S1.step (sti.trans al.stp) (roi.alc al)
    refine gOf_ok (S3.env.wipe vs) al.fh px g1 fun σ2 e2 e3 => ⟨?_, ?_⟩
    · rw [e3 vs hp, wipe_idem]
    · have S4 : SRel K ro F0 H0 F3 env1 rdi σ2 Hx := ⟨S3.st, S3.rd, e2⟩
      refine ⟨ro, F0, H0, F3, env1, rdi, b, rdb, S4, g2, fun F4 H4 a4 r4 => ?_⟩
      have st4 : Stp ro F1 H1 F4 H4 := (sti.trans al.stp).trans a4
      have hL3 : Hx L = some (.lst acc) := al.hh _ _ hLi
      have hL4 : H4 L = some (.lst acc) := a4.hh _ _ hL3 roL
      have fL3 : F3 L = none := al.fz L (by rw [hLi]; exact fun z => by cases z) fLi
      have fL4 : F4 L = none := a4.fz L (by rw [hL3]; exact fun z => by cases z) fL3
      cases b with
      | false =>
        simp only [Bool.false_eq_true, if_false] at gi ⊢
        exact ⟨F4, rdb, done, rest, acc, st4, r4, fL4, hL4, Rps.mono (al.ff.trans a4.ff) _ _ pi, by omega, gi, ei⟩
      | true =>
        simp only [if_true] at gi ⊢
        obtain ⟨⟨y, rdy⟩, g3, gi⟩ := Option.bind_eq_some_iff.mp gi
        simp only [Option.map_eq_some_iff, Prod.mk.injEq] at gi
        obtain ⟨⟨rest', rdE2⟩, g4, rfl, rfl⟩ := gi
        refine ⟨ro, F0, H0, F4, env1, rdb, y, rdy, S4.step a4 r4, g3, fun yv F5 H5 a5 r5 p5 => ?_⟩
        have hL5 : H5 L = some (.lst acc) := a5.hh _ _ hL4 roL
        have fL5 : F5 L = none := a5.fz L (by rw [hL4]; exact fun z => by cases z) fL4
        refine ⟨acc, hL5, ?_, F5, rdy, done ++ [y], rest', acc ++ [yv], ?_, ?_, fL5, upd_same, ?_, ?_, g4, ?_⟩
        · rw [← pi.length]
          omega
        · have st5 := st4.trans a5
          refine ⟨st5.ff, fun b o hb => ?_, fun b o hb hn => ?_, fun b hb => ?_, st5.fz⟩
          · have nb : b ≠ L := fun z => by
              subst z
              rw [fL5] at hb
              cases hb
            rw [upd_ne nb]
            exact st5.fh b o hb
          · have nb : b ≠ L := fun z => by
              subst z
              rw [hL] at hb
              cases hb
            rw [upd_ne nb]
            exact st5.hh b o hb hn
          · by_cases nb : b = L
            · subst nb
              rw [upd_same] at hb
              cases hb
            · rw [upd_ne nb] at hb
              exact st5.hn b hb
        · cases ro with
          | none => trivial
          | some rc =>
            obtain ⟨r, c⟩ := rc
            refine ⟨r5.1, ?_, r5.2.2⟩
            rw [upd_ne (fun z => roL c (by rw [z]))]
            exact r5.2.1
        · exact (Rps.mono ((al.ff.trans a4.ff).trans a5.ff) _ _ pi).append (Rps.cons p5 Rps.nil)
        · rw [List.length_append]
          simp only [List.length_cons, List.length_nil]
          omega
        · rw [List.append_assoc]
          exact ei
  · have ie : i = ds.length := by omega
    subst ie
    rw [List.drop_length] at gi
    simp only [lcGo, Option.some.injEq, Prod.mk.injEq] at gi
    obtain ⟨rfl, rfl⟩ := gi
    rw [List.append_nil] at ei
    subst ei
    refine .inl ⟨w.stop Hi (sti.ff.trans sti.fh), ?_⟩
    -- the list is laid down for good
    have sameF : Same Fi (upd Fi L (.lst acc)) := same_new fLi
    have ne : ∀ b o, H1 b = some o → b ≠ L := fun b o hb z => by
      subst z
      rw [hL] at hb
      cases hb
    refine q (.ref L) (upd Fi L (.lst acc)) Hi ?_ ?_ (Rps.lst upd_same (Rps.mono sameF _ _ pi))
    · refine a1.trans ⟨sti.ff.trans sameF, fun b o hb => ?_, sti.hh, sti.hn, fun b hb hf => ?_⟩
      · by_cases nb : b = L
        · subst nb
          rw [upd_same] at hb
          rw [← hb]
          exact hLi
        · rw [upd_ne nb] at hb
          exact sti.fh b o hb
      · cases hq : H1 b with
        | none => exact absurd hq hb
        | some o =>
          rw [upd_ne (ne b o hq)]
          exact sti.fz b hb hf
    · cases ro with
      | none => trivial
      | some rc =>
        obtain ⟨r, c⟩ := rc
        refine ⟨?_, roi.2.1, sameF _ _ roi.2.2⟩
        rw [upd_ne (fun z => roL c (by rw [z]))]
        exact roi.1
theorem pm_lc {elt tg iter : Expr} {ifs : List Expr} {scope : Scope} {own : List (Str × Nat)} {vs : List Nat} {pos : Pos} {mi : MM (List D)} {p : Pat} {t : MM Bool} {e : MM D} (hc : X.calm = true) (hN : X.N.Nodup) (hi : PMI X tg iter mi) (ok : BlkOk X.N X.env.scope scope own)
    (hv : own.map (·.2) = vs) (hp : ∀ i ∈ p.slots, i ∈ vs)
    (hg : ∀ (s : Shared) (H : Hp) (C : Addr) (cl : List (Str × Addr)) (fp : List Addr), PG (X.blk s H scope (compEnvC scope cl C X.env) fp) tg (gOf X.K p)) (ht : ∀ (s : Shared) (H : Hp) (C : Addr) (cl : List (Str × Addr)) (fp : List Addr), PMTs (X.blk s H scope (compEnvC scope cl C X.env) fp) ifs t)
    (he : ∀ (s : Shared) (H : Hp) (C : Addr) (cl : List (Str × Addr)) (fp : List Addr), PM (X.blk s H scope (compEnvC scope cl C X.env) fp) elt e) (hs : ∀ x, foldedSetIterable iter X.env x = pure x := by intro _; rfl) :
    PM X (.ListComp elt [⟨tg, iter, ifs, 0⟩] scope pos) (eLc mi p vs t e) := by
  subst hv
  exact pe_imp (pe_lc hc hN hi ok hg ht he hs) fun _ _ _ h => tM_lc hp h
/-- x = [..] on one line -/
def sSet (i : Nat) (m : MM D) : MM Fl := bind1 m fun d env rd => some (.nx (env.set i (.val d)), rd)
theorem tMS_set {K : PySem.W.Frag} {i : Nat} {m : MM D} {te : TE} (hi : ∀ σ H Q, tM K m σ H Q → te σ H Q) {D : Ends} {σ : L2.St} {H : Hp} (h : tMS K (sSet i m) D σ H) : tAsg te (gName i) D σ H := by
  obtain ⟨ro, F0, H0, F, env, rd, fl, rd', hS, hm, q⟩ := h
  obtain ⟨d, rd1, m1, hm⟩ := bind1_some hm
  cases hm
  refine hi _ _ _ ⟨ro, F0, H0, F, env, rd, d, _, hS, m1, fun v F' H' a r p => ?_⟩
  exact q _ F' H' ((hS.step a r).set p)
theorem pms_setLc {i : Nat} {y : Str} {py : Pos} {elt tg iter : Expr} {ifs : List Expr} {scope : Scope} {own : List (Str × Nat)} {vs : List Nat} {pos spos : Pos} {mi : MM (List D)} {p : Pat} {t : MM Bool} {e : MM D} (hc : X.calm = true) (hN : X.N.Nodup) (hy : X.N[i]? = some y) (hyl : X.env.scope.names.lookup y = some .local)
    (hsw : swapsWith (.ListComp elt [⟨tg, iter, ifs, 0⟩] scope pos) (some (.Name y py)) spos.line X.env = pure true) (hi : PMI X tg iter mi) (ok : BlkOk X.N X.env.scope scope own) (hv : own.map (·.2) = vs) (hp : ∀ i ∈ p.slots, i ∈ vs)
    (hg : ∀ (s : Shared) (H : Hp) (C : Addr) (cl : List (Str × Addr)) (fp : List Addr), PG (X.blk s H scope (compEnvC scope cl C X.env) fp) tg (gOf X.K p)) (ht : ∀ (s : Shared) (H : Hp) (C : Addr) (cl : List (Str × Addr)) (fp : List Addr), PMTs (X.blk s H scope (compEnvC scope cl C X.env) fp) ifs t)
    (he : ∀ (s : Shared) (H : Hp) (C : Addr) (cl : List (Str × Addr)) (fp : List Addr), PM (X.blk s H scope (compEnvC scope cl C X.env) fp) elt e) (hs : ∀ x, foldedSetIterable iter X.env x = pure x := by intro _; rfl) :
    PMS X (.Assign [.Name y py] (.ListComp elt [⟨tg, iter, ifs, 0⟩] scope pos) spos) (sSet i (eLc mi p vs t e)) := by
  subst hv
  exact ps_imp (ps_setLc hc hN hy hyl hsw hi ok hg ht he hs) fun D σ H h => tMS_set (fun _ _ _ q => tM_lc hp q) h
end
end FW

set_option Elab.async false
set_option linter.all false
set_option maxRecDepth 100000
set_option maxHeartbeats 1000000
namespace FW
open PySem PySem.Spec PyProof.Rows L2

/-! ### what a def is worth: its arguments' data to its answer's data, the reader going through -/
abbrev FM := List D → Rdr → Option (D × Rdr)
def ArgR (K : PySem.W.Frag) (hasR : Bool) (ro : Ro) (F : Hp) (ds : List D) (vs : List V) : Prop := match hasR with
  | false => Rps K F ds vs
  | true => ∃ r c ws, ro = some (r, c) ∧ vs = .ref r :: ws ∧ Rps K F ds ws
def spM (K : PySem.W.Frag) (hasR : Bool) (n : Nat) (fm : FM) : Sp := fun vs H Q _ => ∃ ro F ds rd d rd', Same F H ∧ RdOk ro rd F H ∧ ArgR K hasR ro F ds vs ∧ ds.length = n ∧ fm ds rd = some (d, rd') ∧
  ∀ v F' H', Stp ro F H F' H' → RdOk ro rd' F' H' → Rp K F' d v → Q v H'
structure FnM (P : Program) (w : World) (K : PySem.W.Frag) (mg : Str → Option Value) (base : Heap) (k : Nat) (f : Addr) (fd : FuncData) (ps : List Str) (sp : Sp) : Prop where
  len : ∀ vs H Q E, sp vs H Q E → vs.length = ps.length
  run : ∀ (A : Around) (outer : List Env) (s : Shared) (H : Hp) (args : Args) (us : List Value) (vs : List V) (Q : VK), Room k A → A.guards = some [] → Env0 P w K mg base A outer s H →
    BindsTo s fd args (ps.zip us) → Vals vs us → sp vs H Q L2.E0 → codeAny (model P w) A (.call (.ref f) args) (CR L2.CX0 outer P w H s Q L2.E0) s
theorem FnM.mono {P : Program} {w : World} {K : PySem.W.Frag} {mg : Str → Option Value} {base : Heap} {j k : Nat} {f : Addr} {fd : FuncData} {ps : List Str} {sp : Sp} (G : FnM P w K mg base j f fd ps sp) (h : j ≤ k) : FnM P w K mg base k f fd ps sp :=
  ⟨G.len, fun A outer s H args us vs Q hr => G.run A outer s H args us vs Q (hr.mono h)⟩

def initE (hasR : Bool) (ds : List D) (k : Nat) : List SV := (if hasR = true then [SV.rdr] else []) ++ ds.map SV.val ++ List.replicate k SV.un
def flFin : Fl × Rdr → Option (D × Rdr)
  | (.ret d, rd) => some (d, rd)
  | (.nx _, rd) => some (.non, rd)
  | _ => none
/-- the plain function of a def's body -/
def mFn (n : Nat) (hasR : Bool) (k : Nat) (m : MM Fl) : FM := fun ds rd => if ds.length = n then (m (initE hasR ds k) rd).bind flFin else none

section
variable {P : Program} {w : World} {K : PySem.W.Frag} {mg : Str → Option Value} {base : Heap}
theorem env_args {ro : Ro} {F H : Hp} : ∀ {ds : List D} {vs : List V}, Rps K F ds vs → ∀ (k : Nat) (i : Nat) (sv : SV), (ds.map SV.val ++ List.replicate k SV.un)[i]? = some sv → ∃ o : Option V, (vs.map some ++ List.replicate k none)[i]? = some o ∧ SlotOk K ro H F H sv o
  | [], vs, h, k, i, sv, e => by
    simp only [Rps] at h
    subst h
    simp only [List.map_nil, List.nil_append] at e ⊢
    have hi : i < k := by
      have := (List.getElem?_eq_some_iff.mp e).1
      simpa using this
    rw [List.getElem?_replicate, if_pos hi] at e ⊢
    cases e
    exact ⟨none, rfl, trivial⟩
  | d :: ds, vs, h, k, 0, sv, e => by
    simp only [Rps] at h
    obtain ⟨v, r, rfl, h1, _⟩ := h
    simp at e
    subst e
    exact ⟨some v, rfl, v, rfl, h1⟩
  | d :: ds, vs, h, k, i + 1, sv, e => by
    simp only [Rps] at h
    obtain ⟨v, r, rfl, _, h2⟩ := h
    obtain ⟨o, q1, q2⟩ := env_args (ro := ro) (H := H) h2 k i sv (by simpa using e)
    exact ⟨o, by simpa using q1, q2⟩
theorem no_own {hasR : Bool} {ds : List D} {k i : Nat} {es : List D} (h : (initE hasR ds k)[i]? = some (.own es)) : False := by
  have hm := List.mem_of_getElem? h
  unfold initE at hm
  rcases List.mem_append.mp hm with hm | hm
  · rcases List.mem_append.mp hm with hm | hm
    · cases hasR <;> simp at hm
    · obtain ⟨d, _, e⟩ := List.mem_map.mp hm
      cases e
  · have := List.eq_of_mem_replicate hm
    cases this
theorem env_start {hasR : Bool} {ro : Ro} {F H : Hp} {ds : List D} {vs : List V} {N : List Str} {k : Nat} (h : ArgR K hasR ro F ds vs) (hk : N.length - vs.length = k) : EnvOk K ro H F H (initE hasR ds k) (L2.start N vs) := by
  unfold L2.start
  rw [hk]
  refine ⟨?_, ?_, fun i j es fs p _ e1 _ _ => (no_own e1).elim⟩
  · cases hasR with
    | false =>
      have h' : Rps K F ds vs := h
      simp [initE, h'.length]
    | true =>
      obtain ⟨r, c, ws, _, rfl, h'⟩ := h
      simp [initE, h'.length]
  · cases hasR with
    | false =>
      have h' : Rps K F ds vs := h
      simpa [initE] using env_args (ro := ro) (H := H) h' k
    | true =>
      obtain ⟨r, c, ws, hro, rfl, h'⟩ := h
      intro i sv e
      cases i with
      | zero =>
        have e' : some SV.rdr = some sv := by simpa [initE] using e
        cases e'
        exact ⟨some (.ref r), by simp, r, c, hro, rfl⟩
      | succ i =>
        obtain ⟨o, q1, q2⟩ := env_args (ro := ro) (H := H) h' k i sv (by simpa [initE] using e)
        exact ⟨o, by simpa using q1, q2⟩

/-- a def keeps its promise, by a reading of its body -/
theorem fnm_gen {x qual : Str} {st : Stmt} {f : Addr} {fd : FuncData} {N ps : List Str} {k : Nat} {sp : Sp} (G : Fun K x qual st f fd) (S : FnScope N ps (defScope st)) (arity : ∀ vs H Q E, sp vs H Q E → vs.length = ps.length)
    (hbody : ∀ (cdv : Value) (A : Around) (outer : List Env) (s : Shared) (H : Hp) (vs : List V) (Q : VK), Room k (A.deeper (envOfC qual (defScope st) s.heap.objs.size f cdv)) → A.guards = some [] → sp vs H Q L2.E0 →
      ∃ t, PSs (cxOf L2.CX0 P w K mg base N qual (defScope st) f cdv A outer s H L2.E0).nox (defBody st) t ∧ t { nx := fun _ H' => Q .non H', rt := Q } (L2.start N vs) H) :
    FnM P w K mg base (k + 1) f fd ps sp := by
  obtain ⟨oc, od, kV, doc, pm, an, cdv, ct, osl, rfl, lk, hcd⟩ := G.ex
  refine ⟨arity, ?_⟩
  intro A outer s H args us vs Q hroom hguard env0 bind vals hsp
  have count := arity _ _ _ _ hsp
  have inK : K.In s.heap := env0.mod.kin.keeps fun b o e => (env0.bs b o e).1
  have kinds : ∀ y ∈ ps.zip us, (defScope st).names.lookup y.1 = some .local ∨ ((defScope st).names.lookup y.1 = some .cell ∧ ((cellsFrom (s.heap.objs.size + 1) (defScope st).names []).lookup y.1).isSome = true) := by
    rintro ⟨a, b⟩ hy
    cases S.par a (List.of_mem_zip hy).1 with
    | inl q => exact .inl q
    | inr q => exact .inr ⟨q, PySem.W.cellsFrom_some _ _ _ (.inl q)⟩
  refine codeAny_call_function hroom.depth (inK _ _ lk) rfl S.co S.gen rfl (PySem.W.codeRec_of inK hcd) ?_
  refine bind _ _ _ _ ?_
  refine wpAny_newFunctionEnv_cells S.kind kinds ?_
  intro env henv s1 entered
  subst henv
  refine ⟨(env0.mod.nolimit.keeps fun b o e => (env0.bs b o e).1).keeps entered.toInCall.keep, codeAny_func ?_⟩
  obtain ⟨t, body, hq⟩ := hbody cdv A outer s H vs Q (hroom.deeper _) hguard hsp
  have I : Inv (cxOf L2.CX0 P w K mg base N qual (defScope st) f cdv A outer s H L2.E0) [] (L2.start N vs) H s1 := inv_start S hroom.hd env0 count vals entered
  refine wpAny_mono (body.nox.run [] s1 (L2.start N vs) H _ I hq) (fun out s' hs => ?_) (fun e s' hs => hs)
  have close : ∀ {σ' : L2.St} {H' : Hp} {v : V} {u : Value}, Inv (cxOf L2.CX0 P w K mg base N qual (defScope st) f cdv A outer s H L2.E0) [] σ' H' s' → RelV v u → Q v H' → CE outer P w H s Q u s' :=
    fun J rv qv => ⟨_, _, J.os, J.bare, J.base, J.hok, rv, qv⟩
  cases out with
  | ret u =>
    obtain ⟨v, σ', H', J, rv, qv⟩ := hs
    exact close J rv qv
  | next =>
    obtain ⟨σ', H', J, qv⟩ := hs
    exact close (v := V.non) (u := Value.none) J rfl qv
  | brk =>
    obtain ⟨_, _, _, no⟩ := hs
    exact no.elim
  | cont =>
    obtain ⟨_, _, _, no⟩ := hs
    exact no.elim
theorem FnM.of {k : Nat} {f : Addr} {fd : FuncData} {ps : List Str} {sp : Sp} (G : FnOk P w K mg base L2.CX0 k f fd ps sp) : FnM P w K mg base k f fd ps sp :=
  ⟨G.len, fun A outer s H args us vs Q hr _ => G.run A outer s H args us vs Q L2.E0 hr⟩
/-- .. by the plain function of its body -/
theorem fnm_of {x qual : Str} {st : Stmt} {f : Addr} {fd : FuncData} {N ps : List Str} {k n : Nat} {hasR : Bool} {m : MM Fl} (G : Fun K x qual st f fd) (S : FnScope N ps (defScope st)) (hn : ps.length = (if hasR = true then n + 1 else n))
    (hbody : ∀ (cdv : Value) (A : Around) (outer : List Env) (s : Shared) (H : Hp), Room k (A.deeper (envOfC qual (defScope st) s.heap.objs.size f cdv)) → A.guards = some [] →
      PMSs (cxOf L2.CX0 P w K mg base N qual (defScope st) f cdv A outer s H L2.E0).nox (defBody st) m) :
    FnM P w K mg base (k + 1) f fd ps (spM K hasR n (mFn n hasR (N.length - ps.length) m)) := by
  have arity : ∀ vs H Q E, spM K hasR n (mFn n hasR (N.length - ps.length) m) vs H Q E → vs.length = ps.length := by
    rintro vs H Q E ⟨ro, F, ds, rd, d, rd', _, _, hA, hl, _, _⟩
    rw [hn]
    cases hasR with
    | false =>
      have hA' : Rps K F ds vs := hA
      rw [← hA'.length, hl]
      rfl
    | true =>
      obtain ⟨r, c, ws, _, rfl, hA'⟩ := hA
      rw [List.length_cons, ← hA'.length, hl]
      rfl
  refine fnm_gen G S arity fun cdv A outer s H vs Q hr hguard hsp => ⟨_, hbody cdv A outer s H hr hguard, ?_⟩
  have count := arity _ _ _ _ hsp
  obtain ⟨ro, F, ds, rd, d, rd', sf, hro, hA, hl, hm, q⟩ := hsp
  unfold mFn at hm
  rw [if_pos hl] at hm
  obtain ⟨⟨fl, rdf⟩, hm, hf⟩ := Option.bind_eq_some_iff.mp hm
  refine ⟨ro, F, H, F, _, rd, fl, rdf, ⟨Stp.refl sf, hro, env_start hA (by rw [count])⟩, hm, ?_⟩
  cases fl with
  | nx env =>
    cases hf
    exact fun σ F' H' hS => q .non F' H' hS.st hS.rd rp_non
  | ret z =>
    cases hf
    exact fun v F' H' a r p => q v F' H' a r p
  | brk env => cases hf
  | ct env => cases hf
end

section
variable {X : Cx} {k : Nat} {f : Addr} {fd : FuncData} {ps : List Str} {n : Nat} {fm : FM} {x : Str} {p pos : Pos} {e : Expr} {es : List Expr}
/-- the callee runs -/
theorem run_fnm {hasR : Bool} {pins : List (Addr × Obj)} {σ : L2.St} {H : Hp} {s : Shared} {Q : VK} {us : List Value} {vs : List V} (G : FnM X.prog X.w X.K X.mg X.base k f fd ps (spM X.K hasR n fm)) (hr : Room k X.A) (hgd : X.A.guards = some []) (hb : Binds X.K fd ps [])
    (I : Inv X pins σ H s) (r : Vals vs us) (h : spM X.K hasR n fm vs H Q L2.E0) : wpAny (model X.prog X.w) X.A (call (.ref f) us) (EP X pins σ Q) X.xe s := by
  have hl : (us ++ []).length = ps.length := by
    rw [List.append_nil, ← r.length]
    exact G.len _ _ _ _ h
  have hb' := hb s us I.kIn hl
  rw [List.append_nil] at hb'
  refine wpAny_call (codeAny_mono (G.run X.A X.stack s H ⟨us, []⟩ us vs Q hr hgd I.env0 hb' r h) ?_)
  intro res s' hq
  match res, hq with
  | .error _, hq => exact hq.elim
  | .ok (.ret u), hq => exact I.after hq
  | .ok .next, hq => exact hq.elim
  | .ok .brk, hq => exact hq.elim
  | .ok .cont, hq => exact hq.elim
def eFn (fm : FM) (n : Nat) (a : MM (List D)) : MM D := bind1 a fun ds _ rd => if ds.length = n then fm ds rd else none
theorem pm_call {ma : MM (List D)} (G : FnM X.prog X.w X.K X.mg X.base k f fd ps (spM X.K false n fm)) (hr : Room k X.A) (hgd : X.A.guards = some []) (hg : Gl X x) (hm : X.mg x = some (.ref f)) (hk : PySem.W.keepIn X.K (.ref f) = true) (hb : Binds X.K fd ps [])
    (ha : PMA X (e :: es) ma) (hdb : (x == ("__debug__" : Str)) = false := by decide) (he : starEach (e :: es) X.env = (false, eval e X.env) :: starEach es X.env := by rfl) (hpl : (backTo pos (starEach es X.env)).any (·.1) = false := by rfl) :
    PM X (.Call (.Name x p) (e :: es) [] pos) (eFn fm n ma) := by
  refine ⟨fun pins s σ H Q I h => ?_⟩
  obtain ⟨ro, F0, H0, F, env, rd, z, rd', hS, hz, q⟩ := h
  obtain ⟨ds, rd1, m1, hz⟩ := bind1_some hz
  simp only [Option.ite_none_right_eq_some] at hz
  obtain ⟨hl, hz⟩ := hz
  refine wpAny_Call_Name_kw (ld_glob I hg hm ?_ hdb)
  have args := ha.run pos pins s σ H (fun vs H1 => spM X.K false n fm vs H1 Q L2.E0) I ⟨ro, F0, H0, F, env, rd, ds, rd1, hS, m1, fun vs F1 H1 a1 r1 p1 =>
    ⟨ro, F1, ds, rd1, z, rd', a1.fh, r1, p1, hl, hz, fun v F2 H2 a2 r2 p2 => q v F2 H2 (a1.trans a2) r2 p2⟩⟩
  refine PySem.W.callWith_K (h₀ := X.base) I.ok.mod.kin hk (thn args ?_) he hpl
  rintro us s1 ⟨vs, H1, I1, rv, sp⟩
  exact ⟨I1.kIn, run_fnm G hr hgd hb I1 rv sp⟩
theorem pm_call0 (G : FnM X.prog X.w X.K X.mg X.base k f fd ps (spM X.K false 0 fm)) (hr : Room k X.A) (hgd : X.A.guards = some []) (hg : Gl X x) (hm : X.mg x = some (.ref f)) (hk : PySem.W.keepIn X.K (.ref f) = true) (hb : Binds X.K fd ps [])
    (hdb : (x == ("__debug__" : Str)) = false := by decide) : PM X (.Call (.Name x p) [] [] pos) (eFn fm 0 aNil) := by
  refine ⟨fun pins s σ H Q I h => ?_⟩
  obtain ⟨ro, F0, H0, F, env, rd, z, rd', hS, hz, q⟩ := h
  obtain ⟨ds, rd1, m1, hz⟩ := bind1_some hz
  cases m1
  simp only [List.length_nil, if_true] at hz
  refine wpAny_Call_Name_kw (ld_glob I hg hm ?_ hdb)
  have arg : ArgR X.K false ro F [] [] := Rps.nil (K := X.K) (F := F)
  exact PySem.W.callWith_K0 I.kIn hk (run_fnm (vs := []) (us := []) G hr hgd hb I .nil ⟨ro, F, [], rd, z, rd', hS.st.fh, hS.rd, arg, rfl, hz, q⟩)
/-- f(reader, ..) -/
def eFnR (fm : FM) (n i : Nat) (a : MM (List D)) : MM D := fun env rd => match env[i]? with
  | some .rdr => (a env rd).bind fun q => if q.1.length = n then fm q.1 q.2 else none
  | _ => none
theorem pm_callR {i : Nat} {y : Str} {p2 : Pos} {ma : MM (List D)} (G : FnM X.prog X.w X.K X.mg X.base k f fd ps (spM X.K true n fm)) (hr : Room k X.A) (hgd : X.A.guards = some []) (hg : Gl X x) (hm : X.mg x = some (.ref f)) (hk : PySem.W.keepIn X.K (.ref f) = true) (hb : Binds X.K fd ps [])
    (hv : PE X (.Name y p2) (tVar i)) (ha : PMA X es ma) (hdb : (x == ("__debug__" : Str)) = false := by decide) (he : starEach (.Name y p2 :: es) X.env = (false, eval (.Name y p2) X.env) :: starEach es X.env := by rfl) (hpl : (backTo pos (starEach es X.env)).any (·.1) = false := by rfl) :
    PM X (.Call (.Name x p) (.Name y p2 :: es) [] pos) (eFnR fm n i ma) := by
  refine ⟨fun pins s σ H Q I h => ?_⟩
  obtain ⟨ro, F0, H0, F, env, rd, z, rd', hS, hz, q⟩ := h
  unfold eFnR at hz
  split at hz
  · rename_i hi
    obtain ⟨⟨ds, rd1⟩, m1, hz⟩ := Option.bind_eq_some_iff.mp hz
    simp only [Option.ite_none_right_eq_some] at hz
    obtain ⟨hl, hz⟩ := hz
    obtain ⟨o, s1, r, c, hro, rfl⟩ := hS.env.ok i _ hi
    refine wpAny_Call_Name_kw (ld_glob I hg hm ?_ hdb)
    have args := (pa_cons hv ha he).run pos pins s σ H (fun vs H1 => spM X.K true n fm vs H1 Q L2.E0) I ⟨.ref r, s1, ro, F0, H0, F, env, rd, ds, rd1, hS, m1, fun vs F1 H1 a1 r1 p1 =>
      ⟨ro, F1, ds, rd1, z, rd', a1.fh, r1, ⟨r, c, vs, hro, rfl, p1⟩, hl, hz, fun v F2 H2 a2 r2 p2 => q v F2 H2 (a1.trans a2) r2 p2⟩⟩
    refine PySem.W.callWith_K (h₀ := X.base) I.ok.mod.kin hk (thn args ?_) he hpl
    rintro us s1 ⟨vs, H1, I1, rv, sp⟩
    exact ⟨I1.kIn, run_fnm G hr hgd hb I1 rv sp⟩
  · cases hz
end

section
variable {X : Cx}
/-! ### statements -/
def sNx : MM Fl := fun env rd => some (.nx env, rd)
def sSeq (a b : MM Fl) : MM Fl := fun env rd => (a env rd).bind fun q => match q.1 with
  | .nx env' => b env' q.2
  | fl => some (fl, q.2)
theorem pmss_nil : PMSs X [] sNx := pss_imp pss_nil fun D σ H ⟨ro, F0, H0, F, env, rd, fl, rd', hS, hm, q⟩ => by
  cases hm
  exact q σ F H hS
theorem pmss_one {st : Stmt} {m : MM Fl} (h : PMS X st m) : PMSs X [st] m := pss_one h
theorem pmss_cons {st : Stmt} {r : List Stmt} {a b : MM Fl} (h1 : PMS X st a) (h2 : PMSs X r b) : PMSs X (st :: r) (sSeq a b) := pss_imp (pss_cons h1 h2) fun D σ H ⟨ro, F0, H0, F, env, rd, fl, rd', hS, hm, q⟩ => by
  obtain ⟨⟨fl1, rd1⟩, m1, hm⟩ := Option.bind_eq_some_iff.mp hm
  cases fl1 with
  | nx env' =>
    refine ⟨ro, F0, H0, F, env, rd, _, rd1, hS, m1, fun σ' F' H' hS' => ?_⟩
    exact ⟨ro, F0, H0, F', env', rd1, fl, rd', hS', hm, q⟩
  | ret d =>
    cases hm
    exact ⟨ro, F0, H0, F, env, rd, _, _, hS, m1, q⟩
  | brk d =>
    cases hm
    exact ⟨ro, F0, H0, F, env, rd, _, _, hS, m1, q⟩
  | ct d =>
    cases hm
    exact ⟨ro, F0, H0, F, env, rd, _, _, hS, m1, q⟩
theorem pms_set {i : Nat} {x : Str} {e : Expr} {m : MM D} {pos pos' : Pos} (hN : X.N.Nodup) (hi : X.N[i]? = some x) (hx : Loc X.env.scope x) (he : PM X e m) (hs : swapsWith e (some (.Name x pos')) pos.line X.env = pure false := by rfl) (hf : X.fn x = true ∨ X.env.scope.names.lookup x = some .local := by first | exact .inl rfl | exact .inr rfl | assumption) :
    PMS X (.Assign [.Name x pos'] e pos) (sSet i m) := ps_imp (ps_set hN hi hx he hs hf) fun D σ H h => tMS_set (fun _ _ _ q => q) h
def sUnp (p : Pat) (m : MM D) : MM Fl := bind1 m fun d env rd => (setPat p d env).map fun env' => (.nx env', rd)
theorem pms_unp {tg e : Expr} {p : Pat} {m : MM D} {pos : Pos} (he : PM X e m) (hg : PG X tg (gOf X.K p)) (hs : swapsWithSole [tg] e pos.line X.env = pure false := by rfl) (hw : swappedStores [tg] e X.env = pure none := by rfl)
    (h1 : (assignEach [tg] X.env).map (·.2) = [assign tg X.env] := by rfl) : PMS X (.Assign [tg] e pos) (sUnp p m) := ps_imp (ps_asg he hg hs hw h1) fun D σ H ⟨ro, F0, H0, F, env, rd, fl, rd', hS, hm, q⟩ => by
  obtain ⟨d, rd1, m1, hm⟩ := bind1_some hm
  simp only [Option.map_eq_some_iff, Prod.mk.injEq] at hm
  obtain ⟨env', hp, rfl, rfl⟩ := hm
  refine ⟨ro, F0, H0, F, env, rd, d, rd1, hS, m1, fun v F' H' a r pv => ?_⟩
  have S1 := hS.step a r
  exact gOf_ok S1.env a.fh pv hp fun σ' e1 _ => q σ' F' H' ⟨S1.st, S1.rd, e1⟩
def sRet (m : MM D) : MM Fl := bind1 m fun d _ rd => some (.ret d, rd)
theorem pms_ret {e : Expr} {m : MM D} {pos : Pos} (he : PM X e m) : PMS X (.Return (some e) pos) (sRet m) := ps_imp (ps_ret he) fun D σ H ⟨ro, F0, H0, F, env, rd, fl, rd', hS, hm, q⟩ => by
  obtain ⟨d, rd1, m1, hm⟩ := bind1_some hm
  cases hm
  exact ⟨ro, F0, H0, F, env, rd, d, _, hS, m1, fun v F' H' a r p => q v F' H' (hS.st.trans a) r p⟩
def sIf (t : MM Bool) (a b : MM Fl) : MM Fl := bind1 t fun x => if x = true then a else b
theorem pms_if {c : Expr} {a b : List Stmt} {t : MM Bool} {ma mb : MM Fl} {pos : Pos} (hc : PMT X c t) (ha : PMSs X a ma) (hb : PMSs X b mb) : PMS X (.If c a b pos) (sIf t ma mb) := ps_imp (ps_if hc ha hb) fun D σ H ⟨ro, F0, H0, F, env, rd, fl, rd', hS, hm, q⟩ => by
  obtain ⟨x, rd1, m1, hm⟩ := bind1_some hm
  refine ⟨ro, F0, H0, F, env, rd, x, rd1, hS, m1, fun F' H' a r => ?_⟩
  cases x with
  | true => exact iteT ⟨ro, F0, H0, F', env, rd1, fl, rd', hS.step a r, hm, q⟩
  | false => exact iteF ⟨ro, F0, H0, F', env, rd1, fl, rd', hS.step a r, hm, q⟩
def sNever : MM Fl := fun _ _ => none
theorem pms_never {st : Stmt} : PMS X st sNever := ps_imp ps_never fun D σ H ⟨ro, F0, H0, F, env, rd, fl, rd', hS, hm, q⟩ => by cases hm
theorem pmss_never {st : List Stmt} : PMSs X st sNever := pss_imp pss_never fun D σ H ⟨ro, F0, H0, F, env, rd, fl, rd', hS, hm, q⟩ => by cases hm
/-- a while whose test is false at once -/
def sWhile0 (t : MM Bool) : MM Fl := bind1 t fun x => if x = true then sNever else sNx
theorem pms_while0 {c : Expr} {body : List Stmt} {t : MM Bool} {pos : Pos} (hp : PassesOwn (model X.prog X.w) X.A X.env X.xe) (hc : PMT X c t) : PMS X (.While c body [] pos) (sWhile0 t) := ps_imp (ps_while hp hc (pss_never (sts := body))) fun D σ H ⟨ro, F0, H0, F, env, rd, fl, rd', hS, hm, q⟩ => by
  obtain ⟨x, rd1, m1, hm⟩ := bind1_some hm
  refine ⟨fun _ σ' H' => σ' = σ ∧ H' = H, ⟨0, rfl, rfl⟩, ?_⟩
  rintro m σ' H' ⟨rfl, rfl⟩
  refine ⟨ro, F0, H0, F, env, rd, x, rd1, hS, m1, fun F' H' a r => ?_⟩
  cases x with
  | true => cases hm
  | false =>
    cases hm
    exact iteF (q σ' F' H' (hS.step a r))

/-! ### a fresh start within a def: what is owned stays apart -/
def OwnAt (env : List SV) (σ : L2.St) (p : Addr) : Prop := ∃ (i : Nat) (ds : List D), env[i]? = some (.own ds) ∧ σ[i]? = some (some (.ref p))
open Classical in
theorem SRel.rebase {K : PySem.W.Frag} {ro : Ro} {F0 H0 F : Hp} {env : List SV} {rd : Rdr} {σ : L2.St} {H : Hp} (S : SRel K ro F0 H0 F env rd σ H) :
    ∃ H1 : Hp, SRel K ro F H1 F env rd σ H ∧ (∀ F2 H2, Stp ro F H1 F2 H2 → Stp ro F0 H0 F2 H2) ∧ ∀ p, H1 p = none → H0 p = none := by
  have own : ∀ p, OwnAt env σ p → H0 p = none ∧ F p = none := by
    rintro p ⟨i, ds, e1, e2⟩
    obtain ⟨o, q1, p', vs, q2, q3, _, _, q4, _⟩ := S.env.ok i _ e1
    rw [e2] at q1
    cases q1
    cases q2
    exact ⟨q4, q3⟩
  let H1 : Hp := fun p => if OwnAt env σ p then none else H p
  have h1 : ∀ p, OwnAt env σ p → H1 p = none := fun p h => if_pos h
  have h2 : ∀ p, ¬ OwnAt env σ p → H1 p = H p := fun p h => if_neg h
  have h3 : ∀ p, H1 p = none → H0 p = none := fun p h => by
    by_cases hp : OwnAt env σ p
    · exact (own p hp).1
    · rw [h2 p hp] at h
      exact S.st.hn p h
  refine ⟨H1, ⟨⟨Same.refl _, S.st.fh, fun p o h _ => ?_, fun p h => ?_, fun _ _ h => h⟩, S.rd, ⟨S.env.len, fun i sv e => ?_, S.env.sep⟩⟩, fun F2 H2 a => ⟨S.st.ff.trans a.ff, a.fh, fun p o h n => ?_, fun p h => h3 p (a.hn p h), fun p h f => ?_⟩, h3⟩
  · by_cases hp : OwnAt env σ p
    · rw [h1 p hp] at h
      cases h
    · rw [h2 p hp] at h
      exact h
  · by_cases hp : OwnAt env σ p
    · exact h1 p hp
    · rw [h2 p hp]
      exact h
  · obtain ⟨o, q1, q2⟩ := S.env.ok i sv e
    refine ⟨o, q1, ?_⟩
    cases sv with
    | own ds =>
      obtain ⟨p, vs, rfl, a1, a2, a3, a4, a5⟩ := q2
      exact ⟨p, vs, rfl, a1, a2, a3, h1 p ⟨i, ds, e, q1⟩, a5⟩
    | _ => exact q2
  · have np : ¬ OwnAt env σ p := fun z => by
      rw [(own p z).1] at h
      cases h
    exact a.hh p o (by rw [h2 p np]; exact S.st.hh p o h n) n
  · have np : ¬ OwnAt env σ p := fun z => h (own p z).1
    refine a.fz p ?_ (S.st.fz p h f)
    rw [h2 p np]
    exact fun z => h (S.st.hn p z)
theorem SRel.back {K : PySem.W.Frag} {ro : Ro} {F0 H0 F H1 : Hp} (f : ∀ F2 H2, Stp ro F H1 F2 H2 → Stp ro F0 H0 F2 H2) (g : ∀ p, H1 p = none → H0 p = none) {F2 : Hp} {env : List SV} {rd : Rdr} {σ : L2.St} {H2 : Hp} (S : SRel K ro F H1 F2 env rd σ H2) : SRel K ro F0 H0 F2 env rd σ H2 := by
  refine ⟨f _ _ S.st, S.rd, S.env.len, fun i sv e => ?_, S.env.sep⟩
  obtain ⟨o, q1, q2⟩ := S.env.ok i sv e
  refine ⟨o, q1, ?_⟩
  cases sv with
  | own ds =>
    obtain ⟨p, vs, rfl, a1, a2, a3, a4, a5⟩ := q2
    exact ⟨p, vs, rfl, a1, a2, a3, g p a4, a5⟩
  | _ => exact q2

/-! ### for -/
def forGo (p : Pat) (b : MM Fl) : List D → MM Fl
  | [], env, rd => some (.nx env, rd)
  | d :: ds, env, rd => (setPat p d env).bind fun env1 => (b env1 rd).bind fun q => match q.1 with
    | .nx env2 => forGo p b ds env2 q.2
    | .ct env2 => forGo p b ds env2 q.2
    | .brk env2 => some (.nx env2, q.2)
    | .ret d => some (.ret d, q.2)
def sFor (mi : MM (List D)) (p : Pat) (b : MM Fl) : MM Fl := bind1 mi fun ds => forGo p b ds
theorem tMS_for {K : PySem.W.Frag} {mi : MM (List D)} {p : Pat} {b : MM Fl} {D : Ends} {σ : L2.St} {H : Hp} (h : tMS K (sFor mi p b) D σ H) : tFor (tMI K mi) (gOf K p) (tMS K b) D σ H := by
  obtain ⟨ro, F0, H0, F, env, rd, fl, rdE, hS, hm, q⟩ := h
  obtain ⟨ds, rd1, m1, hm⟩ := bind1_some hm
  refine ⟨ro, F0, H0, F, env, rd, ds, rd1, hS, m1, fun J F1 H1 a1 r1 w => ?_⟩
  obtain ⟨Hb, S1, back, backN⟩ := (hS.step a1 r1).rebase
  let St (i : Nat) (σ : L2.St) (H : Hp) : Prop := ∃ F2 env2 rd2, SRel K ro F1 Hb F2 env2 rd2 σ H ∧ forGo p b (ds.drop i) env2 rd2 = some (fl, rdE)
  refine ⟨fun i m σ H => m = ds.length - i ∧ i ≤ ds.length ∧ St i σ H, ⟨ds.length, by simp, Nat.zero_le _, F1, env, rd1, S1, hm⟩, ?_⟩
  rintro i m σi Hi ⟨rfl, hi, F2, env2, rd2, S2, go⟩
  have s12 := S2.st.ff
  by_cases hlt : i < ds.length
  · rw [List.drop_eq_getElem_cons hlt] at go
    simp only [forGo] at go
    obtain ⟨env3, g1, go⟩ := Option.bind_eq_some_iff.mp go
    obtain ⟨⟨flb, rdb⟩, g2, go⟩ := Option.bind_eq_some_iff.mp go
    refine .inr ⟨w.go i Hi hlt (s12.trans S2.st.fh), St (i + 1), fun σ' H' h' => ⟨ds.length - (i + 1), by omega, rfl, hlt, h'⟩, fun x Hx hy => ?_⟩
    obtain ⟨F3, al, d', hd', px⟩ := w.yld i Hi x Hx F2 hlt s12 S2.st.fh hy
    rw [List.getElem?_eq_getElem hlt] at hd'
    cases hd'
    have S3 := S2.step (al.stp (ro := ro)) (S2.rd.alc al)
    refine gOf_ok S3.env al.fh px g1 fun σ3 e3 _ => ?_
    refine ⟨ro, F1, Hb, F3, env3, rd2, flb, rdb, ⟨S3.st, S3.rd, e3⟩, g2, ?_⟩
    cases flb with
    | nx env4 => exact fun σ4 F4 H4 S4 => ⟨F4, env4, rdb, S4, go⟩
    | ct env4 => exact fun σ4 F4 H4 S4 => ⟨F4, env4, rdb, S4, go⟩
    | brk env4 =>
      cases go
      exact fun σ4 F4 H4 S4 => q σ4 F4 H4 (S4.back back backN)
    | ret d =>
      cases go
      exact fun v F4 H4 a r pv => q v F4 H4 (back _ _ a) r pv
  · have ie : i = ds.length := by omega
    subst ie
    rw [List.drop_length] at go
    simp only [forGo, Option.some.injEq, Prod.mk.injEq] at go
    obtain ⟨rfl, rfl⟩ := go
    exact .inl ⟨w.stop Hi (s12.trans S2.st.fh), q σi F2 Hi (S2.back back backN)⟩
theorem pms_for {tg iter : Expr} {body : List Stmt} {mi : MM (List D)} {p : Pat} {b : MM Fl} {pos : Pos} (hp : PassesOwn (model X.prog X.w) X.A X.env X.xe) (hc : X.calm = true) (hi : PMI X tg iter mi) (hg : PG X tg (gOf X.K p)) (hb : PMSs X body b)
    (hs : ∀ x, foldedSetIterable iter X.env x = pure x := by intro _; rfl) : PMS X (.For tg iter body [] pos) (sFor mi p b) := ps_imp (ps_for hp hc hi hg hb hs) fun _ _ _ h => tMS_for h
end
end FW

set_option Elab.async false
set_option linter.all false
set_option maxRecDepth 100000
set_option maxHeartbeats 1000000
namespace FW
open PySem PySem.Spec PyProof.Rows L2
section
variable {X : Cx}

/-! ### lists that are one's own: made, grown, laid down -/
/-- a new list, that nothing else holds -/
def tMF (K : PySem.W.Frag) (m : MM (List D)) : TE := fun σ H Q => ∃ ro F0 H0 F env rd ds rd', SRel K ro F0 H0 F env rd σ H ∧ m env rd = some (ds, rd') ∧
  ∀ p vs F' H', Stp ro F H F' H' → RdOk ro rd' F' H' → H p = none → F' p = none → H' p = some (.lst vs) → Rps K F' ds vs → Q (.ref p) H'
abbrev PMF (X : Cx) (e : Expr) (m : MM (List D)) : Prop := PE X e (tMF X.K m)
theorem new_own {ro : Ro} {rd : Rdr} {F H : Hp} {p : Addr} {o : HO} (sf : Same F H) (r : RdOk ro rd F H) (hp : H p = none) : Stp ro F H F (upd H p o) ∧ RdOk ro rd F (upd H p o) ∧ F p = none := by
  refine ⟨⟨Same.refl _, sf.trans (same_new hp), fun b u hb _ => same_new hp b u hb, fun b hb => (same_new hp).free hb, fun _ _ z => z⟩, ?_, sf.free hp⟩
  cases ro with
  | none => trivial
  | some rc =>
    obtain ⟨r0, c⟩ := rc
    exact ⟨r.1, same_new hp _ _ r.2.1, r.2.2⟩
def fLst (a : MM (List D)) : MM (List D) := bind1 a fun ds => fun _ rd => if ds.length ≤ sizeLine then some (ds, rd) else none
theorem pmf_lst {es : List Expr} {pos : Pos} {m : MM (List D)} (h : PMA X es m) : PMF X (.List es pos) (fLst m) := pe_imp (pe_lst h) fun σ H Q h => by
  obtain ⟨ro, F0, H0, F, env, rd, z, rd', hS, hm, q⟩ := h
  obtain ⟨ds, rd1, m1, hm⟩ := bind1_some hm
  simp only [Option.ite_none_right_eq_some, Option.some.injEq, Prod.mk.injEq] at hm
  obtain ⟨hl, rfl, rfl⟩ := hm
  refine ⟨ro, F0, H0, F, env, rd, ds, rd1, hS, m1, fun vs F' H' a r p => ⟨by rw [← p.length]; exact hl, fun x hx => ?_⟩⟩
  obtain ⟨q1, q2, q3⟩ := new_own (o := .lst vs) a.fh r hx
  exact q x vs F' _ (a.trans q1) q2 (a.hn x hx) q3 upd_same p
/-- xs + ys, two lists -/
def fCat (a b : MM D) : MM (List D) := bind1 a fun d => bind1 b fun e => lift (match d, e with
  | .lst xs, .lst ys => if xs.length + ys.length ≤ sizeLine then some (xs ++ ys) else none
  | _, _ => none)
theorem pmf_cat {a b : Expr} {ma mb : MM D} {pos : Pos} (ha : PM X a ma) (hb : PM X b mb) : PMF X (.BinOp a .Add b pos) (fCat ma mb) := pe_imp (pe_op op_cat ha hb) fun σ H Q h => by
  obtain ⟨ro, F0, H0, F, env, rd, z, rd', hS, hm, q⟩ := h
  obtain ⟨d, rd1, m1, hm⟩ := bind1_some hm
  obtain ⟨e, rd2, m2, hm⟩ := bind1_some hm
  obtain ⟨m3, e3⟩ := lift_some hm
  subst e3
  cases d with
  | lst xs => cases e with
    | lst ys =>
      simp only [Option.ite_none_right_eq_some, Option.some.injEq] at m3
      obtain ⟨hl, rfl⟩ := m3
      refine ⟨ro, F0, H0, F, env, rd, _, rd1, hS, m1, fun x F1 H1 a1 r1 p1 => ?_⟩
      refine ⟨ro, F0, H0, F1, env, rd1, _, _, hS.step a1 r1, m2, fun y F2 H2 a2 r2 p2 => ?_⟩
      have p1 := Rp.mono a2.ff _ x p1
      simp only [Rp] at p1 p2
      obtain ⟨u, vs, rfl, ta, ra⟩ := p1
      obtain ⟨w, ws, rfl, tb, rb⟩ := p2
      refine ⟨u, w, vs, ws, rfl, rfl, a2.fh _ _ ta, a2.fh _ _ tb, by rw [← ra.length, ← rb.length]; exact hl, fun p hp => ?_⟩
      obtain ⟨q1, q2, q3⟩ := new_own (o := .lst (vs ++ ws)) a2.fh r2 hp
      have st := a1.trans a2
      exact q p _ F2 _ (st.trans q1) q2 (st.hn p hp) q3 upd_same (ra.append rb)
    | _ => cases m3
  | _ => cases m3
/-- list(xs) -/
def fList (a : MM (List D)) : MM (List D) := bind1 a fun ds => lift (match ds with
  | [.lst xs] => some xs
  | [.tup xs] => some xs
  | _ => none)
theorem pmf_list {x : Str} {e : Expr} {p pos : Pos} {m : MM (List D)} (hg : Gl X x) (hm : X.mg x = none) (hv : bootBuiltins x = some (.type "list")) (ha : PMA X [e] m) (hn : x ≠ "__name__" := by decide) (hdb : (x == ("__debug__" : Str)) = false := by decide)
    (he : starEach [e] X.env = (false, eval e X.env) :: starEach [] X.env := by rfl) (hpl : (backTo pos (starEach [] X.env)).any (·.1) = false := by rfl) : PMF X (.Call (.Name x p) [e] [] pos) (fList m) :=
  pe_imp (pe_callTy call_list_of hg hm hv ha hn hdb he hpl) fun σ H Q h => by
  obtain ⟨ro, F0, H0, F, env, rd, z, rd', hS, hm, q⟩ := h
  obtain ⟨ds, rd1, m1, hm⟩ := bind1_some hm
  obtain ⟨m3, e3⟩ := lift_some hm
  subst e3
  refine ⟨ro, F0, H0, F, env, rd, ds, _, hS, m1, fun vs F' H' a r p => ?_⟩
  match ds, m3 with
  | [.lst xs], m3 =>
    cases m3
    simp only [Rps, Rp] at p
    obtain ⟨v, r', rfl, ⟨b, ws, rfl, h2, h3⟩, rfl⟩ := p
    refine ⟨b, ws, rfl, .inl (sqL_of (a.fh _ _ h2)), fun l hl => ?_⟩
    obtain ⟨q1, q2, q3⟩ := new_own (o := .lst ws) a.fh r hl
    exact q l ws F' _ (a.trans q1) q2 (a.hn l hl) q3 upd_same h3
  | [.tup xs], m3 =>
    cases m3
    simp only [Rps, Rp] at p
    obtain ⟨v, r', rfl, ⟨b, ws, rfl, h2, h3⟩, rfl⟩ := p
    refine ⟨b, ws, rfl, .inr (sqT_mono a.fh h2), fun l hl => ?_⟩
    obtain ⟨q1, q2, q3⟩ := new_own (o := .lst ws) a.fh r hl
    exact q l ws F' _ (a.trans q1) q2 (a.hn l hl) q3 upd_same h3
/-- a slot takes a list of its own -/
theorem EnvOk.setOwn {K : PySem.W.Frag} {ro : Ro} {H0 F H : Hp} {env : List SV} {σ : L2.St} (h : EnvOk K ro H0 F H env σ) {i : Nat} {ds : List D} {vs : List V} {p : Addr} (h1 : F p = none) (h2 : H p = some (.lst vs)) (h3 : Rps K F ds vs) (h4 : H0 p = none) (h5 : ∀ c, ro ≠ some (p, c))
    (h6 : ∀ (j : Nat) (es : List D), j ≠ i → env[j]? = some (.own es) → σ[j]? ≠ some (some (.ref p))) : EnvOk K ro H0 F H (env.set i (.own ds)) (σ.set i (some (.ref p))) := by
  refine ⟨by rw [List.length_set, List.length_set, h.len], fun j sv e => ?_, fun j k fs es q hjk e1 e2 s1 => ?_⟩
  · by_cases hij : i = j
    · subst hij
      have hl : i < env.length := by
        have := (List.getElem?_eq_some_iff.mp e).1
        rwa [List.length_set] at this
      rw [List.getElem?_set_self hl] at e
      cases e
      exact ⟨some (.ref p), List.getElem?_set_self (by rw [← h.len]; exact hl), p, vs, rfl, h1, h2, h3, h4, h5⟩
    · rw [List.getElem?_set_ne hij] at e
      obtain ⟨o, q1, q2⟩ := h.ok j sv e
      exact ⟨o, by rw [List.getElem?_set_ne hij]; exact q1, q2⟩
  · by_cases hij : i = j
    · subst hij
      have hl : i < σ.length := by
        have := (List.getElem?_eq_some_iff.mp s1).1
        rwa [List.length_set] at this
      rw [List.getElem?_set_self hl] at s1
      cases s1
      rw [List.getElem?_set_ne hjk] at e2 ⊢
      exact h6 k es (Ne.symm hjk) e2
    · by_cases hik : i = k
      · subst hik
        have hl : i < env.length := by
          have := (List.getElem?_eq_some_iff.mp e2).1
          rwa [List.length_set] at this
        rw [List.getElem?_set_self (by rw [← h.len]; exact hl)]
        rw [List.getElem?_set_ne hij] at e1 s1
        intro z
        cases z
        exact h6 j fs hjk e1 s1
      · rw [List.getElem?_set_ne hij] at e1 s1
        rw [List.getElem?_set_ne hik] at e2 ⊢
        exact h.sep j k fs es q hjk e1 e2 s1
def sNew (i : Nat) (m : MM (List D)) : MM Fl := bind1 m fun ds env rd => some (.nx (env.set i (.own ds)), rd)
theorem SRel.setOwn {K : PySem.W.Frag} {ro : Ro} {F0 H0 F : Hp} {env : List SV} {rd rd' : Rdr} {σ : L2.St} {H F' H' : Hp} (hS : SRel K ro F0 H0 F env rd σ H) {i : Nat} {ds : List D} {vs : List V} {p : Addr} (a : Stp ro F H F' H') (r : RdOk ro rd' F' H') (hp : H p = none) (fp : F' p = none) (hp' : H' p = some (.lst vs)) (pv : Rps K F' ds vs) :
    SRel K ro F0 H0 F' (env.set i (.own ds)) rd' (σ.set i (some (.ref p))) H' := by
  have S1 := hS.step a r
  refine ⟨S1.st, S1.rd, S1.env.setOwn fp hp' pv (hS.st.hn p hp) (fun c z => ?_) fun j es _ e s => ?_⟩
  · subst z
    have := hS.rd.2.1
    rw [hp] at this
    cases this
  · obtain ⟨o, q1, p', ws, q2, _, q3, _⟩ := hS.env.ok j _ e
    rw [s] at q1
    cases q1
    cases q2
    rw [hp] at q3
    cases q3
theorem tMS_new {K : PySem.W.Frag} {i : Nat} {m : MM (List D)} {D : Ends} {σ : L2.St} {H : Hp} (h : tMS K (sNew i m) D σ H) : tAsg (tMF K m) (gName i) D σ H := by
  obtain ⟨ro, F0, H0, F, env, rd, fl, rd', hS, hm, q⟩ := h
  obtain ⟨ds, rd1, m1, hm⟩ := bind1_some hm
  cases hm
  refine ⟨ro, F0, H0, F, env, rd, ds, _, hS, m1, fun p vs F' H' a r hp fp hp' pv => ?_⟩
  exact q _ F' H' (hS.setOwn a r hp fp hp' pv)
theorem pms_new {i : Nat} {x : Str} {e : Expr} {m : MM (List D)} {pos pos' : Pos} (hN : X.N.Nodup) (hi : X.N[i]? = some x) (hx : Loc X.env.scope x) (he : PMF X e m) (hs : swapsWith e (some (.Name x pos')) pos.line X.env = pure false := by rfl) (hf : X.fn x = true ∨ X.env.scope.names.lookup x = some .local := by first | exact .inl rfl | exact .inr rfl | assumption) :
    PMS X (.Assign [.Name x pos'] e pos) (sNew i m) := ps_imp (ps_set hN hi hx he hs hf) fun D σ H h => tMS_new h
theorem EnvOk.grow {K : PySem.W.Frag} {ro : Ro} {H0 F H : Hp} {env : List SV} {σ : L2.St} {i : Nat} {ds es : List D} {ws : List V} {p : Addr} (h : EnvOk K ro H0 F H env σ) (hi : env[i]? = some (.own ds)) (s1 : σ[i]? = some (some (.ref p))) (fp : F p = none) (pw : Rps K F es ws) :
    EnvOk K ro H0 F (upd H p (.lst ws)) (env.set i (.own es)) σ := by
  have hl : i < env.length := (List.getElem?_eq_some_iff.mp hi).1
  refine ⟨by rw [List.length_set, h.len], fun j sv e => ?_, fun j k fs gs q hjk e1 e2 z1 => ?_⟩
  · obtain ⟨o, q1, p', us, q2, _, _, _, q3, q4⟩ := h.ok i _ hi
    rw [s1] at q1
    cases q1
    cases q2
    by_cases hij : i = j
    · subst hij
      rw [List.getElem?_set_self hl] at e
      cases e
      exact ⟨_, s1, p, ws, rfl, fp, upd_same, pw, q3, q4⟩
    · rw [List.getElem?_set_ne hij] at e
      obtain ⟨o, r1, r2⟩ := h.ok j sv e
      refine ⟨o, r1, ?_⟩
      cases sv with
      | own gs =>
        obtain ⟨q, us, rfl, t1, t2, t3, t4, t5⟩ := r2
        refine ⟨q, us, rfl, t1, ?_, t3, t4, t5⟩
        rw [upd_ne (fun z => h.sep i j ds gs p hij hi e s1 (by rw [r1, z]))]
        exact t2
      | _ => exact r2
  · have g : ∀ (m : Nat) (fs : List D), (env.set i (.own es))[m]? = some (.own fs) → ∃ fs', env[m]? = some (.own fs') := fun m fs e => by
      by_cases him : i = m
      · subst him
        exact ⟨ds, hi⟩
      · rw [List.getElem?_set_ne him] at e
        exact ⟨fs, e⟩
    obtain ⟨fs', e1'⟩ := g j fs e1
    obtain ⟨gs', e2'⟩ := g k gs e2
    exact h.sep j k fs' gs' q hjk e1' e2' z1
/-- x.append(e) -/
def sApp (i : Nat) (m : MM D) : MM Fl := bind1 m fun d env rd => match env[i]? with
  | some (.own ds) => if ds.length < sizeLine then some (.nx (env.set i (.own (ds ++ [d]))), rd) else none
  | _ => none
theorem pms_app {i : Nat} {x : Str} {p0 : Pos} {e : Expr} {m : MM D} {apos cpos pos : Pos} (hv : PE X (.Name x p0) (tVar i)) (he : PM X e m)
    (hbase : attributeBase (.Name x p0) "append" X.env (eval (.Name x p0) X.env) = eval (.Name x p0) X.env := by rfl)
    (hfew : ((backTo cpos (starEach [e] X.env)).all (fun x => !x.1) && (backToKw cpos (keywordEach [] X.env)).all (fun x => x.1.isSome) && decide ([e].length + ([] : List Keyword).length + (if ([] : List Keyword).isEmpty then 0 else 1) < 30)) = true := by rfl)
    (hline : (apos.endLine == cpos.line) = true := by rfl) (hs : starEach [e] X.env = (false, eval e X.env) :: starEach [] X.env := by rfl) (hplain : (backTo cpos (starEach [] X.env)).any (·.1) = false := by rfl)
    (hsw : swapsWith (.Call (.Attribute (.Name x p0) "append" apos) [e] [] cpos) none pos.line X.env = pure false := by rfl) : PMS X (.Expr (.Call (.Attribute (.Name x p0) "append" apos) [e] [] cpos) pos) (sApp i m) :=
  ps_imp (ps_expr (pe_bm PySem.F.plainAttrs_list PySem.F.slot_list_append PySem.F.type_list_append mt_append hv (pa_cons he pa_nil hs) hbase hfew hline hs hplain) hsw) fun D σ H h => by
  obtain ⟨ro, F0, H0, F, env, rd, fl, rd', hS, hm, q⟩ := h
  obtain ⟨d, rd1, m1, hm⟩ := bind1_some hm
  split at hm
  · rename_i ds hi
    simp only [Option.ite_none_right_eq_some, Option.some.injEq, Prod.mk.injEq] at hm
    obtain ⟨hl, rfl, rfl⟩ := hm
    obtain ⟨o, s1, p, vs, rfl, fp, hp, pv, h0p, hro⟩ := hS.env.ok i _ hi
    refine ⟨.ref p, s1, .inl ⟨rfl, vs, sqL_of hp⟩, ro, F0, H0, F, env, rd, d, rd1, hS, m1, fun v F' H' a r pd => ?_⟩
    have hp' := a.hh p _ hp hro
    have fp' : F' p = none := a.fz p (by rw [hp]; exact fun z => by cases z) fp
    refine ⟨p, vs, v, rfl, rfl, hp', by rw [← pv.length]; exact hl, ?_⟩
    have S1 := hS.step a r
    -- the list is longer by one
    have same' : Same F' (upd H' p (.lst (vs ++ [v]))) := fun b o hb => by
      rw [upd_ne (fun z => by subst z; rw [fp'] at hb; cases hb)]
      exact a.fh b o hb
    refine q σ F' (upd H' p (.lst (vs ++ [v]))) ⟨?_, ?_, S1.env.grow hi s1 fp' ((Rps.mono a.ff _ _ pv).append (Rps.cons pd Rps.nil))⟩
    · refine ⟨S1.st.ff, same', fun b o hb n => ?_, fun b hb => ?_, S1.st.fz⟩
      · rw [upd_ne (fun z => by subst z; rw [h0p] at hb; cases hb)]
        exact S1.st.hh b o hb n
      · by_cases hbp : b = p
        · rw [hbp]
          exact h0p
        · rw [upd_ne hbp] at hb
          exact S1.st.hn b hb
    · cases ro with
      | none => trivial
      | some rc =>
        obtain ⟨r0, c⟩ := rc
        refine ⟨r.1, ?_, r.2.2⟩
        rw [upd_ne (fun z => hro c (by rw [z]))]
        exact r.2.1
  · cases hm
end
end FW

set_option Elab.async false
set_option linter.all false
set_option maxRecDepth 100000
set_option maxHeartbeats 1000000
namespace FW
open PySem PySem.Spec PyProof.Rows L2
section
variable {X : Cx}

/-! ### lists of one's own laid down: for good (a statement), for the time of a test or of a flat value -/
theorem SRel.freeze {K : PySem.W.Frag} {ro : Ro} {F0 H0 F : Hp} {env : List SV} {rd : Rdr} {σ : L2.St} {H : Hp} {i : Nat} {ds : List D} (S : SRel K ro F0 H0 F env rd σ H) (hi : env[i]? = some (.own ds)) : ∃ F', SRel K ro F0 H0 F' (env.set i (.val (.lst ds))) rd σ H := by
  obtain ⟨o, s1, p, vs, rfl, fp, hp, pv, h0, hro⟩ := S.env.ok i _ hi
  have sf : Same F (upd F p (.lst vs)) := same_new fp
  have e2 : σ = σ.set i (some (.ref p)) := by
    obtain ⟨hlt, hget⟩ := List.getElem?_eq_some_iff.mp s1
    rw [← hget, List.set_getElem_self]
  refine ⟨upd F p (.lst vs), ⟨S.st.ff.trans sf, fun b o hb => ?_, S.st.hh, S.st.hn, fun b hb hf => ?_⟩, ?_, ?_⟩
  · by_cases hbp : b = p
    · subst hbp
      rw [upd_same] at hb
      rw [← hb]
      exact hp
    · rw [upd_ne hbp] at hb
      exact S.st.fh b o hb
  · rw [upd_ne (fun z => by subst z; exact hb h0)]
    exact S.st.fz b hb hf
  · cases ro with
    | none => trivial
    | some rc =>
      obtain ⟨r, c⟩ := rc
      obtain ⟨r1, r2, r3⟩ := S.rd
      refine ⟨?_, r2, sf _ _ r3⟩
      rw [upd_ne (fun z => hro c (by rw [z]))]
      exact r1
  · refine ⟨by rw [List.length_set, S.env.len], fun j sv e => ?_, fun j k es fs q hjk e1 e2 z => ?_⟩
    · by_cases hij : i = j
      · subst hij
        rw [List.getElem?_set_self (List.getElem?_eq_some_iff.mp hi).1] at e
        cases e
        exact ⟨_, s1, .ref p, rfl, Rps.lst upd_same (Rps.mono sf _ _ pv)⟩
      · rw [List.getElem?_set_ne hij] at e
        obtain ⟨o, q1, q2⟩ := S.env.ok j sv e
        refine ⟨o, q1, ?_⟩
        cases sv with
        | un => trivial
        | rdr => exact q2
        | val d =>
          obtain ⟨v, rfl, q3⟩ := q2
          exact ⟨v, rfl, Rp.mono sf d v q3⟩
        | own es =>
          obtain ⟨q, us, rfl, t1, t2, t3, t4, t5⟩ := q2
          refine ⟨q, us, rfl, ?_, t2, Rps.mono sf _ _ t3, t4, t5⟩
          rw [upd_ne (fun z => S.env.sep i j ds es p hij hi e s1 (by rw [q1, z]))]
          exact t1
    · have nj : i ≠ j := fun z => by
        subst z
        rw [List.getElem?_set_self (List.getElem?_eq_some_iff.mp hi).1] at e1
        cases e1
      have nk : i ≠ k := fun z => by
        subst z
        rw [List.getElem?_set_self (List.getElem?_eq_some_iff.mp hi).1] at e2
        cases e2
      rw [List.getElem?_set_ne nj] at e1
      rw [List.getElem?_set_ne nk] at e2
      exact S.env.sep j k es fs q hjk e1 e2 z
def frzAt (i : Nat) (env : List SV) : List SV := match env[i]? with
  | some (.own ds) => env.set i (.val (.lst ds))
  | _ => env
def sFrz (i : Nat) (m : MM Fl) : MM Fl := fun env rd => m (frzAt i env) rd
theorem SRel.frzAt {K : PySem.W.Frag} {ro : Ro} {F0 H0 F : Hp} {env : List SV} {rd : Rdr} {σ : L2.St} {H : Hp} (S : SRel K ro F0 H0 F env rd σ H) (i : Nat) : ∃ F', SRel K ro F0 H0 F' (frzAt i env) rd σ H := by
  unfold FW.frzAt
  split
  · rename_i ds hi
    exact S.freeze hi
  · exact ⟨F, S⟩
theorem pms_frz {st : Stmt} {i : Nat} {m : MM Fl} (h : PMS X st m) : PMS X st (sFrz i m) := ps_imp h fun D σ H ⟨ro, F0, H0, F, env, rd, fl, rd', hS, hm, q⟩ => by
  obtain ⟨F', S'⟩ := hS.frzAt i
  exact ⟨ro, F0, H0, F', _, rd, fl, rd', S', hm, q⟩
theorem pmss_frz {st : List Stmt} {i : Nat} {m : MM Fl} (h : PMSs X st m) : PMSs X st (sFrz i m) := pss_imp h fun D σ H ⟨ro, F0, H0, F, env, rd, fl, rd', hS, hm, q⟩ => by
  obtain ⟨F', S'⟩ := hS.frzAt i
  exact ⟨ro, F0, H0, F', _, rd, fl, rd', S', hm, q⟩

def frzSV : SV → SV
  | .own ds => .val (.lst ds)
  | sv => sv
open Classical in
/-- for the time of a reading that tells no list, what is one's own may be held as laid down -/
theorem lend {K : PySem.W.Frag} {ro : Ro} {F0 H0 F : Hp} {env : List SV} {rd : Rdr} {σ : L2.St} {H : Hp} (S : SRel K ro F0 H0 F env rd σ H) :
    ∃ Fe, SRel K ro Fe H Fe (env.map frzSV) rd σ H ∧ ∀ F' H' rd', Stp ro Fe H F' H' → RdOk ro rd' F' H' → ∃ F'', Stp ro F H F'' H' ∧ RdOk ro rd' F'' H' := by
  have own : ∀ p, OwnAt env σ p → F p = none ∧ (∀ c, ro ≠ some (p, c)) ∧ ∃ vs, H p = some (.lst vs) := by
    rintro p ⟨i, ds, e1, e2⟩
    obtain ⟨o, q1, p', vs, q2, q3, q4, _, _, q5⟩ := S.env.ok i _ e1
    rw [e2] at q1
    cases q1
    cases q2
    exact ⟨q3, q5, vs, q4⟩
  let Fe : Hp := fun p => if OwnAt env σ p then H p else F p
  have f1 : ∀ p, OwnAt env σ p → Fe p = H p := fun p h => if_pos h
  have f2 : ∀ p, ¬ OwnAt env σ p → Fe p = F p := fun p h => if_neg h
  have sfe : Same F Fe := fun b o hb => by
    have n : ¬ OwnAt env σ b := fun z => by
      rw [(own b z).1] at hb
      cases hb
    rw [f2 b n]
    exact hb
  have seh : Same Fe H := fun b o hb => by
    by_cases n : OwnAt env σ b
    · rw [f1 b n] at hb
      exact hb
    · rw [f2 b n] at hb
      exact S.st.fh b o hb
  have rde : RdOk ro rd Fe H := by
    cases ro with
    | none => trivial
    | some rc =>
      obtain ⟨r, c⟩ := rc
      obtain ⟨r1, r2, r3⟩ := S.rd
      refine ⟨?_, r2, sfe _ _ r3⟩
      rw [f2 r fun z => (own r z).2.1 c rfl]
      exact r1
  refine ⟨Fe, ⟨Stp.refl seh, rde, ⟨by rw [List.length_map, S.env.len], fun i sv e => ?_, fun i j ds es p _ e1 _ _ => ?_⟩⟩, fun F' H' rd' a r => ?_⟩
  · rw [List.getElem?_map, Option.map_eq_some_iff] at e
    obtain ⟨sv0, e, rfl⟩ := e
    obtain ⟨o, q1, q2⟩ := S.env.ok i sv0 e
    refine ⟨o, q1, ?_⟩
    cases sv0 with
    | un => trivial
    | rdr => exact q2
    | val d =>
      obtain ⟨v, rfl, q3⟩ := q2
      exact ⟨v, rfl, Rp.mono sfe d v q3⟩
    | own ds =>
      obtain ⟨p, vs, rfl, t1, t2, t3, _, _⟩ := q2
      refine ⟨.ref p, rfl, Rps.lst ?_ (Rps.mono sfe _ _ t3)⟩
      rw [f1 p ⟨i, ds, e, q1⟩]
      exact t2
  · rw [List.getElem?_map, Option.map_eq_some_iff] at e1
    obtain ⟨sv0, _, e⟩ := e1
    cases sv0 <;> cases e
  · let F'' : Hp := fun p => if OwnAt env σ p then none else F' p
    have g1 : ∀ p, OwnAt env σ p → F'' p = none := fun p h => if_pos h
    have g2 : ∀ p, ¬ OwnAt env σ p → F'' p = F' p := fun p h => if_neg h
    have s1 : Same F F'' := fun b o hb => by
      have n : ¬ OwnAt env σ b := fun z => by
        rw [(own b z).1] at hb
        cases hb
      rw [g2 b n]
      exact a.ff b o (sfe b o hb)
    refine ⟨F'', ⟨s1, fun b o hb => ?_, a.hh, a.hn, fun b hb hf => ?_⟩, ?_⟩
    · by_cases n : OwnAt env σ b
      · rw [g1 b n] at hb
        cases hb
      · rw [g2 b n] at hb
        exact a.fh b o hb
    · by_cases n : OwnAt env σ b
      · exact g1 b n
      · rw [g2 b n]
        exact a.fz b hb (by rw [f2 b n]; exact hf)
    · cases ro with
      | none => trivial
      | some rc =>
        obtain ⟨r0, c⟩ := rc
        refine ⟨?_, r.2.1, s1 _ _ S.rd.2.2 |> fun z => ?_⟩
        · by_cases n : OwnAt env σ r0
          · exact g1 r0 n
          · rw [g2 r0 n]
            exact r.1
        · have z' := a.ff _ _ (rde.2.2)
          rw [r.2.2] at z'
          rw [z]
          exact z'.symm
def mFrz {α : Type} (m : MM α) : MM α := fun env rd => m (env.map frzSV) rd
theorem pmt_frz {e : Expr} {m : MM Bool} (h : PMT X e m) : PMT X e (mFrz m) := pt_imp h fun σ H Q ⟨ro, F0, H0, F, env, rd, b, rd', hS, hm, q⟩ => by
  obtain ⟨Fe, Se, back⟩ := lend hS
  refine ⟨ro, Fe, H, Fe, _, rd, b, rd', Se, hm, fun F' H' a r => ?_⟩
  obtain ⟨F'', a', r'⟩ := back F' H' rd' a r
  exact q F'' H' a' r'
def flatDOk (m : MM D) : MM D := bind1 m fun d => lift (if flatD d = true then some d else none)
theorem pm_frz {e : Expr} {m : MM D} (h : PM X e m) : PM X e (mFrz (flatDOk m)) := pe_imp h fun σ H Q ⟨ro, F0, H0, F, env, rd, z, rd', hS, hm, q⟩ => by
  obtain ⟨Fe, Se, back⟩ := lend hS
  obtain ⟨d, rd1, m1, hm⟩ := bind1_some (show bind1 m (fun d => lift (if flatD d = true then some d else none)) _ _ = _ from hm)
  obtain ⟨m2, e2⟩ := lift_some hm
  subst e2
  simp only [Option.ite_none_right_eq_some, Option.some.injEq] at m2
  obtain ⟨hf, rfl⟩ := m2
  refine ⟨ro, Fe, H, Fe, _, rd, d, _, Se, m1, fun v F' H' a r p => ?_⟩
  obtain ⟨F'', a', r'⟩ := back F' H' _ a r
  refine q v F'' H' a' r' ?_
  cases d with
  | tup _ => simp [flatD] at hf
  | lst _ => simp [flatD] at hf
  | _ =>
    simp only [Rp] at p ⊢
    exact p

/-! ### repr -/
mutual
theorem noDict : ∀ d : D, (toPy d).hasDict = false
  | .non => by simp only [toPy, PyData.hasDict]
  | .bl _ => by simp only [toPy, PyData.hasDict]
  | .int _ => by simp only [toPy, PyData.hasDict]
  | .str _ => by simp only [toPy, PyData.hasDict]
  | .tup ds => by
    simp only [toPy, PyData.hasDict]
    exact noDicts ds
  | .lst ds => by
    simp only [toPy, PyData.hasDict]
    exact noDicts ds
theorem noDicts : ∀ ds : List D, PyData.hasDictAll (toPys ds) = false
  | [] => by simp only [toPys, PyData.hasDictAll]
  | d :: ds => by
    simp only [toPys, PyData.hasDictAll, noDict d, noDicts ds, Bool.or_self]
end
def shownD (d : D) : Str := (toPy d).shown
def okShow (d : D) : Bool := (toPy d).showable && decide ((toPy d).depth ≤ 100) && decide ((shownD d).length ≤ sizeLine)
def opRepr (d : D) : Option D := if okShow d = true then some (.str (shownD d)) else none
theorem cr_repr (hgd : X.A.guards = some []) (hu : X.A.units + 200 < cLine) : CallR X (.builtin "repr") (rCD X.K (op1 opRepr)) := by
  intro pins s σ H vs us Q I rv q
  obtain ⟨F, ds, z, sf, p, hz, q⟩ := q
  obtain ⟨d, rfl, hz'⟩ := op1_some hz
  simp only [Rps] at p
  obtain ⟨v, r', rfl, p1, rfl⟩ := p
  simp only [opRepr, okShow, Bool.and_eq_true, decide_eq_true_eq, Option.ite_none_right_eq_some, Option.some.injEq] at hz'
  obtain ⟨⟨⟨h1, h2⟩, h3⟩, rfl⟩ := hz'
  have fin := q (.str (shownD d)) F H (Alc.refl sf) rp_str
  cases rv with
  | cons r rr =>
    cases rr
    cases d with
    | non =>
      simp only [Rp] at p1
      subst p1
      cases r
      exact PySem.P.repr_of_none ⟨.str _, H, I.tok _, ⟨_, rfl⟩, fin⟩
    | bl b =>
      simp only [Rp] at p1
      subst p1
      cases r
      refine PySem.P.repr_of_bool ⟨.str _, H, I.tok _, ⟨_, rfl⟩, ?_⟩
      cases b <;> exact fin
    | int i =>
      simp only [Rp] at p1
      subst p1
      obtain ⟨t, rfl⟩ := r
      exact PySem.P.repr_of_int (by simpa [toPy, PyData.showable] using h1) ⟨.str _, H, I.tok _, ⟨_, rfl⟩, fin⟩
    | str x =>
      simp only [Rp] at p1
      subst p1
      obtain ⟨t, rfl⟩ := r
      exact PySem.P.repr_of_str ⟨.str _, H, I.tok _, ⟨_, rfl⟩, fin⟩ h3
    | tup es =>
      have dp := dp_of sf _ _ p1
      simp only [Rp] at p1
      obtain ⟨a, ws, rfl, _, _⟩ := p1
      obtain ⟨as, rds⟩ := Dp.reads I _ _ _ dp r
      cases r
      exact repr_of_reads' rds h1 (fun z => by rw [noDict] at z; cases z) hgd (by omega) (fun _ _ e => e) (fun h' u tk hk => ⟨.str _, H, I.kept (t' := tk) hk, ⟨_, rfl⟩, fin⟩) h3
    | lst es =>
      have dp := dp_of sf _ _ p1
      simp only [Rp] at p1
      obtain ⟨a, ws, rfl, _, _⟩ := p1
      obtain ⟨as, rds⟩ := Dp.reads I _ _ _ dp r
      cases r
      exact repr_of_reads' rds h1 (fun z => by rw [noDict] at z; cases z) hgd (by omega) (fun _ _ e => e) (fun h' u tk hk => ⟨.str _, H, I.kept (t' := tk) hk, ⟨_, rfl⟩, fin⟩) h3

/-! ### f'{a}{b}' -/
def fmtD : D → Option D
  | .int i => if i.natAbs.log2 < 1920 then some (.str (toString i)) else none
  | .str s => if s.length ≤ sizeLine then some (.str s) else none
  | _ => none
theorem pm_fmt {e : Expr} {m : MM D} {pos : Pos} (he : PM X e m) : PM X (.FormattedValue e (-1) none pos) (eUn fmtD m) := pe_imp (pe_fmt he) fun σ H Q h => by
  obtain ⟨ro, F0, H0, F, env, rd, z, rd', hS, hm, q⟩ := h
  obtain ⟨d, rd1, m1, hm⟩ := bind1_some hm
  obtain ⟨m2, e2⟩ := lift_some hm
  subst e2
  refine ⟨ro, F0, H0, F, env, rd, d, _, hS, m1, fun v F' H' a r p => ?_⟩
  cases d with
  | int i =>
    simp only [fmtD, Option.ite_none_right_eq_some, Option.some.injEq] at m2
    obtain ⟨hl, rfl⟩ := m2
    simp only [Rp] at p
    exact .inr ⟨i, p, hl, q _ F' H' a r rp_str⟩
  | str s =>
    simp only [fmtD, Option.ite_none_right_eq_some, Option.some.injEq] at m2
    obtain ⟨hl, rfl⟩ := m2
    simp only [Rp] at p
    exact .inl ⟨s, p, hl, q _ F' H' a r rp_str⟩
  | _ => simp [fmtD] at m2
def opFcat (d e : D) : Option D := match d, e with
  | .str a, .str b => if (Str.empty ++ a).length ≤ sizeLine ∧ (Str.empty ++ a ++ b).length ≤ sizeLine then some (.str (Str.empty ++ a ++ b)) else none
  | _, _ => none
theorem pm_js2 {a b : Expr} {ma mb : MM D} {pos : Pos} (ha : PM X a ma) (hb : PM X b mb) : PM X (.JoinedStr [a, b] pos) (eOp opFcat ma mb) := pe_imp (pe_joined (.cons ha (.cons hb .nil))) fun σ H Q h => by
  obtain ⟨ro, F0, H0, F, env, rd, z, rd', hS, hm, q⟩ := h
  obtain ⟨d, rd1, m1, hm⟩ := bind1_some hm
  obtain ⟨e, rd2, m2, hm⟩ := bind1_some hm
  obtain ⟨m3, e3⟩ := lift_some hm
  subst e3
  cases d with
  | str x => cases e with
    | str y =>
      simp only [opFcat, Option.ite_none_right_eq_some, Option.some.injEq] at m3
      obtain ⟨⟨h1, h2⟩, rfl⟩ := m3
      refine ⟨ro, F0, H0, F, env, rd, _, rd1, hS, m1, fun v F1 H1 a1 r1 p1 => ?_⟩
      simp only [Rp] at p1
      refine ⟨x, p1, h1, ro, F0, H0, F1, env, rd1, _, _, hS.step a1 r1, m2, fun w F2 H2 a2 r2 p2 => ?_⟩
      simp only [Rp] at p2
      exact ⟨y, p2, h2, q _ F2 H2 (a1.trans a2) r2 rp_str⟩
    | _ => simp [opFcat] at m3
  | _ => simp [opFcat] at m3

/-! ### the reader's own list -/
def rdItem (k : Nat) (rd : Rdr) : Option D := match k with
  | 0 => some (.lst (rd.cells.map D.int))
  | 1 => some (.int rd.ix)
  | 2 => some (.int rd.rest)
  | 3 => some (.int rd.cnt)
  | _ => none
def eRd (i k : Nat) : MM D := fun env rd => match env[i]? with
  | some .rdr => (rdItem k rd).map fun d => (d, rd)
  | _ => none
theorem rps_ints {K : PySem.W.Frag} {F : Hp} : ∀ ns : List Int, Rps K F (ns.map D.int) (ns.map V.int)
  | [] => Rps.nil
  | n :: ns => Rps.cons rp_int (rps_ints ns)
theorem rd_at {K : PySem.W.Frag} {F H : Hp} {r c : Addr} {rd : Rdr} (h : RdOk (some (r, c)) rd F H) {k : Nat} {d : D} (e : rdItem k rd = some d) : ∃ v, atI [V.ref c, .int rd.ix, .int rd.rest, .int rd.cnt] (k : Int) = some v ∧ Rp K F d v := by
  match k, e with
  | 0, e =>
    cases e
    exact ⟨.ref c, rfl, Rps.lst h.2.2 (rps_ints _)⟩
  | 1, e =>
    cases e
    exact ⟨_, rfl, rp_int⟩
  | 2, e =>
    cases e
    exact ⟨_, rfl, rp_int⟩
  | 3, e =>
    cases e
    exact ⟨_, rfl, rp_int⟩
theorem pm_rd {i : Nat} {y : Str} {p2 p3 pos : Pos} {k : Nat} {j : Nat} (hv : PE X (.Name y p2) (tVar i)) (hs : PlainIx (.Constant (.int (k : Int)) j p3) := by exact fun _ _ => rfl) : PM X (.Subscript (.Name y p2) (.Constant (.int (k : Int)) j p3) pos) (eRd i k) :=
  pe_imp (pe_ix ix_list hv pe_int hs) fun σ H Q ⟨ro, F0, H0, F, env, rd, z, rd', hS, hm, q⟩ => by
  unfold eRd at hm
  split at hm
  · rename_i hi
    simp only [Option.map_eq_some_iff, Prod.mk.injEq] at hm
    obtain ⟨d, h1, rfl, rfl⟩ := hm
    obtain ⟨o, s1, r, c, rfl, rfl⟩ := hS.env.ok i _ hi
    obtain ⟨v, h2, h3⟩ := rd_at (K := X.K) hS.rd h1
    exact ⟨.ref r, s1, r, _, k, v, rfl, rfl, sqL_of hS.rd.2.1, h2, q v F H (Stp.refl hS.st.fh) hS.rd h3⟩
  · cases hm
def rdPut (k : Nat) (x : Int) (rd : Rdr) : Option Rdr := match k with
  | 1 => some { rd with ix := x }
  | 2 => some { rd with rest := x }
  | 3 => some { rd with cnt := x }
  | _ => none
def sRd (i k : Nat) (m : MM D) : MM Fl := bind1 m fun d env rd => match env[i]?, d with
  | some .rdr, .int x => (rdPut k x rd).map fun rd' => (.nx env, rd')
  | _, _ => none
theorem pms_rd {i : Nat} {y : Str} {p2 p3 p4 pos : Pos} {k : Nat} {j : Nat} {e : Expr} {m : MM D} (he : PM X e m)
    (hst : PG X (.Subscript (.Name y p2) (.Constant (.int (k : Int)) j p3) p4) (gSub (tVar i) (tC (.int (k : Int))) rSetL))
    (hs : swapsWithSole [.Subscript (.Name y p2) (.Constant (.int (k : Int)) j p3) p4] e pos.line X.env = pure false := by rfl) (hw : swappedStores [.Subscript (.Name y p2) (.Constant (.int (k : Int)) j p3) p4] e X.env = pure none := by rfl)
    (h1 : (assignEach [.Subscript (.Name y p2) (.Constant (.int (k : Int)) j p3) p4] X.env).map (·.2) = [assign (.Subscript (.Name y p2) (.Constant (.int (k : Int)) j p3) p4) X.env] := by rfl) :
    PMS X (.Assign [.Subscript (.Name y p2) (.Constant (.int (k : Int)) j p3) p4] e pos) (sRd i k m) := ps_imp (ps_asg he hst hs hw h1) fun D σ H ⟨ro, F0, H0, F, env, rd, fl, rd', hS, hm, q⟩ => by
  obtain ⟨d, rd1, m1, hm⟩ := bind1_some hm
  split at hm
  · rename_i x hi
    simp only [Option.map_eq_some_iff, Prod.mk.injEq] at hm
    obtain ⟨rd2, h2, rfl, rfl⟩ := hm
    obtain ⟨o, s1, r, c, rfl, rfl⟩ := hS.env.ok i _ hi
    refine ⟨_, F0, H0, F, env, rd, _, rd1, hS, m1, fun v F' H' a r1 p => ?_⟩
    simp only [Rp] at p
    subst p
    have S1 := hS.step a r1
    have hr := r1.2.1
    have fin : ∀ xs : List V, xs = [V.ref c, .int rd2.ix, .int rd2.rest, .int rd2.cnt] → rd2.cells = rd1.cells → D.nx σ (upd H' r (.lst xs)) := fun xs e ec => by
      subst e
      refine q σ F' _ ⟨⟨S1.st.ff, fun b o hb => ?_, fun b o hb n => ?_, fun b hb => ?_, S1.st.fz⟩, ⟨r1.1, upd_same, by rw [ec]; exact r1.2.2⟩, ⟨S1.env.len, fun jj sv es => ?_, S1.env.sep⟩⟩
      · rw [upd_ne (fun z => by subst z; rw [r1.1] at hb; cases hb)]
        exact S1.st.fh b o hb
      · rw [upd_ne (fun z => n c (by rw [z]))]
        exact S1.st.hh b o hb n
      · by_cases hbr : b = r
        · subst hbr
          rw [upd_same] at hb
          cases hb
        · rw [upd_ne hbr] at hb
          exact S1.st.hn b hb
      · obtain ⟨o, q1, q2⟩ := S1.env.ok jj sv es
        refine ⟨o, q1, ?_⟩
        cases sv with
        | own ds =>
          obtain ⟨p, vs, rfl, t1, t2, t3, t4, t5⟩ := q2
          refine ⟨p, vs, rfl, t1, ?_, t3, t4, t5⟩
          rw [upd_ne (fun z => t5 c (by rw [z]))]
          exact t2
        | _ => exact q2
    match k, h2 with
    | 1, h2 =>
      cases h2
      exact ⟨.ref r, s1, r, _, _, 1, rfl, rfl, hr, rfl, fin _ rfl rfl⟩
    | 2, h2 =>
      cases h2
      exact ⟨.ref r, s1, r, _, _, 2, rfl, rfl, hr, rfl, fin _ rfl rfl⟩
    | 3, h2 =>
      cases h2
      exact ⟨.ref r, s1, r, _, _, 3, rfl, rfl, hr, rfl, fin _ rfl rfl⟩
  · cases hm
end
end FW

set_option Elab.async false
set_option linter.all false
set_option maxRecDepth 100000
set_option maxHeartbeats 1000000
namespace FW
open PySem PySem.Spec PyProof.Rows L2
section
variable {X : Cx} {k : Nat} {f : Addr} {fd : FuncData} {ps : List Str} {sp : Sp} {x : Str} {p pos : Pos} {e : Expr} {es : List Expr} {t : TA}
/-- a call by any promise -/
theorem pe_callM (G : FnM X.prog X.w X.K X.mg X.base k f fd ps sp) (hr : Room k X.A) (hgd : X.A.guards = some []) (hg : Gl X x) (hm : X.mg x = some (.ref f)) (hk : PySem.W.keepIn X.K (.ref f) = true) (hb : Binds X.K fd ps [])
    (ha : PA X (e :: es) t) (hdb : (x == ("__debug__" : Str)) = false := by decide) (he : starEach (e :: es) X.env = (false, eval e X.env) :: starEach es X.env := by rfl) (hpl : (backTo pos (starEach es X.env)).any (·.1) = false := by rfl) :
    PE X (.Call (.Name x p) (e :: es) [] pos) (tCall sp [] L2.E0 t) := by
  refine ⟨fun pins s σ H Q I h => ?_⟩
  refine wpAny_Call_Name_kw (ld_glob I hg hm ?_ hdb)
  refine PySem.W.callWith_K (h₀ := X.base) I.ok.mod.kin hk (thn (ha.run pos pins s σ H _ I h) ?_) he hpl
  rintro us s1 ⟨vs, H1, I1, rv, q⟩
  rw [List.append_nil] at q
  have hl : (us ++ []).length = ps.length := by
    rw [List.append_nil, ← rv.length]
    exact G.len _ _ _ _ q
  have hb' := hb s1 us I1.kIn hl
  rw [List.append_nil] at hb'
  refine ⟨I1.kIn, wpAny_call (codeAny_mono (G.run X.A X.stack s1 H1 ⟨us, []⟩ us vs Q hr hgd I1.env0 hb' rv q) ?_)⟩
  intro res s' hq
  match res, hq with
  | .error _, hq => exact hq.elim
  | .ok (.ret u), hq => exact I1.after hq
  | .ok .next, hq => exact hq.elim
  | .ok .brk, hq => exact hq.elim
  | .ok .cont, hq => exact hq.elim
end

/-! ### the script, the law -/
def spReader (K : PySem.W.Frag) : Sp := fun vs H Q _ => ∃ (a : Addr) (ns : List Int), vs = [.ref a] ∧ SqL K H a (ns.map V.int) ∧ ns.length ≤ 63 ∧
  ∀ r c H', Same H H' → r ≠ c → H' r = some (.lst [.ref c, .int 0, .int 0, .int 0]) → H' c = some (.lst (ns.map V.int)) → Q (.ref r) H'
def spLawM (K : PySem.W.Frag) : Sp := fun vs H Q _ => ∃ (a : Addr) (ns : List Int), vs = [.ref a] ∧ SqL K H a (ns.map V.int) ∧ ns.length ≤ 63 ∧ ∀ H', Q (.bl true) H'
theorem cut63 {ns : List Int} (h : ns.length ≤ 63) : cutV (ns.map V.int) none (some 63) = ns.map V.int := by
  unfold cutV
  rw [HT.sIx_none, List.length_map, show HT.sIx ns.length ns.length (some 63) = min 63 ns.length from HT.sIx_nat ns.length ns.length 63, Nat.min_eq_right h, List.drop_zero, Nat.sub_zero]
  exact List.take_of_length_le (by rw [List.length_map]; exact Nat.le_refl _)
theorem reading_reader {K : PySem.W.Frag} {H : Hp} {vs : List V} {Q : VK} {E : XK} {N : List Str} {D : Ends} (h : spReader K vs H Q E) (hD : D.rt = Q) :
    tRet (tLst (tCons (tSl (rSlL K) (tVar 0) tNoPart (tPart (tC (.int 63)))) (tCons (tC (.int 0)) (tCons (tC (.int 0)) (tCons (tC (.int 0)) tNil))))) D (L2.start N vs) H := by
  obtain ⟨a, ns, rfl, hS, hl, q⟩ := h
  refine ⟨.ref a, rfl, 63, rfl, a, _, rfl, hS, fun c hc => ?_⟩
  refine ⟨(by decide : (4 : Nat) ≤ sizeLine), fun r hr => ?_⟩
  rw [hD]
  have hrc : r ≠ c := fun z => by
    subst z
    rw [upd_same] at hr
    cases hr
  refine q r c _ ((same_new hc).trans (same_new hr)) hrc upd_same ?_
  rw [upd_ne (Ne.symm hrc), upd_same, cut63 hl]
/-- the law's own def: the reader, then the rest -/
def env0 (n : Nat) : List SV := [SV.un, SV.rdr] ++ List.replicate n SV.un
theorem reading_law {K : PySem.W.Frag} {H : Hp} {vs : List V} {Q : VK} {E : XK} {N : List Str} {D : Ends} {m : MM Fl} (hN : 2 ≤ N.length) (h : spLawM K vs H Q E) (hD : D.rt = Q)
    (pure : ∀ ns : List Int, ns.length ≤ 63 → ∃ rd', m (env0 (N.length - 2)) ⟨ns, 0, 0, 0⟩ = some (.ret (.bl true), rd')) :
    tSeq (tAsg (tCall (spReader K) [] L2.E0 (tCons (tVar 0) tNil)) (gName 1)) (tMS K m) D (L2.start N vs) H := by
  obtain ⟨a, ns, rfl, hS, hl, q⟩ := h
  refine ⟨.ref a, rfl, a, ns, rfl, hS, hl, fun r c H' sm hrc hr hc => ?_⟩
  obtain ⟨rd', hm⟩ := pure ns hl
  have e : (L2.start N [V.ref a]).set 1 (some (.ref r)) = [some (.ref a), some (.ref r)] ++ List.replicate (N.length - 2) none := by
    unfold L2.start
    obtain ⟨n, hn⟩ : ∃ n, N.length = n + 2 := ⟨N.length - 2, by omega⟩
    rw [hn]
    simp [List.replicate_succ]
  show tMS K m D ((L2.start N [V.ref a]).set 1 (some (.ref r))) H'
  rw [e]
  let F : Hp := fun b => if b = r then none else H' b
  have fr : F r = none := if_pos rfl
  have fn : ∀ b, b ≠ r → F b = H' b := fun b h => if_neg h
  have sf : Same F H' := fun b o hb => by
    by_cases z : b = r
    · subst z
      rw [fr] at hb
      cases hb
    · rw [fn b z] at hb
      exact hb
  refine ⟨some (r, c), F, H', F, env0 (N.length - 2), ⟨ns, 0, 0, 0⟩, .ret (.bl true), rd', ⟨Stp.refl sf, ⟨fr, hr, by rw [fn c (Ne.symm hrc)]; exact hc⟩, ?_, fun i sv es => ?_, fun i j ds es p _ e1 _ _ => ?_⟩, hm, fun v F2 H2 _ _ pv => ?_⟩
  · simp [env0]
  · match i, es with
    | 0, es =>
      have es' : some SV.un = some sv := by simpa [env0] using es
      cases es'
      exact ⟨_, rfl, trivial⟩
    | 1, es =>
      have es' : some SV.rdr = some sv := by simpa [env0] using es
      cases es'
      exact ⟨_, rfl, r, c, rfl, rfl⟩
    | i + 2, es =>
      have es' : (List.replicate (N.length - 2) SV.un)[i]? = some sv := by simpa [env0] using es
      have hi : i < N.length - 2 := by
        have := (List.getElem?_eq_some_iff.mp es').1
        simpa using this
      rw [List.getElem?_replicate, if_pos hi] at es'
      cases es'
      exact ⟨none, by simp [List.getElem?_replicate, hi], trivial⟩
  · match i, e1 with
    | 0, e1 => simp [env0] at e1
    | 1, e1 => simp [env0] at e1
    | i + 2, e1 =>
      have e1' : (List.replicate (N.length - 2) SV.un)[i]? = some (.own ds) := by simpa [env0] using e1
      have := List.eq_of_mem_replicate (List.mem_of_getElem? e1')
      cases this
  · simp only [Rp] at pv
    subst pv
    rw [hD]
    exact q H2

/-! ### the end of a law's row -/
theorem caller_guards : callerA.guards = some [] := rfl
theorem lawM_call {P : Program} {w : World} {K : PySem.W.Frag} {mg mb : Str → Option Value} {k : Nat} {fa a : Addr} {fd : FuncData} {x : Str} {s₁ : Shared} {us : List Value} {ns : List Int}
    (inK : K.In s₁.heap) (gl : s₁.heap.Ns mainGlobals mg) (bl : s₁.heap.Ns builtinsNs mb) (blt : ∀ x : Str, x ≠ "__name__" → mb x = bootBuiltins x) (lim : s₁.heap.NoLimit) (gens : s₁.gens = #[])
    (ha : s₁.heap.get? a = some { cls := .type "list", data := .seq us.toArray }) (hints : IntsAre us ns) (hl : ns.length ≤ 63) (hr : Room k callerA)
    (G : ∀ base : Heap, K.In base → base.Ns mainGlobals mg → FnM P w K mg base k fa fd [x] (spLawM K)) (bind : ∀ (s : Shared) (u : Value), BindsTo s fd ⟨[u], []⟩ [(x, u)]) :
    codeAny (model P w) callerA (.call (.ref fa) ⟨[.ref a], []⟩) (fun r s' => r = .ok (.ret (.bool true)) ∧ OldK s₁.heap s'.heap ∧ s'.os = s₁.os ∧ AllBare s'.gens) s₁ := by
  have vals := vals_ints hints
  have hl2 : ns.length ≤ sizeLine := Nat.le_trans hl (by decide)
  -- over a heap of which at most the script is tracked
  have over : ∀ H : Hp, Only H → SqL K H a (ns.map V.int) → HOk P w H s₁.heap → (∀ b, H b ≠ none → b = a ∧ K.lookup a = none) →
      codeAny (model P w) callerA (.call (.ref fa) ⟨[.ref a], []⟩) (fun r s' => r = .ok (.ret (.bool true)) ∧ OldK s₁.heap s'.heap ∧ s'.os = s₁.os ∧ AllBare s'.gens) s₁ := by
    intro H only seq hok just
    have dicts : ∀ {b : Addr} {o : Obj} {ds : Array DictEntry} {n : Nat}, s₁.heap.get? b = some o → o.data = .dict ds n → H b = none := by
      intro b o ds n e d
      cases hb : H b with
      | none => rfl
      | some u =>
        obtain ⟨rfl, _⟩ := just b (by rw [hb]; exact fun z => nomatch z)
        rw [ha] at e
        cases e
        exact nomatch (show Data.seq us.toArray _ = Data.dict ds n from d)
    have names : ∀ {b : Addr} {m : Str → Option Value}, s₁.heap.Ns b m → (hidT s₁.heap H).Ns b m := by
      rintro b m ⟨o, ds, n, e, d, rest⟩
      exact ⟨o, ds, n, hidT_get e (dicts e d), d, rest⟩
    have inBase : K.In (hidT s₁.heap H) := by
      intro b o e
      refine hidT_get (inK b o e) ?_
      cases hb : H b with
      | none => rfl
      | some u =>
        obtain ⟨rfl, no⟩ := just b (by rw [hb]; exact fun z => nomatch z)
        rw [no] at e
        cases e
    have modl : Mod K mg (hidT s₁.heap H) := by
      refine ⟨inBase, names gl, ⟨mb, names bl, blt⟩, ?_⟩
      obtain ⟨m, h1, h2⟩ := lim
      exact ⟨m, names h1, h2⟩
    have entry : Env0 P w K mg (hidT s₁.heap H) callerA [] s₁ H := by
      refine ⟨rfl, modl, fun b o e => of_hidT e, Nat.le_of_eq (hidT_size _ _), trivial, fun b hb => ?_, hok, .of_eq gens⟩
      exact (List.not_mem_nil (show b ∈ ([] : List Addr) from hb)).elim
    refine codeAny_mono ((G _ inBase (names gl)).run callerA [] s₁ H ⟨[.ref a], []⟩ [.ref a] [.ref a] (fun v _ => v = .bl true) hr caller_guards entry (bind s₁ (.ref a)) (.cons rfl .nil) ⟨a, ns, rfl, seq, hl, fun _ => rfl⟩) ?_
    intro res s' out
    match res, out with
    | .error _, out => exact out.elim
    | .ok .next, out => exact out.elim
    | .ok .brk, out => exact out.elim
    | .ok .cont, out => exact out.elim
    | .ok (.ret u), out =>
      obtain ⟨v, H', os, bare, un, hok', rel, hv⟩ := out
      have hv' : v = .bl true := hv
      subst hv'
      have hu : u = Value.bool true := rel
      subst hu
      refine ⟨rfl, OldK.of_keep fun b o e => ?_, os, bare⟩
      rcases only b with free | ⟨ob, xs, lock⟩
      · refine un.keep b o e free (fun z => ?_) (fun z => ?_)
        · exact List.not_mem_nil (show b ∈ ([] : List Addr) from z)
        · exact List.not_mem_nil z
      · have k1 := (hok b _ lock).1
        have k2 := (hok' b _ (un.frzs b ob _ lock)).1
        rw [e] at k1
        cases k1
        exact k2
  cases hK : K.lookup a with
  | some o =>
    have e := inK a o hK
    rw [ha] at e
    cases e
    refine over (fun _ => none) (fun _ => .inl rfl) (.inr ⟨_, us.toArray, _, hK, rfl, rfl, rfl, ?_, by simpa using vals⟩) (fun b u z => nomatch (show (none : Option HO) = some u from z)) (fun b z => (z rfl).elim)
    rw [List.size_toArray, hints.length]
    exact hl2
  | none =>
    let L : HO := .frz { cls := .type "list", data := .seq us.toArray } (.lst (ns.map V.int))
    let H : Hp := fun b => if b = a then some L else none
    have at_a : H a = some L := if_pos rfl
    have else_ : ∀ b, b ≠ a → H b = none := fun b h => if_neg h
    refine over H (fun b => ?_) (.inl (.inr ⟨_, at_a⟩)) (fun b u z => ?_) (fun b z => ?_)
    · by_cases hb : b = a
      · subst hb
        exact .inr ⟨_, _, at_a⟩
      · exact .inl (else_ b hb)
    · by_cases hb : b = a
      · subst hb
        rw [at_a] at z
        cases z
        exact ⟨ha, by rw [List.length_map]; exact hl2, us, _, vals, ha⟩
      · rw [else_ b hb] at z
        cases z
    · by_cases hb : b = a
      · exact ⟨hb, hK⟩
      · exact (z (else_ b hb)).elim
theorem walkM {l : PySem.W.OpenLaw} {k : Nat} {q : Program} {loose : List Str} {XP : (Str → Option Value) → Heap → Prop} {YP : World → Heap → Prop} {d : DefRec} {K : Params → PySem.W.Frag} {x : Str}
    (hn : l.most = some 63) (hdf : d.params.defaults = []) (hr : Room k callerA) (hY : ∀ (w : World) (h : Heap), YP w h → (K w.params).In h)
    (G : ∀ (w : World) (mg : Str → Option Value) (fa : Addr) (h : Heap), (K w.params).In h → h.Ns mainGlobals mg → XP mg h → mg d.name = some (.ref fa) →
      ∃ fd : FuncData, (∀ (s : Shared) (u : Value), BindsTo s fd ⟨[u], []⟩ [(x, u)]) ∧ ∀ base : Heap, (K w.params).In base → base.Ns mainGlobals mg → FnM l.prog w (K w.params) mg base k fa fd [x] (spLawM (K w.params))) :
    PySem.W.WalkO q loose XP YP l.row.toRowW d [] (fun f vs => PySem.call f vs) := by
  refine Att.attach_call hn hdf ?_
  intro w s₀ s₁ mg mb fa o pm cd doc a us ns G0 Y ho hd hcd hmg hobj hints len gens
  obtain ⟨fd, bind, hG⟩ := G w mg fa _ (hY w _ Y) G0.T.g G0.X hmg
  exact lawM_call (hY w _ Y) G0.T.g G0.T.b G0.T.builtins G0.T.nolimit gens hobj hints len hr hG bind
end FW

set_option Elab.async false
set_option linter.all false
set_option maxRecDepth 100000
set_option maxHeartbeats 1000000
namespace FW
open PySem PySem.Spec PyProof.Rows L2
section
variable {X : Cx}
/-! ### in, not in: flat items -/
def toV : D → V
  | .non => .non
  | .bl b => .bl b
  | .int i => .int i
  | .str s => .str s
  | _ => .non
theorem flat_toV {K : PySem.W.Frag} {F : Hp} {d : D} {v : V} (h : flatD d = true) (p : Rp K F d v) : v = toV d ∧ flatV v = true := by
  cases d with
  | tup _ => simp [flatD] at h
  | lst _ => simp [flatD] at h
  | _ =>
    simp only [Rp] at p
    subst p
    exact ⟨rfl, rfl⟩
theorem flats_toV {K : PySem.W.Frag} {F : Hp} : ∀ {ds : List D} {vs : List V}, ds.all flatD = true → Rps K F ds vs → vs = ds.map toV ∧ vs.all flatV = true
  | [], vs, _, p => by
    simp only [Rps] at p
    subst p
    exact ⟨rfl, rfl⟩
  | d :: ds, vs, h, p => by
    simp only [List.all_cons, Bool.and_eq_true] at h
    simp only [Rps] at p
    obtain ⟨v, r, rfl, p1, p2⟩ := p
    obtain ⟨e1, f1⟩ := flat_toV h.1 p1
    obtain ⟨e2, f2⟩ := flats_toV h.2 p2
    subst e1 e2
    exact ⟨rfl, by simp only [List.all_cons, Bool.and_eq_true]; exact ⟨f1, f2⟩⟩
def inD (d : D) (ds : List D) : Bool := inV (toV d) (ds.map toV)
def opIn (neg : Bool) (d e : D) : Option D := match seqOf e with
  | some ds => if flatD d = true ∧ ds.all flatD = true then some (.bl (if neg = true then !inD d ds else inD d ds)) else none
  | none => none
theorem r_in (neg : Bool) : R2ok X.K (rIn X.K neg) (opIn neg) := fun F H x y d e z Q sf pd pe hz q => by
  unfold opIn at hz
  split at hz
  · rename_i ds hs
    simp only [Option.ite_none_right_eq_some, Option.some.injEq] at hz
    obtain ⟨⟨h1, h2⟩, rfl⟩ := hz
    obtain ⟨rfl, f1⟩ := flat_toV h1 pd
    have fin := q _ F H (Alc.refl sf) rp_bl
    cases e with
    | tup es =>
      simp only [seqOf, Option.some.injEq] at hs
      subst hs
      simp only [Rp] at pe
      obtain ⟨a, vs, rfl, t1, t2⟩ := pe
      obtain ⟨rfl, f2⟩ := flats_toV h2 t2
      exact ⟨a, _, rfl, .inr (sqT_mono sf t1), f1, f2, fin⟩
    | lst es =>
      simp only [seqOf, Option.some.injEq] at hs
      subst hs
      simp only [Rp] at pe
      obtain ⟨a, vs, rfl, t1, t2⟩ := pe
      obtain ⟨rfl, f2⟩ := flats_toV h2 t2
      exact ⟨a, _, rfl, .inl (sqL_of (sf _ _ t1)), f1, f2, fin⟩
    | _ => simp [seqOf] at hs
  · cases hz
theorem or_in : OpR X (compareOp .In) (rD X.K (opIn false)) := opr_of op_in_seq (r_in false)
theorem or_notin : OpR X (compareOp .NotIn) (rD X.K (opIn true)) := opr_of op_notIn_seq (r_in true)
end

/-! ### a def of the text and its promise in one -/
def Ok (P : Program) (w : World) (K : PySem.W.Frag) (mg : Str → Option Value) (base : Heap) (x : Str) (k : Nat) (ps : List Str) (sp : Sp) : Prop :=
  ∃ (f : Addr) (fd : FuncData), FnM P w K mg base k f fd ps sp ∧ mg x = some (.ref f) ∧ PySem.W.keepIn K (.ref f) = true ∧ Binds K fd ps []
section
variable {X : Cx} {j k n : Nat} {ps : List Str} {fm : FM} {x : Str} {p pos : Pos} {e : Expr} {es : List Expr}
theorem pm_o {ma : MM (List D)} (G : Ok X.prog X.w X.K X.mg X.base x k ps (spM X.K false n fm)) (hr : Room j X.A) (hgd : X.A.guards = some []) (hk : k ≤ j) (hg : Gl X x)
    (ha : PMA X (e :: es) ma) (hdb : (x == ("__debug__" : Str)) = false := by decide) (he : starEach (e :: es) X.env = (false, eval e X.env) :: starEach es X.env := by rfl) (hpl : (backTo pos (starEach es X.env)).any (·.1) = false := by rfl) :
    PM X (.Call (.Name x p) (e :: es) [] pos) (eFn fm n ma) := by
  obtain ⟨f, fd, G, g, kp, b⟩ := G
  exact pm_call G (hr.mono hk) hgd hg g kp b ha hdb he hpl
theorem pm_o0 (G : Ok X.prog X.w X.K X.mg X.base x k ps (spM X.K false 0 fm)) (hr : Room j X.A) (hgd : X.A.guards = some []) (hk : k ≤ j) (hg : Gl X x) (hdb : (x == ("__debug__" : Str)) = false := by decide) :
    PM X (.Call (.Name x p) [] [] pos) (eFn fm 0 aNil) := by
  obtain ⟨f, fd, G, g, kp, b⟩ := G
  exact pm_call0 G (hr.mono hk) hgd hg g kp b hdb
theorem pm_oR {i : Nat} {y : Str} {p2 : Pos} {ma : MM (List D)} (G : Ok X.prog X.w X.K X.mg X.base x k ps (spM X.K true n fm)) (hr : Room j X.A) (hgd : X.A.guards = some []) (hk : k ≤ j) (hg : Gl X x)
    (hv : PE X (.Name y p2) (tVar i)) (ha : PMA X es ma) (hdb : (x == ("__debug__" : Str)) = false := by decide) (he : starEach (.Name y p2 :: es) X.env = (false, eval (.Name y p2) X.env) :: starEach es X.env := by rfl) (hpl : (backTo pos (starEach es X.env)).any (·.1) = false := by rfl) :
    PM X (.Call (.Name x p) (.Name y p2 :: es) [] pos) (eFnR fm n i ma) := by
  obtain ⟨f, fd, G, g, kp, b⟩ := G
  exact pm_callR G (hr.mono hk) hgd hg g kp b hv ha hdb he hpl
theorem room200 {A : Around} (hr : Room j A) : A.units + 200 < cLine := by
  have := hr.un
  omega
/-- a module's constant -/
theorem pm_cst {y : Str} {v : V} {d : D} {pos : Pos} (hg : Gl X y) (h : ∃ u, X.mg y = some u ∧ RelV v u) (r : ∀ F, Rp X.K F d v) (hd : (y == ("__debug__" : Str)) = false := by decide) : PM X (.Name y pos) (eC d) := by
  obtain ⟨u, h1, h2⟩ := h
  exact pm_of_C (pe_glob hg h1 h2 hd) r
end
/-! ### several targets at once, some of them new lists -/
/-- what a slot gets: H the heap ahead, F' and H' those behind -/
def SvOk (K : PySem.W.Frag) (H F' H' : Hp) : List SV → List V → Prop
  | [], vs => vs = []
  | .val d :: svs, vs => ∃ v r, vs = v :: r ∧ Rp K F' d v ∧ SvOk K H F' H' svs r
  | .own ds :: svs, vs => ∃ p ws r, vs = .ref p :: r ∧ H p = none ∧ F' p = none ∧ H' p = some (.lst ws) ∧ Rps K F' ds ws ∧ (∀ (j : Nat) (es : List D), svs[j]? = some (.own es) → r[j]? ≠ some (.ref p)) ∧ SvOk K H F' H' svs r
  | _ :: _, _ => False
theorem SvOk.ahead {K : PySem.W.Frag} {H H1 F' H' : Hp} (h : ∀ p, H1 p = none → H p = none) : ∀ {svs : List SV} {vs : List V}, SvOk K H1 F' H' svs vs → SvOk K H F' H' svs vs
  | [], _, q => q
  | .val d :: svs, vs, q => by
    obtain ⟨v, r, e, p, q⟩ := q
    exact ⟨v, r, e, p, SvOk.ahead h q⟩
  | .own ds :: svs, vs, q => by
    obtain ⟨p, ws, r, e, a1, a2, a3, a4, a5, q⟩ := q
    exact ⟨p, ws, r, e, h p a1, a2, a3, a4, a5, SvOk.ahead h q⟩
  | .un :: _, _, q => q.elim
  | .rdr :: _, _, q => q.elim
theorem SvOk.fresh {K : PySem.W.Frag} {H F' H' : Hp} : ∀ {svs : List SV} {vs : List V}, SvOk K H F' H' svs vs → ∀ (j : Nat) (es : List D) (q : Addr), svs[j]? = some (.own es) → vs[j]? = some (.ref q) → H q = none
  | .val d :: svs, vs, h, 0, es, q, e, _ => by
    simp at e
  | .val d :: svs, vs, h, j + 1, es, q, e, e2 => by
    obtain ⟨v, r, rfl, _, h⟩ := h
    exact SvOk.fresh h j es q (by simpa using e) (by simpa using e2)
  | .own ds :: svs, vs, h, 0, es, q, e, e2 => by
    obtain ⟨p, ws, r, rfl, a1, _⟩ := h
    have : (V.ref p) = .ref q := by simpa using e2
    cases this
    exact a1
  | .own ds :: svs, vs, h, j + 1, es, q, e, e2 => by
    obtain ⟨p, ws, r, rfl, _, _, _, _, _, h⟩ := h
    exact SvOk.fresh h j es q (by simpa using e) (by simpa using e2)
  | [], _, _, j, _, _, e, _ => by simp at e
  | .un :: _, _, h, _, _, _, _, _ => h.elim
  | .rdr :: _, _, h, _, _, _, _, _ => h.elim
def tMV (K : PySem.W.Frag) (m : MM (List SV)) : TA := fun σ H Q => ∃ ro F0 H0 F env rd svs rd', SRel K ro F0 H0 F env rd σ H ∧ m env rd = some (svs, rd') ∧
  ∀ vs F' H', Stp ro F H F' H' → RdOk ro rd' F' H' → SvOk K H F' H' svs vs → Q vs H'
abbrev PMV (X : Cx) (es : List Expr) (m : MM (List SV)) : Prop := PA X es (tMV X.K m)
def vNil : MM (List SV) := fun _ rd => some ([], rd)
def vVal (m : MM D) (r : MM (List SV)) : MM (List SV) := bind1 m fun d => bind1 r fun svs => fun _ rd => some (.val d :: svs, rd)
def vOwn (m : MM (List D)) (r : MM (List SV)) : MM (List SV) := bind1 m fun ds => bind1 r fun svs => fun _ rd => some (.own ds :: svs, rd)
section
variable {X : Cx}
theorem pmv_nil : PMV X [] vNil := pa_imp pa_nil fun σ H Q ⟨ro, F0, H0, F, env, rd, z, rd', hS, hm, q⟩ => by
  cases hm
  exact q [] F H (Stp.refl hS.st.fh) hS.rd rfl
theorem pmv_val {e : Expr} {es : List Expr} {m : MM D} {r : MM (List SV)} (ha : PM X e m) (hr : PMV X es r) (hs : starEach (e :: es) X.env = (false, eval e X.env) :: starEach es X.env := by rfl) : PMV X (e :: es) (vVal m r) :=
  pa_imp (pa_cons ha hr hs) fun σ H Q ⟨ro, F0, H0, F, env, rd, z, rd', hS, hm, q⟩ => by
  obtain ⟨d, rd1, m1, hm⟩ := bind1_some hm
  obtain ⟨svs, rd2, m2, hm⟩ := bind1_some hm
  cases hm
  refine ⟨ro, F0, H0, F, env, rd, d, rd1, hS, m1, fun v F1 H1 a1 r1 p1 => ?_⟩
  refine ⟨ro, F0, H0, F1, env, rd1, svs, _, hS.step a1 r1, m2, fun vs F2 H2 a2 r2 p2 => ?_⟩
  exact q _ F2 H2 (a1.trans a2) r2 ⟨v, vs, rfl, Rp.mono a2.ff d v p1, p2.ahead a1.hn⟩
theorem pmv_own {e : Expr} {es : List Expr} {m : MM (List D)} {r : MM (List SV)} (ha : PMF X e m) (hr : PMV X es r) (hs : starEach (e :: es) X.env = (false, eval e X.env) :: starEach es X.env := by rfl) : PMV X (e :: es) (vOwn m r) :=
  pa_imp (pa_cons ha hr hs) fun σ H Q ⟨ro, F0, H0, F, env, rd, z, rd', hS, hm, q⟩ => by
  obtain ⟨ds, rd1, m1, hm⟩ := bind1_some hm
  obtain ⟨svs, rd2, m2, hm⟩ := bind1_some hm
  cases hm
  refine ⟨ro, F0, H0, F, env, rd, ds, rd1, hS, m1, fun p ws F1 H1 a1 r1 h1 h2 h3 h4 => ?_⟩
  refine ⟨ro, F0, H0, F1, env, rd1, svs, _, hS.step a1 r1, m2, fun vs F2 H2 a2 r2 p2 => ?_⟩
  have np : ∀ c, ro ≠ some (p, c) := fun c z => by
    subst z
    have := hS.rd.2.1
    rw [h1] at this
    cases this
  refine q _ F2 H2 (a1.trans a2) r2 ⟨p, ws, vs, rfl, h1, a2.fz p (by rw [h3]; exact fun z => by cases z) h2, a2.hh p _ h3 np, Rps.mono a2.ff _ _ h4, fun j es e e2 => ?_, p2.ahead a1.hn⟩
  have := p2.fresh j es p e e2
  rw [h3] at this
  cases this
def setSv : List Nat → List SV → List SV → List SV
  | i :: is, sv :: svs, env => setSv is svs (env.set i sv)
  | _, _, env => env
theorem setSv_ok {K : PySem.W.Frag} {ro : Ro} {H0 H F' H' : Hp} (hn : ∀ p, H p = none → H0 p = none) (hr : ∀ p c, H p = none → ro ≠ some (p, c)) : ∀ {is : List Nat} {svs : List SV} {vs : List V} {env : List SV} {σ : L2.St}, EnvOk K ro H0 F' H' env σ → SvOk K H F' H' svs vs → svs.length = is.length →
    (∀ (j : Nat) (es : List D) (k : Nat) (fs : List D) (p : Addr), env[j]? = some (.own es) → σ[j]? = some (some (.ref p)) → svs[k]? = some (.own fs) → vs[k]? ≠ some (.ref p)) →
    ∀ {Q : L2.St → Hp → Prop}, (∀ σ', EnvOk K ro H0 F' H' (setSv is svs env) σ' → Q σ' H') → gAll is vs σ H' Q
  | [], [], vs, env, σ, hE, hV, _, _, Q, q => ⟨hV, q σ hE⟩
  | i :: is, .val d :: svs, vs, env, σ, hE, hV, hl, hx, Q, q => by
    obtain ⟨v, r, rfl, p1, p2⟩ := hV
    refine ⟨v, r, rfl, ?_⟩
    show gAll is r (σ.set i (some v)) H' Q
    refine setSv_ok hn hr (hE.set p1) p2 (by simpa using hl) (fun j es k fs p e1 e2 e3 e4 => ?_) q
    by_cases hij : i = j
    · subst hij
      rw [List.getElem?_set_self (by have := (List.getElem?_eq_some_iff.mp e1).1; rwa [List.length_set] at this)] at e1
      cases e1
    · rw [List.getElem?_set_ne hij] at e1 e2
      exact hx j es (k + 1) fs p e1 e2 (by simpa using e3) (by simpa using e4)
  | i :: is, .own ds :: svs, vs, env, σ, hE, hV, hl, hx, Q, q => by
    obtain ⟨p, ws, r, rfl, a1, a2, a3, a4, a5, p2⟩ := hV
    refine ⟨.ref p, r, rfl, ?_⟩
    show gAll is r (σ.set i (some (.ref p))) H' Q
    refine setSv_ok hn hr (hE.setOwn a2 a3 a4 (hn p a1) (fun c => hr p c a1) fun j es _ e1 e2 => hx j es 0 ds p e1 e2 rfl rfl) p2 (by simpa using hl) (fun j es k fs b e1 e2 e3 e4 => ?_) q
    by_cases hij : i = j
    · subst hij
      have hlt : i < σ.length := by
        have := (List.getElem?_eq_some_iff.mp e2).1
        rwa [List.length_set] at this
      rw [List.getElem?_set_self hlt] at e2
      cases e2
      exact a5 k fs e3 e4
    · rw [List.getElem?_set_ne hij] at e1 e2
      exact hx j es (k + 1) fs b e1 e2 (by simpa using e3) (by simpa using e4)
  | _ :: _, .un :: _, _, _, _, _, hV, _, _, _, _ => hV.elim
  | _ :: _, .rdr :: _, _, _, _, _, hV, _, _, _, _ => hV.elim
  | [], _ :: _, _, _, _, _, _, hl, _, _, _ => by simp at hl
  | _ :: _, [], _, _, _, _, _, hl, _, _, _ => by simp at hl
def sTup (is : List Nat) (m : MM (List SV)) : MM Fl := bind1 m fun svs env rd => if svs.length = is.length then some (.nx (setSv is svs env), rd) else none
theorem SvOk.count {K : PySem.W.Frag} {H F' H' : Hp} : ∀ {svs : List SV} {vs : List V}, SvOk K H F' H' svs vs → svs.length = vs.length
  | [], vs, h => by
    have h' : vs = [] := h
    rw [h']
    rfl
  | .val d :: svs, _, h => by
    obtain ⟨v, r, rfl, _, h⟩ := h
    rw [List.length_cons, List.length_cons, SvOk.count h]
  | .own d :: svs, _, h => by
    obtain ⟨p, ws, r, rfl, _, _, _, _, _, h⟩ := h
    rw [List.length_cons, List.length_cons, SvOk.count h]
  | .un :: _, _, h => h.elim
  | .rdr :: _, _, h => h.elim
theorem SvOk.more {K : PySem.W.Frag} {H F' H' H2 : Hp} (e : Same H' H2) : ∀ {svs : List SV} {vs : List V}, SvOk K H F' H' svs vs → SvOk K H F' H2 svs vs
  | [], _, h => h
  | .val d :: svs, _, h => by
    obtain ⟨v, r, rfl, p, h⟩ := h
    exact ⟨v, r, rfl, p, SvOk.more e h⟩
  | .own d :: svs, _, h => by
    obtain ⟨p, ws, r, rfl, a1, a2, a3, a4, a5, h⟩ := h
    exact ⟨p, ws, r, rfl, a1, a2, e _ _ a3, a4, a5, SvOk.more e h⟩
  | .un :: _, _, h => h.elim
  | .rdr :: _, _, h => h.elim
theorem sTup_run {K : PySem.W.Frag} {is : List Nat} {m : MM (List SV)} {D : Ends} {σ : L2.St} {H : Hp} (h : tMS K (sTup is m) D σ H) :
    tMV K m σ H fun vs H1 => vs.length = is.length ∧ gAll is vs σ H1 D.nx ∧ ∀ t u, H1 t = none → gAll is vs σ (upd H1 t u) D.nx := by
  obtain ⟨ro, F0, H0, F, env, rd, fl, rd', hS, hm, q⟩ := h
  obtain ⟨svs, rd1, m1, hm⟩ := bind1_some hm
  simp only [Option.ite_none_right_eq_some, Option.some.injEq, Prod.mk.injEq] at hm
  obtain ⟨hl, rfl, rfl⟩ := hm
  refine ⟨ro, F0, H0, F, env, rd, svs, rd1, hS, m1, fun vs F1 H1 a1 r1 p1 => ?_⟩
  have main : ∀ H2, Stp ro F1 H1 F1 H2 → RdOk ro rd1 F1 H2 → Same H1 H2 → gAll is vs σ H2 D.nx := by
    intro H2 st r2 sm
    have S2 := (hS.step a1 r1).step st r2
    refine setSv_ok hS.st.hn (fun p c hp z => ?_) S2.env (p1.more sm) hl (fun j es k fs p e1 e2 e3 e4 => ?_) fun σ' e => q σ' F1 H2 ⟨S2.st, S2.rd, e⟩
    · subst z
      have := hS.rd.2.1
      rw [hp] at this
      cases this
    · obtain ⟨o, q1, p', ws, q2, _, q3, _⟩ := hS.env.ok j _ e1
      rw [e2] at q1
      cases q1
      cases q2
      have := p1.fresh k fs p e3 e4
      rw [q3] at this
      cases this
  refine ⟨by rw [← p1.count, hl], main H1 (Stp.refl a1.fh) r1 (Same.refl _), fun t u ht => ?_⟩
  obtain ⟨n1, n2, _⟩ := new_own (o := u) a1.fh r1 ht
  exact main _ n1 n2 (same_new ht)
theorem tMV_mono {K : PySem.W.Frag} {m : MM (List SV)} {σ : L2.St} {H : Hp} {Q Q' : List V → Hp → Prop} (f : ∀ vs H, Q vs H → Q' vs H) (h : tMV K m σ H Q) : tMV K m σ H Q' := by
  obtain ⟨ro, F0, H0, F, env, rd, z, rd', hS, hm, q⟩ := h
  exact ⟨ro, F0, H0, F, env, rd, z, rd', hS, hm, fun v F' H' a r p => f _ _ (q v F' H' a r p)⟩
/-- a, b = x, y by names that are no cells -/
theorem pms_par {i j : Nat} {x y : Str} {a b : Expr} {p1 p2 tpos tp2 pos : Pos} {k1 k2 : Nat} {m : MM (List SV)} (h : ∀ {t : TA}, PA X [a, b] t → PS X (.Assign [.Tuple [.Name x p1, .Name y p2] k1 tpos] (.Tuple [a, b] k2 tp2) pos) (tPar i j t)) (ha : PMV X [a, b] m) :
    PMS X (.Assign [.Tuple [.Name x p1, .Name y p2] k1 tpos] (.Tuple [a, b] k2 tp2) pos) (sTup [i, j] m) := ps_imp (h ha) fun D σ H q => tMV_mono (fun vs H1 q => by
  obtain ⟨hl, g, _⟩ := q
  match vs, hl, g with
  | [v, w], _, g =>
    obtain ⟨v', r, e1, g⟩ := g
    cases e1
    obtain ⟨w', r', e2, g⟩ := g
    cases e2
    exact ⟨v, w, rfl, g.2⟩) (sTup_run q)
/-- a, b, .. = x, y, .. -/
theorem pms_tupA {tg : Expr} {es : List Expr} {k2 : Nat} {tp2 pos : Pos} {is : List Nat} {m : MM (List SV)} (ha : PMV X es m) (hsz : is.length ≤ 1000) (hg : PG X tg (gTup X.K is.length (gAll is))) (hs : swapsWithSole [tg] (.Tuple es k2 tp2) pos.line X.env = pure false := by rfl) (hw : swappedStores [tg] (.Tuple es k2 tp2) X.env = pure none := by rfl)
    (h1 : (assignEach [tg] X.env).map (·.2) = [assign tg X.env] := by rfl) : PMS X (.Assign [tg] (.Tuple es k2 tp2) pos) (sTup is m) := ps_imp (ps_asg (pe_tup ha) hg hs hw h1) fun D σ H q => tMV_mono (fun vs H1 q => by
  obtain ⟨hl, _, g⟩ := q
  refine ⟨by rw [hl]; exact Nat.le_of_lt (L2.small1000 hsz), fun t ht => ?_⟩
  exact ⟨t, vs, rfl, .inl (.inl upd_same), hl, g t _ ht⟩) (sTup_run q)
end
end FW

set_option Elab.async false
set_option linter.all false
set_option maxRecDepth 100000
set_option maxHeartbeats 1000000
namespace FW
open PySem PySem.Spec PyProof.Rows L2
theorem wp_ite_any {α : Type} {M : Model} {A : Around} {c : Prop} [Decidable c] {a b : Sem α} {Q : α → Shared → Prop} {E : Value → Shared → Prop} {s : Shared} (h1 : c → wpAny M A a Q E s) (h2 : ¬ c → wpAny M A b Q E s) : wpAny M A (if c then a else b) Q E s := by
  split
  · exact h1 (by assumption)
  · exact h2 (by assumption)
theorem meets1 {v : Value} {o : Obj} {H : Heap → Prop} (B : Begins v o H) : Meets (Builtin.«enumerate.__new__» { pos := [Value.type "enumerate", v] }) fun x R s => H s.heap ∧ R (.ok (.ret (.ref (s.heap.push o).objs.size))) { heap := (s.heap.push o).push { cls := Value.type "enumerate", data := Data.fields #[Value.none, Value.bool false, Value.ref s.heap.objs.size, rawInt 0, Value.none, Value.none] }, gens := s.gens, drawn := s.drawn, toks := s.toks, os := s.os } := by
  refine Meets.of_wp fun prog w A R s h => ?_
  obtain ⟨h1, h2⟩ := h
  wp_walk
  refine wpAny_of_eq (sub_enumerate ..) ?_
  wp_walk
  refine wpAny_stack_any fun st => ?_
  refine wpAny_pure ?_
  refine wp_ite_any (fun _ => ?_) fun _ => ?_
  all_goals
    refine wpAny_bind (wpAny_of_eq (a := (v, none)) rfl ?_)
    refine wpAny_bind (m := pyIter v) ?_
    refine B.iter _ _ _ _ _ _ h1 ?_
    wp_walk
    exact ⟨_, rfl, h2⟩

theorem call_enum_B {prog : Program} {w : World} {A : Around} {E : Value → Shared → Prop} {s : Shared} {v : Value} {o : Obj} {H : Heap → Prop} {Q : Value → Shared → Prop} (B : Begins v o H) (h1 : H s.heap)
    (h : ∀ h' : Heap, IsEnum h' (s.heap.objs.size + 1) s.heap.objs.size 0 Value.none → h'.get? s.heap.objs.size = some o → h'.objs.size = s.heap.objs.size + 2 → (∀ (b : Addr) (o' : Obj), s.heap.get? b = some o' → h'.get? b = some o') →
      Q (.ref (s.heap.objs.size + 1)) { heap := h', gens := s.gens, drawn := s.drawn, toks := s.toks, os := s.os }) : wpAny (model prog w) A (call (.type "enumerate") [v]) Q E s := by
  have hz := Heap.size_push s.heap o
  refine callType_new F.called_enumerate (by decide) (F.typeCall_enumerate_1 v) (F.newCall_enumerate_1 v) (fun obj => F.args_object_init_2 obj v) F.entry_enumerate_new (meets1 B) ⟨h1, ?_⟩
  have he := Heap.get?_push_size (o := { cls := Value.type "enumerate", data := Data.fields #[Value.none, Value.bool false, Value.ref s.heap.objs.size, rawInt 0, Value.none, Value.none] }) (s.heap.push o) rfl
  rw [hz] at he
  show _ ∧ _
  rw [hz]
  refine ⟨⟨_, he, rfl⟩, h _ he (Heap.get?_push_of_some _ (Heap.get?_push_size s.heap B.free)) (by rw [Heap.size_push, hz]) fun b o' hb => Heap.get?_push_of_some _ (Heap.get?_push_of_some _ hb)⟩

def IteT (K : PySem.W.Frag) (a : Addr) (xs : List V) : It :=
  { go := fun i H => SqT K H a xs ∧ i < xs.length,
    yld := fun i H v H' => ∃ T x, v = V.ref T ∧ H T = none ∧ H' = upd H T (.tup [V.int (i : Nat), x]) ∧ xs[i]? = some x,
    stop := fun i H => SqT K H a xs ∧ i = xs.length }
theorem turn_enumT {P : Program} {w : World} {K : PySem.W.Frag} {elts : List Expr} {kk : Nat} {tpos : Pos} {xs : List V} (a e it : Addr) :
    Turn P w K (Expr.Tuple elts kk tpos) (IteT K a xs) [e, it] e fun i h => (∃ old, IsEnum h e it ((i : Nat) : Int) old) ∧ h.IsTupleIter it a i ∧ e ≠ it where
  mem := by simp
  obj := by
    rintro i h ⟨⟨old, he⟩, ⟨o, ho, hc, hd⟩, hne⟩ b hb
    simp only [List.mem_cons, List.not_mem_nil, or_false] at hb
    rcases hb with rfl | rfl
    · exact ⟨_, he, fun v q => by cases q⟩
    · exact ⟨o, ho, fun v q => by rw [hd] at q; cases q⟩
  keep := by
    rintro i h h' ⟨⟨old, he⟩, ⟨o, ho, hc, hd⟩, hne⟩ k
    exact ⟨⟨old, k e (by simp) _ he⟩, ⟨o, k it (by simp) _ ho, hc, hd⟩, hne⟩
  item := by
    rintro X rfl rfl rfl hc i pins s σ H E I hf ⟨⟨old, he⟩, hit, hne⟩ ⟨hq, hi⟩
    obtain ⟨its, rv, p, hz⟩ := Inv.tuple I hq
    have p' : s.heap.IsTuple a its.toArray := p
    have hx : xs[i]? = some xs[i] := List.getElem?_eq_getElem hi
    obtain ⟨u, hu, ru⟩ := Vals.get rv hx
    have hlen := Vals.length rv
    have hel := Heap.lt_size he
    obtain ⟨oi, hoi, hci, hdi⟩ := hit
    have hil := Heap.lt_size hoi
    have na : a ≠ it := by
      intro z
      subst z
      obtain ⟨o, ho, hco, _⟩ := p'
      rw [ho] at hoi
      cases hoi
      rw [hco] at hci
      exact absurd hci (by decide)
    have ea : e ≠ a := by
      intro z
      subst z
      obtain ⟨o, ho, hco, _⟩ := p'
      rw [IsEnum] at he
      rw [ho] at he
      cases he
      exact absurd hco (show ¬ (Value.type "enumerate" = Value.type "tuple") by decide)
    have dr := Draws.tuple (prog := X.prog) (w := X.w) (A := X.A.in1) (I.ok.hd hc) it a na its.toArray
    refine wpAny_pyNext_enum_itemD dr he ⟨⟨oi, hoi, hci, hdi⟩, p'⟩ (by simp; omega) hne (by simp; exact ⟨hne, ea⟩) ?_
    intro x h' tk hxi ho hst hT hsz hk
    have xu : x = u := by
      have h1 : its[i]? = some x := by simpa using hxi
      rw [hu] at h1
      exact (Option.some.inj h1).symm
    subst xu
    refine ⟨.ref s.heap.objs.size, rfl, wpAny_letOwnedTupleGo_enum ho fun h'' he' sb => ?_⟩
    have hT2 := (sb.right s.heap.objs.size (Nat.ne_of_gt hel)).trans hT
    have I1 := Inv.turnedNew I (t' := tk + 1) (ob := HO.tup [V.int (i : Nat), xs[i]]) (fun b ob hb q => (sb.right b fun z => hb (by simp [z])).trans (hk b ob (fun z => hb (by simp [z])) (fun z => hb (by simp [z])) q)) hf (Nat.le_refl s.heap.objs.size)
      ⟨(show (2 : Nat) ≤ sizeLine by decide), [Value.int (i : Nat) tk, x], Paired.cons ⟨tk, rfl⟩ (Paired.cons ru Paired.nil), ⟨_, hT2, rfl, 0, rfl⟩⟩
    obtain ⟨⟨oj, hoj, hcj, hdj⟩, _⟩ := hst
    refine ⟨V.ref s.heap.objs.size, upd H s.heap.objs.size (.tup [V.int (i : Nat), xs[i]]), I1, rfl, ⟨s.heap.objs.size, xs[i], rfl, HOk.fresh I.hok (Nat.le_refl _), rfl, hx⟩, ⟨⟨x, ?_⟩, ⟨oj, (sb.right it (Ne.symm hne)).trans hoj, hcj, hdj⟩, hne⟩, fun b hb => ?_⟩
    · have e1 : (((i + 1 : Nat)) : Int) = (i : Int) + 1 := by omega
      rw [e1]
      exact he'
    · have hb' : b < s.heap.objs.size := by
        simp only [List.mem_cons, List.not_mem_nil, or_false] at hb
        rcases hb with rfl | rfl
        · exact hel
        · exact hil
      rw [upd_ne (Nat.ne_of_lt hb')]
      exact (hf b hb).1
  done := by
    rintro X rfl rfl rfl hc i pins s σ H E I hf ⟨⟨old, he⟩, hit, hne⟩ ⟨hq, rfl⟩
    obtain ⟨its, rv, p, hz⟩ := Inv.tuple I hq
    have p' : s.heap.IsTuple a its.toArray := p
    have hlen := Vals.length rv
    obtain ⟨oi, hoi, hci, hdi⟩ := hit
    have na : a ≠ it := by
      intro z
      subst z
      obtain ⟨o, ho, hco, _⟩ := p'
      rw [ho] at hoi
      cases hoi
      rw [hco] at hci
      exact absurd hci (by decide)
    have dr := Draws.tuple (prog := X.prog) (w := X.w) (A := X.A.in1) (I.ok.hd hc) it a na its.toArray
    have hn : its.toArray.size = xs.length := by simp [hlen]
    obtain ⟨f0, f1, f2, f3, f4, f5⟩ := hf it (by simp)
    refine wpAny_pyNext_enum_endD dr he ⟨⟨oi, hoi, hci, by rw [hn]; exact hdi⟩, p'⟩ fun h' eb => ⟨rfl, Inv.turned I (fun b o hb q => eb b o hb q) f0 f1 f3 f4 f5⟩
  self := fun A i s Q E st h => by
    obtain ⟨⟨old, he⟩, _⟩ := st
    exact wpAny_pyIter_enum he h
def iEnumT (K : PySem.W.Frag) (ta : TA) : TI := fun σ H R => ta σ H fun vs H1 => ∃ a xs, vs = [V.ref a] ∧ SqT K H1 a xs ∧ R (IteT K a xs) H1
theorem pi_enumT {X : Cx} {e : Expr} {ta : TA} {p pos tpos : Pos} {elts : List Expr} {kk : Nat} (hg : Gl X "enumerate") (hm : X.mg "enumerate" = none) (ha : PA X [e] ta) (hs : starEach [e] X.env = [(false, eval e X.env)] := by rfl) :
    PI X (.Tuple elts kk tpos) (.Call (.Name "enumerate" p) [e] [] pos) (iEnumT X.K ta) := by
  refine ⟨fun pins s σ H R I h => ?_⟩
  refine Call_ (ld_blt I hg hm (u := .type "enumerate") (by decide +kernel) (callWith_type1 (thn (ha.run pos pins s σ H (fun vs H1 => ∃ a xs, vs = [V.ref a] ∧ SqT X.K H1 a xs ∧ R (IteT X.K a xs) H1) I h) ?_) hs rfl) (by decide) (by decide)) rfl
  rintro us s1 ⟨vs, H1, I1, r1, a, xs, rfl, hq, q⟩
  cases r1 with
  | cons r rr =>
    cases rr
    cases r
    obtain ⟨its, rv, p, hz⟩ := Inv.tuple I1 hq
    have p' : s1.heap.IsTuple a its.toArray := p
    refine call_enum_B (begins_tuple a its.toArray) p' fun h' he hit hsz hk => ?_
    refine wpAny_pyIter_enum he ?_
    have I2 := Inv.kept (t' := s1.toks) I1 hk
    refine ⟨s1.heap.objs.size + 1, [s1.heap.objs.size + 1, s1.heap.objs.size], _, IteT X.K a xs, H1, rfl, I2, turn_enumT a _ _, ⟨⟨_, he⟩, ⟨_, hit, rfl, rfl⟩, Nat.succ_ne_self _⟩, fun b hb => ?_, q⟩
    simp only [List.mem_cons, List.not_mem_nil, or_false] at hb
    have hb' : s1.heap.objs.size ≤ b := by
      rcases hb with rfl | rfl
      · exact Nat.le_succ _
      · exact Nat.le_refl _
    exact Inv.fpOk I1 hb' (HOk.fresh I1.hok hb')
/-! ### for the layer -/
section
variable {X : Cx}
def enumD (ds : List D) : List D := ds.zipIdx.map fun q => .tup [.int (q.2 : Nat), q.1]
theorem enumD_get {ds : List D} {i : Nat} {d : D} (h : ds[i]? = some d) : (enumD ds)[i]? = some (.tup [.int (i : Nat), d]) := by
  unfold enumD
  rw [List.getElem?_map, List.getElem?_zipIdx, h]
  simp
theorem enumD_len {ds : List D} : (enumD ds).length = ds.length := by simp [enumD]
theorem wk_enum {K : PySem.W.Frag} {F : Hp} {a : Addr} {vs : List V} {ds : List D} (h : SqT K F a vs) (r : Rps K F ds vs) : Wk K F (IteT K a vs) (enumD ds) := by
  refine ⟨fun i H hi e => ?_, fun H e => ⟨sqT_mono e h, by rw [enumD_len, r.length]⟩, fun i H x H' F2 hi e e2 y => ?_⟩
  · rw [enumD_len, r.length] at hi
    exact ⟨sqT_mono e h, hi⟩
  · obtain ⟨T, v, rfl, hT, rfl, hv⟩ := y
    obtain ⟨d, h1, h2⟩ := r.get' hv
    have p1 : Rps K F2 [.int (i : Nat), d] [.int (i : Nat), v] := Rps.cons rp_int (Rps.cons (Rp.mono e d v h2) Rps.nil)
    obtain ⟨q1, q2⟩ := new_tup e2 hT p1
    exact ⟨_, q1, _, enumD_get h1, q2⟩
def enumI : List D → Option (List D)
  | [.tup ds] => some (enumD ds)
  | _ => none
theorem pmi_enum {elts : List Expr} {kk : Nat} {tpos p pos : Pos} {e : Expr} {m : MM (List D)} (hg : Gl X "enumerate") (hm : X.mg "enumerate" = none) (ha : PMA X [e] m) (hs : starEach [e] X.env = [(false, eval e X.env)] := by rfl) :
    PMI X (.Tuple elts kk tpos) (.Call (.Name "enumerate" p) [e] [] pos) (eRange enumI m) := by
  refine ⟨fun pins s σ H R I h => ?_⟩
  obtain ⟨ro, F0, H0, F, env, rd, ds, rd', hS, hm1, q⟩ := h
  obtain ⟨as, rd1, m1, hm2⟩ := bind1_some hm1
  obtain ⟨m2, e2⟩ := lift_some hm2
  subst e2
  match as, m2 with
  | [.tup es], m2 =>
    cases m2
    refine (pi_enumT hg hm ha hs).run pins s σ H R I ⟨ro, F0, H0, F, env, rd, _, _, hS, m1, fun vs F' H' a r p => ?_⟩
    simp only [Rps, Rp] at p
    obtain ⟨v, r', rfl, ⟨b, ws, rfl, t1, t2⟩, rfl⟩ := p
    exact ⟨b, ws, rfl, sqT_mono a.fh t1, q _ F' H' a r (wk_enum t1 t2)⟩
end
end FW

set_option Elab.async false
set_option linter.all false
set_option maxRecDepth 100000
set_option maxHeartbeats 1000000
namespace FW
open PySem PySem.Spec PyProof.Rows L2
section
variable {X : Cx}
theorem vals_signs : ∀ (cs : List Nat) (ws : List Value), ws.length = cs.length → (∀ (j : Nat) (v : Value), ws[j]? = some v → ∃ c u, cs[j]? = some c ∧ v = Value.str ⟨#[c]⟩ u) → Vals (cs.map fun c => V.str ⟨#[c]⟩) ws
  | [], [], _, _ => Paired.nil
  | c :: cs, w :: ws, hl, h => by
    obtain ⟨c', u, e, rfl⟩ := h 0 w rfl
    cases e
    exact Paired.cons ⟨u, rfl⟩ (vals_signs cs ws (by simpa using hl) fun j v hj => h (j + 1) v hj)
  | [], _ :: _, hl, _ => by simp at hl
  | _ :: _, [], hl, _ => by simp at hl
def signsV (z : Str) : List V := z.cps.toList.map fun c => .str ⟨#[c]⟩
theorem call_tuple_txt (hc : X.calm = true) : CallR X (.type "tuple") fun xs H Q => ∃ z : Str, xs = [.str z] ∧ z.length ≤ sizeLine ∧ ∀ l, H l = none → Q (.ref l) (upd H l (.tup (signsV z))) := by
  intro pins s σ H xs us Q I r h
  obtain ⟨z, rfl, hl, q⟩ := h
  cases r with
  | cons r rr =>
    cases rr
    obtain ⟨t, rfl⟩ := r
    refine call_tuple_str (I.ok.hd hc) z t (fun h' tk acc kp hit => ?_) hl
    have I1 := Inv.kept (t' := tk) I kp
    have rv : Vals (signsV z) acc.toList := by
      refine vals_signs _ _ (by rw [Array.length_toList, Array.length_toList]; exact hit.1) fun j v hj => ?_
      obtain ⟨c, u, e, rfl⟩ := hit.2 j v (by rw [← Array.getElem?_toList]; exact hj)
      exact ⟨c, u, by rw [Array.getElem?_toList]; exact e, rfl⟩
    have I2 := Inv.laid (t' := tk) (o := HO.tup (signsV z)) I1 (fun b o e => Heap.get?_push_of_some { cls := Value.type "tuple", data := Data.seq acc } e) (Nat.le_refl _) ⟨by simp [signsV]; exact hl, acc.toList, rv, IsTup.new h' acc.toList.toArray⟩
    exact ⟨.ref h'.objs.size, upd H _ (.tup (signsV z)), I2, rfl, q _ (HOk.fresh I1.hok (Nat.le_refl _))⟩
def opTupS : D → Option D
  | .str z => if z.length ≤ sizeLine then some (.tup (signsD z)) else none
  | _ => none
theorem cr_tupS (hc : X.calm = true) : CallR X (.type "tuple") (rCD X.K (op1 opTupS)) := cr_1 (call_tuple_txt hc) fun F H x d z Q sf p hz q => by
  cases d with
  | str s =>
    simp only [opTupS, Option.ite_none_right_eq_some, Option.some.injEq] at hz
    obtain ⟨hl, rfl⟩ := hz
    simp only [Rp] at p
    subst p
    refine ⟨s, rfl, hl, fun l hl => ?_⟩
    have rp : Rps X.K F (signsD s) (signsV s) := by
      unfold signsD signsV
      generalize s.cps.toList = cs
      induction cs with
      | nil => exact Rps.nil
      | cons c cs ih => exact Rps.cons rp_str ih
    obtain ⟨q1, q2⟩ := new_tup sf hl rp
    exact q _ _ _ q1 q2
  | _ => simp [opTupS] at hz
/-- tuple(range(a, b)) -/
def opTupRg (d e : D) : Option D := match d, e with
  | .int a, .int b => if a.natAbs < 1000000 ∧ b.natAbs < 1000000 then some (.tup (rangeD a (b - a).toNat)) else none
  | _, _ => none
theorem pm_tupRg {a b : Expr} {ma mb : MM D} {p p2 pos pos2 : Pos} (hc : X.calm = true) (hg : Gl X "tuple") (hm : X.mg "tuple" = none) (hg2 : Gl X "range") (hm2 : X.mg "range" = none) (ha : PM X a ma) (hb : PM X b mb) (hs : starEach [a, b] X.env = (false, eval a X.env) :: starEach [b] X.env := by rfl) (hs2 : starEach [b] X.env = (false, eval b X.env) :: starEach [] X.env := by rfl) (hp : (backTo pos2 (starEach [b] X.env)).any (·.1) = false := by rfl)
    (hs3 : starEach [Expr.Call (.Name "range" p2) [a, b] [] pos2] X.env = (false, eval (Expr.Call (.Name "range" p2) [a, b] [] pos2) X.env) :: starEach [] X.env := by rfl) :
    PM X (.Call (.Name "tuple" p) [.Call (.Name "range" p2) [a, b] [] pos2] [] pos) (eOp opTupRg ma mb) :=
  pe_imp (pe_tupRg hc hg hm (prg_2 hg2 hm2 ha hb hs hs2 hp) hs3) fun σ H Q h => by
  obtain ⟨ro, F0, H0, F, env, rd, z, rd', hS, hm, q⟩ := h
  obtain ⟨d, rd1, m1, hm⟩ := bind1_some hm
  obtain ⟨e, rd2, m2, hm⟩ := bind1_some hm
  obtain ⟨m3, e3⟩ := lift_some hm
  subst e3
  cases d with
  | int i => cases e with
    | int j =>
      simp only [opTupRg, Option.ite_none_right_eq_some, Option.some.injEq] at m3
      obtain ⟨⟨hi, hj⟩, rfl⟩ := m3
      refine ⟨ro, F0, H0, F, env, rd, _, rd1, hS, m1, fun v F1 H1 a1 r1 p1 => ?_⟩
      simp only [Rp] at p1
      subst p1
      refine ⟨ro, F0, H0, F1, env, rd1, _, _, hS.step a1 r1, m2, fun w F2 H2 a2 r2 p2 => ?_⟩
      simp only [Rp] at p2
      subst p2
      refine ⟨i, j, rfl, rfl, ⟨by omega, by omega, by omega, by omega, by omega⟩, fun l hl => ?_⟩
      have rp : Rps X.K F2 (rangeD i (j - i).toNat) (rgV i j) := by
        unfold rangeD rgV
        generalize (List.range (j - i).toNat) = ns
        induction ns with
        | nil => exact Rps.nil
        | cons n ns ih => exact Rps.cons rp_int ih
      obtain ⟨q1, q2⟩ := new_tup a2.fh hl rp
      exact q _ _ _ ((a1.trans a2).trans q1.stp) (r2.alc q1) q2
    | _ => simp [opTupRg] at m3
  | _ => simp [opTupRg] at m3
end
end FW

set_option Elab.async false
set_option linter.all false
set_option maxRecDepth 100000
set_option maxHeartbeats 1000000
namespace FW
open PySem PySem.Spec PyProof.Rows L2
theorem mk_f {K : PySem.W.Frag} {h : Heap} {mg : Str → Option Value} {x : Str} {st : Stmt} {ps : List Str} {f : Addr} {oc : Value} {od an : Option Addr} {sl : Array (Option Value)} {kV doc pm cdv ct : Value} (X : K.In h) (G : h.Ns mainGlobals mg)
    (a : PySem.W.nsIn K mainGlobals x = some (some (.ref f))) (l : K.lookup f = some ⟨oc, od, .func (PySem.W.fnOf x x (defArgs st) (defBody st) (defScope st) .none kV doc pm an cdv ct), sl⟩) (c : PySem.W.codeIn K cdv x = true) (k : PySem.W.keepIn K (.ref f) = true)
    (hb : ∀ (kV doc pm : Value) (an : Option Addr) (cdv ct : Value) (us : List Value), us.length = ps.length → bindArgs (PySem.W.fnOf x x (defArgs st) (defBody st) (defScope st) .none kV doc pm an cdv ct) ⟨us, []⟩ = pure (ps.zip us)) :
    ∃ (f : Addr) (fd : FuncData), Fun K x x st f fd ∧ mg x = some (.ref f) ∧ Binds K fd ps [] := by
  have F := fun_mk (st := st) l c k
  exact ⟨f, _, F, PySem.W.mg_of X G a, F.binds hb⟩
theorem mk_c {K : PySem.W.Frag} {h : Heap} {mg : Str → Option Value} {x : Str} {u : Value} {v : V} (X : K.In h) (G : h.Ns mainGlobals mg) (a : PySem.W.nsIn K mainGlobals x = some (some u)) (r : RelV v u) : ∃ u, mg x = some u ∧ RelV v u :=
  ⟨u, PySem.W.mg_of X G a, r⟩
theorem mk_loose {lv : List (Str × PySem.W.WData)} {mg : Str → Option Value} {h : Heap} {x : Str} {n : Int} (V : PySem.W.LooseAre lv mg h) (hq : (x, PySem.W.WData.int n) ∈ lv) : ∃ u, mg x = some u ∧ RelV (.int n) u := by
  obtain ⟨v, h1, h2⟩ := V.val _ hq
  refine ⟨v, h1, ?_⟩
  cases h2
  exact ⟨_, rfl⟩
end FW

set_option Elab.async false
set_option linter.all false
set_option maxRecDepth 100000
set_option maxHeartbeats 1000000
namespace FW
open PySem PySem.Spec PyProof.Rows L2

/-! ### lengths of texts as repr writes them -/
theorem reprChar_len : ∀ c < 128, (Builtin.Str.reprChar 34 c).length ≤ 4 ∧ (Builtin.Str.reprChar 39 c).length ≤ 4 := by decide +kernel
theorem quote_two (s : Str) : reprQuote s = 34 ∨ reprQuote s = 39 := by
  unfold reprQuote
  split
  · exact .inl rfl
  · exact .inr rfl
/-- at most n signs, all of them below 128 -/
def As (n : Nat) (s : Str) : Prop := s.length ≤ n ∧ ∀ c ∈ s.cps.toList, c < 128
theorem reprText_len {s : Str} {n : Nat} (h : As n s) : (reprText s).length ≤ 4 * n + 2 := by
  have hq : ∀ c < 128, (Builtin.Str.reprChar (reprQuote s) c).length ≤ 4 := fun c hc => by
    rcases quote_two s with e | e <;> rw [e]
    · exact (reprChar_len c hc).1
    · exact (reprChar_len c hc).2
  have aux : ∀ (cs : List Nat) (a : Array Nat), (∀ c ∈ cs, c < 128) → (cs.foldl (fun out c => out ++ (Builtin.Str.reprChar (reprQuote s) c).toArray) a).size ≤ a.size + 4 * cs.length := by
    intro cs
    induction cs with
    | nil => intro a _; simp
    | cons c cs ih =>
      intro a hc
      rw [List.foldl_cons]
      refine Nat.le_trans (ih _ fun d hd => hc d (List.mem_cons_of_mem _ hd)) ?_
      have := hq c (hc c List.mem_cons_self)
      simp only [Array.size_append, List.size_toArray, List.length_cons]
      omega
  have e : (reprText s).length = (s.cps.foldl (fun out c => out ++ (Builtin.Str.reprChar (reprQuote s) c).toArray) #[reprQuote s]).size + 1 := by
    show (Array.push _ _).size = _
    rw [Array.size_push]
  rw [e, ← Array.foldl_toList]
  have := aux s.cps.toList #[reprQuote s] h.2
  have h1 := h.1
  have h2 : s.cps.toList.length = s.length := by
    rw [Array.length_toList]
    rfl
  rw [h2] at this
  simp only [List.size_toArray, List.length_cons, List.length_nil] at this
  omega
theorem As.mono {n m : Nat} {s : Str} (h : As n s) (e : n ≤ m) : As m s := ⟨Nat.le_trans h.1 e, h.2⟩
theorem As.append {n m : Nat} {s t : Str} (h : As n s) (k : As m t) : As (n + m) (s ++ t) := by
  refine ⟨?_, fun c hc => ?_⟩
  · have e : (s ++ t).length = s.length + t.length := Array.size_append
    have := h.1
    have := k.1
    omega
  · have e : (s ++ t).cps.toList = s.cps.toList ++ t.cps.toList := Array.toList_append
    rw [e] at hc
    rcases List.mem_append.mp hc with q | q
    · exact h.2 c q
    · exact k.2 c q
theorem as_int {i : Int} (h : i.natAbs.log2 < 1920) : As 1921 (Str.ofString (toString i)) := by
  refine ⟨int_text_len_1921 h, fun c hc => ?_⟩
  by_cases k : c < 128
  · exact k
  · exact absurd hc (int_text_free' c ⟨by omega, .inr (by omega)⟩ i)
theorem glued_aux {g : Str} {a n : Nat} (hg : As a g) : ∀ {ys : List Str} {u : Array Nat} {b : Nat}, (∀ y ∈ ys, As n y) → As b ⟨u⟩ → As (b + ys.length * (n + a)) ⟨ys.foldl (fun acc p => acc ++ g.cps ++ p.cps) u⟩
  | [], u, b, _, hu => by simpa using hu
  | y :: ys, u, b, h, hu => by
    rw [List.foldl_cons]
    have h1 : As (b + a + n) ⟨u ++ g.cps ++ y.cps⟩ := (hu.append hg).append (h y List.mem_cons_self)
    refine (glued_aux hg (fun z hz => h z (List.mem_cons_of_mem _ hz)) h1).mono ?_
    rw [List.length_cons, Nat.succ_mul]
    omega
theorem As.join {g : Str} {a n k : Nat} {ys : List Str} (hg : As a g) (h : ∀ y ∈ ys, As n y) (hk : ys.length ≤ k) : As (k * (n + a)) (Txt.join g ys) := by
  cases ys with
  | nil =>
    refine As.mono (n := 0) ⟨?_, ?_⟩ (Nat.zero_le _)
    · exact Nat.le_refl 0
    · intro c hc
      simp [Txt.join, Builtin.Str.glued, Str.empty] at hc
  | cons y ys =>
    have := glued_aux hg (ys := ys) (fun z hz => h z (List.mem_cons_of_mem _ hz)) (h y List.mem_cons_self)
    refine As.mono (s := Txt.join g (y :: ys)) this ?_
    have e : (y :: ys).length * (n + a) ≤ k * (n + a) := Nat.mul_le_mul_right _ hk
    rw [List.length_cons, Nat.succ_mul] at e
    omega
theorem join_ok {g : Str} {n k : Nat} {ys : List Str} (hg : g.length = 1) (h : ∀ y ∈ ys, As n y) (hk : ys.length ≤ k) (hb : k * (n + 1) ≤ 16777216) : joinD g ys = some (.str (Txt.join g ys)) := by
  unfold joinD
  rw [if_pos]
  have e : (ys.map (·.length)).sum ≤ ys.length * n := by
    clear hk hb
    induction ys with
    | nil => simp
    | cons y ys ih =>
      have h1 := (h y List.mem_cons_self).1
      have h2 := ih fun z hz => h z (List.mem_cons_of_mem _ hz)
      rw [List.map_cons, List.sum_cons, List.length_cons, Nat.succ_mul]
      omega
  have e2 : ys.length * (n + 1) ≤ k * (n + 1) := Nat.mul_le_mul_right _ hk
  rw [Nat.mul_add] at e2
  rw [hg]
  omega

/-! ### small data -/
structure Sm (m dep : Nat) (d : D) : Prop where
  sh : (toPy d).showable = true
  dp : (toPy d).depth ≤ dep
  ln : (shownD d).length ≤ m
  lay : (toPy d).canLay0 = true
theorem Sm.mono {m m' k k' : Nat} {d : D} (h : Sm m k d) (e1 : m ≤ m') (e2 : k ≤ k') : Sm m' k' d := ⟨h.sh, Nat.le_trans h.dp e2, Nat.le_trans h.ln e1, h.lay⟩
theorem sm_str {n : Nat} {s : Str} (h : As n s) : Sm (4 * n + 2) 0 (.str s) := by
  refine ⟨?_, ?_, ?_, ?_⟩
  · simp [toPy, PyData.showable]
  · simp [toPy, PyData.depth]
  · have := reprText_len h
    simpa [shownD, toPy, PyData.shown] using this
  · simp only [toPy, PyData.canLay0, PyData.strOk]
    rw [Array.all_eq_true_iff_forall_mem]
    intro c hc
    have := h.2 c (by simpa using hc)
    simp
    omega
theorem sm_int {i : Int} (h : i.natAbs.log2 < 1920) : Sm 1921 0 (.int i) := by
  refine ⟨?_, ?_, ?_, ?_⟩
  · simp [toPy, PyData.showable, h]
  · simp [toPy, PyData.depth]
  · simpa [shownD, toPy, PyData.shown] using int_text_len_1921 h
  · simp [toPy, PyData.canLay0]
theorem sjoin_len {g : Str} {n : Nat} : ∀ {ts : List Str}, (∀ t ∈ ts, t.length ≤ n) → (g.join ts).length ≤ ts.length * (n + g.length)
  | [], _ => by simp [Str.join, Str.length, Str.empty]
  | [t], h => by
    have := h t List.mem_cons_self
    simp only [Str.join, List.length_cons, List.length_nil]
    omega
  | t :: u :: ts, h => by
    have h1 := h t List.mem_cons_self
    have h2 := sjoin_len (g := g) (ts := u :: ts) fun z hz => h z (List.mem_cons_of_mem _ hz)
    have e : (g.join (t :: u :: ts)).length = t.length + g.length + (g.join (u :: ts)).length := by
      have e5 : ∀ a b : Str, (a ++ b).length = a.length + b.length := fun a b => Array.size_append
      rw [Str.join, e5, e5]
      exact fun z => by cases z
    rw [e]
    simp only [List.length_cons] at h2 ⊢
    rw [Nat.succ_mul]
    omega
theorem all_lists {ds : List D} {m k : Nat} (h : ∀ d ∈ ds, Sm m k d) : PyData.showableAll (toPys ds) = true ∧ PyData.depthAll (toPys ds) ≤ k ∧ (∀ t ∈ PyData.shownAll (toPys ds), t.length ≤ m) ∧ (PyData.shownAll (toPys ds)).length = ds.length ∧ PyData.canLayAll0 (toPys ds) = true := by
  induction ds with
  | nil => simp [toPys, PyData.showableAll, PyData.depthAll, PyData.shownAll, PyData.canLayAll0]
  | cons d ds ih =>
    obtain ⟨a1, a2, a3, a4, a5⟩ := ih fun z hz => h z (List.mem_cons_of_mem _ hz)
    obtain ⟨b1, b2, b3, b4⟩ := h d List.mem_cons_self
    refine ⟨?_, ?_, ?_, ?_, ?_⟩
    · simp [toPys, PyData.showableAll, a1, b1]
    · simp only [toPys, PyData.depthAll]
      omega
    · intro t ht
      simp only [toPys, PyData.shownAll, List.mem_cons] at ht
      rcases ht with rfl | ht
      · exact b3
      · exact a3 t ht
    · simp [toPys, PyData.shownAll, a4]
    · simp [toPys, PyData.canLayAll0, a5, b4]
theorem sm_tup {ds : List D} {m k l : Nat} (h : ∀ d ∈ ds, Sm m k d) (hl : ds.length ≤ l) : Sm (l * (m + 2) + 4) (k + 1) (.tup ds) := by
  obtain ⟨a1, a2, a3, a4, a5⟩ := all_lists h
  refine ⟨?_, ?_, ?_, ?_⟩
  · simp only [toPy, PyData.showable, a1]
  · simp only [toPy, PyData.depth]
    omega
  · simp only [shownD, toPy, PyData.shown, tupleText]
    have e1 := sjoin_len (g := Str.ofString ", ") a3
    have e2 : (Str.ofString ", ").length = 2 := by decide +kernel
    have e3 : (Str.ofString "(").length = 1 := by decide +kernel
    have e4 : (Str.ofString (if ((PyData.shownAll (toPys ds)).length == 1) = true then ",)" else ")")).length ≤ 2 := by
      split <;> decide +kernel
    have e5 : ∀ a b : Str, (a ++ b).length = a.length + b.length := fun a b => Array.size_append
    rw [e5, e5, e3]
    rw [e2, a4] at e1
    have e6 : ds.length * (m + 2) ≤ l * (m + 2) := Nat.mul_le_mul_right _ hl
    omega
  · simp only [toPy, PyData.canLay0, a5]
theorem canLay_lst {ds : List D} {m k : Nat} (h : ∀ d ∈ ds, Sm m k d) (hk : k < 64) : SeqAt.shaped (toPy (.lst ds)) = true := by
  obtain ⟨a1, a2, a3, a4, a5⟩ := all_lists h
  simp only [SeqAt.shaped, toPy, PyData.canLay0, a5, PyData.depth, Bool.true_and, decide_eq_true_eq]
  omega
theorem Sm.shaped {m k : Nat} {d : D} (h : Sm m k d) (hk : k ≤ 64) : SeqAt.shaped (toPy d) = true := by
  simp only [SeqAt.shaped, h.lay, Bool.true_and, decide_eq_true_eq]
  have := h.dp
  omega
theorem Sm.repr {m k : Nat} {d : D} (h : Sm m k d) (hk : k ≤ 100) (hm : m ≤ sizeLine) : opRepr d = some (.str (shownD d)) := by
  unfold opRepr okShow
  have h1 := h.dp
  have h2 := h.ln
  rw [if_pos]
  simp only [h.sh, Bool.true_and, Bool.and_eq_true, decide_eq_true_eq]
  omega

/-! ### what a reading comes to -/
theorem b1_eq {α β : Type} {m : MM α} {k : α → MM β} {env : List SV} {rd rd1 : Rdr} {a : α} (h : m env rd = some (a, rd1)) : bind1 m k env rd = k a env rd1 := by
  unfold bind1
  rw [h]
  rfl
theorem lcGo_map {A : Type} {f g : A → D} {i : Nat} {env : List SV} {rd : Rdr} {e : MM D} : ∀ {as : List A}, (∀ a ∈ as, e (env.set i (.val (f a))) rd = some (g a, rd)) → lcGo (.nm i) mYes e (as.map f) env rd = some (as.map g, rd)
  | [], _ => rfl
  | a :: as, h => by
    have ih := lcGo_map (f := f) (g := g) (i := i) (env := env) (rd := rd) (e := e) (as := as) fun z hz => h z (List.mem_cons_of_mem _ hz)
    have e1 := h a List.mem_cons_self
    have e2 : mYes (env.set i (.val (f a))) rd = some (true, rd) := rfl
    simp only [List.map_cons, lcGo, setPat, Option.bind_some, e2, if_true, e1, ih, Option.map_some]
theorem lcGo_none {A : Type} {f : A → D} {i : Nat} {env : List SV} {rd : Rdr} {e : MM D} {t : MM Bool} : ∀ {as : List A}, (∀ a ∈ as, t (env.set i (.val (f a))) rd = some (false, rd)) → lcGo (.nm i) t e (as.map f) env rd = some ([], rd)
  | [], _ => rfl
  | a :: as, h => by
    simp only [List.map_cons, lcGo, setPat, Option.bind_some]
    rw [h a List.mem_cons_self]
    simp only [Option.bind_some, Bool.false_eq_true, if_false]
    exact lcGo_none fun z hz => h z (List.mem_cons_of_mem _ hz)
/-- what holds of the answer and of the reader behind -/
def Wp {α : Type} (x : Option (α × Rdr)) (Q : α → Rdr → Prop) : Prop := ∃ a rd, x = some (a, rd) ∧ Q a rd
theorem wp_bind1 {α β : Type} {m : MM α} {k : α → MM β} {env : List SV} {rd : Rdr} {Q : β → Rdr → Prop} : Wp (bind1 m k env rd) Q ↔ Wp (m env rd) fun a rd' => Wp (k a env rd') Q := by
  constructor
  · rintro ⟨b, rd2, h, q⟩
    obtain ⟨a, rd1, h1, h2⟩ := bind1_some h
    exact ⟨a, rd1, h1, b, rd2, h2, q⟩
  · rintro ⟨a, rd1, h1, b, rd2, h2, q⟩
    exact ⟨b, rd2, by rw [b1_eq h1, h2], q⟩
theorem wp_some {α : Type} {a : α} {rd : Rdr} {Q : α → Rdr → Prop} : Wp (some (a, rd)) Q ↔ Q a rd := by
  constructor
  · rintro ⟨b, r, h, q⟩
    cases h
    exact q
  · exact fun q => ⟨a, rd, rfl, q⟩
theorem wp_lift {α : Type} {o : Option α} {env : List SV} {rd : Rdr} {Q : α → Rdr → Prop} : Wp (lift o env rd) Q ↔ ∃ a, o = some a ∧ Q a rd := by
  constructor
  · rintro ⟨b, r, h, q⟩
    obtain ⟨h1, rfl⟩ := lift_some h
    exact ⟨b, h1, q⟩
  · rintro ⟨a, rfl, q⟩
    exact ⟨a, rd, rfl, q⟩
theorem Wp.mono {α : Type} {x : Option (α × Rdr)} {Q R : α → Rdr → Prop} (h : Wp x Q) (f : ∀ a rd, Q a rd → R a rd) : Wp x R := by
  obtain ⟨a, rd, h, q⟩ := h
  exact ⟨a, rd, h, f a rd q⟩
end FW
namespace FW
open PySem PySem.Spec PyProof.Rows L2
section
variable {α β : Type} {env : List SV} {rd : Rdr}
theorem ev_bind1 {m : MM α} {k : α → MM β} : bind1 m k env rd = (m env rd).bind fun q => k q.1 env q.2 := Eq.trans rfl rfl
theorem ev_lift {o : Option α} : lift o env rd = o.map fun x => (x, rd) := Eq.trans rfl rfl
theorem ev_eC {d : D} : eC d env rd = some (d, rd) := Eq.trans rfl rfl
theorem ev_eVar {i : Nat} : eVar i env rd = (match env[i]? with | some (.val d) => some (d, rd) | _ => none) := Eq.trans rfl rfl
theorem ev_eOp {op : D → D → Option D} {a b : MM D} : eOp op a b env rd = (a env rd).bind fun p => (b env p.2).bind fun q => (op p.1 q.1).map fun x => (x, q.2) := Eq.trans rfl rfl
theorem ev_eUn {f : D → Option D} {a : MM D} : eUn f a env rd = (a env rd).bind fun p => (f p.1).map fun x => (x, p.2) := Eq.trans rfl rfl
theorem ev_eT {m : MM D} : eT m env rd = (m env rd).bind fun p => (isBl p.1).map fun x => (x, p.2) := Eq.trans rfl rfl
theorem ite_ap {c : Prop} [Decidable c] {a b : MM α} : (if c then a else b) env rd = if c then a env rd else b env rd := by split <;> rfl
theorem ev_mAnd {a b : MM Bool} : mAnd a b env rd = (a env rd).bind fun p => if p.1 = true then b env p.2 else some (false, p.2) := by
  show ((a env rd).bind fun p => (if p.1 = true then b else fun _ rd => some (false, rd)) env p.2) = _
  congr 1; funext p; rw [ite_ap]
theorem ev_mOr {a b : MM Bool} : mOr a b env rd = (a env rd).bind fun p => if p.1 = true then some (true, p.2) else b env p.2 := by
  show ((a env rd).bind fun p => (if p.1 = true then fun _ rd => some (true, rd) else b) env p.2) = _
  congr 1; funext p; rw [ite_ap]
theorem ev_mNot {a : MM Bool} : mNot a env rd = (a env rd).bind fun p => some (!p.1, p.2) := Eq.trans rfl rfl
theorem ev_eAnd {a b : MM D} : eAnd a b env rd = (eT a env rd).bind fun p => if p.1 = true then b env p.2 else some (.bl false, p.2) := by
  show ((eT a env rd).bind fun p => (if p.1 = true then b else fun _ rd => some (.bl false, rd)) env p.2) = _
  congr 1; funext p; rw [ite_ap]
theorem ev_eIf {t : MM Bool} {a b : MM D} : eIf t a b env rd = (t env rd).bind fun p => if p.1 = true then a env p.2 else b env p.2 := by
  show ((t env rd).bind fun p => (if p.1 = true then a else b) env p.2) = _
  congr 1; funext p; rw [ite_ap]
theorem ev_chain {a b c : MM D} {f g : D → D → Option D} : chainT a b c f g env rd = (a env rd).bind fun p => (b env p.2).bind fun q => (((f p.1 q.1).bind isBl).map fun x => (x, q.2)).bind fun k => if k.1 = true then (c env k.2).bind fun z => (g q.1 z.1).map fun x => (x, z.2) else some (.bl false, k.2) := by
  show ((a env rd).bind fun p => (b env p.2).bind fun q => (((f p.1 q.1).bind isBl).map fun x => (x, q.2)).bind fun k => (if k.1 = true then bind1 c fun z => lift (g q.1 z) else fun x rd => some (.bl false, rd)) env k.2) = _
  congr 1; funext p; congr 1; funext q; congr 1; funext k; rw [ite_ap]; rfl
theorem ev_aNil : aNil env rd = some ([], rd) := Eq.trans rfl rfl
theorem ev_aCons {a : MM D} {r : MM (List D)} : aCons a r env rd = (a env rd).bind fun p => (r env p.2).bind fun q => some (p.1 :: q.1, q.2) := Eq.trans rfl rfl
theorem ev_eTup {a : MM (List D)} : eTup a env rd = (a env rd).bind fun p => if p.1.length ≤ sizeLine then some (.tup p.1, p.2) else none := Eq.trans rfl rfl
theorem ev_eLst {a : MM (List D)} : eLst a env rd = (a env rd).bind fun p => if p.1.length ≤ sizeLine then some (.lst p.1, p.2) else none := Eq.trans rfl rfl
theorem ev_eCall {op : List D → Option D} {a : MM (List D)} : eCall op a env rd = (a env rd).bind fun p => (op p.1).map fun x => (x, p.2) := Eq.trans rfl rfl
theorem ev_eFn {fm : FM} {n : Nat} {a : MM (List D)} : eFn fm n a env rd = (a env rd).bind fun p => if p.1.length = n then fm p.1 p.2 else none := Eq.trans rfl rfl
theorem ev_eFnR {fm : FM} {n i : Nat} {a : MM (List D)} : eFnR fm n i a env rd = (match env[i]? with | some .rdr => (a env rd).bind fun q => if q.1.length = n then fm q.1 q.2 else none | _ => none) := Eq.trans rfl rfl
theorem ev_eIter {m : MM D} : eIter m env rd = (m env rd).bind fun p => (iterD p.1).map fun x => (x, p.2) := Eq.trans rfl rfl
theorem ev_eRange {f : List D → Option (List D)} {m : MM (List D)} : eRange f m env rd = (m env rd).bind fun p => (f p.1).map fun x => (x, p.2) := Eq.trans rfl rfl
theorem ev_eLc {mi : MM (List D)} {p : Pat} {vs : List Nat} {t : MM Bool} {e : MM D} : eLc mi p vs t e env rd = (mi env rd).bind fun q => if q.1.length ≤ sizeLine then (lcGo p t e q.1 (wipeE env vs) q.2).map fun r => (.lst r.1, r.2) else none := Eq.trans rfl rfl
theorem ev_eSl {m : MM D} {a b : MM (Option Int)} : eSl m a b env rd = (m env rd).bind fun p => (a env p.2).bind fun q => (b env q.2).bind fun r => (opSl p.1 q.1 r.1).map fun x => (x, r.2) := Eq.trans rfl rfl
theorem ev_pNone : pNone env rd = some (none, rd) := Eq.trans rfl rfl
theorem ev_pSome {m : MM D} : pSome m env rd = (m env rd).bind fun p => (match p.1 with | .int i => some (some i) | _ => none).map fun x => (x, p.2) := Eq.trans rfl rfl
theorem ev_mFrz {m : MM α} : mFrz m env rd = m (env.map frzSV) rd := Eq.trans rfl rfl
theorem ev_sNx : sNx env rd = some (.nx env, rd) := Eq.trans rfl rfl
theorem ev_sSet {i : Nat} {m : MM D} : sSet i m env rd = (m env rd).bind fun p => some (.nx (env.set i (.val p.1)), p.2) := Eq.trans rfl rfl
theorem ev_sRet {m : MM D} : sRet m env rd = (m env rd).bind fun p => some (.ret p.1, p.2) := Eq.trans rfl rfl
theorem ev_sSeq {a b : MM Fl} : sSeq a b env rd = (a env rd).bind fun q => match q.1 with | .nx env' => b env' q.2 | fl => some (fl, q.2) := Eq.trans rfl rfl
theorem ev_sIf {t : MM Bool} {a b : MM Fl} : sIf t a b env rd = (t env rd).bind fun p => if p.1 = true then a env p.2 else b env p.2 := by
  show ((t env rd).bind fun p => (if p.1 = true then a else b) env p.2) = _
  congr 1; funext p; rw [ite_ap]
theorem ev_sUnp {p : Pat} {m : MM D} : sUnp p m env rd = (m env rd).bind fun q => (setPat p q.1 env).map fun env' => (.nx env', q.2) := Eq.trans rfl rfl
theorem ev_sNew {i : Nat} {m : MM (List D)} : sNew i m env rd = (m env rd).bind fun p => some (.nx (env.set i (.own p.1)), p.2) := Eq.trans rfl rfl
theorem ev_fLst {m : MM (List D)} : fLst m env rd = (m env rd).bind fun p => if p.1.length ≤ sizeLine then some (p.1, p.2) else none := Eq.trans rfl rfl
theorem ev_fCat {a b : MM D} : fCat a b env rd = (a env rd).bind fun p => (b env p.2).bind fun q => (match p.1, q.1 with | .lst xs, .lst ys => if xs.length + ys.length ≤ sizeLine then some (xs ++ ys) else none | _, _ => none).map fun x => (x, q.2) := Eq.trans rfl rfl
theorem ev_sApp {i : Nat} {m : MM D} : sApp i m env rd = (m env rd).bind fun p => match env[i]? with | some (.own ds) => if ds.length < sizeLine then some (.nx (env.set i (.own (ds ++ [p.1]))), p.2) else none | _ => none := Eq.trans rfl rfl
theorem ev_sFrz {i : Nat} {m : MM Fl} : sFrz i m env rd = m (frzAt i env) rd := Eq.trans rfl rfl
theorem ev_sFor {mi : MM (List D)} {p : Pat} {b : MM Fl} : sFor mi p b env rd = (mi env rd).bind fun q => forGo p b q.1 env q.2 := Eq.trans rfl rfl
theorem ev_vNil : vNil env rd = some ([], rd) := Eq.trans rfl rfl
theorem ev_vVal {m : MM D} {r : MM (List SV)} : vVal m r env rd = (m env rd).bind fun p => (r env p.2).bind fun q => some (.val p.1 :: q.1, q.2) := Eq.trans rfl rfl
theorem ev_vOwn {m : MM (List D)} {r : MM (List SV)} : vOwn m r env rd = (m env rd).bind fun p => (r env p.2).bind fun q => some (.own p.1 :: q.1, q.2) := Eq.trans rfl rfl
theorem ev_sTup {is : List Nat} {m : MM (List SV)} : sTup is m env rd = (m env rd).bind fun p => if p.1.length = is.length then some (.nx (setSv is p.1 env), p.2) else none := Eq.trans rfl rfl
theorem ev_eRd {i k : Nat} : eRd i k env rd = (match env[i]? with | some .rdr => (rdItem k rd).map fun d => (d, rd) | _ => none) := Eq.trans rfl rfl
theorem ev_sRd {i k : Nat} {m : MM D} : sRd i k m env rd = (m env rd).bind fun p => match env[i]?, p.1 with | some .rdr, .int x => (rdPut k x p.2).map fun rd' => (.nx env, rd') | _, _ => none := Eq.trans rfl rfl
end
end FW
namespace FW
open PySem PySem.Spec PyProof.Rows L2
theorem eqS {a b : Str} : opEq (.str a) (.str b) = some (.bl (decide (a = b))) := Eq.trans rfl rfl
theorem eqI {a b : Int} : opEq (.int a) (.int b) = some (.bl (decide (a = b))) := Eq.trans rfl rfl
theorem neS {a b : Str} : opNe (.str a) (.str b) = some (.bl (!decide (a = b))) := Eq.trans rfl rfl
theorem neI {a b : Int} : opNe (.int a) (.int b) = some (.bl (!decide (a = b))) := Eq.trans rfl rfl
end FW

set_option Elab.async false
set_option linter.all false
set_option maxRecDepth 100000
set_option maxHeartbeats 4000000
namespace My
open PySem PySem.Spec PyProof.Rows L2 FW
def topS (i : Nat) : Stmt := PySem.Challenge.pw_latecharge_k10_texts_written.main.body.getD i (.Pass ⟨0, 0, 0, 0⟩)
structure Tx (K : PySem.W.Frag) (mg : Str → Option Value) : Prop where
  f__law_reader : ∃ (f : Addr) (fd : FuncData), Fun K "_law_reader" "_law_reader" (topS 10) f fd ∧ mg "_law_reader" = some (.ref f) ∧ Binds K fd ["_law_script"] []
  f__law_fixed_books : ∃ (f : Addr) (fd : FuncData), Fun K "_law_fixed_books" "_law_fixed_books" (topS 20) f fd ∧ mg "_law_fixed_books" = some (.ref f) ∧ Binds K fd [] []
  f_number_text : ∃ (f : Addr) (fd : FuncData), Fun K "number_text" "number_text" (topS 2) f fd ∧ mg "number_text" = some (.ref f) ∧ Binds K fd ["number"] []
  f_purse_text : ∃ (f : Addr) (fd : FuncData), Fun K "purse_text" "purse_text" (topS 4) f fd ∧ mg "purse_text" = some (.ref f) ∧ Binds K fd ["purse"] []
  f_shares_text : ∃ (f : Addr) (fd : FuncData), Fun K "shares_text" "shares_text" (topS 3) f fd ∧ mg "shares_text" = some (.ref f) ∧ Binds K fd ["shares"] []
  f_row_text : ∃ (f : Addr) (fd : FuncData), Fun K "row_text" "row_text" (topS 6) f fd ∧ mg "row_text" = some (.ref f) ∧ Binds K fd ["row"] []
  f__law_wide : ∃ (f : Addr) (fd : FuncData), Fun K "_law_wide" "_law_wide" (topS 27) f fd ∧ mg "_law_wide" = some (.ref f) ∧ Binds K fd [] []
  f__law_draw : ∃ (f : Addr) (fd : FuncData), Fun K "_law_draw" "_law_draw" (topS 11) f fd ∧ mg "_law_draw" = some (.ref f) ∧ Binds K fd ["_law_reader_here", "_law_many"] []
  f__law_some_of : ∃ (f : Addr) (fd : FuncData), Fun K "_law_some_of" "_law_some_of" (topS 16) f fd ∧ mg "_law_some_of" = some (.ref f) ∧ Binds K fd ["_law_reader_here", "_law_pool"] []
  f__law_random_purses : ∃ (f : Addr) (fd : FuncData), Fun K "_law_random_purses" "_law_random_purses" (topS 17) f fd ∧ mg "_law_random_purses" = some (.ref f) ∧ Binds K fd ["_law_reader_here"] []
  f__law_pays : ∃ (f : Addr) (fd : FuncData), Fun K "_law_pays" "_law_pays" (topS 14) f fd ∧ mg "_law_pays" = some (.ref f) ∧ Binds K fd ["_law_purse_in", "_law_row_in"] []
  f__law_random_row : ∃ (f : Addr) (fd : FuncData), Fun K "_law_random_row" "_law_random_row" (topS 18) f fd ∧ mg "_law_random_row" = some (.ref f) ∧ Binds K fd ["_law_reader_here", "_law_purses_in"] []
  f__law_within : ∃ (f : Addr) (fd : FuncData), Fun K "_law_within" "_law_within" (topS 12) f fd ∧ mg "_law_within" = some (.ref f) ∧ Binds K fd ["_law_one", "_law_other"] []
  f__law_crosses : ∃ (f : Addr) (fd : FuncData), Fun K "_law_crosses" "_law_crosses" (topS 13) f fd ∧ mg "_law_crosses" = some (.ref f) ∧ Binds K fd ["_law_one", "_law_other"] []
  f__law_spent : ∃ (f : Addr) (fd : FuncData), Fun K "_law_spent" "_law_spent" (topS 15) f fd ∧ mg "_law_spent" = some (.ref f) ∧ Binds K fd ["_law_purses_in", "_law_limit_in", "_law_some"] []
  f__law_random_book : ∃ (f : Addr) (fd : FuncData), Fun K "_law_random_book" "_law_random_book" (topS 19) f fd ∧ mg "_law_random_book" = some (.ref f) ∧ Binds K fd ["_law_reader_here"] []
  f__law_loose : ∃ (f : Addr) (fd : FuncData), Fun K "_law_loose" "_law_loose" (topS 26) f fd ∧ mg "_law_loose" = some (.ref f) ∧ Binds K fd ["_law_reader_here"] []
  f_limit_text : ∃ (f : Addr) (fd : FuncData), Fun K "limit_text" "limit_text" (topS 5) f fd ∧ mg "limit_text" = some (.ref f) ∧ Binds K fd ["limit"] []
  f_book_lines : ∃ (f : Addr) (fd : FuncData), Fun K "book_lines" "book_lines" (topS 7) f fd ∧ mg "book_lines" = some (.ref f) ∧ Binds K fd ["book"] []
  f_book_text : ∃ (f : Addr) (fd : FuncData), Fun K "book_text" "book_text" (topS 8) f fd ∧ mg "book_text" = some (.ref f) ∧ Binds K fd ["book"] []
  f__law_one_word : ∃ (f : Addr) (fd : FuncData), Fun K "_law_one_word" "_law_one_word" (topS 21) f fd ∧ mg "_law_one_word" = some (.ref f) ∧ Binds K fd ["_law_lot"] []
  f__law_purse_line : ∃ (f : Addr) (fd : FuncData), Fun K "_law_purse_line" "_law_purse_line" (topS 22) f fd ∧ mg "_law_purse_line" = some (.ref f) ∧ Binds K fd ["_law_purse_in"] []
  f__law_limit_line : ∃ (f : Addr) (fd : FuncData), Fun K "_law_limit_line" "_law_limit_line" (topS 23) f fd ∧ mg "_law_limit_line" = some (.ref f) ∧ Binds K fd ["_law_limit_in"] []
  f__law_row_line : ∃ (f : Addr) (fd : FuncData), Fun K "_law_row_line" "_law_row_line" (topS 24) f fd ∧ mg "_law_row_line" = some (.ref f) ∧ Binds K fd ["_law_row_in"] []
  f__law_book_page : ∃ (f : Addr) (fd : FuncData), Fun K "_law_book_page" "_law_book_page" (topS 25) f fd ∧ mg "_law_book_page" = some (.ref f) ∧ Binds K fd ["_law_whole"] []
  f_law : ∃ (f : Addr) (fd : FuncData), Fun K "law" "law" (topS 28) f fd ∧ mg "law" = some (.ref f) ∧ Binds K fd ["_law_script"] []
  c_PIECE : ∃ u, mg "PIECE" = some u ∧ RelV (.int 1000000000000000000000000000000000000000000000000000000000000) u
  z_enumerate : mg "enumerate" = none
  z_int : mg "int" = none
  z_len : mg "len" = none
  z_range : mg "range" = none
  z_repr : mg "repr" = none
  z_str : mg "str" = none
  z_sum : mg "sum" = none
  z_tuple : mg "tuple" = none
section
variable {P : Program} {w : World} {K : PySem.W.Frag} {mg : Str → Option Value} {base : Heap}
abbrev n__law_reader : List Str := ["_law_script"]
theorem sc__law_reader : FnScope n__law_reader ["_law_script"] (defScope (topS 10)) := ⟨rfl, rfl, rfl, by decide +kernel, rfl, by decide +kernel, by decide +kernel⟩
theorem ok__law_reader (T : Tx K mg) : Ok P w K mg base "_law_reader" 1 ["_law_script"] (spReader K) := by
  obtain ⟨f, fd, F, g, b⟩ := T.f__law_reader
  refine ⟨f, fd, FnM.of (F.ok sc__law_reader (fun vs H Q E h => ?_) fun cdv A outer s H vs Q E hr h => ?_), g, F.kp, b⟩
  · obtain ⟨a, ns, rfl, _⟩ := h
    rfl
  · exact ⟨_, pss_one (ps_ret (pe_lst (pa_cons (pe_slice sl_list (pv 0) po_none (po_some pe_int)) (pa_cons pe_int (pa_cons pe_int (pa_cons pe_int pa_nil)))))), reading_reader h rfl⟩
abbrev n__law_fixed_books : List Str := ["_law_gift", "_law_meal", "_law_three", "_law_caps", "_law_first_book", "_law_more", "_law_lot", "_law_odd", "_law_six", "_law_wide_here", "_law_ten", "_law_name"]
theorem sc__law_fixed_books : FnScope n__law_fixed_books [] (defScope (topS 20)) := ⟨rfl, rfl, rfl, by decide +kernel, rfl, by decide +kernel, by decide +kernel⟩
def b__law_fixed_books : MM Fl := (sSeq (sTup [0, 1] (vVal (eTup (aCons (eC (.str ("gift" : Str))) (aCons (eC (.str ("aunt" : Str))) (aCons (eTup (aCons (eC (.str ("food" : Str))) (aCons (eC (.str ("toy" : Str))) aNil))) (aCons (eC (.int 0)) (aCons (eC (.int 9)) aNil)))))) (vVal (eTup (aCons (eC (.str ("meal" : Str))) (aCons (eC (.str ("firm" : Str))) (aCons (eTup (aCons (eC (.str ("food" : Str))) aNil)) (aCons (eC (.int 0)) (aCons (eC (.int 4)) aNil)))))) vNil)))
  (sSeq (sSet 2 (eTup (aCons (eVar 0) (aCons (eVar 1) (aCons (eTup (aCons (eC (.str ("trip" : Str))) (aCons (eC (.str ("firm" : Str))) (aCons (eTup (aCons (eC (.str ("train" : Str))) aNil)) (aCons (eC (.int 0)) (aCons (eC (.int 9)) aNil)))))) aNil)))))
  (sSeq (sSet 3 (eTup (aCons (eTup (aCons (eTup (aCons (eC (.str ("gift" : Str))) aNil)) (aCons (eC (.int 0)) (aCons (eC (.int 9)) (aCons (eC (.int 10)) aNil))))) (aCons (eTup (aCons (eTup (aCons (eC (.str ("meal" : Str))) (aCons (eC (.str ("trip" : Str))) aNil))) (aCons (eC (.int 0)) (aCons (eC (.int 9)) (aCons (eC (.int 15)) aNil))))) (aCons (eTup (aCons (eTup (aCons (eC (.str ("meal" : Str))) aNil)) (aCons (eC (.int 0)) (aCons (eC (.int 0)) (aCons (eC (.int 5)) aNil))))) aNil)))))
  (sSeq (sSet 4 (eTup (aCons (eVar 2) (aCons (eVar 3) (aCons (eTup (aCons (eTup (aCons (eC (.str ("buy" : Str))) (aCons (eC (.int 0)) (aCons (eC (.str ("food" : Str))) (aCons (eC (.int 8)) aNil))))) (aCons (eTup (aCons (eC (.str ("buy" : Str))) (aCons (eC (.int 1)) (aCons (eC (.str ("train" : Str))) (aCons (eC (.int 9)) aNil))))) aNil))) aNil)))))
  (sSeq (sSet 5 (eOp opAdd (eVar 3) (eTup (aCons (eTup (aCons (eTup (aCons (eC (.str ("meal" : Str))) aNil)) (aCons (eC (.int 0)) (aCons (eC (.int 3)) (aCons (eC (.int 9)) aNil))))) (aCons (eTup (aCons (eTup (aCons (eC (.str ("meal" : Str))) aNil)) (aCons (eC (.int 2)) (aCons (eC (.int 3)) (aCons (eC (.int 2)) aNil))))) (aCons (eTup (aCons (eTup (aCons (eC (.str ("gift" : Str))) aNil)) (aCons (eC (.int 9)) (aCons (eC (.int 9)) (aCons (eC (.int 0)) aNil))))) aNil))))))
  (sSeq (sSet 6 (eTup (aCons (eTup (aCons (eC (.str ("paid" : Str))) (aCons (eC (.int 0)) (aCons (eC (.str ("food" : Str))) (aCons (eTup (aCons (eC (.int 3)) (aCons (eC (.int 5)) (aCons (eC (.int 0)) aNil)))) aNil))))) (aCons (eTup (aCons (eC (.str ("buy" : Str))) (aCons (eC (.int 3)) (aCons (eC (.str ("toy" : Str))) (aCons (eC (.int 0)) aNil))))) (aCons (eTup (aCons (eC (.str ("paid" : Str))) (aCons (eC (.int 2)) (aCons (eC (.str ("food" : Str))) (aCons (eTup (aCons (eC (.int 0)) (aCons (eC (.int 2)) (aCons (eC (.int 0)) aNil)))) aNil))))) aNil)))))
  (sSeq (sSet 6 (eOp opAdd (eVar 6) (eTup (aCons (eTup (aCons (eC (.str ("paid" : Str))) (aCons (eC (.int 4)) (aCons (eC (.str ("train" : Str))) (aCons (eTup (aCons (eC (.int 0)) (aCons (eC (.int 0)) (aCons (eC (.int 7)) aNil)))) aNil))))) aNil))))
  (sSeq (sSet 7 (eTup (aCons (eTup (aCons (eC (.str ("limit" : Str))) (aCons (eC (.str ("paid" : Str))) (aCons (eTup (aCons (eC (.str ("buy" : Str))) (aCons (eC (.str ("purse" : Str))) aNil))) (aCons (eC (.int 2)) (aCons (eC (.int 2)) aNil)))))) (aCons (eTup (aCons (eC (.str ("purse" : Str))) (aCons (eC (.str ("purse" : Str))) (aCons (eTup (aCons (eC (.str ("paid" : Str))) aNil)) (aCons (eC (.int 0)) (aCons (eC (.int 0)) aNil)))))) aNil))))
  (sSeq (sSet 7 (eTup (aCons (eVar 7) (aCons (eTup aNil) (aCons (eTup (aCons (eTup (aCons (eC (.str ("paid" : Str))) (aCons (eC (.int 2)) (aCons (eC (.str ("buy" : Str))) (aCons (eTup (aCons (eC (.int 1)) (aCons (eC (.int 0)) aNil))) aNil))))) aNil)) aNil)))))
  (sSeq (sSet 8 (eCall (op1 opTuple) (aCons (eLc (eIter (eTup (aCons (eC (.str ("aa" : Str))) (aCons (eC (.str ("ab" : Str))) (aCons (eC (.str ("ac" : Str))) (aCons (eC (.str ("b" : Str))) (aCons (eC (.str ("c" : Str))) (aCons (eC (.str ("d" : Str))) aNil)))))))) (.nm 11) [11] mYes (eTup (aCons (eVar 11) (aCons (eOp opAdd (eC (.str ("s" : Str))) (eSl (eVar 11) pNone (pSome (eC (.int 1))))) (aCons (eTup (aCons (eC (.str ("a" : Str))) (aCons (eC (.str ("b" : Str))) (aCons (eC (.str ("c" : Str))) (aCons (eC (.str ("d" : Str))) (aCons (eC (.str ("e" : Str))) aNil)))))) (aCons (eC (.int 0)) (aCons (eC (.int 9)) aNil))))))) aNil)))
  (sSeq (sSet 9 (eTup (aCons (eTup (aCons (eTup (aCons (eC (.str ("aa" : Str))) (aCons (eC (.str ("ab" : Str))) (aCons (eC (.str ("ac" : Str))) aNil)))) (aCons (eC (.int 0)) (aCons (eC (.int 9)) (aCons (eC (.int 100)) aNil))))) (aCons (eTup (aCons (eTup (aCons (eC (.str ("aa" : Str))) (aCons (eC (.str ("ab" : Str))) aNil))) (aCons (eC (.int 0)) (aCons (eC (.int 9)) (aCons (eC (.int 90)) aNil))))) (aCons (eTup (aCons (eTup (aCons (eC (.str ("aa" : Str))) aNil)) (aCons (eC (.int 0)) (aCons (eC (.int 4)) (aCons (eC (.int 30)) aNil))))) aNil)))))
  (sSeq (sSet 9 (eOp opAdd (eVar 9) (eTup (aCons (eTup (aCons (eTup (aCons (eC (.str ("aa" : Str))) aNil)) (aCons (eC (.int 0)) (aCons (eC (.int 9)) (aCons (eC (.int 60)) aNil))))) (aCons (eTup (aCons (eTup (aCons (eC (.str ("aa" : Str))) aNil)) (aCons (eC (.int 5)) (aCons (eC (.int 9)) (aCons (eC (.int 40)) aNil))))) aNil)))))
  (sSeq (sSet 9 (eOp opAdd (eVar 9) (eTup (aCons (eTup (aCons (eTup (aCons (eC (.str ("b" : Str))) aNil)) (aCons (eC (.int 0)) (aCons (eC (.int 9)) (aCons (eC (.int 100)) aNil))))) (aCons (eTup (aCons (eTup (aCons (eC (.str ("c" : Str))) aNil)) (aCons (eC (.int 3)) (aCons (eC (.int 3)) (aCons (eC (.int 0)) aNil))))) (aCons (eTup (aCons (eTup (aCons (eC (.str ("ab" : Str))) aNil)) (aCons (eC (.int 0)) (aCons (eC (.int 0)) (aCons (eC (.int 30)) aNil))))) aNil))))))
  (sSeq (sSet 10 (eTup (aCons (eTup (aCons (eC (.str ("buy" : Str))) (aCons (eC (.int 9)) (aCons (eC (.str ("a" : Str))) (aCons (eC (.int 30)) aNil))))) (aCons (eTup (aCons (eC (.str ("paid" : Str))) (aCons (eC (.int 0)) (aCons (eC (.str ("a" : Str))) (aCons (eTup (aCons (eC (.int 5)) (aCons (eC (.int 15)) (aCons (eC (.int 0)) (aCons (eC (.int 0)) (aCons (eC (.int 0)) (aCons (eC (.int 0)) aNil))))))) aNil))))) (aCons (eTup (aCons (eC (.str ("buy" : Str))) (aCons (eC (.int 0)) (aCons (eC (.str ("e" : Str))) (aCons (eC (.int 30)) aNil))))) aNil)))))
  (sSeq (sSet 10 (eOp opAdd (eOp opMul (eOp opAdd (eVar 10) (eTup (aCons (eTup (aCons (eC (.str ("paid" : Str))) (aCons (eC (.int 9)) (aCons (eC (.str ("c" : Str))) (aCons (eTup (aCons (eC (.int 20)) (aCons (eC (.int 0)) (aCons (eC (.int 0)) (aCons (eC (.int 0)) (aCons (eC (.int 0)) (aCons (eC (.int 0)) aNil))))))) aNil))))) aNil))) (eC (.int 2))) (eTup (aCons (eTup (aCons (eC (.str ("buy" : Str))) (aCons (eC (.int 3)) (aCons (eC (.str ("b" : Str))) (aCons (eC (.int 1)) aNil))))) (aCons (eTup (aCons (eC (.str ("paid" : Str))) (aCons (eC (.int 5)) (aCons (eC (.str ("d" : Str))) (aCons (eOp opMul (eTup (aCons (eC (.int 0)) aNil)) (eC (.int 6))) aNil))))) aNil)))))
  (sRet (eLst (aCons (eVar 4) (aCons (eTup (aCons (eVar 2) (aCons (eVar 5) (aCons (eVar 6) aNil)))) (aCons (eVar 7) (aCons (eTup (aCons (eTup (aCons (eVar 1) aNil)) (aCons (eTup aNil) (aCons (eTup aNil) aNil)))) (aCons (eTup (aCons (eVar 8) (aCons (eVar 9) (aCons (eVar 10) aNil)))) aNil))))))))))))))))))))))
abbrev mf__law_fixed_books : FM := mFn 0 false 12 b__law_fixed_books
theorem ok__law_fixed_books (T : Tx K mg) : Ok P w K mg base "_law_fixed_books" 1 [] (spM K false 0 mf__law_fixed_books) := by
  obtain ⟨f, fd, F, g, b⟩ := T.f__law_fixed_books
  refine ⟨f, fd, fnm_of F sc__law_fixed_books rfl fun cdv A outer s H hr hgd => ?_, g, F.kp, b⟩
  have nd := sc__law_fixed_books.nd
  exact (pmss_cons (pms_tupA (is := [0, 1]) (pmv_val (pm_tup (pma_cons pm_str (pma_cons pm_str (pma_cons (pm_tup (pma_cons pm_str (pma_cons pm_str pma_nil))) (pma_cons pm_int (pma_cons pm_int pma_nil)))))) (pmv_val (pm_tup (pma_cons pm_str (pma_cons pm_str (pma_cons (pm_tup (pma_cons pm_str pma_nil)) (pma_cons pm_int (pma_cons pm_int pma_nil)))))) pmv_nil)) (by decide) (pg_tup rfl (pgs_cons (pg_name (i := 0) nd rfl (by first | exact Or.inl rfl | exact Or.inr rfl)) (pgs_cons (pg_name (i := 1) nd rfl (by first | exact Or.inl rfl | exact Or.inr rfl)) pgs_nil))))
    (pmss_cons (pms_set (i := 2) nd rfl (by first | exact Or.inl rfl | exact Or.inr rfl) (pm_tup (pma_cons (pmv 0) (pma_cons (pmv 1) (pma_cons (pm_tup (pma_cons pm_str (pma_cons pm_str (pma_cons (pm_tup (pma_cons pm_str pma_nil)) (pma_cons pm_int (pma_cons pm_int pma_nil)))))) pma_nil)))))
    (pmss_cons (pms_set (i := 3) nd rfl (by first | exact Or.inl rfl | exact Or.inr rfl) (pm_tup (pma_cons (pm_tup (pma_cons (pm_tup (pma_cons pm_str pma_nil)) (pma_cons pm_int (pma_cons pm_int (pma_cons pm_int pma_nil))))) (pma_cons (pm_tup (pma_cons (pm_tup (pma_cons pm_str (pma_cons pm_str pma_nil))) (pma_cons pm_int (pma_cons pm_int (pma_cons pm_int pma_nil))))) (pma_cons (pm_tup (pma_cons (pm_tup (pma_cons pm_str pma_nil)) (pma_cons pm_int (pma_cons pm_int (pma_cons pm_int pma_nil))))) pma_nil)))))
    (pmss_cons (pms_set (i := 4) nd rfl (by first | exact Or.inl rfl | exact Or.inr rfl) (pm_tup (pma_cons (pmv 2) (pma_cons (pmv 3) (pma_cons (pm_tup (pma_cons (pm_tup (pma_cons pm_str (pma_cons pm_int (pma_cons pm_str (pma_cons pm_int pma_nil))))) (pma_cons (pm_tup (pma_cons pm_str (pma_cons pm_int (pma_cons pm_str (pma_cons pm_int pma_nil))))) pma_nil))) pma_nil)))))
    (pmss_cons (pms_set (i := 5) nd rfl (by first | exact Or.inl rfl | exact Or.inr rfl) (pm_op or_add (pmv 3) (pm_tup (pma_cons (pm_tup (pma_cons (pm_tup (pma_cons pm_str pma_nil)) (pma_cons pm_int (pma_cons pm_int (pma_cons pm_int pma_nil))))) (pma_cons (pm_tup (pma_cons (pm_tup (pma_cons pm_str pma_nil)) (pma_cons pm_int (pma_cons pm_int (pma_cons pm_int pma_nil))))) (pma_cons (pm_tup (pma_cons (pm_tup (pma_cons pm_str pma_nil)) (pma_cons pm_int (pma_cons pm_int (pma_cons pm_int pma_nil))))) pma_nil))))))
    (pmss_cons (pms_set (i := 6) nd rfl (by first | exact Or.inl rfl | exact Or.inr rfl) (pm_tup (pma_cons (pm_tup (pma_cons pm_str (pma_cons pm_int (pma_cons pm_str (pma_cons (pm_tup (pma_cons pm_int (pma_cons pm_int (pma_cons pm_int pma_nil)))) pma_nil))))) (pma_cons (pm_tup (pma_cons pm_str (pma_cons pm_int (pma_cons pm_str (pma_cons pm_int pma_nil))))) (pma_cons (pm_tup (pma_cons pm_str (pma_cons pm_int (pma_cons pm_str (pma_cons (pm_tup (pma_cons pm_int (pma_cons pm_int (pma_cons pm_int pma_nil)))) pma_nil))))) pma_nil)))))
    (pmss_cons (pms_set (i := 6) nd rfl (by first | exact Or.inl rfl | exact Or.inr rfl) (pm_op or_add (pmv 6) (pm_tup (pma_cons (pm_tup (pma_cons pm_str (pma_cons pm_int (pma_cons pm_str (pma_cons (pm_tup (pma_cons pm_int (pma_cons pm_int (pma_cons pm_int pma_nil)))) pma_nil))))) pma_nil))))
    (pmss_cons (pms_set (i := 7) nd rfl (by first | exact Or.inl rfl | exact Or.inr rfl) (pm_tup (pma_cons (pm_tup (pma_cons pm_str (pma_cons pm_str (pma_cons (pm_tup (pma_cons pm_str (pma_cons pm_str pma_nil))) (pma_cons pm_int (pma_cons pm_int pma_nil)))))) (pma_cons (pm_tup (pma_cons pm_str (pma_cons pm_str (pma_cons (pm_tup (pma_cons pm_str pma_nil)) (pma_cons pm_int (pma_cons pm_int pma_nil)))))) pma_nil))))
    (pmss_cons (pms_set (i := 7) nd rfl (by first | exact Or.inl rfl | exact Or.inr rfl) (pm_tup (pma_cons (pmv 7) (pma_cons (pm_tup pma_nil) (pma_cons (pm_tup (pma_cons (pm_tup (pma_cons pm_str (pma_cons pm_int (pma_cons pm_str (pma_cons (pm_tup (pma_cons pm_int (pma_cons pm_int pma_nil))) pma_nil))))) pma_nil)) pma_nil)))))
    (pmss_cons (pms_set (i := 8) nd rfl (by first | exact Or.inl rfl | exact Or.inr rfl) (pm_callTy cr_tuple (by rfl) T.z_tuple (by decide +kernel) (pma_cons (pm_lc rfl nd (pmi_seq (pm_tup (pma_cons pm_str (pma_cons pm_str (pma_cons pm_str (pma_cons pm_str (pma_cons pm_str (pma_cons pm_str pma_nil)))))))) (blkOk_by (own := [("_law_name", 11)]) (N := n__law_fixed_books) (sc := defScope (topS 20)) (by decide +kernel)) rfl (by decide) (fun _ _ _ _ _ => (pg_name (i := 11) nd rfl (by first | exact Or.inl rfl | exact Or.inr rfl))) (fun _ _ _ _ _ => pmts_nil) (fun _ _ _ _ _ => (pm_tup (pma_cons (pmv 11) (pma_cons (pm_op or_add pm_str (pm_slice (pmv 11) pmo_none (pmo_some pm_int))) (pma_cons (pm_tup (pma_cons pm_str (pma_cons pm_str (pma_cons pm_str (pma_cons pm_str (pma_cons pm_str pma_nil)))))) (pma_cons pm_int (pma_cons pm_int pma_nil)))))))) pma_nil)))
    (pmss_cons (pms_set (i := 9) nd rfl (by first | exact Or.inl rfl | exact Or.inr rfl) (pm_tup (pma_cons (pm_tup (pma_cons (pm_tup (pma_cons pm_str (pma_cons pm_str (pma_cons pm_str pma_nil)))) (pma_cons pm_int (pma_cons pm_int (pma_cons pm_int pma_nil))))) (pma_cons (pm_tup (pma_cons (pm_tup (pma_cons pm_str (pma_cons pm_str pma_nil))) (pma_cons pm_int (pma_cons pm_int (pma_cons pm_int pma_nil))))) (pma_cons (pm_tup (pma_cons (pm_tup (pma_cons pm_str pma_nil)) (pma_cons pm_int (pma_cons pm_int (pma_cons pm_int pma_nil))))) pma_nil)))))
    (pmss_cons (pms_set (i := 9) nd rfl (by first | exact Or.inl rfl | exact Or.inr rfl) (pm_op or_add (pmv 9) (pm_tup (pma_cons (pm_tup (pma_cons (pm_tup (pma_cons pm_str pma_nil)) (pma_cons pm_int (pma_cons pm_int (pma_cons pm_int pma_nil))))) (pma_cons (pm_tup (pma_cons (pm_tup (pma_cons pm_str pma_nil)) (pma_cons pm_int (pma_cons pm_int (pma_cons pm_int pma_nil))))) pma_nil)))))
    (pmss_cons (pms_set (i := 9) nd rfl (by first | exact Or.inl rfl | exact Or.inr rfl) (pm_op or_add (pmv 9) (pm_tup (pma_cons (pm_tup (pma_cons (pm_tup (pma_cons pm_str pma_nil)) (pma_cons pm_int (pma_cons pm_int (pma_cons pm_int pma_nil))))) (pma_cons (pm_tup (pma_cons (pm_tup (pma_cons pm_str pma_nil)) (pma_cons pm_int (pma_cons pm_int (pma_cons pm_int pma_nil))))) (pma_cons (pm_tup (pma_cons (pm_tup (pma_cons pm_str pma_nil)) (pma_cons pm_int (pma_cons pm_int (pma_cons pm_int pma_nil))))) pma_nil))))))
    (pmss_cons (pms_set (i := 10) nd rfl (by first | exact Or.inl rfl | exact Or.inr rfl) (pm_tup (pma_cons (pm_tup (pma_cons pm_str (pma_cons pm_int (pma_cons pm_str (pma_cons pm_int pma_nil))))) (pma_cons (pm_tup (pma_cons pm_str (pma_cons pm_int (pma_cons pm_str (pma_cons (pm_tup (pma_cons pm_int (pma_cons pm_int (pma_cons pm_int (pma_cons pm_int (pma_cons pm_int (pma_cons pm_int pma_nil))))))) pma_nil))))) (pma_cons (pm_tup (pma_cons pm_str (pma_cons pm_int (pma_cons pm_str (pma_cons pm_int pma_nil))))) pma_nil)))))
    (pmss_cons (pms_set (i := 10) nd rfl (by first | exact Or.inl rfl | exact Or.inr rfl) (pm_op or_add (pm_op or_mul (pm_op or_add (pmv 10) (pm_tup (pma_cons (pm_tup (pma_cons pm_str (pma_cons pm_int (pma_cons pm_str (pma_cons (pm_tup (pma_cons pm_int (pma_cons pm_int (pma_cons pm_int (pma_cons pm_int (pma_cons pm_int (pma_cons pm_int pma_nil))))))) pma_nil))))) pma_nil))) pm_int) (pm_tup (pma_cons (pm_tup (pma_cons pm_str (pma_cons pm_int (pma_cons pm_str (pma_cons pm_int pma_nil))))) (pma_cons (pm_tup (pma_cons pm_str (pma_cons pm_int (pma_cons pm_str (pma_cons (pm_op or_mul (pm_tup (pma_cons pm_int pma_nil)) pm_int) pma_nil))))) pma_nil)))))
    (pmss_one (pms_ret (pm_lst (pma_cons (pmv 4) (pma_cons (pm_tup (pma_cons (pmv 2) (pma_cons (pmv 5) (pma_cons (pmv 6) pma_nil)))) (pma_cons (pmv 7) (pma_cons (pm_tup (pma_cons (pm_tup (pma_cons (pmv 1) pma_nil)) (pma_cons (pm_tup pma_nil) (pma_cons (pm_tup pma_nil) pma_nil)))) (pma_cons (pm_tup (pma_cons (pmv 8) (pma_cons (pmv 9) (pma_cons (pmv 10) pma_nil)))) pma_nil)))))))))))))))))))))))
abbrev n_number_text : List Str := ["number", "text", "low"]
theorem sc_number_text : FnScope n_number_text ["number"] (defScope (topS 2)) := ⟨rfl, rfl, rfl, by decide +kernel, rfl, by decide +kernel, by decide +kernel⟩
def b_number_text : MM Fl := (sSeq (sSet 1 (eC (.str ("" : Str))))
  (sSeq (sWhile0 (eT (eOp opGe (eVar 0) (eC (.int 1000000000000000000000000000000000000000000000000000000000000)))))
  (sRet (eOp opFcat (eUn fmtD (eVar 0)) (eUn fmtD (eVar 1))))))
abbrev mf_number_text : FM := mFn 1 false 2 b_number_text
theorem ok_number_text (T : Tx K mg) : Ok P w K mg base "number_text" 1 ["number"] (spM K false 1 mf_number_text) := by
  obtain ⟨f, fd, F, g, b⟩ := T.f_number_text
  refine ⟨f, fd, fnm_of F sc_number_text rfl fun cdv A outer s H hr hgd => ?_, g, F.kp, b⟩
  have nd := sc_number_text.nd
  exact (pmss_cons (pms_set (i := 1) nd rfl (by first | exact Or.inl rfl | exact Or.inr rfl) pm_str)
    (pmss_cons (pms_while0 PassesOwn.never (pmt_cmp or_ge (pmv 0) (pm_cst (by rfl) T.c_PIECE fun _ => rp_int) (nomark _)))
    (pmss_one (pms_ret (pm_js2 (pm_fmt (pmv 0)) (pm_fmt (pmv 1)))))))
abbrev n_purse_text : List Str := ["purse", "name", "sponsor", "kinds", "first", "last"]
theorem sc_purse_text : FnScope n_purse_text ["purse"] (defScope (topS 4)) := ⟨rfl, rfl, rfl, by decide +kernel, rfl, by decide +kernel, by decide +kernel⟩
def b_purse_text : MM Fl := (sSeq (sUnp (.tp [1, 2, 3, 4, 5]) (eVar 0))
  (sRet (eOp opJoin (eC (.str (" " : Str))) (eLst (aCons (eC (.str ("purse" : Str))) (aCons (eVar 1) (aCons (eVar 2) (aCons (eFn mf_number_text 1 (aCons (eVar 4) aNil)) (aCons (eFn mf_number_text 1 (aCons (eVar 5) aNil)) (aCons (eOp opJoin (eC (.str ("," : Str))) (eVar 3)) aNil))))))))))
abbrev mf_purse_text : FM := mFn 1 false 5 b_purse_text
theorem ok_purse_text (T : Tx K mg) (g_number_text : Ok P w K mg base "number_text" 1 ["number"] (spM K false 1 mf_number_text)) : Ok P w K mg base "purse_text" 2 ["purse"] (spM K false 1 mf_purse_text) := by
  obtain ⟨f, fd, F, g, b⟩ := T.f_purse_text
  refine ⟨f, fd, fnm_of F sc_purse_text rfl fun cdv A outer s H hr hgd => ?_, g, F.kp, b⟩
  have nd := sc_purse_text.nd
  exact (pmss_cons (pms_unp (p := (.tp [1, 2, 3, 4, 5])) (pmv 0) (pg_tup rfl (pgs_cons (pg_name (i := 1) nd rfl (by first | exact Or.inl rfl | exact Or.inr rfl)) (pgs_cons (pg_name (i := 2) nd rfl (by first | exact Or.inl rfl | exact Or.inr rfl)) (pgs_cons (pg_name (i := 3) nd rfl (by first | exact Or.inl rfl | exact Or.inr rfl)) (pgs_cons (pg_name (i := 4) nd rfl (by first | exact Or.inl rfl | exact Or.inr rfl)) (pgs_cons (pg_name (i := 5) nd rfl (by first | exact Or.inl rfl | exact Or.inr rfl)) pgs_nil)))))))
    (pmss_one (pms_ret (pm_join pm_str (pm_lst (pma_cons pm_str (pma_cons (pmv 1) (pma_cons (pmv 2) (pma_cons (pm_o g_number_text hr hgd (by decide) (by rfl) (pma_cons (pmv 4) pma_nil)) (pma_cons (pm_o g_number_text hr hgd (by decide) (by rfl) (pma_cons (pmv 5) pma_nil)) (pma_cons (pm_join pm_str (pmv 3)) pma_nil)))))))))))
abbrev n_shares_text : List Str := ["shares", "share"]
theorem sc_shares_text : FnScope n_shares_text ["shares"] (defScope (topS 3)) := ⟨rfl, rfl, rfl, by decide +kernel, rfl, by decide +kernel, by decide +kernel⟩
def b_shares_text : MM Fl := (sSeq (sIf (eT (eOp opEq (eCall (op1 opLen) (aCons (eVar 0) aNil)) (eC (.int 0)))) (sRet (eC (.str ("-" : Str)))) sNx)
  (sRet (eOp opJoin (eC (.str ("," : Str))) (eLc (eIter (eVar 0)) (.nm 1) [1] mYes (eFn mf_number_text 1 (aCons (eVar 1) aNil))))))
abbrev mf_shares_text : FM := mFn 1 false 1 b_shares_text
theorem ok_shares_text (T : Tx K mg) (g_number_text : Ok P w K mg base "number_text" 1 ["number"] (spM K false 1 mf_number_text)) : Ok P w K mg base "shares_text" 2 ["shares"] (spM K false 1 mf_shares_text) := by
  obtain ⟨f, fd, F, g, b⟩ := T.f_shares_text
  refine ⟨f, fd, fnm_of F sc_shares_text rfl fun cdv A outer s H hr hgd => ?_, g, F.kp, b⟩
  have nd := sc_shares_text.nd
  exact (pmss_cons (pms_if (pmt_cmp (or_eq hr.units) (pm_callB cr_len (by rfl) T.z_len (by decide +kernel) (pma_cons (pmv 0) pma_nil)) pm_int (nomark _)) (pmss_one (pms_ret pm_str)) pmss_nil)
    (pmss_one (pms_ret (pm_join pm_str (pm_lc rfl nd (pmi_seq (pmv 0)) (blkOk_by (own := [("share", 1)]) (N := n_shares_text) (sc := defScope (topS 3)) (by decide +kernel)) rfl (by decide) (fun _ _ _ _ _ => (pg_name (i := 1) nd rfl (by first | exact Or.inl rfl | exact Or.inr rfl))) (fun _ _ _ _ _ => pmts_nil) (fun _ _ _ _ _ => (pm_o g_number_text hr hgd (by decide) (by rfl) (pma_cons (pmv 1) pma_nil))))))))
abbrev n_row_text : List Str := ["row", "word", "day", "kind", "worth"]
theorem sc_row_text : FnScope n_row_text ["row"] (defScope (topS 6)) := ⟨rfl, rfl, rfl, by decide +kernel, rfl, by decide +kernel, by decide +kernel⟩
def b_row_text : MM Fl := (sSeq (sUnp (.tp [1, 2, 3, 4]) (eVar 0))
  (sSeq (sIf (eT (eOp opEq (eVar 1) (eC (.str ("buy" : Str))))) (sRet (eOp opJoin (eC (.str (" " : Str))) (eLst (aCons (eVar 1) (aCons (eFn mf_number_text 1 (aCons (eVar 2) aNil)) (aCons (eVar 3) (aCons (eFn mf_number_text 1 (aCons (eVar 4) aNil)) aNil))))))) sNx)
  (sRet (eOp opJoin (eC (.str (" " : Str))) (eLst (aCons (eVar 1) (aCons (eFn mf_number_text 1 (aCons (eVar 2) aNil)) (aCons (eVar 3) (aCons (eFn mf_shares_text 1 (aCons (eVar 4) aNil)) aNil)))))))))
abbrev mf_row_text : FM := mFn 1 false 4 b_row_text
theorem ok_row_text (T : Tx K mg) (g_number_text : Ok P w K mg base "number_text" 1 ["number"] (spM K false 1 mf_number_text)) (g_shares_text : Ok P w K mg base "shares_text" 2 ["shares"] (spM K false 1 mf_shares_text)) : Ok P w K mg base "row_text" 3 ["row"] (spM K false 1 mf_row_text) := by
  obtain ⟨f, fd, F, g, b⟩ := T.f_row_text
  refine ⟨f, fd, fnm_of F sc_row_text rfl fun cdv A outer s H hr hgd => ?_, g, F.kp, b⟩
  have nd := sc_row_text.nd
  exact (pmss_cons (pms_unp (p := (.tp [1, 2, 3, 4])) (pmv 0) (pg_tup rfl (pgs_cons (pg_name (i := 1) nd rfl (by first | exact Or.inl rfl | exact Or.inr rfl)) (pgs_cons (pg_name (i := 2) nd rfl (by first | exact Or.inl rfl | exact Or.inr rfl)) (pgs_cons (pg_name (i := 3) nd rfl (by first | exact Or.inl rfl | exact Or.inr rfl)) (pgs_cons (pg_name (i := 4) nd rfl (by first | exact Or.inl rfl | exact Or.inr rfl)) pgs_nil))))))
    (pmss_cons (pms_if (pmt_cmp (or_eq hr.units) (pmv 1) pm_str (nomark _)) (pmss_one (pms_ret (pm_join pm_str (pm_lst (pma_cons (pmv 1) (pma_cons (pm_o g_number_text hr hgd (by decide) (by rfl) (pma_cons (pmv 2) pma_nil)) (pma_cons (pmv 3) (pma_cons (pm_o g_number_text hr hgd (by decide) (by rfl) (pma_cons (pmv 4) pma_nil)) pma_nil)))))))) pmss_nil)
    (pmss_one (pms_ret (pm_join pm_str (pm_lst (pma_cons (pmv 1) (pma_cons (pm_o g_number_text hr hgd (by decide) (by rfl) (pma_cons (pmv 2) pma_nil)) (pma_cons (pmv 3) (pma_cons (pm_o g_shares_text hr hgd (by decide) (by rfl) (pma_cons (pmv 4) pma_nil)) pma_nil))))))))))
abbrev n__law_wide : List Str := ["_law_signs", "_law_purses_in", "_law_caps", "_law_k", "_law_sign"]
theorem sc__law_wide : FnScope n__law_wide [] (defScope (topS 27)) := ⟨rfl, rfl, rfl, by decide +kernel, rfl, by decide +kernel, by decide +kernel⟩
def b__law_wide : MM Fl := (sSeq (sSet 0 (eCall (op1 opTupS) (aCons (eC (.str ("abcdefghijkl" : Str))) aNil)))
  (sSeq (sSet 1 (eCall (op1 opTuple) (aCons (eLc (eRange enumI (aCons (eVar 0) aNil)) (.tp [3, 4]) [3, 4] mYes (eTup (aCons (eVar 4) (aCons (eC (.str ("s" : Str))) (aCons (eSl (eVar 0) pNone (pSome (eOp opAdd (eVar 3) (eC (.int 1))))) (aCons (eVar 3) (aCons (eC (.int 12)) aNil))))))) aNil)))
  (sSeq (sSet 2 (eCall (op1 opTuple) (aCons (eLc (eRange range1 (aCons (eC (.int 12)) aNil)) (.nm 3) [3] mYes (eTup (aCons (eSl (eVar 0) (pSome (eVar 3)) pNone) (aCons (eVar 3) (aCons (eOp opAdd (eVar 3) (eC (.int 1))) (aCons (eOp opMul (eC (.int 10)) (eVar 3)) aNil)))))) aNil)))
  (sRet (eTup (aCons (eVar 1) (aCons (eVar 2) (aCons (eCall (op1 opTuple) (aCons (eLc (eRange range1 (aCons (eC (.int 12)) aNil)) (.nm 3) [3] mYes (eTup (aCons (eC (.str ("paid" : Str))) (aCons (eVar 3) (aCons (eOp opIx (eVar 0) (eVar 3)) (aCons (eOp opTupRg (eVar 3) (eOp opAdd (eVar 3) (eC (.int 12)))) aNil)))))) aNil)) aNil))))))))
abbrev mf__law_wide : FM := mFn 0 false 5 b__law_wide
theorem ok__law_wide (T : Tx K mg) : Ok P w K mg base "_law_wide" 1 [] (spM K false 0 mf__law_wide) := by
  obtain ⟨f, fd, F, g, b⟩ := T.f__law_wide
  refine ⟨f, fd, fnm_of F sc__law_wide rfl fun cdv A outer s H hr hgd => ?_, g, F.kp, b⟩
  have nd := sc__law_wide.nd
  exact (pmss_cons (pms_set (i := 0) nd rfl (by first | exact Or.inl rfl | exact Or.inr rfl) (pm_callTy (cr_tupS rfl) (by rfl) T.z_tuple (by decide +kernel) (pma_cons pm_str pma_nil)))
    (pmss_cons (pms_set (i := 1) nd rfl (by first | exact Or.inl rfl | exact Or.inr rfl) (pm_callTy cr_tuple (by rfl) T.z_tuple (by decide +kernel) (pma_cons (pm_lc rfl nd (pmi_enum (by rfl) T.z_enumerate (pma_cons (pmv 0) pma_nil)) (blkOk_by (own := [("_law_k", 3), ("_law_sign", 4)]) (N := n__law_wide) (sc := defScope (topS 27)) (by decide +kernel)) rfl (by decide) (fun _ _ _ _ _ => (pg_tup rfl (pgs_cons (pg_name (i := 3) nd rfl (by first | exact Or.inl rfl | exact Or.inr rfl)) (pgs_cons (pg_name (i := 4) nd rfl (by first | exact Or.inl rfl | exact Or.inr rfl)) pgs_nil)))) (fun _ _ _ _ _ => pmts_nil) (fun _ _ _ _ _ => (pm_tup (pma_cons (pmv 4) (pma_cons pm_str (pma_cons (pm_slice (pmv 0) pmo_none (pmo_some (pm_op or_add (pmv 3) pm_int))) (pma_cons (pmv 3) (pma_cons pm_int pma_nil)))))))) pma_nil)))
    (pmss_cons (pms_set (i := 2) nd rfl (by first | exact Or.inl rfl | exact Or.inr rfl) (pm_callTy cr_tuple (by rfl) T.z_tuple (by decide +kernel) (pma_cons (pm_lc rfl nd (pmi_range1 (by rfl) T.z_range (pma_cons pm_int pma_nil)) (blkOk_by (own := [("_law_k", 3)]) (N := n__law_wide) (sc := defScope (topS 27)) (by decide +kernel)) rfl (by decide) (fun _ _ _ _ _ => (pg_name (i := 3) nd rfl (by first | exact Or.inl rfl | exact Or.inr rfl))) (fun _ _ _ _ _ => pmts_nil) (fun _ _ _ _ _ => (pm_tup (pma_cons (pm_slice (pmv 0) (pmo_some (pmv 3)) pmo_none) (pma_cons (pmv 3) (pma_cons (pm_op or_add (pmv 3) pm_int) (pma_cons (pm_op or_mul pm_int (pmv 3)) pma_nil))))))) pma_nil)))
    (pmss_one (pms_ret (pm_tup (pma_cons (pmv 1) (pma_cons (pmv 2) (pma_cons (pm_callTy cr_tuple (by rfl) T.z_tuple (by decide +kernel) (pma_cons (pm_lc rfl nd (pmi_range1 (by rfl) T.z_range (pma_cons pm_int pma_nil)) (blkOk_by (own := [("_law_k", 3)]) (N := n__law_wide) (sc := defScope (topS 27)) (by decide +kernel)) rfl (by decide) (fun _ _ _ _ _ => (pg_name (i := 3) nd rfl (by first | exact Or.inl rfl | exact Or.inr rfl))) (fun _ _ _ _ _ => pmts_nil) (fun _ _ _ _ _ => (pm_tup (pma_cons pm_str (pma_cons (pmv 3) (pma_cons (pm_ix (pmv 0) (pmv 3)) (pma_cons (pm_tupRg rfl (by rfl) T.z_tuple (by rfl) T.z_range (pmv 3) (pm_op or_add (pmv 3) pm_int)) pma_nil))))))) pma_nil)) pma_nil)))))))))
abbrev n__law_draw : List Str := ["_law_reader_here", "_law_many", "_law_found", "_law_cell", "_law_once"]
theorem sc__law_draw : FnScope n__law_draw ["_law_reader_here", "_law_many"] (defScope (topS 11)) := ⟨rfl, rfl, rfl, by decide +kernel, rfl, by decide +kernel, by decide +kernel⟩
def b__law_draw : MM Fl := (sSeq (sRd 0 3 (eOp opAdd (eRd 0 3) (eC (.int 1))))
  (sSeq (sIf (eT (eOp opGt (eRd 0 2) (eC (.int 0)))) (sSeq (sSet 2 (eOp opMod (eCall (op1 opInt) (aCons (eRd 0 2) aNil)) (eVar 1)))
  (sSeq (sRd 0 2 (eOp opDiv (eRd 0 2) (eVar 1)))
  (sRet (eVar 2)))) sNx)
  (sSeq (sSet 3 (eC (.int 59)))
  (sSeq (sIf (eT (eOp opNe (eRd 0 0) (eLst aNil))) (sSet 3 (eOp opIx (eRd 0 0) (eOp opMod (eCall (op1 opInt) (aCons (eRd 0 1) aNil)) (eCall (op1 opLen) (aCons (eRd 0 0) aNil))))) sNx)
  (sSeq (sRd 0 1 (eOp opAdd (eRd 0 1) (eC (.int 1))))
  (sSeq (sIf (mAnd (eT (eOp opGe (eVar 3) (eOp opPow (eC (.int 10)) (eC (.int 18))))) (eT (eOp opLe (eRd 0 1) (eCall (op1 opLen) (aCons (eRd 0 0) aNil))))) (sSeq (sRd 0 2 (eOp opDiv (eVar 3) (eVar 1)))
  (sRet (eOp opMod (eCall (op1 opInt) (aCons (eVar 3) aNil)) (eVar 1)))) sNx)
  (sSeq (sSet 4 (eOp opMod (eCall (op1 opInt) (aCons (eOp opPow (eOp opAdd (eOp opAdd (eOp opMod (eCall (op1 opInt) (aCons (eVar 3) aNil)) (eC (.int 2147483423))) (eOp opMul (eC (.int 7823)) (eRd 0 3))) (eC (.int 17))) (eC (.int 5))) aNil)) (eC (.int 2147483629))))
  (sRet (eOp opMod (eCall (op1 opInt) (aCons (eOp opDiv (eOp opMod (eCall (op1 opInt) (aCons (eOp opPow (eOp opAdd (eVar 4) (eOp opMul (eC (.int 97007)) (eRd 0 3))) (eC (.int 5))) aNil)) (eC (.int 2147483647))) (eC (.int 64))) aNil)) (eVar 1))))))))))
abbrev mf__law_draw : FM := mFn 1 true 3 b__law_draw
theorem ok__law_draw (T : Tx K mg) : Ok P w K mg base "_law_draw" 1 ["_law_reader_here", "_law_many"] (spM K true 1 mf__law_draw) := by
  obtain ⟨f, fd, F, g, b⟩ := T.f__law_draw
  refine ⟨f, fd, fnm_of F sc__law_draw rfl fun cdv A outer s H hr hgd => ?_, g, F.kp, b⟩
  have nd := sc__law_draw.nd
  exact (pmss_cons (pms_rd (i := 0) (k := 3) (pm_op or_add (pm_rd (i := 0) (k := 3) (pv 0)) pm_int) (pg_sub (pv 0) pe_int set_list))
    (pmss_cons (pms_if (pmt_cmp or_gt (pm_rd (i := 0) (k := 2) (pv 0)) pm_int (nomark _)) (pmss_cons (pms_set (i := 2) nd rfl (by first | exact Or.inl rfl | exact Or.inr rfl) (pm_op or_mod (pm_callTy cr_int (by rfl) T.z_int (by decide +kernel) (pma_cons (pm_rd (i := 0) (k := 2) (pv 0)) pma_nil)) (pmv 1)))
    (pmss_cons (pms_rd (i := 0) (k := 2) (pm_op or_div (pm_rd (i := 0) (k := 2) (pv 0)) (pmv 1)) (pg_sub (pv 0) pe_int set_list))
    (pmss_one (pms_ret (pmv 2))))) pmss_nil)
    (pmss_cons (pms_set (i := 3) nd rfl (by first | exact Or.inl rfl | exact Or.inr rfl) pm_int)
    (pmss_cons (pms_if (pmt_cmp (or_ne hr.units) (pm_rd (i := 0) (k := 0) (pv 0)) (pm_lst pma_nil) (nomark _)) (pmss_one (pms_set (i := 3) nd rfl (by first | exact Or.inl rfl | exact Or.inr rfl) (pm_ix (pm_rd (i := 0) (k := 0) (pv 0)) (pm_op or_mod (pm_callTy cr_int (by rfl) T.z_int (by decide +kernel) (pma_cons (pm_rd (i := 0) (k := 1) (pv 0)) pma_nil)) (pm_callB cr_len (by rfl) T.z_len (by decide +kernel) (pma_cons (pm_rd (i := 0) (k := 0) (pv 0)) pma_nil)))))) pmss_nil)
    (pmss_cons (pms_rd (i := 0) (k := 1) (pm_op or_add (pm_rd (i := 0) (k := 1) (pv 0)) pm_int) (pg_sub (pv 0) pe_int set_list))
    (pmss_cons (pms_if (PW.pt (pmw_and (pmt_cmp or_ge (pmv 3) (pm_op or_pow pm_int pm_int) (nomark _)) (pmw_and1 (pmt_cmp or_le (pm_rd (i := 0) (k := 1) (pv 0)) (pm_callB cr_len (by rfl) T.z_len (by decide +kernel) (pma_cons (pm_rd (i := 0) (k := 0) (pv 0)) pma_nil)) (nomark _))))) (pmss_cons (pms_rd (i := 0) (k := 2) (pm_op or_div (pmv 3) (pmv 1)) (pg_sub (pv 0) pe_int set_list))
    (pmss_one (pms_ret (pm_op or_mod (pm_callTy cr_int (by rfl) T.z_int (by decide +kernel) (pma_cons (pmv 3) pma_nil)) (pmv 1))))) pmss_nil)
    (pmss_cons (pms_set (i := 4) nd rfl (by first | exact Or.inl rfl | exact Or.inr rfl) (pm_op or_mod (pm_callTy cr_int (by rfl) T.z_int (by decide +kernel) (pma_cons (pm_op or_pow (pm_op or_add (pm_op or_add (pm_op or_mod (pm_callTy cr_int (by rfl) T.z_int (by decide +kernel) (pma_cons (pmv 3) pma_nil)) pm_int) (pm_op or_mul pm_int (pm_rd (i := 0) (k := 3) (pv 0)))) pm_int) pm_int) pma_nil)) pm_int))
    (pmss_one (pms_ret (pm_op or_mod (pm_callTy cr_int (by rfl) T.z_int (by decide +kernel) (pma_cons (pm_op or_div (pm_op or_mod (pm_callTy cr_int (by rfl) T.z_int (by decide +kernel) (pma_cons (pm_op or_pow (pm_op or_add (pmv 4) (pm_op or_mul pm_int (pm_rd (i := 0) (k := 3) (pv 0)))) pm_int) pma_nil)) pm_int) pm_int) pma_nil)) (pmv 1)))))))))))
abbrev n__law_some_of : List Str := ["_law_reader_here", "_law_pool", "_law_at", "_law_k"]
theorem sc__law_some_of : FnScope n__law_some_of ["_law_reader_here", "_law_pool"] (defScope (topS 16)) := ⟨rfl, rfl, rfl, by decide +kernel, rfl, by decide +kernel, by decide +kernel⟩
def b__law_some_of : MM Fl := (sSeq (sSet 2 (eFnR mf__law_draw 1 0 (aCons (eCall (op1 opLen) (aCons (eVar 1) aNil)) aNil)))
  (sRet (eCall (op1 opTuple) (aCons (eLc (eRange range1 (aCons (eCall (op1 opLen) (aCons (eVar 1) aNil)) aNil)) (.nm 3) [3] (mOr (eT (eOp opEq (eVar 3) (eVar 2))) (eT (eOp opEq (eFnR mf__law_draw 1 0 (aCons (eC (.int 2)) aNil)) (eC (.int 0))))) (eOp opIx (eVar 1) (eVar 3))) aNil))))
abbrev mf__law_some_of : FM := mFn 1 true 2 b__law_some_of
theorem ok__law_some_of (T : Tx K mg) (g__law_draw : Ok P w K mg base "_law_draw" 1 ["_law_reader_here", "_law_many"] (spM K true 1 mf__law_draw)) : Ok P w K mg base "_law_some_of" 2 ["_law_reader_here", "_law_pool"] (spM K true 1 mf__law_some_of) := by
  obtain ⟨f, fd, F, g, b⟩ := T.f__law_some_of
  refine ⟨f, fd, fnm_of F sc__law_some_of rfl fun cdv A outer s H hr hgd => ?_, g, F.kp, b⟩
  have nd := sc__law_some_of.nd
  exact (pmss_cons (pms_set (i := 2) nd rfl (by first | exact Or.inl rfl | exact Or.inr rfl) (pm_oR g__law_draw hr hgd (by decide) (by rfl) (pv 0) (pma_cons (pm_callB cr_len (by rfl) T.z_len (by decide +kernel) (pma_cons (pmv 1) pma_nil)) pma_nil)))
    (pmss_one (pms_ret (pm_callTy cr_tuple (by rfl) T.z_tuple (by decide +kernel) (pma_cons (pm_lc rfl nd (pmi_range1 (by rfl) T.z_range (pma_cons (pm_callB cr_len (by rfl) T.z_len (by decide +kernel) (pma_cons (pmv 1) pma_nil)) pma_nil)) (blkOk_by (own := [("_law_k", 3)]) (N := n__law_some_of) (sc := defScope (topS 16)) (by decide +kernel)) rfl (by decide) (fun _ _ _ _ _ => (pg_name (i := 3) nd rfl (by first | exact Or.inl rfl | exact Or.inr rfl))) (fun _ _ _ _ _ => (pmts_one (PW.pt (pmw_or (pmt_cmp (or_eq hr.units) (pmv 3) (pmv 2) (nomark _)) (pmw_or1 (pmt_cmp (or_eq hr.units) (pm_oR g__law_draw hr hgd (by decide) (by rfl) (pv 0) (pma_cons pm_int pma_nil)) pm_int (nomark _))))))) (fun _ _ _ _ _ => (pm_ix (pmv 1) (pmv 3)))) pma_nil)))))
abbrev n__law_random_purses : List Str := ["_law_reader_here", "_law_found", "_law_pool", "_law_name", "_law_begin", "_law_sponsor_in", "_law_kinds_in"]
theorem sc__law_random_purses : FnScope n__law_random_purses ["_law_reader_here"] (defScope (topS 17)) := ⟨rfl, rfl, rfl, by decide +kernel, rfl, by decide +kernel, by decide +kernel⟩
def b__law_random_purses : MM Fl := (sSeq (sNew 1 (fLst aNil))
  (sSeq (sSet 2 (eOp opIx (eLst (aCons (eTup (aCons (eC (.str ("buy" : Str))) (aCons (eC (.str ("gift" : Str))) (aCons (eC (.str ("meal" : Str))) (aCons (eC (.str ("trip" : Str))) aNil))))) (aCons (eTup (aCons (eC (.str ("a" : Str))) (aCons (eC (.str ("limit" : Str))) aNil))) (aCons (eTup (aCons (eC (.str ("b" : Str))) (aCons (eC (.str ("paid" : Str))) (aCons (eC (.str ("zzzzzzzz" : Str))) aNil)))) aNil)))) (eFnR mf__law_draw 1 0 (aCons (eC (.int 3)) aNil))))
  (sSeq (sFor (eIter (eFnR mf__law_some_of 1 0 (aCons (eVar 2) aNil))) (.nm 3) (sSeq (sSet 4 (eFnR mf__law_draw 1 0 (aCons (eC (.int 3)) aNil)))
  (sSeq (sSet 5 (eOp opIx (eLst (aCons (eC (.str ("firm" : Str))) (aCons (eC (.str ("aunt" : Str))) (aCons (eC (.str ("me" : Str))) (aCons (eC (.str ("firm" : Str))) aNil))))) (eFnR mf__law_draw 1 0 (aCons (eC (.int 4)) aNil))))
  (sSeq (sSet 6 (eFnR mf__law_some_of 1 0 (aCons (eTup (aCons (eC (.str ("buy" : Str))) (aCons (eC (.str ("food" : Str))) (aCons (eC (.str ("toy" : Str))) aNil)))) aNil)))
  (sApp 1 (eTup (aCons (eVar 3) (aCons (eVar 5) (aCons (eVar 6) (aCons (eVar 4) (aCons (eOp opAdd (eVar 4) (eFnR mf__law_draw 1 0 (aCons (eC (.int 5)) aNil))) aNil)))))))))))
  (sFrz 1 (sRet (eCall (op1 opTuple) (aCons (eVar 1) aNil)))))))
abbrev mf__law_random_purses : FM := mFn 0 true 6 b__law_random_purses
theorem ok__law_random_purses (T : Tx K mg) (g__law_draw : Ok P w K mg base "_law_draw" 1 ["_law_reader_here", "_law_many"] (spM K true 1 mf__law_draw)) (g__law_some_of : Ok P w K mg base "_law_some_of" 2 ["_law_reader_here", "_law_pool"] (spM K true 1 mf__law_some_of)) : Ok P w K mg base "_law_random_purses" 3 ["_law_reader_here"] (spM K true 0 mf__law_random_purses) := by
  obtain ⟨f, fd, F, g, b⟩ := T.f__law_random_purses
  refine ⟨f, fd, fnm_of F sc__law_random_purses rfl fun cdv A outer s H hr hgd => ?_, g, F.kp, b⟩
  have nd := sc__law_random_purses.nd
  exact (pmss_cons (pms_new (i := 1) nd rfl (by first | exact Or.inl rfl | exact Or.inr rfl) (pmf_lst pma_nil))
    (pmss_cons (pms_set (i := 2) nd rfl (by first | exact Or.inl rfl | exact Or.inr rfl) (pm_ix (pm_lst (pma_cons (pm_tup (pma_cons pm_str (pma_cons pm_str (pma_cons pm_str (pma_cons pm_str pma_nil))))) (pma_cons (pm_tup (pma_cons pm_str (pma_cons pm_str pma_nil))) (pma_cons (pm_tup (pma_cons pm_str (pma_cons pm_str (pma_cons pm_str pma_nil)))) pma_nil)))) (pm_oR g__law_draw hr hgd (by decide) (by rfl) (pv 0) (pma_cons pm_int pma_nil))))
    (pmss_cons (pms_for (p := (.nm 3)) PassesOwn.never rfl (pmi_seq (pm_oR g__law_some_of hr hgd (by decide) (by rfl) (pv 0) (pma_cons (pmv 2) pma_nil))) (pg_name (i := 3) nd rfl (by first | exact Or.inl rfl | exact Or.inr rfl)) (pmss_cons (pms_set (i := 4) nd rfl (by first | exact Or.inl rfl | exact Or.inr rfl) (pm_oR g__law_draw hr hgd (by decide) (by rfl) (pv 0) (pma_cons pm_int pma_nil)))
    (pmss_cons (pms_set (i := 5) nd rfl (by first | exact Or.inl rfl | exact Or.inr rfl) (pm_ix (pm_lst (pma_cons pm_str (pma_cons pm_str (pma_cons pm_str (pma_cons pm_str pma_nil))))) (pm_oR g__law_draw hr hgd (by decide) (by rfl) (pv 0) (pma_cons pm_int pma_nil))))
    (pmss_cons (pms_set (i := 6) nd rfl (by first | exact Or.inl rfl | exact Or.inr rfl) (pm_oR g__law_some_of hr hgd (by decide) (by rfl) (pv 0) (pma_cons (pm_tup (pma_cons pm_str (pma_cons pm_str (pma_cons pm_str pma_nil)))) pma_nil)))
    (pmss_one (pms_app (i := 1) (pv 1) (pm_tup (pma_cons (pmv 3) (pma_cons (pmv 5) (pma_cons (pmv 6) (pma_cons (pmv 4) (pma_cons (pm_op or_add (pmv 4) (pm_oR g__law_draw hr hgd (by decide) (by rfl) (pv 0) (pma_cons pm_int pma_nil))) pma_nil))))))))))))
    (pmss_one (pms_frz (i := 1) (pms_ret (pm_callTy cr_tuple (by rfl) T.z_tuple (by decide +kernel) (pma_cons (pmv 1) pma_nil))))))))
abbrev n__law_pays : List Str := ["_law_purse_in", "_law_row_in"]
theorem sc__law_pays : FnScope n__law_pays ["_law_purse_in", "_law_row_in"] (defScope (topS 14)) := ⟨rfl, rfl, rfl, by decide +kernel, rfl, by decide +kernel, by decide +kernel⟩
def b__law_pays : MM Fl := (sRet (eAnd (eOp (opIn false) (eOp opIx (eVar 1) (eC (.int 2))) (eOp opIx (eVar 0) (eC (.int 2)))) (chainT (eOp opIx (eVar 0) (eC (.int 3))) (eOp opIx (eVar 1) (eC (.int 1))) (eOp opIx (eVar 0) (eC (.int 4))) opLe opLe)))
abbrev mf__law_pays : FM := mFn 2 false 0 b__law_pays
theorem ok__law_pays (T : Tx K mg) : Ok P w K mg base "_law_pays" 1 ["_law_purse_in", "_law_row_in"] (spM K false 2 mf__law_pays) := by
  obtain ⟨f, fd, F, g, b⟩ := T.f__law_pays
  refine ⟨f, fd, fnm_of F sc__law_pays rfl fun cdv A outer s H hr hgd => ?_, g, F.kp, b⟩
  have nd := sc__law_pays.nd
  exact (pmss_one (pms_ret (pm_and (pm_cmp or_in (pm_ix (pmv 1) pm_int) (pm_ix (pmv 0) pm_int) (by rfl)) (pm_one (pm_chain or_le or_le (pm_ix (pmv 0) pm_int) (pm_ix (pmv 1) pm_int) (pm_ix (pmv 0) pm_int))))))
abbrev n__law_random_row : List Str := ["_law_reader_here", "_law_purses_in", "_law_day_in", "_law_kind_in", "_law_found", "_law_purse_in"]
theorem sc__law_random_row : FnScope n__law_random_row ["_law_reader_here", "_law_purses_in"] (defScope (topS 18)) := ⟨rfl, rfl, rfl, by decide +kernel, rfl, by decide +kernel, by decide +kernel⟩
def b__law_random_row : MM Fl := (sSeq (sTup [2, 3] (vVal (eFnR mf__law_draw 1 0 (aCons (eC (.int 5)) aNil)) (vVal (eOp opIx (eLst (aCons (eC (.str ("food" : Str))) (aCons (eC (.str ("toy" : Str))) (aCons (eC (.str ("buy" : Str))) (aCons (eC (.str ("rent" : Str))) aNil))))) (eFnR mf__law_draw 1 0 (aCons (eC (.int 4)) aNil))) vNil)))
  (sSeq (sIf (eT (eOp opLt (eFnR mf__law_draw 1 0 (aCons (eC (.int 5)) aNil)) (eC (.int 3)))) (sRet (eTup (aCons (eC (.str ("buy" : Str))) (aCons (eVar 2) (aCons (eVar 3) (aCons (eFnR mf__law_draw 1 0 (aCons (eC (.int 5)) aNil)) aNil)))))) sNx)
  (sSeq (sNew 4 (fLst aNil))
  (sSeq (sFor (eIter (eVar 1)) (.nm 5) (sApp 4 (eIf (eT (eFn mf__law_pays 2 (aCons (eVar 5) (aCons (eTup (aCons (eC (.str ("buy" : Str))) (aCons (eVar 2) (aCons (eVar 3) (aCons (eC (.int 0)) aNil))))) aNil)))) (eFnR mf__law_draw 1 0 (aCons (eC (.int 4)) aNil)) (eC (.int 0)))))
  (sFrz 4 (sRet (eTup (aCons (eC (.str ("paid" : Str))) (aCons (eVar 2) (aCons (eVar 3) (aCons (eCall (op1 opTuple) (aCons (eVar 4) aNil)) aNil)))))))))))
abbrev mf__law_random_row : FM := mFn 1 true 4 b__law_random_row
theorem ok__law_random_row (T : Tx K mg) (g__law_draw : Ok P w K mg base "_law_draw" 1 ["_law_reader_here", "_law_many"] (spM K true 1 mf__law_draw)) (g__law_pays : Ok P w K mg base "_law_pays" 1 ["_law_purse_in", "_law_row_in"] (spM K false 2 mf__law_pays)) : Ok P w K mg base "_law_random_row" 2 ["_law_reader_here", "_law_purses_in"] (spM K true 1 mf__law_random_row) := by
  obtain ⟨f, fd, F, g, b⟩ := T.f__law_random_row
  refine ⟨f, fd, fnm_of F sc__law_random_row rfl fun cdv A outer s H hr hgd => ?_, g, F.kp, b⟩
  have nd := sc__law_random_row.nd
  exact (pmss_cons (pms_par (i := 2) (j := 3) (fun ha => ps_par (by rfl) nd rfl rfl (by decide) rfl rfl ha (by rfl)) (pmv_val (pm_oR g__law_draw hr hgd (by decide) (by rfl) (pv 0) (pma_cons pm_int pma_nil)) (pmv_val (pm_ix (pm_lst (pma_cons pm_str (pma_cons pm_str (pma_cons pm_str (pma_cons pm_str pma_nil))))) (pm_oR g__law_draw hr hgd (by decide) (by rfl) (pv 0) (pma_cons pm_int pma_nil))) pmv_nil)))
    (pmss_cons (pms_if (pmt_cmp or_lt (pm_oR g__law_draw hr hgd (by decide) (by rfl) (pv 0) (pma_cons pm_int pma_nil)) pm_int (nomark _)) (pmss_one (pms_ret (pm_tup (pma_cons pm_str (pma_cons (pmv 2) (pma_cons (pmv 3) (pma_cons (pm_oR g__law_draw hr hgd (by decide) (by rfl) (pv 0) (pma_cons pm_int pma_nil)) pma_nil))))))) pmss_nil)
    (pmss_cons (pms_new (i := 4) nd rfl (by first | exact Or.inl rfl | exact Or.inr rfl) (pmf_lst pma_nil))
    (pmss_cons (pms_for (p := (.nm 5)) PassesOwn.never rfl (pmi_seq (pmv 1)) (pg_name (i := 5) nd rfl (by first | exact Or.inl rfl | exact Or.inr rfl)) (pmss_one (pms_app (i := 4) (pv 4) (pm_if (pmt_val (pm_o g__law_pays hr hgd (by decide) (by rfl) (pma_cons (pmv 5) (pma_cons (pm_tup (pma_cons pm_str (pma_cons (pmv 2) (pma_cons (pmv 3) (pma_cons pm_int pma_nil))))) pma_nil)))) (pm_oR g__law_draw hr hgd (by decide) (by rfl) (pv 0) (pma_cons pm_int pma_nil)) pm_int))))
    (pmss_one (pms_frz (i := 4) (pms_ret (pm_tup (pma_cons pm_str (pma_cons (pmv 2) (pma_cons (pmv 3) (pma_cons (pm_callTy cr_tuple (by rfl) T.z_tuple (by decide +kernel) (pma_cons (pmv 4) pma_nil)) pma_nil))))))))))))
abbrev n__law_within : List Str := ["_law_one", "_law_other", "_law_name"]
theorem sc__law_within : FnScope n__law_within ["_law_one", "_law_other"] (defScope (topS 12)) := ⟨rfl, rfl, rfl, by decide +kernel, rfl, by decide +kernel, by decide +kernel⟩
def b__law_within : MM Fl := (sSeq (sIf (eT (eOp opNe (eLc (eIter (eOp opIx (eVar 0) (eC (.int 0)))) (.nm 2) [2] (eT (eOp (opIn true) (eVar 2) (eOp opIx (eVar 1) (eC (.int 0))))) (eVar 2)) (eLst aNil))) (sRet (eC (.bl false))) sNx)
  (sRet (eAnd (eOp opLe (eOp opIx (eVar 1) (eC (.int 1))) (eOp opIx (eVar 0) (eC (.int 1)))) (eOp opLe (eOp opIx (eVar 0) (eC (.int 2))) (eOp opIx (eVar 1) (eC (.int 2)))))))
abbrev mf__law_within : FM := mFn 2 false 1 b__law_within
theorem ok__law_within (T : Tx K mg) : Ok P w K mg base "_law_within" 1 ["_law_one", "_law_other"] (spM K false 2 mf__law_within) := by
  obtain ⟨f, fd, F, g, b⟩ := T.f__law_within
  refine ⟨f, fd, fnm_of F sc__law_within rfl fun cdv A outer s H hr hgd => ?_, g, F.kp, b⟩
  have nd := sc__law_within.nd
  exact (pmss_cons (pms_if (pmt_cmp (or_ne hr.units) (pm_lc rfl nd (pmi_seq (pm_ix (pmv 0) pm_int)) (blkOk_by (own := [("_law_name", 2)]) (N := n__law_within) (sc := defScope (topS 12)) (by decide +kernel)) rfl (by decide) (fun _ _ _ _ _ => (pg_name (i := 2) nd rfl (by first | exact Or.inl rfl | exact Or.inr rfl))) (fun _ _ _ _ _ => (pmts_one (pmt_cmp or_notin (pmv 2) (pm_ix (pmv 1) pm_int) (by rfl)))) (fun _ _ _ _ _ => (pmv 2))) (pm_lst pma_nil) (nomark _)) (pmss_one (pms_ret pm_bl)) pmss_nil)
    (pmss_one (pms_ret (pm_and (pm_cmp or_le (pm_ix (pmv 1) pm_int) (pm_ix (pmv 0) pm_int) (nomark _)) (pm_one (pm_cmp or_le (pm_ix (pmv 0) pm_int) (pm_ix (pmv 1) pm_int) (nomark _)))))))
abbrev n__law_crosses : List Str := ["_law_one", "_law_other", "_law_name"]
theorem sc__law_crosses : FnScope n__law_crosses ["_law_one", "_law_other"] (defScope (topS 13)) := ⟨rfl, rfl, rfl, by decide +kernel, rfl, by decide +kernel, by decide +kernel⟩
def b__law_crosses : MM Fl := (sSeq (sIf (mOr (eT (eOp opEq (eLc (eIter (eOp opIx (eVar 0) (eC (.int 0)))) (.nm 2) [2] (eT (eOp (opIn false) (eVar 2) (eOp opIx (eVar 1) (eC (.int 0))))) (eVar 2)) (eLst aNil))) (mOr (eT (eOp opLt (eOp opIx (eVar 0) (eC (.int 2))) (eOp opIx (eVar 1) (eC (.int 1))))) (eT (eOp opLt (eOp opIx (eVar 1) (eC (.int 2))) (eOp opIx (eVar 0) (eC (.int 1))))))) (sRet (eC (.bl false))) sNx)
  (sRet (eOp opEq (eFn mf__law_within 2 (aCons (eVar 0) (aCons (eVar 1) aNil))) (eFn mf__law_within 2 (aCons (eVar 1) (aCons (eVar 0) aNil))))))
abbrev mf__law_crosses : FM := mFn 2 false 1 b__law_crosses
theorem ok__law_crosses (T : Tx K mg) (g__law_within : Ok P w K mg base "_law_within" 1 ["_law_one", "_law_other"] (spM K false 2 mf__law_within)) : Ok P w K mg base "_law_crosses" 2 ["_law_one", "_law_other"] (spM K false 2 mf__law_crosses) := by
  obtain ⟨f, fd, F, g, b⟩ := T.f__law_crosses
  refine ⟨f, fd, fnm_of F sc__law_crosses rfl fun cdv A outer s H hr hgd => ?_, g, F.kp, b⟩
  have nd := sc__law_crosses.nd
  exact (pmss_cons (pms_if (PW.pt (pmw_or (pmt_cmp (or_eq hr.units) (pm_lc rfl nd (pmi_seq (pm_ix (pmv 0) pm_int)) (blkOk_by (own := [("_law_name", 2)]) (N := n__law_crosses) (sc := defScope (topS 13)) (by decide +kernel)) rfl (by decide) (fun _ _ _ _ _ => (pg_name (i := 2) nd rfl (by first | exact Or.inl rfl | exact Or.inr rfl))) (fun _ _ _ _ _ => (pmts_one (pmt_cmp or_in (pmv 2) (pm_ix (pmv 1) pm_int) (by rfl)))) (fun _ _ _ _ _ => (pmv 2))) (pm_lst pma_nil) (nomark _)) (pmw_or (pmt_cmp or_lt (pm_ix (pmv 0) pm_int) (pm_ix (pmv 1) pm_int) (nomark _)) (pmw_or1 (pmt_cmp or_lt (pm_ix (pmv 1) pm_int) (pm_ix (pmv 0) pm_int) (nomark _)))))) (pmss_one (pms_ret pm_bl)) pmss_nil)
    (pmss_one (pms_ret (pm_cmp (or_eq hr.units) (pm_o g__law_within hr hgd (by decide) (by rfl) (pma_cons (pmv 0) (pma_cons (pmv 1) pma_nil))) (pm_o g__law_within hr hgd (by decide) (by rfl) (pma_cons (pmv 1) (pma_cons (pmv 0) pma_nil))) (nomark _)))))
abbrev n__law_spent : List Str := ["_law_purses_in", "_law_limit_in", "_law_some", "_law_total", "_law_row_in", "_law_j"]
theorem sc__law_spent : FnScope n__law_spent ["_law_purses_in", "_law_limit_in", "_law_some"] (defScope (topS 15)) := ⟨rfl, rfl, rfl, by decide +kernel, rfl, by decide +kernel, by decide +kernel⟩
def b__law_spent : MM Fl := (sSeq (sSet 3 (eC (.int 0)))
  (sSeq (sFor (eIter (eVar 2)) (.nm 4) (sIf (mAnd (eT (eOp opEq (eOp opIx (eVar 4) (eC (.int 0))) (eC (.str ("paid" : Str))))) (eT (chainT (eOp opIx (eVar 1) (eC (.int 1))) (eOp opIx (eVar 4) (eC (.int 1))) (eOp opIx (eVar 1) (eC (.int 2))) opLe opLe))) (sSet 3 (eOp opAdd (eVar 3) (eCall (op1 opSum) (aCons (eLc (eRange range1 (aCons (eCall (op1 opLen) (aCons (eVar 0) aNil)) aNil)) (.nm 5) [5] (eT (eOp (opIn false) (eOp opIx (eOp opIx (eVar 0) (eVar 5)) (eC (.int 0))) (eOp opIx (eVar 1) (eC (.int 0))))) (eOp opIx (eOp opIx (eVar 4) (eC (.int 3))) (eVar 5))) aNil)))) sNx))
  (sRet (eVar 3))))
abbrev mf__law_spent : FM := mFn 3 false 3 b__law_spent
theorem ok__law_spent (T : Tx K mg) : Ok P w K mg base "_law_spent" 1 ["_law_purses_in", "_law_limit_in", "_law_some"] (spM K false 3 mf__law_spent) := by
  obtain ⟨f, fd, F, g, b⟩ := T.f__law_spent
  refine ⟨f, fd, fnm_of F sc__law_spent rfl fun cdv A outer s H hr hgd => ?_, g, F.kp, b⟩
  have nd := sc__law_spent.nd
  exact (pmss_cons (pms_set (i := 3) nd rfl (by first | exact Or.inl rfl | exact Or.inr rfl) pm_int)
    (pmss_cons (pms_for (p := (.nm 4)) PassesOwn.never rfl (pmi_seq (pmv 2)) (pg_name (i := 4) nd rfl (by first | exact Or.inl rfl | exact Or.inr rfl)) (pmss_one (pms_if (PW.pt (pmw_and (pmt_cmp (or_eq hr.units) (pm_ix (pmv 4) pm_int) pm_str (nomark _)) (pmw_and1 (pmt_chain or_le or_le (pm_ix (pmv 1) pm_int) (pm_ix (pmv 4) pm_int) (pm_ix (pmv 1) pm_int))))) (pmss_one (pms_set (i := 3) nd rfl (by first | exact Or.inl rfl | exact Or.inr rfl) (pm_op or_add (pmv 3) (pm_callB (cr_sumD rfl) (by rfl) T.z_sum (by decide +kernel) (pma_cons (pm_lc rfl nd (pmi_range1 (by rfl) T.z_range (pma_cons (pm_callB cr_len (by rfl) T.z_len (by decide +kernel) (pma_cons (pmv 0) pma_nil)) pma_nil)) (blkOk_by (own := [("_law_j", 5)]) (N := n__law_spent) (sc := defScope (topS 15)) (by decide +kernel)) rfl (by decide) (fun _ _ _ _ _ => (pg_name (i := 5) nd rfl (by first | exact Or.inl rfl | exact Or.inr rfl))) (fun _ _ _ _ _ => (pmts_one (pmt_cmp or_in (pm_ix (pm_ix (pmv 0) (pmv 5)) pm_int) (pm_ix (pmv 1) pm_int) (by rfl)))) (fun _ _ _ _ _ => (pm_ix (pm_ix (pmv 4) pm_int) (pmv 5)))) pma_nil))))) pmss_nil)))
    (pmss_one (pms_ret (pmv 3)))))
abbrev n__law_random_book : List Str := ["_law_reader_here", "_law_purses_in", "_law_found", "_law_k", "_law_lot", "_law_sponsor_in", "_law_names", "_law_begin", "_law_limit_in", "_law_one"]
theorem sc__law_random_book : FnScope n__law_random_book ["_law_reader_here"] (defScope (topS 19)) := ⟨rfl, rfl, rfl, by decide +kernel, rfl, by decide +kernel, by decide +kernel⟩
def b__law_random_book : MM Fl := (sSeq (sTup [1, 2] (vVal (eFnR mf__law_random_purses 0 0 aNil) (vOwn (fLst aNil) vNil)))
  (sSeq (sSet 4 (eCall (op1 opTuple) (aCons (eLc (eRange range1 (aCons (eFnR mf__law_draw 1 0 (aCons (eC (.int 6)) aNil)) aNil)) (.nm 3) [3] mYes (eFnR mf__law_random_row 1 0 (aCons (eVar 1) aNil))) aNil)))
  (sSeq (sFor (eRange range1 (aCons (eFnR mf__law_draw 1 0 (aCons (eC (.int 6)) aNil)) aNil)) (.nm 3) (sSeq (sSet 5 (eOp opIx (eOp opIx (eVar 1) (eFnR mf__law_draw 1 0 (aCons (eCall (op1 opLen) (aCons (eVar 1) aNil)) aNil))) (eC (.int 1))))
  (sSeq (sSet 6 (eFnR mf__law_some_of 1 0 (aCons (eLc (eIter (eVar 1)) (.nm 9) [9] (eT (eOp opEq (eOp opIx (eVar 9) (eC (.int 1))) (eVar 5))) (eOp opIx (eVar 9) (eC (.int 0)))) aNil)))
  (sSeq (sSet 7 (eFnR mf__law_draw 1 0 (aCons (eC (.int 4)) aNil)))
  (sSeq (sSet 8 (eTup (aCons (eVar 6) (aCons (eVar 7) (aCons (eOp opAdd (eVar 7) (eFnR mf__law_draw 1 0 (aCons (eC (.int 4)) aNil))) (aCons (eC (.int 0)) aNil))))))
  (sIf (mFrz (eT (eOp opEq (eLc (eIter (eVar 2)) (.nm 9) [9] (eT (eFn mf__law_crosses 2 (aCons (eVar 9) (aCons (eVar 8) aNil)))) (eVar 9)) (eLst aNil)))) (sApp 2 (eOp opAdd (eSl (eVar 8) pNone (pSome (eC (.int 3)))) (eTup (aCons (eOp opAdd (eFn mf__law_spent 3 (aCons (eVar 1) (aCons (eVar 8) (aCons (eVar 4) aNil)))) (eFnR mf__law_draw 1 0 (aCons (eC (.int 7)) aNil))) aNil)))) sNx))))))
  (sFrz 2 (sRet (eTup (aCons (eVar 1) (aCons (eCall (op1 opTuple) (aCons (eVar 2) aNil)) (aCons (eVar 4) aNil)))))))))
abbrev mf__law_random_book : FM := mFn 0 true 9 b__law_random_book
theorem ok__law_random_book (T : Tx K mg) (g__law_random_purses : Ok P w K mg base "_law_random_purses" 3 ["_law_reader_here"] (spM K true 0 mf__law_random_purses)) (g__law_draw : Ok P w K mg base "_law_draw" 1 ["_law_reader_here", "_law_many"] (spM K true 1 mf__law_draw)) (g__law_random_row : Ok P w K mg base "_law_random_row" 2 ["_law_reader_here", "_law_purses_in"] (spM K true 1 mf__law_random_row)) (g__law_some_of : Ok P w K mg base "_law_some_of" 2 ["_law_reader_here", "_law_pool"] (spM K true 1 mf__law_some_of)) (g__law_crosses : Ok P w K mg base "_law_crosses" 2 ["_law_one", "_law_other"] (spM K false 2 mf__law_crosses)) (g__law_spent : Ok P w K mg base "_law_spent" 1 ["_law_purses_in", "_law_limit_in", "_law_some"] (spM K false 3 mf__law_spent)) : Ok P w K mg base "_law_random_book" 4 ["_law_reader_here"] (spM K true 0 mf__law_random_book) := by
  obtain ⟨f, fd, F, g, b⟩ := T.f__law_random_book
  refine ⟨f, fd, fnm_of F sc__law_random_book rfl fun cdv A outer s H hr hgd => ?_, g, F.kp, b⟩
  have nd := sc__law_random_book.nd
  exact (pmss_cons (pms_tupA (is := [1, 2]) (pmv_val (pm_oR g__law_random_purses hr hgd (by decide) (by rfl) (pv 0) pma_nil) (pmv_own (pmf_lst pma_nil) pmv_nil)) (by decide) (pg_tup rfl (pgs_cons (pg_name (i := 1) nd rfl (by first | exact Or.inl rfl | exact Or.inr rfl)) (pgs_cons (pg_name (i := 2) nd rfl (by first | exact Or.inl rfl | exact Or.inr rfl)) pgs_nil))))
    (pmss_cons (pms_set (i := 4) nd rfl (by first | exact Or.inl rfl | exact Or.inr rfl) (pm_callTy cr_tuple (by rfl) T.z_tuple (by decide +kernel) (pma_cons (pm_lc rfl nd (pmi_range1 (by rfl) T.z_range (pma_cons (pm_oR g__law_draw hr hgd (by decide) (by rfl) (pv 0) (pma_cons pm_int pma_nil)) pma_nil)) (blkOk_by (own := [("_law_k", 3)]) (N := n__law_random_book) (sc := defScope (topS 19)) (by decide +kernel)) rfl (by decide) (fun _ _ _ _ _ => (pg_name (i := 3) nd rfl (by first | exact Or.inl rfl | exact Or.inr rfl))) (fun _ _ _ _ _ => pmts_nil) (fun _ _ _ _ _ => (pm_oR g__law_random_row hr hgd (by decide) (by rfl) (pv 0) (pma_cons (pmv 1) pma_nil)))) pma_nil)))
    (pmss_cons (pms_for (p := (.nm 3)) PassesOwn.never rfl (pmi_range1 (by rfl) T.z_range (pma_cons (pm_oR g__law_draw hr hgd (by decide) (by rfl) (pv 0) (pma_cons pm_int pma_nil)) pma_nil)) (pg_name (i := 3) nd rfl (by first | exact Or.inl rfl | exact Or.inr rfl)) (pmss_cons (pms_set (i := 5) nd rfl (by first | exact Or.inl rfl | exact Or.inr rfl) (pm_ix (pm_ix (pmv 1) (pm_oR g__law_draw hr hgd (by decide) (by rfl) (pv 0) (pma_cons (pm_callB cr_len (by rfl) T.z_len (by decide +kernel) (pma_cons (pmv 1) pma_nil)) pma_nil))) pm_int))
    (pmss_cons (pms_set (i := 6) nd rfl (by first | exact Or.inl rfl | exact Or.inr rfl) (pm_oR g__law_some_of hr hgd (by decide) (by rfl) (pv 0) (pma_cons (pm_lc rfl nd (pmi_seq (pmv 1)) (blkOk_by (own := [("_law_one", 9)]) (N := n__law_random_book) (sc := defScope (topS 19)) (by decide +kernel)) rfl (by decide) (fun _ _ _ _ _ => (pg_name (i := 9) nd rfl (by first | exact Or.inl rfl | exact Or.inr rfl))) (fun _ _ _ _ _ => (pmts_one (pmt_cmp (or_eq hr.units) (pm_ix (pmv 9) pm_int) (pmv 5) (nomark _)))) (fun _ _ _ _ _ => (pm_ix (pmv 9) pm_int))) pma_nil)))
    (pmss_cons (pms_set (i := 7) nd rfl (by first | exact Or.inl rfl | exact Or.inr rfl) (pm_oR g__law_draw hr hgd (by decide) (by rfl) (pv 0) (pma_cons pm_int pma_nil)))
    (pmss_cons (pms_set (i := 8) nd rfl (by first | exact Or.inl rfl | exact Or.inr rfl) (pm_tup (pma_cons (pmv 6) (pma_cons (pmv 7) (pma_cons (pm_op or_add (pmv 7) (pm_oR g__law_draw hr hgd (by decide) (by rfl) (pv 0) (pma_cons pm_int pma_nil))) (pma_cons pm_int pma_nil))))))
    (pmss_one (pms_if (pmt_frz (pmt_cmp (or_eq hr.units) (pm_lc rfl nd (pmi_seq (pmv 2)) (blkOk_by (own := [("_law_one", 9)]) (N := n__law_random_book) (sc := defScope (topS 19)) (by decide +kernel)) rfl (by decide) (fun _ _ _ _ _ => (pg_name (i := 9) nd rfl (by first | exact Or.inl rfl | exact Or.inr rfl))) (fun _ _ _ _ _ => (pmts_one (pmt_val (pm_o g__law_crosses hr hgd (by decide) (by rfl) (pma_cons (pmv 9) (pma_cons (pmv 8) pma_nil)))))) (fun _ _ _ _ _ => (pmv 9))) (pm_lst pma_nil) (nomark _))) (pmss_one (pms_app (i := 2) (pv 2) (pm_op or_add (pm_slice (pmv 8) pmo_none (pmo_some pm_int)) (pm_tup (pma_cons (pm_op or_add (pm_o g__law_spent hr hgd (by decide) (by rfl) (pma_cons (pmv 1) (pma_cons (pmv 8) (pma_cons (pmv 4) pma_nil)))) (pm_oR g__law_draw hr hgd (by decide) (by rfl) (pv 0) (pma_cons pm_int pma_nil))) pma_nil))))) pmss_nil)))))))
    (pmss_one (pms_frz (i := 2) (pms_ret (pm_tup (pma_cons (pmv 1) (pma_cons (pm_callTy cr_tuple (by rfl) T.z_tuple (by decide +kernel) (pma_cons (pmv 2) pma_nil)) (pma_cons (pmv 4) pma_nil))))))))))
abbrev n__law_loose : List Str := ["_law_reader_here", "_law_far", "_law_purses_in", "_law_caps", "_law_lot"]
theorem sc__law_loose : FnScope n__law_loose ["_law_reader_here"] (defScope (topS 26)) := ⟨rfl, rfl, rfl, by decide +kernel, rfl, by decide +kernel, by decide +kernel⟩
def b__law_loose : MM Fl := (sSeq (sSet 1 (eOp opPow (eC (.int 10)) (eC (.int 59))))
  (sSeq (sSet 2 (eLst (aCons (eTup (aCons (eC (.str ("pay" : Str))) (aCons (eC (.str ("buy" : Str))) (aCons (eTup (aCons (eC (.str ("a" : Str))) (aCons (eC (.str ("limit" : Str))) aNil))) (aCons (eC (.int 3)) (aCons (eVar 1) aNil)))))) (aCons (eTup (aCons (eC (.str ("paid" : Str))) (aCons (eC (.str ("paid" : Str))) (aCons (eTup (aCons (eC (.str ("b" : Str))) aNil)) (aCons (eC (.int 0)) (aCons (eC (.int 0)) aNil)))))) aNil))))
  (sSeq (sSet 2 (eOp opAdd (eVar 2) (eLst (aCons (eTup (aCons (eC (.str ("b" : Str))) (aCons (eC (.str ("zzzzzzzz" : Str))) (aCons (eTup (aCons (eC (.str ("c" : Str))) (aCons (eC (.str ("d" : Str))) (aCons (eC (.str ("e" : Str))) aNil)))) (aCons (eC (.int 7)) (aCons (eC (.int 7)) aNil)))))) aNil))))
  (sSeq (sSet 3 (eLst (aCons (eTup (aCons (eTup (aCons (eC (.str ("a" : Str))) (aCons (eC (.str ("no" : Str))) aNil))) (aCons (eC (.int 0)) (aCons (eC (.int 0)) (aCons (eVar 1) aNil))))) (aCons (eTup (aCons (eTup (aCons (eC (.str ("pay" : Str))) aNil)) (aCons (eVar 1) (aCons (eVar 1) (aCons (eC (.int 0)) aNil))))) (aCons (eTup (aCons (eTup (aCons (eC (.str ("a" : Str))) (aCons (eC (.str ("b" : Str))) (aCons (eC (.str ("c" : Str))) (aCons (eC (.str ("d" : Str))) aNil))))) (aCons (eC (.int 2)) (aCons (eC (.int 99)) (aCons (eC (.int 7)) aNil))))) aNil)))))
  (sSeq (sSet 4 (eLst (aCons (eTup (aCons (eC (.str ("paid" : Str))) (aCons (eC (.int 0)) (aCons (eC (.str ("a" : Str))) (aCons (eTup aNil) aNil))))) (aCons (eTup (aCons (eC (.str ("paid" : Str))) (aCons (eVar 1) (aCons (eC (.str ("paid" : Str))) (aCons (eTup (aCons (eC (.int 0)) (aCons (eVar 1) (aCons (eC (.int 3)) aNil)))) aNil))))) aNil))))
  (sSeq (sSet 4 (eOp opAdd (eVar 4) (eLst (aCons (eTup (aCons (eC (.str ("buy" : Str))) (aCons (eC (.int 1)) (aCons (eC (.str ("buy" : Str))) (aCons (eVar 1) aNil))))) (aCons (eTup (aCons (eC (.str ("paid" : Str))) (aCons (eC (.int 3)) (aCons (eC (.str ("x" : Str))) (aCons (eTup (aCons (eC (.int 0)) aNil)) aNil))))) (aCons (eTup (aCons (eC (.str ("buy" : Str))) (aCons (eC (.int 0)) (aCons (eC (.str ("y" : Str))) (aCons (eC (.int 0)) aNil))))) aNil))))))
  (sSeq (sSet 2 (eCall (op1 opTuple) (aCons (eSl (eVar 2) (pSome (eFnR mf__law_draw 1 0 (aCons (eC (.int 3)) aNil))) pNone) aNil)))
  (sRet (eTup (aCons (eVar 2) (aCons (eCall (op1 opTuple) (aCons (eSl (eVar 3) (pSome (eFnR mf__law_draw 1 0 (aCons (eC (.int 4)) aNil))) pNone) aNil)) (aCons (eCall (op1 opTuple) (aCons (eSl (eVar 4) (pSome (eFnR mf__law_draw 1 0 (aCons (eC (.int 6)) aNil))) pNone) aNil)) aNil))))))))))))
abbrev mf__law_loose : FM := mFn 0 true 4 b__law_loose
theorem ok__law_loose (T : Tx K mg) (g__law_draw : Ok P w K mg base "_law_draw" 1 ["_law_reader_here", "_law_many"] (spM K true 1 mf__law_draw)) : Ok P w K mg base "_law_loose" 2 ["_law_reader_here"] (spM K true 0 mf__law_loose) := by
  obtain ⟨f, fd, F, g, b⟩ := T.f__law_loose
  refine ⟨f, fd, fnm_of F sc__law_loose rfl fun cdv A outer s H hr hgd => ?_, g, F.kp, b⟩
  have nd := sc__law_loose.nd
  exact (pmss_cons (pms_set (i := 1) nd rfl (by first | exact Or.inl rfl | exact Or.inr rfl) (pm_op or_pow pm_int pm_int))
    (pmss_cons (pms_set (i := 2) nd rfl (by first | exact Or.inl rfl | exact Or.inr rfl) (pm_lst (pma_cons (pm_tup (pma_cons pm_str (pma_cons pm_str (pma_cons (pm_tup (pma_cons pm_str (pma_cons pm_str pma_nil))) (pma_cons pm_int (pma_cons (pmv 1) pma_nil)))))) (pma_cons (pm_tup (pma_cons pm_str (pma_cons pm_str (pma_cons (pm_tup (pma_cons pm_str pma_nil)) (pma_cons pm_int (pma_cons pm_int pma_nil)))))) pma_nil))))
    (pmss_cons (pms_set (i := 2) nd rfl (by first | exact Or.inl rfl | exact Or.inr rfl) (pm_op or_add (pmv 2) (pm_lst (pma_cons (pm_tup (pma_cons pm_str (pma_cons pm_str (pma_cons (pm_tup (pma_cons pm_str (pma_cons pm_str (pma_cons pm_str pma_nil)))) (pma_cons pm_int (pma_cons pm_int pma_nil)))))) pma_nil))))
    (pmss_cons (pms_set (i := 3) nd rfl (by first | exact Or.inl rfl | exact Or.inr rfl) (pm_lst (pma_cons (pm_tup (pma_cons (pm_tup (pma_cons pm_str (pma_cons pm_str pma_nil))) (pma_cons pm_int (pma_cons pm_int (pma_cons (pmv 1) pma_nil))))) (pma_cons (pm_tup (pma_cons (pm_tup (pma_cons pm_str pma_nil)) (pma_cons (pmv 1) (pma_cons (pmv 1) (pma_cons pm_int pma_nil))))) (pma_cons (pm_tup (pma_cons (pm_tup (pma_cons pm_str (pma_cons pm_str (pma_cons pm_str (pma_cons pm_str pma_nil))))) (pma_cons pm_int (pma_cons pm_int (pma_cons pm_int pma_nil))))) pma_nil)))))
    (pmss_cons (pms_set (i := 4) nd rfl (by first | exact Or.inl rfl | exact Or.inr rfl) (pm_lst (pma_cons (pm_tup (pma_cons pm_str (pma_cons pm_int (pma_cons pm_str (pma_cons (pm_tup pma_nil) pma_nil))))) (pma_cons (pm_tup (pma_cons pm_str (pma_cons (pmv 1) (pma_cons pm_str (pma_cons (pm_tup (pma_cons pm_int (pma_cons (pmv 1) (pma_cons pm_int pma_nil)))) pma_nil))))) pma_nil))))
    (pmss_cons (pms_set (i := 4) nd rfl (by first | exact Or.inl rfl | exact Or.inr rfl) (pm_op or_add (pmv 4) (pm_lst (pma_cons (pm_tup (pma_cons pm_str (pma_cons pm_int (pma_cons pm_str (pma_cons (pmv 1) pma_nil))))) (pma_cons (pm_tup (pma_cons pm_str (pma_cons pm_int (pma_cons pm_str (pma_cons (pm_tup (pma_cons pm_int pma_nil)) pma_nil))))) (pma_cons (pm_tup (pma_cons pm_str (pma_cons pm_int (pma_cons pm_str (pma_cons pm_int pma_nil))))) pma_nil))))))
    (pmss_cons (pms_set (i := 2) nd rfl (by first | exact Or.inl rfl | exact Or.inr rfl) (pm_callTy cr_tuple (by rfl) T.z_tuple (by decide +kernel) (pma_cons (pm_slice (pmv 2) (pmo_some (pm_oR g__law_draw hr hgd (by decide) (by rfl) (pv 0) (pma_cons pm_int pma_nil))) pmo_none) pma_nil)))
    (pmss_one (pms_ret (pm_tup (pma_cons (pmv 2) (pma_cons (pm_callTy cr_tuple (by rfl) T.z_tuple (by decide +kernel) (pma_cons (pm_slice (pmv 3) (pmo_some (pm_oR g__law_draw hr hgd (by decide) (by rfl) (pv 0) (pma_cons pm_int pma_nil))) pmo_none) pma_nil)) (pma_cons (pm_callTy cr_tuple (by rfl) T.z_tuple (by decide +kernel) (pma_cons (pm_slice (pmv 4) (pmo_some (pm_oR g__law_draw hr hgd (by decide) (by rfl) (pv 0) (pma_cons pm_int pma_nil))) pmo_none) pma_nil)) pma_nil)))))))))))))
abbrev n_limit_text : List Str := ["limit", "purses", "first", "last", "cap"]
theorem sc_limit_text : FnScope n_limit_text ["limit"] (defScope (topS 5)) := ⟨rfl, rfl, rfl, by decide +kernel, rfl, by decide +kernel, by decide +kernel⟩
def b_limit_text : MM Fl := (sSeq (sUnp (.tp [1, 2, 3, 4]) (eVar 0))
  (sRet (eOp opJoin (eC (.str (" " : Str))) (eLst (aCons (eC (.str ("limit" : Str))) (aCons (eOp opJoin (eC (.str ("," : Str))) (eVar 1)) (aCons (eFn mf_number_text 1 (aCons (eVar 2) aNil)) (aCons (eFn mf_number_text 1 (aCons (eVar 3) aNil)) (aCons (eFn mf_number_text 1 (aCons (eVar 4) aNil)) aNil)))))))))
abbrev mf_limit_text : FM := mFn 1 false 4 b_limit_text
theorem ok_limit_text (T : Tx K mg) (g_number_text : Ok P w K mg base "number_text" 1 ["number"] (spM K false 1 mf_number_text)) : Ok P w K mg base "limit_text" 2 ["limit"] (spM K false 1 mf_limit_text) := by
  obtain ⟨f, fd, F, g, b⟩ := T.f_limit_text
  refine ⟨f, fd, fnm_of F sc_limit_text rfl fun cdv A outer s H hr hgd => ?_, g, F.kp, b⟩
  have nd := sc_limit_text.nd
  exact (pmss_cons (pms_unp (p := (.tp [1, 2, 3, 4])) (pmv 0) (pg_tup rfl (pgs_cons (pg_name (i := 1) nd rfl (by first | exact Or.inl rfl | exact Or.inr rfl)) (pgs_cons (pg_name (i := 2) nd rfl (by first | exact Or.inl rfl | exact Or.inr rfl)) (pgs_cons (pg_name (i := 3) nd rfl (by first | exact Or.inl rfl | exact Or.inr rfl)) (pgs_cons (pg_name (i := 4) nd rfl (by first | exact Or.inl rfl | exact Or.inr rfl)) pgs_nil))))))
    (pmss_one (pms_ret (pm_join pm_str (pm_lst (pma_cons pm_str (pma_cons (pm_join pm_str (pmv 1)) (pma_cons (pm_o g_number_text hr hgd (by decide) (by rfl) (pma_cons (pmv 2) pma_nil)) (pma_cons (pm_o g_number_text hr hgd (by decide) (by rfl) (pma_cons (pmv 3) pma_nil)) (pma_cons (pm_o g_number_text hr hgd (by decide) (by rfl) (pma_cons (pmv 4) pma_nil)) pma_nil))))))))))
abbrev n_book_lines : List Str := ["book", "purses", "limits", "rows", "ahead", "purse", "limit", "row"]
theorem sc_book_lines : FnScope n_book_lines ["book"] (defScope (topS 7)) := ⟨rfl, rfl, rfl, by decide +kernel, rfl, by decide +kernel, by decide +kernel⟩
def b_book_lines : MM Fl := (sSeq (sUnp (.tp [1, 2, 3]) (eVar 0))
  (sSeq (sSet 4 (eOp opAdd (eLc (eIter (eVar 1)) (.nm 5) [5] mYes (eFn mf_purse_text 1 (aCons (eVar 5) aNil))) (eLc (eIter (eVar 2)) (.nm 6) [6] mYes (eFn mf_limit_text 1 (aCons (eVar 6) aNil)))))
  (sRet (eOp opAdd (eVar 4) (eLc (eIter (eVar 3)) (.nm 7) [7] mYes (eFn mf_row_text 1 (aCons (eVar 7) aNil)))))))
abbrev mf_book_lines : FM := mFn 1 false 7 b_book_lines
theorem ok_book_lines (T : Tx K mg) (g_purse_text : Ok P w K mg base "purse_text" 2 ["purse"] (spM K false 1 mf_purse_text)) (g_limit_text : Ok P w K mg base "limit_text" 2 ["limit"] (spM K false 1 mf_limit_text)) (g_row_text : Ok P w K mg base "row_text" 3 ["row"] (spM K false 1 mf_row_text)) : Ok P w K mg base "book_lines" 4 ["book"] (spM K false 1 mf_book_lines) := by
  obtain ⟨f, fd, F, g, b⟩ := T.f_book_lines
  refine ⟨f, fd, fnm_of F sc_book_lines rfl fun cdv A outer s H hr hgd => ?_, g, F.kp, b⟩
  have nd := sc_book_lines.nd
  exact (pmss_cons (pms_unp (p := (.tp [1, 2, 3])) (pmv 0) (pg_tup rfl (pgs_cons (pg_name (i := 1) nd rfl (by first | exact Or.inl rfl | exact Or.inr rfl)) (pgs_cons (pg_name (i := 2) nd rfl (by first | exact Or.inl rfl | exact Or.inr rfl)) (pgs_cons (pg_name (i := 3) nd rfl (by first | exact Or.inl rfl | exact Or.inr rfl)) pgs_nil)))))
    (pmss_cons (pms_set (i := 4) nd rfl (by first | exact Or.inl rfl | exact Or.inr rfl) (pm_op or_add (pm_lc rfl nd (pmi_seq (pmv 1)) (blkOk_by (own := [("purse", 5)]) (N := n_book_lines) (sc := defScope (topS 7)) (by decide +kernel)) rfl (by decide) (fun _ _ _ _ _ => (pg_name (i := 5) nd rfl (by first | exact Or.inl rfl | exact Or.inr rfl))) (fun _ _ _ _ _ => pmts_nil) (fun _ _ _ _ _ => (pm_o g_purse_text hr hgd (by decide) (by rfl) (pma_cons (pmv 5) pma_nil)))) (pm_lc rfl nd (pmi_seq (pmv 2)) (blkOk_by (own := [("limit", 6)]) (N := n_book_lines) (sc := defScope (topS 7)) (by decide +kernel)) rfl (by decide) (fun _ _ _ _ _ => (pg_name (i := 6) nd rfl (by first | exact Or.inl rfl | exact Or.inr rfl))) (fun _ _ _ _ _ => pmts_nil) (fun _ _ _ _ _ => (pm_o g_limit_text hr hgd (by decide) (by rfl) (pma_cons (pmv 6) pma_nil))))))
    (pmss_one (pms_ret (pm_op or_add (pmv 4) (pm_lc rfl nd (pmi_seq (pmv 3)) (blkOk_by (own := [("row", 7)]) (N := n_book_lines) (sc := defScope (topS 7)) (by decide +kernel)) rfl (by decide) (fun _ _ _ _ _ => (pg_name (i := 7) nd rfl (by first | exact Or.inl rfl | exact Or.inr rfl))) (fun _ _ _ _ _ => pmts_nil) (fun _ _ _ _ _ => (pm_o g_row_text hr hgd (by decide) (by rfl) (pma_cons (pmv 7) pma_nil)))))))))
abbrev n_book_text : List Str := ["book"]
theorem sc_book_text : FnScope n_book_text ["book"] (defScope (topS 8)) := ⟨rfl, rfl, rfl, by decide +kernel, rfl, by decide +kernel, by decide +kernel⟩
def b_book_text : MM Fl := (sRet (eOp opJoin (eC (.str ("\n" : Str))) (eFn mf_book_lines 1 (aCons (eVar 0) aNil))))
abbrev mf_book_text : FM := mFn 1 false 0 b_book_text
theorem ok_book_text (T : Tx K mg) (g_book_lines : Ok P w K mg base "book_lines" 4 ["book"] (spM K false 1 mf_book_lines)) : Ok P w K mg base "book_text" 5 ["book"] (spM K false 1 mf_book_text) := by
  obtain ⟨f, fd, F, g, b⟩ := T.f_book_text
  refine ⟨f, fd, fnm_of F sc_book_text rfl fun cdv A outer s H hr hgd => ?_, g, F.kp, b⟩
  have nd := sc_book_text.nd
  exact (pmss_one (pms_ret (pm_join pm_str (pm_o g_book_lines hr hgd (by decide) (by rfl) (pma_cons (pmv 0) pma_nil)))))
abbrev n__law_one_word : List Str := ["_law_lot", "_law_one"]
theorem sc__law_one_word : FnScope n__law_one_word ["_law_lot"] (defScope (topS 21)) := ⟨rfl, rfl, rfl, by decide +kernel, rfl, by decide +kernel, by decide +kernel⟩
def b__law_one_word : MM Fl := (sRet (eIf (eT (eOp opNe (eVar 0) (eTup aNil))) (eOp opJoin (eC (.str ("," : Str))) (eLc (eIter (eVar 0)) (.nm 1) [1] mYes (eCall (op1 opStr) (aCons (eVar 1) aNil)))) (eC (.str ("-" : Str)))))
abbrev mf__law_one_word : FM := mFn 1 false 1 b__law_one_word
theorem ok__law_one_word (T : Tx K mg) : Ok P w K mg base "_law_one_word" 1 ["_law_lot"] (spM K false 1 mf__law_one_word) := by
  obtain ⟨f, fd, F, g, b⟩ := T.f__law_one_word
  refine ⟨f, fd, fnm_of F sc__law_one_word rfl fun cdv A outer s H hr hgd => ?_, g, F.kp, b⟩
  have nd := sc__law_one_word.nd
  exact (pmss_one (pms_ret (pm_if (pmt_cmp (or_ne hr.units) (pmv 0) (pm_tup pma_nil) (nomark _)) (pm_join pm_str (pm_lc rfl nd (pmi_seq (pmv 0)) (blkOk_by (own := [("_law_one", 1)]) (N := n__law_one_word) (sc := defScope (topS 21)) (by decide +kernel)) rfl (by decide) (fun _ _ _ _ _ => (pg_name (i := 1) nd rfl (by first | exact Or.inl rfl | exact Or.inr rfl))) (fun _ _ _ _ _ => pmts_nil) (fun _ _ _ _ _ => (pm_callTy cr_str (by rfl) T.z_str (by decide +kernel) (pma_cons (pmv 1) pma_nil))))) pm_str)))
abbrev n__law_purse_line : List Str := ["_law_purse_in", "_law_name", "_law_sponsor_in", "_law_kinds_in", "_law_begin", "_law_end"]
theorem sc__law_purse_line : FnScope n__law_purse_line ["_law_purse_in"] (defScope (topS 22)) := ⟨rfl, rfl, rfl, by decide +kernel, rfl, by decide +kernel, by decide +kernel⟩
def b__law_purse_line : MM Fl := (sSeq (sUnp (.tp [1, 2, 3, 4, 5]) (eVar 0))
  (sRet (eOp opJoin (eC (.str (" " : Str))) (eLst (aCons (eC (.str ("purse" : Str))) (aCons (eVar 1) (aCons (eVar 2) (aCons (eCall (op1 opStr) (aCons (eVar 4) aNil)) (aCons (eCall (op1 opStr) (aCons (eVar 5) aNil)) (aCons (eFn mf__law_one_word 1 (aCons (eVar 3) aNil)) aNil))))))))))
abbrev mf__law_purse_line : FM := mFn 1 false 5 b__law_purse_line
theorem ok__law_purse_line (T : Tx K mg) (g__law_one_word : Ok P w K mg base "_law_one_word" 1 ["_law_lot"] (spM K false 1 mf__law_one_word)) : Ok P w K mg base "_law_purse_line" 2 ["_law_purse_in"] (spM K false 1 mf__law_purse_line) := by
  obtain ⟨f, fd, F, g, b⟩ := T.f__law_purse_line
  refine ⟨f, fd, fnm_of F sc__law_purse_line rfl fun cdv A outer s H hr hgd => ?_, g, F.kp, b⟩
  have nd := sc__law_purse_line.nd
  exact (pmss_cons (pms_unp (p := (.tp [1, 2, 3, 4, 5])) (pmv 0) (pg_tup rfl (pgs_cons (pg_name (i := 1) nd rfl (by first | exact Or.inl rfl | exact Or.inr rfl)) (pgs_cons (pg_name (i := 2) nd rfl (by first | exact Or.inl rfl | exact Or.inr rfl)) (pgs_cons (pg_name (i := 3) nd rfl (by first | exact Or.inl rfl | exact Or.inr rfl)) (pgs_cons (pg_name (i := 4) nd rfl (by first | exact Or.inl rfl | exact Or.inr rfl)) (pgs_cons (pg_name (i := 5) nd rfl (by first | exact Or.inl rfl | exact Or.inr rfl)) pgs_nil)))))))
    (pmss_one (pms_ret (pm_join pm_str (pm_lst (pma_cons pm_str (pma_cons (pmv 1) (pma_cons (pmv 2) (pma_cons (pm_callTy cr_str (by rfl) T.z_str (by decide +kernel) (pma_cons (pmv 4) pma_nil)) (pma_cons (pm_callTy cr_str (by rfl) T.z_str (by decide +kernel) (pma_cons (pmv 5) pma_nil)) (pma_cons (pm_o g__law_one_word hr hgd (by decide) (by rfl) (pma_cons (pmv 3) pma_nil)) pma_nil)))))))))))
abbrev n__law_limit_line : List Str := ["_law_limit_in", "_law_names", "_law_begin", "_law_end", "_law_cap_in"]
theorem sc__law_limit_line : FnScope n__law_limit_line ["_law_limit_in"] (defScope (topS 23)) := ⟨rfl, rfl, rfl, by decide +kernel, rfl, by decide +kernel, by decide +kernel⟩
def b__law_limit_line : MM Fl := (sSeq (sUnp (.tp [1, 2, 3, 4]) (eVar 0))
  (sRet (eOp opAdd (eOp opAdd (eOp opAdd (eOp opAdd (eOp opAdd (eOp opAdd (eOp opAdd (eC (.str ("limit " : Str))) (eFn mf__law_one_word 1 (aCons (eVar 1) aNil))) (eC (.str (" " : Str)))) (eCall (op1 opStr) (aCons (eVar 2) aNil))) (eC (.str (" " : Str)))) (eCall (op1 opStr) (aCons (eVar 3) aNil))) (eC (.str (" " : Str)))) (eCall (op1 opStr) (aCons (eVar 4) aNil)))))
abbrev mf__law_limit_line : FM := mFn 1 false 4 b__law_limit_line
theorem ok__law_limit_line (T : Tx K mg) (g__law_one_word : Ok P w K mg base "_law_one_word" 1 ["_law_lot"] (spM K false 1 mf__law_one_word)) : Ok P w K mg base "_law_limit_line" 2 ["_law_limit_in"] (spM K false 1 mf__law_limit_line) := by
  obtain ⟨f, fd, F, g, b⟩ := T.f__law_limit_line
  refine ⟨f, fd, fnm_of F sc__law_limit_line rfl fun cdv A outer s H hr hgd => ?_, g, F.kp, b⟩
  have nd := sc__law_limit_line.nd
  exact (pmss_cons (pms_unp (p := (.tp [1, 2, 3, 4])) (pmv 0) (pg_tup rfl (pgs_cons (pg_name (i := 1) nd rfl (by first | exact Or.inl rfl | exact Or.inr rfl)) (pgs_cons (pg_name (i := 2) nd rfl (by first | exact Or.inl rfl | exact Or.inr rfl)) (pgs_cons (pg_name (i := 3) nd rfl (by first | exact Or.inl rfl | exact Or.inr rfl)) (pgs_cons (pg_name (i := 4) nd rfl (by first | exact Or.inl rfl | exact Or.inr rfl)) pgs_nil))))))
    (pmss_one (pms_ret (pm_op or_add (pm_op or_add (pm_op or_add (pm_op or_add (pm_op or_add (pm_op or_add (pm_op or_add pm_str (pm_o g__law_one_word hr hgd (by decide) (by rfl) (pma_cons (pmv 1) pma_nil))) pm_str) (pm_callTy cr_str (by rfl) T.z_str (by decide +kernel) (pma_cons (pmv 2) pma_nil))) pm_str) (pm_callTy cr_str (by rfl) T.z_str (by decide +kernel) (pma_cons (pmv 3) pma_nil))) pm_str) (pm_callTy cr_str (by rfl) T.z_str (by decide +kernel) (pma_cons (pmv 4) pma_nil))))))
abbrev n__law_row_line : List Str := ["_law_row_in", "_law_word", "_law_day_in", "_law_kind_in", "_law_own"]
theorem sc__law_row_line : FnScope n__law_row_line ["_law_row_in"] (defScope (topS 24)) := ⟨rfl, rfl, rfl, by decide +kernel, rfl, by decide +kernel, by decide +kernel⟩
def b__law_row_line : MM Fl := (sSeq (sUnp (.tp [1, 2, 3, 4]) (eVar 0))
  (sRet (eOp opAdd (eOp opAdd (eOp opAdd (eOp opAdd (eOp opAdd (eOp opAdd (eVar 1) (eC (.str (" " : Str)))) (eCall (op1 opStr) (aCons (eVar 2) aNil))) (eC (.str (" " : Str)))) (eVar 3)) (eC (.str (" " : Str)))) (eIf (eT (eOp opEq (eVar 1) (eC (.str ("buy" : Str))))) (eCall (op1 opStr) (aCons (eVar 4) aNil)) (eFn mf__law_one_word 1 (aCons (eVar 4) aNil))))))
abbrev mf__law_row_line : FM := mFn 1 false 4 b__law_row_line
theorem ok__law_row_line (T : Tx K mg) (g__law_one_word : Ok P w K mg base "_law_one_word" 1 ["_law_lot"] (spM K false 1 mf__law_one_word)) : Ok P w K mg base "_law_row_line" 2 ["_law_row_in"] (spM K false 1 mf__law_row_line) := by
  obtain ⟨f, fd, F, g, b⟩ := T.f__law_row_line
  refine ⟨f, fd, fnm_of F sc__law_row_line rfl fun cdv A outer s H hr hgd => ?_, g, F.kp, b⟩
  have nd := sc__law_row_line.nd
  exact (pmss_cons (pms_unp (p := (.tp [1, 2, 3, 4])) (pmv 0) (pg_tup rfl (pgs_cons (pg_name (i := 1) nd rfl (by first | exact Or.inl rfl | exact Or.inr rfl)) (pgs_cons (pg_name (i := 2) nd rfl (by first | exact Or.inl rfl | exact Or.inr rfl)) (pgs_cons (pg_name (i := 3) nd rfl (by first | exact Or.inl rfl | exact Or.inr rfl)) (pgs_cons (pg_name (i := 4) nd rfl (by first | exact Or.inl rfl | exact Or.inr rfl)) pgs_nil))))))
    (pmss_one (pms_ret (pm_op or_add (pm_op or_add (pm_op or_add (pm_op or_add (pm_op or_add (pm_op or_add (pmv 1) pm_str) (pm_callTy cr_str (by rfl) T.z_str (by decide +kernel) (pma_cons (pmv 2) pma_nil))) pm_str) (pmv 3)) pm_str) (pm_if (pmt_cmp (or_eq hr.units) (pmv 1) pm_str (nomark _)) (pm_callTy cr_str (by rfl) T.z_str (by decide +kernel) (pma_cons (pmv 4) pma_nil)) (pm_o g__law_one_word hr hgd (by decide) (by rfl) (pma_cons (pmv 4) pma_nil)))))))
abbrev n__law_book_page : List Str := ["_law_whole", "_law_found", "_law_one"]
theorem sc__law_book_page : FnScope n__law_book_page ["_law_whole"] (defScope (topS 25)) := ⟨rfl, rfl, rfl, by decide +kernel, rfl, by decide +kernel, by decide +kernel⟩
def b__law_book_page : MM Fl := (sSeq (sSet 1 (eOp opAdd (eLc (eIter (eOp opIx (eVar 0) (eC (.int 0)))) (.nm 2) [2] mYes (eFn mf__law_purse_line 1 (aCons (eVar 2) aNil))) (eLc (eIter (eOp opIx (eVar 0) (eC (.int 1)))) (.nm 2) [2] mYes (eFn mf__law_limit_line 1 (aCons (eVar 2) aNil)))))
  (sRet (eOp opJoin (eC (.str ("\n" : Str))) (eOp opAdd (eVar 1) (eLc (eIter (eOp opIx (eVar 0) (eC (.int 2)))) (.nm 2) [2] mYes (eFn mf__law_row_line 1 (aCons (eVar 2) aNil)))))))
abbrev mf__law_book_page : FM := mFn 1 false 2 b__law_book_page
theorem ok__law_book_page (T : Tx K mg) (g__law_purse_line : Ok P w K mg base "_law_purse_line" 2 ["_law_purse_in"] (spM K false 1 mf__law_purse_line)) (g__law_limit_line : Ok P w K mg base "_law_limit_line" 2 ["_law_limit_in"] (spM K false 1 mf__law_limit_line)) (g__law_row_line : Ok P w K mg base "_law_row_line" 2 ["_law_row_in"] (spM K false 1 mf__law_row_line)) : Ok P w K mg base "_law_book_page" 3 ["_law_whole"] (spM K false 1 mf__law_book_page) := by
  obtain ⟨f, fd, F, g, b⟩ := T.f__law_book_page
  refine ⟨f, fd, fnm_of F sc__law_book_page rfl fun cdv A outer s H hr hgd => ?_, g, F.kp, b⟩
  have nd := sc__law_book_page.nd
  exact (pmss_cons (pms_set (i := 1) nd rfl (by first | exact Or.inl rfl | exact Or.inr rfl) (pm_op or_add (pm_lc rfl nd (pmi_seq (pm_ix (pmv 0) pm_int)) (blkOk_by (own := [("_law_one", 2)]) (N := n__law_book_page) (sc := defScope (topS 25)) (by decide +kernel)) rfl (by decide) (fun _ _ _ _ _ => (pg_name (i := 2) nd rfl (by first | exact Or.inl rfl | exact Or.inr rfl))) (fun _ _ _ _ _ => pmts_nil) (fun _ _ _ _ _ => (pm_o g__law_purse_line hr hgd (by decide) (by rfl) (pma_cons (pmv 2) pma_nil)))) (pm_lc rfl nd (pmi_seq (pm_ix (pmv 0) pm_int)) (blkOk_by (own := [("_law_one", 2)]) (N := n__law_book_page) (sc := defScope (topS 25)) (by decide +kernel)) rfl (by decide) (fun _ _ _ _ _ => (pg_name (i := 2) nd rfl (by first | exact Or.inl rfl | exact Or.inr rfl))) (fun _ _ _ _ _ => pmts_nil) (fun _ _ _ _ _ => (pm_o g__law_limit_line hr hgd (by decide) (by rfl) (pma_cons (pmv 2) pma_nil))))))
    (pmss_one (pms_ret (pm_join pm_str (pm_op or_add (pmv 1) (pm_lc rfl nd (pmi_seq (pm_ix (pmv 0) pm_int)) (blkOk_by (own := [("_law_one", 2)]) (N := n__law_book_page) (sc := defScope (topS 25)) (by decide +kernel)) rfl (by decide) (fun _ _ _ _ _ => (pg_name (i := 2) nd rfl (by first | exact Or.inl rfl | exact Or.inr rfl))) (fun _ _ _ _ _ => pmts_nil) (fun _ _ _ _ _ => (pm_o g__law_row_line hr hgd (by decide) (by rfl) (pma_cons (pmv 2) pma_nil)))))))))
abbrev n_law : List Str := ["_law_script", "_law_reader_here", "_law_lots", "_law_turn", "_law_whole", "_law_saved", "_law_got", "_law_one"]
theorem sc_law : FnScope n_law ["_law_script"] (defScope (topS 28)) := ⟨rfl, rfl, rfl, by decide +kernel, rfl, by decide +kernel, by decide +kernel⟩
def b_law : MM Fl := (sSeq (sNew 2 (fCat (eFn mf__law_fixed_books 0 aNil) (eLst (aCons (eFn mf__law_wide 0 aNil) aNil))))
  (sSeq (sFor (eRange range1 (aCons (eC (.int 8)) aNil)) (.nm 3) (sApp 2 (eIf (eT (eOp opEq (eOp opMod (eCall (op1 opInt) (aCons (eVar 3) aNil)) (eC (.int 2))) (eC (.int 0)))) (eFnR mf__law_random_book 0 1 aNil) (eFnR mf__law_loose 0 1 aNil))))
  (sSeq (sFrz 2 (sFor (eIter (eVar 2)) (.nm 4) (sSeq (sSet 5 (eCall (op1 opRepr) (aCons (eVar 4) aNil)))
  (sSeq (sIf (eT (eOp opNe (eCall (op1 opRepr) (aCons (eFn mf_book_text 1 (aCons (eVar 4) aNil)) aNil)) (eCall (op1 opRepr) (aCons (eFn mf__law_book_page 1 (aCons (eVar 4) aNil)) aNil)))) (sRet (eC (.bl false))) sNx)
  (sSeq (sSet 6 (eOp opAdd (eLc (eIter (eOp opIx (eVar 4) (eC (.int 0)))) (.nm 7) [7] mYes (eFn mf_purse_text 1 (aCons (eVar 7) aNil))) (eLc (eIter (eOp opIx (eVar 4) (eC (.int 1)))) (.nm 7) [7] mYes (eFn mf_limit_text 1 (aCons (eVar 7) aNil)))))
  (sSeq (sSet 6 (eOp opAdd (eVar 6) (eLc (eIter (eOp opIx (eVar 4) (eC (.int 2)))) (.nm 7) [7] mYes (eFn mf_row_text 1 (aCons (eVar 7) aNil)))))
  (sSeq (sIf (mOr (eT (eOp opNe (eCall (op1 opRepr) (aCons (eOp opJoin (eC (.str ("\n" : Str))) (eVar 6)) aNil)) (eCall (op1 opRepr) (aCons (eFn mf__law_book_page 1 (aCons (eVar 4) aNil)) aNil)))) (eT (eOp opNe (eCall (op1 opRepr) (aCons (eVar 4) aNil)) (eVar 5)))) (sRet (eC (.bl false))) sNx)
  (sSeq (sIf (eT (eOp opNe (eLc (eIter (eOp opIx (eVar 4) (eC (.int 2)))) (.nm 7) [7] (eT (eOp opNe (eFn mf_row_text 1 (aCons (eVar 7) aNil)) (eFn mf__law_row_line 1 (aCons (eVar 7) aNil)))) (eVar 7)) (eLst aNil))) (sRet (eC (.bl false))) sNx)
  (sIf (eT (eOp opNe (eLc (eIter (eOp opIx (eVar 4) (eC (.int 1)))) (.nm 7) [7] (eT (eOp opNe (eFn mf_limit_text 1 (aCons (eVar 7) aNil)) (eFn mf__law_limit_line 1 (aCons (eVar 7) aNil)))) (eVar 7)) (eLst aNil))) (sRet (eC (.bl false))) sNx)))))))))
  (sSeq (sIf (eT (eOp opNe (eFn mf_purse_text 1 (aCons (eTup (aCons (eC (.str ("a" : Str))) (aCons (eC (.str ("b" : Str))) (aCons (eTup (aCons (eC (.str ("c" : Str))) (aCons (eC (.str ("d" : Str))) aNil))) (aCons (eC (.int 1)) (aCons (eC (.int 2)) aNil)))))) aNil)) (eC (.str ("purse a b 1 2 c,d" : Str))))) (sRet (eC (.bl false))) sNx)
  (sRet (eOp opEq (eFn mf_row_text 1 (aCons (eTup (aCons (eC (.str ("paid" : Str))) (aCons (eC (.int 0)) (aCons (eC (.str ("a" : Str))) (aCons (eTup aNil) aNil))))) aNil)) (eC (.str ("paid 0 a -" : Str)))))))))
theorem ok_law (T : Tx K mg) (g_rd : Ok P w K mg base "_law_reader" 1 ["_law_script"] (spReader K)) (g__law_fixed_books : Ok P w K mg base "_law_fixed_books" 1 [] (spM K false 0 mf__law_fixed_books)) (g__law_wide : Ok P w K mg base "_law_wide" 1 [] (spM K false 0 mf__law_wide)) (g__law_random_book : Ok P w K mg base "_law_random_book" 4 ["_law_reader_here"] (spM K true 0 mf__law_random_book)) (g__law_loose : Ok P w K mg base "_law_loose" 2 ["_law_reader_here"] (spM K true 0 mf__law_loose)) (g_book_text : Ok P w K mg base "book_text" 5 ["book"] (spM K false 1 mf_book_text)) (g__law_book_page : Ok P w K mg base "_law_book_page" 3 ["_law_whole"] (spM K false 1 mf__law_book_page)) (g_purse_text : Ok P w K mg base "purse_text" 2 ["purse"] (spM K false 1 mf_purse_text)) (g_limit_text : Ok P w K mg base "limit_text" 2 ["limit"] (spM K false 1 mf_limit_text)) (g_row_text : Ok P w K mg base "row_text" 3 ["row"] (spM K false 1 mf_row_text)) (g__law_row_line : Ok P w K mg base "_law_row_line" 2 ["_law_row_in"] (spM K false 1 mf__law_row_line)) (g__law_limit_line : Ok P w K mg base "_law_limit_line" 2 ["_law_limit_in"] (spM K false 1 mf__law_limit_line)) {fa : Addr} {fd : FuncData} (F : Fun K "law" "law" (topS 28) fa fd) (pure : ∀ ns : List Int, ns.length ≤ 63 → ∃ rd', b_law (env0 6) ⟨ns, 0, 0, 0⟩ = some (.ret (.bl true), rd')) : FnM P w K mg base 6 fa fd ["_law_script"] (spLawM K) := by
  obtain ⟨fr, fdr, G, gr, kr, br⟩ := g_rd
  refine fnm_gen F sc_law (fun vs H Q E h => ?_) fun cdv A outer s H vs Q hr hgd h => ?_
  · obtain ⟨a, ns, rfl, _⟩ := h
    rfl
  · have nd := sc_law.nd
    refine ⟨_, pss_cons (ps_set (i := 1) nd rfl (by first | exact Or.inl rfl | exact Or.inr rfl) (pe_callM G (hr.mono (by decide)) hgd (by rfl) gr kr br (pa_cons (pv 0) pa_nil))) (?_ : PMSs _ _ b_law), reading_law (by decide) h rfl pure⟩
    exact (pmss_cons (pms_new (i := 2) nd rfl (by first | exact Or.inl rfl | exact Or.inr rfl) (pmf_cat (pm_o0 g__law_fixed_books hr hgd (by decide) (by rfl)) (pm_lst (pma_cons (pm_o0 g__law_wide hr hgd (by decide) (by rfl)) pma_nil))))
    (pmss_cons (pms_for (p := (.nm 3)) PassesOwn.never rfl (pmi_range1 (by rfl) T.z_range (pma_cons pm_int pma_nil)) (pg_name (i := 3) nd rfl (by first | exact Or.inl rfl | exact Or.inr rfl)) (pmss_one (pms_app (i := 2) (pv 2) (pm_if (pmt_cmp (or_eq hr.units) (pm_op or_mod (pm_callTy cr_int (by rfl) T.z_int (by decide +kernel) (pma_cons (pmv 3) pma_nil)) pm_int) pm_int (nomark _)) (pm_oR g__law_random_book hr hgd (by decide) (by rfl) (pv 1) pma_nil) (pm_oR g__law_loose hr hgd (by decide) (by rfl) (pv 1) pma_nil)))))
    (pmss_cons (pms_frz (i := 2) (pms_for (p := (.nm 4)) PassesOwn.never rfl (pmi_seq (pmv 2)) (pg_name (i := 4) nd rfl (by first | exact Or.inl rfl | exact Or.inr rfl)) (pmss_cons (pms_set (i := 5) nd rfl (by first | exact Or.inl rfl | exact Or.inr rfl) (pm_callB (cr_repr hgd (room200 hr)) (by rfl) T.z_repr (by decide +kernel) (pma_cons (pmv 4) pma_nil)))
    (pmss_cons (pms_if (pmt_cmp (or_ne hr.units) (pm_callB (cr_repr hgd (room200 hr)) (by rfl) T.z_repr (by decide +kernel) (pma_cons (pm_o g_book_text hr hgd (by decide) (by rfl) (pma_cons (pmv 4) pma_nil)) pma_nil)) (pm_callB (cr_repr hgd (room200 hr)) (by rfl) T.z_repr (by decide +kernel) (pma_cons (pm_o g__law_book_page hr hgd (by decide) (by rfl) (pma_cons (pmv 4) pma_nil)) pma_nil)) (nomark _)) (pmss_one (pms_ret pm_bl)) pmss_nil)
    (pmss_cons (pms_set (i := 6) nd rfl (by first | exact Or.inl rfl | exact Or.inr rfl) (pm_op or_add (pm_lc rfl nd (pmi_seq (pm_ix (pmv 4) pm_int)) (blkOk_by (own := [("_law_one", 7)]) (N := n_law) (sc := defScope (topS 28)) (by decide +kernel)) rfl (by decide) (fun _ _ _ _ _ => (pg_name (i := 7) nd rfl (by first | exact Or.inl rfl | exact Or.inr rfl))) (fun _ _ _ _ _ => pmts_nil) (fun _ _ _ _ _ => (pm_o g_purse_text hr hgd (by decide) (by rfl) (pma_cons (pmv 7) pma_nil)))) (pm_lc rfl nd (pmi_seq (pm_ix (pmv 4) pm_int)) (blkOk_by (own := [("_law_one", 7)]) (N := n_law) (sc := defScope (topS 28)) (by decide +kernel)) rfl (by decide) (fun _ _ _ _ _ => (pg_name (i := 7) nd rfl (by first | exact Or.inl rfl | exact Or.inr rfl))) (fun _ _ _ _ _ => pmts_nil) (fun _ _ _ _ _ => (pm_o g_limit_text hr hgd (by decide) (by rfl) (pma_cons (pmv 7) pma_nil))))))
    (pmss_cons (pms_set (i := 6) nd rfl (by first | exact Or.inl rfl | exact Or.inr rfl) (pm_op or_add (pmv 6) (pm_lc rfl nd (pmi_seq (pm_ix (pmv 4) pm_int)) (blkOk_by (own := [("_law_one", 7)]) (N := n_law) (sc := defScope (topS 28)) (by decide +kernel)) rfl (by decide) (fun _ _ _ _ _ => (pg_name (i := 7) nd rfl (by first | exact Or.inl rfl | exact Or.inr rfl))) (fun _ _ _ _ _ => pmts_nil) (fun _ _ _ _ _ => (pm_o g_row_text hr hgd (by decide) (by rfl) (pma_cons (pmv 7) pma_nil))))))
    (pmss_cons (pms_if (PW.pt (pmw_or (pmt_cmp (or_ne hr.units) (pm_callB (cr_repr hgd (room200 hr)) (by rfl) T.z_repr (by decide +kernel) (pma_cons (pm_join pm_str (pmv 6)) pma_nil)) (pm_callB (cr_repr hgd (room200 hr)) (by rfl) T.z_repr (by decide +kernel) (pma_cons (pm_o g__law_book_page hr hgd (by decide) (by rfl) (pma_cons (pmv 4) pma_nil)) pma_nil)) (nomark _)) (pmw_or1 (pmt_cmp (or_ne hr.units) (pm_callB (cr_repr hgd (room200 hr)) (by rfl) T.z_repr (by decide +kernel) (pma_cons (pmv 4) pma_nil)) (pmv 5) (nomark _))))) (pmss_one (pms_ret pm_bl)) pmss_nil)
    (pmss_cons (pms_if (pmt_cmp (or_ne hr.units) (pm_lc rfl nd (pmi_seq (pm_ix (pmv 4) pm_int)) (blkOk_by (own := [("_law_one", 7)]) (N := n_law) (sc := defScope (topS 28)) (by decide +kernel)) rfl (by decide) (fun _ _ _ _ _ => (pg_name (i := 7) nd rfl (by first | exact Or.inl rfl | exact Or.inr rfl))) (fun _ _ _ _ _ => (pmts_one (pmt_cmp (or_ne hr.units) (pm_o g_row_text hr hgd (by decide) (by rfl) (pma_cons (pmv 7) pma_nil)) (pm_o g__law_row_line hr hgd (by decide) (by rfl) (pma_cons (pmv 7) pma_nil)) (nomark _)))) (fun _ _ _ _ _ => (pmv 7))) (pm_lst pma_nil) (nomark _)) (pmss_one (pms_ret pm_bl)) pmss_nil)
    (pmss_one (pms_if (pmt_cmp (or_ne hr.units) (pm_lc rfl nd (pmi_seq (pm_ix (pmv 4) pm_int)) (blkOk_by (own := [("_law_one", 7)]) (N := n_law) (sc := defScope (topS 28)) (by decide +kernel)) rfl (by decide) (fun _ _ _ _ _ => (pg_name (i := 7) nd rfl (by first | exact Or.inl rfl | exact Or.inr rfl))) (fun _ _ _ _ _ => (pmts_one (pmt_cmp (or_ne hr.units) (pm_o g_limit_text hr hgd (by decide) (by rfl) (pma_cons (pmv 7) pma_nil)) (pm_o g__law_limit_line hr hgd (by decide) (by rfl) (pma_cons (pmv 7) pma_nil)) (nomark _)))) (fun _ _ _ _ _ => (pmv 7))) (pm_lst pma_nil) (nomark _)) (pmss_one (pms_ret pm_bl)) pmss_nil))))))))))
    (pmss_cons (pms_if (pmt_cmp (or_ne hr.units) (pm_o g_purse_text hr hgd (by decide) (by rfl) (pma_cons (pm_tup (pma_cons pm_str (pma_cons pm_str (pma_cons (pm_tup (pma_cons pm_str (pma_cons pm_str pma_nil))) (pma_cons pm_int (pma_cons pm_int pma_nil)))))) pma_nil)) pm_str (nomark _)) (pmss_one (pms_ret pm_bl)) pmss_nil)
    (pmss_one (pms_ret (pm_cmp (or_eq hr.units) (pm_o g_row_text hr hgd (by decide) (by rfl) (pma_cons (pm_tup (pma_cons pm_str (pma_cons pm_int (pma_cons pm_str (pma_cons (pm_tup pma_nil) pma_nil))))) pma_nil)) pm_str (nomark _))))))))
theorem ok_all (T : Tx K mg) {fa : Addr} {fd : FuncData} (F : Fun K "law" "law" (topS 28) fa fd) (pure : ∀ ns : List Int, ns.length ≤ 63 → ∃ rd', b_law (env0 6) ⟨ns, 0, 0, 0⟩ = some (.ret (.bl true), rd')) : FnM P w K mg base 6 fa fd ["_law_script"] (spLawM K) := by
  have g__law_reader := ok__law_reader (P := P) (w := w) (base := base) T
  have g__law_fixed_books := ok__law_fixed_books (P := P) (w := w) (base := base) T
  have g_number_text := ok_number_text (P := P) (w := w) (base := base) T
  have g_purse_text := ok_purse_text (P := P) (w := w) (base := base) T g_number_text
  have g_shares_text := ok_shares_text (P := P) (w := w) (base := base) T g_number_text
  have g_row_text := ok_row_text (P := P) (w := w) (base := base) T g_number_text g_shares_text
  have g__law_wide := ok__law_wide (P := P) (w := w) (base := base) T
  have g__law_draw := ok__law_draw (P := P) (w := w) (base := base) T
  have g__law_some_of := ok__law_some_of (P := P) (w := w) (base := base) T g__law_draw
  have g__law_random_purses := ok__law_random_purses (P := P) (w := w) (base := base) T g__law_draw g__law_some_of
  have g__law_pays := ok__law_pays (P := P) (w := w) (base := base) T
  have g__law_random_row := ok__law_random_row (P := P) (w := w) (base := base) T g__law_draw g__law_pays
  have g__law_within := ok__law_within (P := P) (w := w) (base := base) T
  have g__law_crosses := ok__law_crosses (P := P) (w := w) (base := base) T g__law_within
  have g__law_spent := ok__law_spent (P := P) (w := w) (base := base) T
  have g__law_random_book := ok__law_random_book (P := P) (w := w) (base := base) T g__law_random_purses g__law_draw g__law_random_row g__law_some_of g__law_crosses g__law_spent
  have g__law_loose := ok__law_loose (P := P) (w := w) (base := base) T g__law_draw
  have g_limit_text := ok_limit_text (P := P) (w := w) (base := base) T g_number_text
  have g_book_lines := ok_book_lines (P := P) (w := w) (base := base) T g_purse_text g_limit_text g_row_text
  have g_book_text := ok_book_text (P := P) (w := w) (base := base) T g_book_lines
  have g__law_one_word := ok__law_one_word (P := P) (w := w) (base := base) T
  have g__law_purse_line := ok__law_purse_line (P := P) (w := w) (base := base) T g__law_one_word
  have g__law_limit_line := ok__law_limit_line (P := P) (w := w) (base := base) T g__law_one_word
  have g__law_row_line := ok__law_row_line (P := P) (w := w) (base := base) T g__law_one_word
  have g__law_book_page := ok__law_book_page (P := P) (w := w) (base := base) T g__law_purse_line g__law_limit_line g__law_row_line
  exact ok_law T g__law_reader g__law_fixed_books g__law_wide g__law_random_book g__law_loose g_book_text g__law_book_page g_purse_text g_limit_text g_row_text g__law_row_line g__law_limit_line F pure
theorem law_end {h : Heap} {fa : Addr} (pure : ∀ ns : List Int, ns.length ≤ 63 → ∃ rd', b_law (env0 6) ⟨ns, 0, 0, 0⟩ = some (.ret (.bl true), rd')) (X : K.In h) (G : h.Ns mainGlobals mg) (hfa : mg "law" = some (.ref fa)) (T : Tx K mg) :
    ∃ fd : FuncData, (∀ (s : Shared) (u : Value), BindsTo s fd ⟨[u], []⟩ [("_law_script", u)]) ∧ ∀ base : Heap, K.In base → base.Ns mainGlobals mg → FnM P w K mg base 6 fa fd ["_law_script"] (spLawM K) := by
  obtain ⟨f, fd, F, g, b⟩ := T.f_law
  rw [hfa] at g
  cases g
  refine ⟨fd, ?_, fun base _ _ => ok_all T F pure⟩
  obtain ⟨oc, od, kV, doc, pm, an, cdv, ct, osl, rfl, l, c⟩ := F.ex
  exact fun s v => .of_eq rfl
end
end My

set_option Elab.async false
set_option linter.all false
set_option maxRecDepth 100000
set_option maxHeartbeats 1000000
namespace My
open PySem PySem.Spec PyProof.Rows L2 FW

abbrev nt (n : Int) : Str := Str.ofString (toString n)
def OkI (i : Int) : Prop := 0 ≤ i ∧ i < 1000000000000000000000000000000000000000000000000000000000000
theorem OkI.log {i : Int} (h : OkI i) : i.natAbs.log2 < 1920 := by
  by_cases z : i.natAbs = 0
  · rw [z]
    decide
  · rw [Nat.log2_lt z]
    have h1 := h.1
    have h2 := h.2
    have e : (1000000000000000000000000000000000000000000000000000000000000 : Nat) < 2 ^ 1920 := by decide
    omega
theorem nt_as {i : Int} (h : OkI i) : As 1921 (nt i) := as_int h.log
theorem str_ends (a : Str) : Str.empty ++ a ++ ("" : Str) = a := by
  have e : ("" : Str).cps = #[] := by decide +kernel
  show Str.mk ((#[] ++ a.cps) ++ ("" : Str).cps) = a
  rw [e]
  simp
theorem number_text_eq {i : Int} (h : OkI i) (rd : Rdr) : mf_number_text [.int i] rd = some (.str (nt i), rd) := by
  have h0 : (1000000000000000000000000000000000000000000000000000000000000 ≤ i) = False := by
    have := h.2
    simp
    omega
  have l1 : (Str.ofString (toString i)).length ≤ sizeLine := Nat.le_trans (nt_as h).1 (by decide)
  have l2 : (Str.empty ++ nt i).length ≤ sizeLine := by
    have e : (Str.empty ++ nt i) = nt i := by
      show Str.mk (#[] ++ (nt i).cps) = _
      simp
    rw [e]
    exact l1
  have l3 : (Str.empty ++ nt i ++ ("" : Str)).length ≤ sizeLine := by
    rw [str_ends]
    exact l1
  have l4 : ("" : Str).length ≤ sizeLine := by decide +kernel
  simp only [ev_bind1, ev_lift, ev_eC, ev_eVar, ev_eOp, ev_eUn, ev_eT, ev_mAnd, ev_mOr, ev_mNot, ev_eAnd, ev_eIf, ev_chain, ev_aNil, ev_aCons, ev_eTup, ev_eLst, ev_eCall, ev_eFn, ev_eFnR, ev_eIter, ev_eRange, ev_eLc, ev_eSl, ev_pNone, ev_pSome, ev_mFrz, ev_sNx, ev_sSet, ev_sRet, ev_sSeq, ev_sIf, ev_sUnp, ev_sNew, ev_fLst, ev_fCat, ev_sApp, ev_sFrz, ev_sFor, ev_vNil, ev_vVal, ev_vOwn, ev_sTup, ev_eRd, ev_sRd, and_self, true_and, and_true, eq_self, eqS, eqI, neS, neI, decide_true, decide_false, decide_eq_true_eq, Bool.not_true, Bool.not_false, initE, setPat, setAll, op1, isBl, flFin, iterD, seqOf, List.length_cons, List.length_nil, Bool.false_eq_true, if_false, if_true, List.nil_append, List.map_cons, List.map_nil, List.replicate, List.cons_append, Option.bind_some, Option.map_some, List.set_cons_succ, List.set_cons_zero, List.getElem?_cons_zero, List.getElem?_cons_succ, Nat.reduceAdd, mFn, b_number_text, sWhile0, opCmp, isBl, decide_eq_true_eq, h0, decide_false, fmtD, h.log, l4, opFcat, l2, l3, l1, and_self, flFin, str_ends]

/-! ### books -/
structure BP where
  nm : Str
  sp : Str
  ks : List Str
  b : Int
  e : Int
structure BL where
  ns : List Str
  b : Int
  e : Int
  c : Int
inductive BR where
  | buy (d : Int) (k : Str) (a : Int)
  | paid (d : Int) (k : Str) (sh : List Int)
def BP.d (p : BP) : D := .tup [.str p.nm, .str p.sp, .tup (p.ks.map .str), .int p.b, .int p.e]
def BL.d (l : BL) : D := .tup [.tup (l.ns.map .str), .int l.b, .int l.e, .int l.c]
def BR.d : BR → D
  | .buy d k a => .tup [.str ("buy" : Str), .int d, .str k, .int a]
  | .paid d k sh => .tup [.str ("paid" : Str), .int d, .str k, .tup (sh.map .int)]
structure BB where
  ps : List BP
  ls : List BL
  rs : List BR
def BB.d (b : BB) : D := .tup [.tup (b.ps.map BP.d), .tup (b.ls.map BL.d), .tup (b.rs.map BR.d)]
abbrev Wd (s : Str) : Prop := As 8 s
structure BP.Ok (p : BP) : Prop where
  nm : Wd p.nm
  sp : Wd p.sp
  ks : ∀ k ∈ p.ks, Wd k
  kn : p.ks ≠ []
  kl : p.ks.length ≤ 12
  b : OkI p.b
  e : OkI p.e
structure BL.Ok (p : BL) : Prop where
  ns : ∀ k ∈ p.ns, Wd k
  kn : p.ns ≠ []
  kl : p.ns.length ≤ 12
  b : OkI p.b
  e : OkI p.e
  c : OkI p.c
def BR.Ok : BR → Prop
  | .buy d k a => OkI d ∧ Wd k ∧ OkI a
  | .paid d k sh => OkI d ∧ Wd k ∧ (∀ s ∈ sh, OkI s) ∧ sh.length ≤ 12
structure BB.Ok (b : BB) : Prop where
  ps : ∀ p ∈ b.ps, p.Ok
  ls : ∀ p ∈ b.ls, p.Ok
  rs : ∀ p ∈ b.rs, p.Ok
  pl : b.ps.length ≤ 12
  ll : b.ls.length ≤ 12
  rl : b.rs.length ≤ 12

/-! ### their lines -/
abbrev sep : Str := " "
abbrev com : Str := ","
theorem sep_as : As 1 sep := ⟨by decide +kernel, by decide +kernel⟩
theorem com_as : As 1 com := ⟨by decide +kernel, by decide +kernel⟩
def BP.line (p : BP) : Str := Txt.join sep [("purse" : Str), p.nm, p.sp, nt p.b, nt p.e, Txt.join com p.ks]
def BL.line (p : BL) : Str := Txt.join sep [("limit" : Str), Txt.join com p.ns, nt p.b, nt p.e, nt p.c]
def BR.line : BR → Str
  | .buy d k a => Txt.join sep [("buy" : Str), nt d, k, nt a]
  | .paid d k sh => Txt.join sep [("paid" : Str), nt d, k, if sh = [] then ("-" : Str) else Txt.join com (sh.map nt)]
theorem strs_map (ss : List Str) : strsOf (ss.map D.str) = some ss := by
  induction ss with
  | nil => rfl
  | cons s ss ih => simp [strsOf, ih]
theorem com_join {ys : List Str} {n : Nat} (h : ∀ y ∈ ys, As n y) (hl : ys.length ≤ 12) (hn : n ≤ 4000) : joinD com ys = some (.str (Txt.join com ys)) :=
  join_ok (by decide +kernel) h hl (by omega)
theorem sep_join {ys : List Str} (h : ∀ y ∈ ys, As 40000 y) (hl : ys.length ≤ 12) : joinD sep ys = some (.str (Txt.join sep ys)) :=
  join_ok (by decide +kernel) h hl (by omega)
theorem ks_as {ks : List Str} (h : ∀ k ∈ ks, Wd k) (hl : ks.length ≤ 12) : As 108 (Txt.join com ks) := com_as.join h hl
theorem w_purse : As 8 ("purse" : Str) := ⟨by decide +kernel, by decide +kernel⟩
theorem w_limit : As 8 ("limit" : Str) := ⟨by decide +kernel, by decide +kernel⟩
theorem w_buy : As 8 ("buy" : Str) := ⟨by decide +kernel, by decide +kernel⟩
theorem w_paid : As 8 ("paid" : Str) := ⟨by decide +kernel, by decide +kernel⟩
theorem w_dash : As 8 ("-" : Str) := ⟨by decide +kernel, by decide +kernel⟩
theorem purse_words {p : BP} (h : p.Ok) : ∀ y ∈ [("purse" : Str), p.nm, p.sp, nt p.b, nt p.e, Txt.join com p.ks], As 40000 y := by
  intro y hy
  simp only [List.mem_cons, List.not_mem_nil, or_false] at hy
  rcases hy with rfl | rfl | rfl | rfl | rfl | rfl
  · exact w_purse.mono (by omega)
  · exact h.nm.mono (by omega)
  · exact h.sp.mono (by omega)
  · exact (nt_as h.b).mono (by omega)
  · exact (nt_as h.e).mono (by omega)
  · exact (ks_as h.ks h.kl).mono (by omega)
theorem purse_text_eq {p : BP} (h : p.Ok) (rd : Rdr) : mf_purse_text [p.d] rd = some (.str p.line, rd) := by
  have j1 := com_join h.ks h.kl (by omega)
  have j2 := sep_join (purse_words h) (by simp)
  have l6 : (6 : Nat) ≤ sizeLine := by decide
  have f1 : ∀ r, mf_number_text [.int p.b] r = some (.str (nt p.b), r) := number_text_eq h.b
  have f2 : ∀ r, mf_number_text [.int p.e] r = some (.str (nt p.e), r) := number_text_eq h.e
  have e : mf_purse_text [p.d] rd = (b_purse_text (initE false [p.d] 5) rd).bind flFin := rfl
  rw [e]
  simp only [ev_bind1, ev_lift, ev_eC, ev_eVar, ev_eOp, ev_eUn, ev_eT, ev_mAnd, ev_mOr, ev_mNot, ev_eAnd, ev_eIf, ev_chain, ev_aNil, ev_aCons, ev_eTup, ev_eLst, ev_eCall, ev_eFn, ev_eFnR, ev_eIter, ev_eRange, ev_eLc, ev_eSl, ev_pNone, ev_pSome, ev_mFrz, ev_sNx, ev_sSet, ev_sRet, ev_sSeq, ev_sIf, ev_sUnp, ev_sNew, ev_fLst, ev_fCat, ev_sApp, ev_sFrz, ev_sFor, ev_vNil, ev_vVal, ev_vOwn, ev_sTup, ev_eRd, ev_sRd, and_self, true_and, and_true, eq_self, eqS, eqI, neS, neI, decide_true, decide_false, decide_eq_true_eq, Bool.not_true, Bool.not_false, initE, setPat, setAll, op1, isBl, flFin, iterD, seqOf, List.length_cons, List.length_nil, Bool.false_eq_true, if_false, if_true, List.nil_append, List.map_cons, List.map_nil, List.replicate, List.cons_append, Option.bind_some, Option.map_some, List.set_cons_succ, List.set_cons_zero, List.getElem?_cons_zero, List.getElem?_cons_succ, Nat.reduceAdd, b_purse_text, BP.d, f1, f2, opJoin, seqOf, strs_map, strsOf, j1, j2, l6, Nat.reduceAdd, flFin]
  rfl

abbrev S0 := 0
theorem limit_words {p : BL} (h : p.Ok) : ∀ y ∈ [("limit" : Str), Txt.join com p.ns, nt p.b, nt p.e, nt p.c], As 40000 y := by
  intro y hy
  simp only [List.mem_cons, List.not_mem_nil, or_false] at hy
  rcases hy with rfl | rfl | rfl | rfl | rfl
  · exact w_limit.mono (by omega)
  · exact (ks_as h.ns h.kl).mono (by omega)
  · exact (nt_as h.b).mono (by omega)
  · exact (nt_as h.e).mono (by omega)
  · exact (nt_as h.c).mono (by omega)
theorem limit_text_eq {p : BL} (h : p.Ok) (rd : Rdr) : mf_limit_text [p.d] rd = some (.str p.line, rd) := by
  have j1 := com_join h.ns h.kl (by omega)
  have j2 := sep_join (limit_words h) (by simp)
  have l6 : (5 : Nat) ≤ sizeLine := by decide
  have f1 : ∀ r, mf_number_text [.int p.b] r = some (.str (nt p.b), r) := number_text_eq h.b
  have f2 : ∀ r, mf_number_text [.int p.e] r = some (.str (nt p.e), r) := number_text_eq h.e
  have f3 : ∀ r, mf_number_text [.int p.c] r = some (.str (nt p.c), r) := number_text_eq h.c
  have e : mf_limit_text [p.d] rd = (b_limit_text (initE false [p.d] 4) rd).bind flFin := rfl
  rw [e]
  simp only [ev_bind1, ev_lift, ev_eC, ev_eVar, ev_eOp, ev_eUn, ev_eT, ev_mAnd, ev_mOr, ev_mNot, ev_eAnd, ev_eIf, ev_chain, ev_aNil, ev_aCons, ev_eTup, ev_eLst, ev_eCall, ev_eFn, ev_eFnR, ev_eIter, ev_eRange, ev_eLc, ev_eSl, ev_pNone, ev_pSome, ev_mFrz, ev_sNx, ev_sSet, ev_sRet, ev_sSeq, ev_sIf, ev_sUnp, ev_sNew, ev_fLst, ev_fCat, ev_sApp, ev_sFrz, ev_sFor, ev_vNil, ev_vVal, ev_vOwn, ev_sTup, ev_eRd, ev_sRd, and_self, true_and, and_true, eq_self, eqS, eqI, neS, neI, decide_true, decide_false, decide_eq_true_eq, Bool.not_true, Bool.not_false, initE, setPat, setAll, op1, isBl, flFin, iterD, seqOf, List.length_cons, List.length_nil, Bool.false_eq_true, if_false, if_true, List.nil_append, List.map_cons, List.map_nil, List.replicate, List.cons_append, Option.bind_some, Option.map_some, List.set_cons_succ, List.set_cons_zero, List.getElem?_cons_zero, List.getElem?_cons_succ, Nat.reduceAdd, b_limit_text, BL.d, f1, f2, f3, opJoin, seqOf, strs_map, strsOf, j1, j2, l6, Nat.reduceAdd, flFin]
  rfl
theorem shares_as {sh : List Int} (h : ∀ s ∈ sh, OkI s) : ∀ y ∈ sh.map nt, As 1921 y := by
  intro y hy
  obtain ⟨s, hs, rfl⟩ := List.mem_map.mp hy
  exact nt_as (h s hs)
def shT (sh : List Int) : Str := if sh = [] then ("-" : Str) else Txt.join com (sh.map nt)
theorem shT_as {sh : List Int} (h : ∀ s ∈ sh, OkI s) (hl : sh.length ≤ 12) : As 40000 (shT sh) := by
  unfold shT
  split
  · exact w_dash.mono (by omega)
  · exact (com_as.join (shares_as h) (k := 12) (by simpa using hl)).mono (by omega)
theorem shares_text_eq {sh : List Int} (h : ∀ s ∈ sh, OkI s) (hl : sh.length ≤ 12) (rd : Rdr) : mf_shares_text [.tup (sh.map .int)] rd = some (.str (shT sh), rd) := by
  have j1 := com_join (shares_as h) (by simpa using hl) (by omega)
  have l12 : sh.length ≤ sizeLine := Nat.le_trans hl (by decide)
  have lc := lcGo_map (f := D.int) (g := fun i => D.str (nt i)) (i := 1) (env := [.val (.tup (sh.map .int)), .un]) (rd := rd) (e := eFn mf_number_text 1 (aCons (eVar 1) aNil)) (as := sh) fun s hs => by
    have f1 : ∀ r, mf_number_text [.int s] r = some (.str (nt s), r) := number_text_eq (h s hs)
    simp only [ev_bind1, ev_lift, ev_eC, ev_eVar, ev_eOp, ev_eUn, ev_eT, ev_mAnd, ev_mOr, ev_mNot, ev_eAnd, ev_eIf, ev_chain, ev_aNil, ev_aCons, ev_eTup, ev_eLst, ev_eCall, ev_eFn, ev_eFnR, ev_eIter, ev_eRange, ev_eLc, ev_eSl, ev_pNone, ev_pSome, ev_mFrz, ev_sNx, ev_sSet, ev_sRet, ev_sSeq, ev_sIf, ev_sUnp, ev_sNew, ev_fLst, ev_fCat, ev_sApp, ev_sFrz, ev_sFor, ev_vNil, ev_vVal, ev_vOwn, ev_sTup, ev_eRd, ev_sRd, and_self, true_and, and_true, eq_self, eqS, eqI, neS, neI, decide_true, decide_false, decide_eq_true_eq, Bool.not_true, Bool.not_false, initE, setPat, setAll, op1, isBl, flFin, iterD, seqOf, List.length_cons, List.length_nil, Bool.false_eq_true, if_false, if_true, List.nil_append, List.map_cons, List.map_nil, List.replicate, List.cons_append, Option.bind_some, Option.map_some, List.set_cons_succ, List.set_cons_zero, List.getElem?_cons_zero, List.getElem?_cons_succ, Nat.reduceAdd, f1]
  have e : mf_shares_text [.tup (sh.map .int)] rd = (b_shares_text (initE false [.tup (sh.map .int)] 1) rd).bind flFin := rfl
  rw [e]
  have m1 : sh.map (fun i => D.str (nt i)) = (sh.map nt).map D.str := by simp
  rw [m1] at lc
  unfold shT
  by_cases z : sh = []
  · subst z
    rfl
  · have z2 : (((sh.length : Nat) : Int) = 0) = False := by
      cases sh with
      | nil => exact absurd rfl z
      | cons s r =>
        simp
        omega
    simp only [ev_bind1, ev_lift, ev_eC, ev_eVar, ev_eOp, ev_eUn, ev_eT, ev_mAnd, ev_mOr, ev_mNot, ev_eAnd, ev_eIf, ev_chain, ev_aNil, ev_aCons, ev_eTup, ev_eLst, ev_eCall, ev_eFn, ev_eFnR, ev_eIter, ev_eRange, ev_eLc, ev_eSl, ev_pNone, ev_pSome, ev_mFrz, ev_sNx, ev_sSet, ev_sRet, ev_sSeq, ev_sIf, ev_sUnp, ev_sNew, ev_fLst, ev_fCat, ev_sApp, ev_sFrz, ev_sFor, ev_vNil, ev_vVal, ev_vOwn, ev_sTup, ev_eRd, ev_sRd, and_self, true_and, and_true, eq_self, eqS, eqI, neS, neI, decide_true, decide_false, decide_eq_true_eq, Bool.not_true, Bool.not_false, initE, setPat, setAll, op1, isBl, flFin, iterD, seqOf, List.length_cons, List.length_nil, Bool.false_eq_true, if_false, if_true, List.nil_append, List.map_cons, List.map_nil, List.replicate, List.cons_append, Option.bind_some, Option.map_some, List.set_cons_succ, List.set_cons_zero, List.getElem?_cons_zero, List.getElem?_cons_succ, Nat.reduceAdd, b_shares_text, opLen, List.length_map, z, z2, wipeE, l12, lc, opJoin, strs_map, j1]
theorem row_text_eq {p : BR} (h : p.Ok) (rd : Rdr) : mf_row_text [p.d] rd = some (.str p.line, rd) := by
  have e : mf_row_text [p.d] rd = (b_row_text (initE false [p.d] 4) rd).bind flFin := rfl
  rw [e]
  have l6 : (4 : Nat) ≤ sizeLine := by decide
  have d1 : (("paid" : Str) = ("buy" : Str)) = False := by
    simp only [eq_iff_iff, iff_false]
    decide +kernel
  cases p with
  | buy d k a =>
    obtain ⟨h1, h2, h3⟩ := h
    have f1 : ∀ r, mf_number_text [.int d] r = some (.str (nt d), r) := number_text_eq h1
    have f2 : ∀ r, mf_number_text [.int a] r = some (.str (nt a), r) := number_text_eq h3
    have j2 := sep_join (ys := [("buy" : Str), nt d, k, nt a]) (by
      intro y hy
      simp only [List.mem_cons, List.not_mem_nil, or_false] at hy
      rcases hy with rfl | rfl | rfl | rfl
      · exact w_buy.mono (by omega)
      · exact (nt_as h1).mono (by omega)
      · exact h2.mono (by omega)
      · exact (nt_as h3).mono (by omega)) (by simp)
    simp only [ev_bind1, ev_lift, ev_eC, ev_eVar, ev_eOp, ev_eUn, ev_eT, ev_mAnd, ev_mOr, ev_mNot, ev_eAnd, ev_eIf, ev_chain, ev_aNil, ev_aCons, ev_eTup, ev_eLst, ev_eCall, ev_eFn, ev_eFnR, ev_eIter, ev_eRange, ev_eLc, ev_eSl, ev_pNone, ev_pSome, ev_mFrz, ev_sNx, ev_sSet, ev_sRet, ev_sSeq, ev_sIf, ev_sUnp, ev_sNew, ev_fLst, ev_fCat, ev_sApp, ev_sFrz, ev_sFor, ev_vNil, ev_vVal, ev_vOwn, ev_sTup, ev_eRd, ev_sRd, and_self, true_and, and_true, eq_self, eqS, eqI, neS, neI, decide_true, decide_false, decide_eq_true_eq, Bool.not_true, Bool.not_false, initE, setPat, setAll, op1, isBl, flFin, iterD, seqOf, List.length_cons, List.length_nil, Bool.false_eq_true, if_false, if_true, List.nil_append, List.map_cons, List.map_nil, List.replicate, List.cons_append, Option.bind_some, Option.map_some, List.set_cons_succ, List.set_cons_zero, List.getElem?_cons_zero, List.getElem?_cons_succ, Nat.reduceAdd, b_row_text, BR.d, BR.line, decide_true, f1, f2, opJoin, seqOf, strsOf, j2, l6, Nat.reduceAdd, flFin]
  | paid d k sh =>
    obtain ⟨h1, h2, h3, h4⟩ := h
    have f1 : ∀ r, mf_number_text [.int d] r = some (.str (nt d), r) := number_text_eq h1
    have f2 : ∀ r, mf_shares_text [.tup (sh.map .int)] r = some (.str (shT sh), r) := shares_text_eq h3 h4
    have j2 := sep_join (ys := [("paid" : Str), nt d, k, shT sh]) (by
      intro y hy
      simp only [List.mem_cons, List.not_mem_nil, or_false] at hy
      rcases hy with rfl | rfl | rfl | rfl
      · exact w_paid.mono (by omega)
      · exact (nt_as h1).mono (by omega)
      · exact h2.mono (by omega)
      · exact shT_as h3 h4) (by simp)
    simp only [ev_bind1, ev_lift, ev_eC, ev_eVar, ev_eOp, ev_eUn, ev_eT, ev_mAnd, ev_mOr, ev_mNot, ev_eAnd, ev_eIf, ev_chain, ev_aNil, ev_aCons, ev_eTup, ev_eLst, ev_eCall, ev_eFn, ev_eFnR, ev_eIter, ev_eRange, ev_eLc, ev_eSl, ev_pNone, ev_pSome, ev_mFrz, ev_sNx, ev_sSet, ev_sRet, ev_sSeq, ev_sIf, ev_sUnp, ev_sNew, ev_fLst, ev_fCat, ev_sApp, ev_sFrz, ev_sFor, ev_vNil, ev_vVal, ev_vOwn, ev_sTup, ev_eRd, ev_sRd, and_self, true_and, and_true, eq_self, eqS, eqI, neS, neI, decide_true, decide_false, decide_eq_true_eq, Bool.not_true, Bool.not_false, initE, setPat, setAll, op1, isBl, flFin, iterD, seqOf, List.length_cons, List.length_nil, Bool.false_eq_true, if_false, if_true, List.nil_append, List.map_cons, List.map_nil, List.replicate, List.cons_append, Option.bind_some, Option.map_some, List.set_cons_succ, List.set_cons_zero, List.getElem?_cons_zero, List.getElem?_cons_succ, Nat.reduceAdd, b_row_text, BR.d, d1, decide_false, f1, f2, opJoin, seqOf, strsOf, j2, l6, Nat.reduceAdd, flFin]
    rfl
end My

set_option Elab.async false
set_option linter.all false
set_option maxRecDepth 100000
set_option maxHeartbeats 1000000
namespace My
open PySem PySem.Spec PyProof.Rows L2 FW
theorem sm_nil : SeqAt.shaped (toPy (.tup [])) = true := by decide +kernel
theorem shaped_tup {ds : List D} {m k : Nat} (h : ∀ d ∈ ds, Sm m k d) (hk : k < 64) : SeqAt.shaped (toPy (.tup ds)) = true := (sm_tup h (Nat.le_refl _)).shaped (by omega)
theorem ne_tupNil {ds : List D} {m k : Nat} (h : ∀ d ∈ ds, Sm m k d) (hk : k < 64) : opNe (.tup ds) (.tup []) = some (.bl (!decide (ds = []))) := by
  have e : opNe (.tup ds) (.tup []) = if SeqAt.shaped (toPy (.tup ds)) = true ∧ SeqAt.shaped (toPy (.tup [])) = true then some (.bl (!PyData.eqv (toPy (.tup ds)) (toPy (.tup [])))) else none := rfl
  rw [e, if_pos ⟨shaped_tup h hk, sm_nil⟩]
  cases ds with
  | nil => rfl
  | cons d ds => rfl
theorem sm_strs {ks : List Str} {n : Nat} (h : ∀ k ∈ ks, As n k) : ∀ d ∈ ks.map D.str, Sm (4 * n + 2) 0 d := by
  intro d hd
  obtain ⟨s, hs, rfl⟩ := List.mem_map.mp hd
  exact sm_str (h s hs)
theorem sm_ints {ks : List Int} (h : ∀ k ∈ ks, OkI k) : ∀ d ∈ ks.map D.int, Sm 1921 0 d := by
  intro d hd
  obtain ⟨s, hs, rfl⟩ := List.mem_map.mp hd
  exact sm_int (h s hs).log
theorem one_word_strs {ks : List Str} (h : ∀ k ∈ ks, Wd k) (hn : ks ≠ []) (hl : ks.length ≤ 12) (rd : Rdr) : mf__law_one_word [.tup (ks.map .str)] rd = some (.str (Txt.join com ks), rd) := by
  have j1 := com_join h hl (by omega)
  have l12 : ks.length ≤ sizeLine := Nat.le_trans hl (by decide)
  have l0 : (0 : Nat) ≤ sizeLine := Nat.zero_le _
  have lc := lcGo_map (f := D.str) (g := D.str) (i := 1) (env := [.val (.tup (ks.map .str)), .un]) (rd := rd) (e := eCall (op1 opStr) (aCons (eVar 1) aNil)) (as := ks) fun s hs => by
    simp only [ev_bind1, ev_lift, ev_eC, ev_eVar, ev_eOp, ev_eUn, ev_eT, ev_mAnd, ev_mOr, ev_mNot, ev_eAnd, ev_eIf, ev_chain, ev_aNil, ev_aCons, ev_eTup, ev_eLst, ev_eCall, ev_eFn, ev_eFnR, ev_eIter, ev_eRange, ev_eLc, ev_eSl, ev_pNone, ev_pSome, ev_mFrz, ev_sNx, ev_sSet, ev_sRet, ev_sSeq, ev_sIf, ev_sUnp, ev_sNew, ev_fLst, ev_fCat, ev_sApp, ev_sFrz, ev_sFor, ev_vNil, ev_vVal, ev_vOwn, ev_sTup, ev_eRd, ev_sRd, and_self, true_and, and_true, eq_self, eqS, eqI, neS, neI, decide_true, decide_false, decide_eq_true_eq, Bool.not_true, Bool.not_false, initE, setPat, setAll, op1, isBl, flFin, iterD, seqOf, List.length_cons, List.length_nil, Bool.false_eq_true, if_false, if_true, List.nil_append, List.map_cons, List.map_nil, List.replicate, List.cons_append, Option.bind_some, Option.map_some, List.set_cons_succ, List.set_cons_zero, List.getElem?_cons_zero, List.getElem?_cons_succ, Nat.reduceAdd, opStr]
  have e : mf__law_one_word [.tup (ks.map .str)] rd = (b__law_one_word (initE false [.tup (ks.map .str)] 1) rd).bind flFin := rfl
  have ne := ne_tupNil (sm_strs h) (by omega)
  have z : (ks.map D.str = []) = False := by simp [hn]
  rw [e]
  simp only [ev_bind1, ev_lift, ev_eC, ev_eVar, ev_eOp, ev_eUn, ev_eT, ev_mAnd, ev_mOr, ev_mNot, ev_eAnd, ev_eIf, ev_chain, ev_aNil, ev_aCons, ev_eTup, ev_eLst, ev_eCall, ev_eFn, ev_eFnR, ev_eIter, ev_eRange, ev_eLc, ev_eSl, ev_pNone, ev_pSome, ev_mFrz, ev_sNx, ev_sSet, ev_sRet, ev_sSeq, ev_sIf, ev_sUnp, ev_sNew, ev_fLst, ev_fCat, ev_sApp, ev_sFrz, ev_sFor, ev_vNil, ev_vVal, ev_vOwn, ev_sTup, ev_eRd, ev_sRd, and_self, true_and, and_true, eq_self, eqS, eqI, neS, neI, decide_true, decide_false, decide_eq_true_eq, Bool.not_true, Bool.not_false, initE, setPat, setAll, op1, isBl, flFin, iterD, seqOf, List.length_cons, List.length_nil, Bool.false_eq_true, if_false, if_true, List.nil_append, List.map_cons, List.map_nil, List.replicate, List.cons_append, Option.bind_some, Option.map_some, List.set_cons_succ, List.set_cons_zero, List.getElem?_cons_zero, List.getElem?_cons_succ, Nat.reduceAdd, b__law_one_word, l0, ne, z, List.length_map, wipeE, l12, lc, opJoin, strs_map, j1]
theorem one_word_ints {sh : List Int} (h : ∀ s ∈ sh, OkI s) (hl : sh.length ≤ 12) (rd : Rdr) : mf__law_one_word [.tup (sh.map .int)] rd = some (.str (shT sh), rd) := by
  have j1 := com_join (shares_as h) (by simpa using hl) (by omega)
  have l12 : sh.length ≤ sizeLine := Nat.le_trans hl (by decide)
  have l0 : (0 : Nat) ≤ sizeLine := Nat.zero_le _
  have lc := lcGo_map (f := D.int) (g := fun i => D.str (nt i)) (i := 1) (env := [.val (.tup (sh.map .int)), .un]) (rd := rd) (e := eCall (op1 opStr) (aCons (eVar 1) aNil)) (as := sh) fun s hs => by
    have := (h s hs).log
    simp only [ev_bind1, ev_lift, ev_eC, ev_eVar, ev_eOp, ev_eUn, ev_eT, ev_mAnd, ev_mOr, ev_mNot, ev_eAnd, ev_eIf, ev_chain, ev_aNil, ev_aCons, ev_eTup, ev_eLst, ev_eCall, ev_eFn, ev_eFnR, ev_eIter, ev_eRange, ev_eLc, ev_eSl, ev_pNone, ev_pSome, ev_mFrz, ev_sNx, ev_sSet, ev_sRet, ev_sSeq, ev_sIf, ev_sUnp, ev_sNew, ev_fLst, ev_fCat, ev_sApp, ev_sFrz, ev_sFor, ev_vNil, ev_vVal, ev_vOwn, ev_sTup, ev_eRd, ev_sRd, and_self, true_and, and_true, eq_self, eqS, eqI, neS, neI, decide_true, decide_false, decide_eq_true_eq, Bool.not_true, Bool.not_false, initE, setPat, setAll, op1, isBl, flFin, iterD, seqOf, List.length_cons, List.length_nil, Bool.false_eq_true, if_false, if_true, List.nil_append, List.map_cons, List.map_nil, List.replicate, List.cons_append, Option.bind_some, Option.map_some, List.set_cons_succ, List.set_cons_zero, List.getElem?_cons_zero, List.getElem?_cons_succ, Nat.reduceAdd, opStr, this]
  have m1 : sh.map (fun i => D.str (nt i)) = (sh.map nt).map D.str := by simp
  rw [m1] at lc
  have e : mf__law_one_word [.tup (sh.map .int)] rd = (b__law_one_word (initE false [.tup (sh.map .int)] 1) rd).bind flFin := rfl
  have ne := ne_tupNil (sm_ints h) (by omega)
  rw [e]
  unfold shT
  by_cases hz : sh = []
  · subst hz
    rfl
  · have z : (sh.map D.int = []) = False := by simp [hz]
    simp only [ev_bind1, ev_lift, ev_eC, ev_eVar, ev_eOp, ev_eUn, ev_eT, ev_mAnd, ev_mOr, ev_mNot, ev_eAnd, ev_eIf, ev_chain, ev_aNil, ev_aCons, ev_eTup, ev_eLst, ev_eCall, ev_eFn, ev_eFnR, ev_eIter, ev_eRange, ev_eLc, ev_eSl, ev_pNone, ev_pSome, ev_mFrz, ev_sNx, ev_sSet, ev_sRet, ev_sSeq, ev_sIf, ev_sUnp, ev_sNew, ev_fLst, ev_fCat, ev_sApp, ev_sFrz, ev_sFor, ev_vNil, ev_vVal, ev_vOwn, ev_sTup, ev_eRd, ev_sRd, and_self, true_and, and_true, eq_self, eqS, eqI, neS, neI, decide_true, decide_false, decide_eq_true_eq, Bool.not_true, Bool.not_false, initE, setPat, setAll, op1, isBl, flFin, iterD, seqOf, List.length_cons, List.length_nil, Bool.false_eq_true, if_false, if_true, List.nil_append, List.map_cons, List.map_nil, List.replicate, List.cons_append, Option.bind_some, Option.map_some, List.set_cons_succ, List.set_cons_zero, List.getElem?_cons_zero, List.getElem?_cons_succ, Nat.reduceAdd, b__law_one_word, l0, ne, z, hz, List.length_map, wipeE, l12, lc, opJoin, strs_map, j1]
theorem purse_line_eq {p : BP} (h : p.Ok) (rd : Rdr) : mf__law_purse_line [p.d] rd = some (.str p.line, rd) := by
  have j2 := sep_join (purse_words h) (by simp)
  have l6 : (6 : Nat) ≤ sizeLine := by decide
  have f1 : ∀ r, mf__law_one_word [.tup (p.ks.map .str)] r = some (.str (Txt.join com p.ks), r) := one_word_strs h.ks h.kn h.kl
  have g1 := h.b.log
  have g2 := h.e.log
  have e : mf__law_purse_line [p.d] rd = (b__law_purse_line (initE false [p.d] 5) rd).bind flFin := rfl
  rw [e]
  simp only [ev_bind1, ev_lift, ev_eC, ev_eVar, ev_eOp, ev_eUn, ev_eT, ev_mAnd, ev_mOr, ev_mNot, ev_eAnd, ev_eIf, ev_chain, ev_aNil, ev_aCons, ev_eTup, ev_eLst, ev_eCall, ev_eFn, ev_eFnR, ev_eIter, ev_eRange, ev_eLc, ev_eSl, ev_pNone, ev_pSome, ev_mFrz, ev_sNx, ev_sSet, ev_sRet, ev_sSeq, ev_sIf, ev_sUnp, ev_sNew, ev_fLst, ev_fCat, ev_sApp, ev_sFrz, ev_sFor, ev_vNil, ev_vVal, ev_vOwn, ev_sTup, ev_eRd, ev_sRd, and_self, true_and, and_true, eq_self, eqS, eqI, neS, neI, decide_true, decide_false, decide_eq_true_eq, Bool.not_true, Bool.not_false, initE, setPat, setAll, op1, isBl, flFin, iterD, seqOf, List.length_cons, List.length_nil, Bool.false_eq_true, if_false, if_true, List.nil_append, List.map_cons, List.map_nil, List.replicate, List.cons_append, Option.bind_some, Option.map_some, List.set_cons_succ, List.set_cons_zero, List.getElem?_cons_zero, List.getElem?_cons_succ, Nat.reduceAdd, b__law_purse_line, BP.d, f1, opStr, g1, g2, opJoin, strsOf, j2, l6]
  rfl
theorem addS {a b : Str} {n m : Nat} (h : As n a) (k : As m b) (hl : n + m ≤ 16777216) : opAdd (.str a) (.str b) = some (.str (a ++ b)) := by
  have e : opAdd (.str a) (.str b) = if a.length + b.length ≤ sizeLine then some (.str (a ++ b)) else none := rfl
  rw [e, if_pos]
  have h1 := h.1
  have h2 := k.1
  have h3 : sizeLine = 16777216 := by decide
  omega
theorem w_limit1 : As 8 ("limit " : Str) := ⟨by decide +kernel, by decide +kernel⟩
theorem limit_line_eq {p : BL} (h : p.Ok) (rd : Rdr) : mf__law_limit_line [p.d] rd = some (.str p.line, rd) := by
  have f1 : ∀ r, mf__law_one_word [.tup (p.ns.map .str)] r = some (.str (Txt.join com p.ns), r) := one_word_strs h.ns h.kn h.kl
  have g1 := h.b.log
  have g2 := h.e.log
  have g3 := h.c.log
  have k1 := ks_as h.ns h.kl
  have a0 := w_limit1.append k1
  have a1 := a0.append sep_as
  have a2 := a1.append (nt_as h.b)
  have a3 := a2.append sep_as
  have a4 := a3.append (nt_as h.e)
  have a5 := a4.append sep_as
  have s0 := addS w_limit1 k1 (by omega)
  have s1 := addS a0 sep_as (by omega)
  have s2 := addS a1 (nt_as h.b) (by omega)
  have s3 := addS a2 sep_as (by omega)
  have s4 := addS a3 (nt_as h.e) (by omega)
  have s5 := addS a4 sep_as (by omega)
  have s6 := addS a5 (nt_as h.c) (by omega)
  have e : mf__law_limit_line [p.d] rd = (b__law_limit_line (initE false [p.d] 4) rd).bind flFin := rfl
  rw [e]
  simp only [ev_bind1, ev_lift, ev_eC, ev_eVar, ev_eOp, ev_eUn, ev_eT, ev_mAnd, ev_mOr, ev_mNot, ev_eAnd, ev_eIf, ev_chain, ev_aNil, ev_aCons, ev_eTup, ev_eLst, ev_eCall, ev_eFn, ev_eFnR, ev_eIter, ev_eRange, ev_eLc, ev_eSl, ev_pNone, ev_pSome, ev_mFrz, ev_sNx, ev_sSet, ev_sRet, ev_sSeq, ev_sIf, ev_sUnp, ev_sNew, ev_fLst, ev_fCat, ev_sApp, ev_sFrz, ev_sFor, ev_vNil, ev_vVal, ev_vOwn, ev_sTup, ev_eRd, ev_sRd, and_self, true_and, and_true, eq_self, eqS, eqI, neS, neI, decide_true, decide_false, decide_eq_true_eq, Bool.not_true, Bool.not_false, initE, setPat, setAll, op1, isBl, flFin, iterD, seqOf, List.length_cons, List.length_nil, Bool.false_eq_true, if_false, if_true, List.nil_append, List.map_cons, List.map_nil, List.replicate, List.cons_append, Option.bind_some, Option.map_some, List.set_cons_succ, List.set_cons_zero, List.getElem?_cons_zero, List.getElem?_cons_succ, Nat.reduceAdd, b__law_limit_line, BL.d, f1, opStr, g1, g2, g3, s0, s1, s2, s3, s4, s5, s6]
  have e2 : ("limit " : Str) = ("limit" : Str) ++ sep := by decide +kernel
  rw [e2]
  rfl
theorem row_line_eq {p : BR} (h : p.Ok) (rd : Rdr) : mf__law_row_line [p.d] rd = some (.str p.line, rd) := by
  have e : mf__law_row_line [p.d] rd = (b__law_row_line (initE false [p.d] 4) rd).bind flFin := rfl
  rw [e]
  have d1 : (("paid" : Str) = ("buy" : Str)) = False := by
    simp only [eq_iff_iff, iff_false]
    decide +kernel
  cases p with
  | buy d k a =>
    obtain ⟨h1, h2, h3⟩ := h
    have g1 := h1.log
    have g2 := h3.log
    have a1 := w_buy.append sep_as
    have a2 := a1.append (nt_as h1)
    have a3 := a2.append sep_as
    have a4 := a3.append h2
    have a5 := a4.append sep_as
    have s1 := addS w_buy sep_as (by omega)
    have s2 := addS a1 (nt_as h1) (by omega)
    have s3 := addS a2 sep_as (by omega)
    have s4 := addS a3 h2 (by omega)
    have s5 := addS a4 sep_as (by omega)
    have s6 := addS a5 (nt_as h3) (by omega)
    simp only [ev_bind1, ev_lift, ev_eC, ev_eVar, ev_eOp, ev_eUn, ev_eT, ev_mAnd, ev_mOr, ev_mNot, ev_eAnd, ev_eIf, ev_chain, ev_aNil, ev_aCons, ev_eTup, ev_eLst, ev_eCall, ev_eFn, ev_eFnR, ev_eIter, ev_eRange, ev_eLc, ev_eSl, ev_pNone, ev_pSome, ev_mFrz, ev_sNx, ev_sSet, ev_sRet, ev_sSeq, ev_sIf, ev_sUnp, ev_sNew, ev_fLst, ev_fCat, ev_sApp, ev_sFrz, ev_sFor, ev_vNil, ev_vVal, ev_vOwn, ev_sTup, ev_eRd, ev_sRd, and_self, true_and, and_true, eq_self, eqS, eqI, neS, neI, decide_true, decide_false, decide_eq_true_eq, Bool.not_true, Bool.not_false, initE, setPat, setAll, op1, isBl, flFin, iterD, seqOf, List.length_cons, List.length_nil, Bool.false_eq_true, if_false, if_true, List.nil_append, List.map_cons, List.map_nil, List.replicate, List.cons_append, Option.bind_some, Option.map_some, List.set_cons_succ, List.set_cons_zero, List.getElem?_cons_zero, List.getElem?_cons_succ, Nat.reduceAdd, b__law_row_line, BR.d, opStr, g1, g2, s1, s2, s3, s4, s5, s6]
    rfl
  | paid d k sh =>
    obtain ⟨h1, h2, h3, h4⟩ := h
    have f1 : ∀ r, mf__law_one_word [.tup (sh.map .int)] r = some (.str (shT sh), r) := one_word_ints h3 h4
    have g1 := h1.log
    have a1 := w_paid.append sep_as
    have a2 := a1.append (nt_as h1)
    have a3 := a2.append sep_as
    have a4 := a3.append h2
    have a5 := a4.append sep_as
    have s1 := addS w_paid sep_as (by omega)
    have s2 := addS a1 (nt_as h1) (by omega)
    have s3 := addS a2 sep_as (by omega)
    have s4 := addS a3 h2 (by omega)
    have s5 := addS a4 sep_as (by omega)
    have s6 := addS a5 (shT_as h3 h4) (by omega)
    simp only [ev_bind1, ev_lift, ev_eC, ev_eVar, ev_eOp, ev_eUn, ev_eT, ev_mAnd, ev_mOr, ev_mNot, ev_eAnd, ev_eIf, ev_chain, ev_aNil, ev_aCons, ev_eTup, ev_eLst, ev_eCall, ev_eFn, ev_eFnR, ev_eIter, ev_eRange, ev_eLc, ev_eSl, ev_pNone, ev_pSome, ev_mFrz, ev_sNx, ev_sSet, ev_sRet, ev_sSeq, ev_sIf, ev_sUnp, ev_sNew, ev_fLst, ev_fCat, ev_sApp, ev_sFrz, ev_sFor, ev_vNil, ev_vVal, ev_vOwn, ev_sTup, ev_eRd, ev_sRd, and_self, true_and, and_true, eq_self, eqS, eqI, neS, neI, decide_true, decide_false, decide_eq_true_eq, Bool.not_true, Bool.not_false, initE, setPat, setAll, op1, isBl, flFin, iterD, seqOf, List.length_cons, List.length_nil, Bool.false_eq_true, if_false, if_true, List.nil_append, List.map_cons, List.map_nil, List.replicate, List.cons_append, Option.bind_some, Option.map_some, List.set_cons_succ, List.set_cons_zero, List.getElem?_cons_zero, List.getElem?_cons_succ, Nat.reduceAdd, b__law_row_line, BR.d, opStr, g1, d1, f1, s1, s2, s3, s4, s5, s6]
    rfl
end My

set_option Elab.async false
set_option linter.all false
set_option maxRecDepth 100000
set_option maxHeartbeats 1000000
namespace My
open PySem PySem.Spec PyProof.Rows L2 FW
theorem BP.line_as {p : BP} (h : p.Ok) : As 92260 p.line := by
  refine (sep_as.join (n := 1921) (k := 6) (ys := _) (fun y hy => ?_) (by simp)).mono (by omega)
  simp only [List.mem_cons, List.not_mem_nil, or_false] at hy
  rcases hy with rfl | rfl | rfl | rfl | rfl | rfl
  · exact w_purse.mono (by omega)
  · exact h.nm.mono (by omega)
  · exact h.sp.mono (by omega)
  · exact nt_as h.b
  · exact nt_as h.e
  · exact (ks_as h.ks h.kl).mono (by omega)
theorem BL.line_as {p : BL} (h : p.Ok) : As 92260 p.line := by
  refine (sep_as.join (n := 1921) (k := 5) (ys := _) (fun y hy => ?_) (by simp)).mono (by omega)
  simp only [List.mem_cons, List.not_mem_nil, or_false] at hy
  rcases hy with rfl | rfl | rfl | rfl | rfl
  · exact w_limit.mono (by omega)
  · exact (ks_as h.ns h.kl).mono (by omega)
  · exact nt_as h.b
  · exact nt_as h.e
  · exact nt_as h.c
theorem shT_as2 {sh : List Int} (h : ∀ s ∈ sh, OkI s) (hl : sh.length ≤ 12) : As 23064 (shT sh) := by
  unfold shT
  split
  · exact w_dash.mono (by omega)
  · exact (com_as.join (shares_as h) (k := 12) (by simpa using hl)).mono (by omega)
theorem BR.line_as {p : BR} (h : p.Ok) : As 92260 p.line := by
  cases p with
  | buy d k a =>
    obtain ⟨h1, h2, h3⟩ := h
    refine (sep_as.join (n := 1921) (k := 4) (ys := _) (fun y hy => ?_) (by simp)).mono (by omega)
    simp only [List.mem_cons, List.not_mem_nil, or_false] at hy
    rcases hy with rfl | rfl | rfl | rfl
    · exact w_buy.mono (by omega)
    · exact nt_as h1
    · exact h2.mono (by omega)
    · exact nt_as h3
  | paid d k sh =>
    obtain ⟨h1, h2, h3, h4⟩ := h
    refine (sep_as.join (n := 23064) (k := 4) (ys := _) (fun y hy => ?_) (by simp)).mono (by omega)
    simp only [List.mem_cons, List.not_mem_nil, or_false] at hy
    rcases hy with rfl | rfl | rfl | rfl
    · exact w_paid.mono (by omega)
    · exact (nt_as h1).mono (by omega)
    · exact h2.mono (by omega)
    · exact shT_as2 h3 h4
abbrev nl : Str := "\n"
theorem nl_as : As 1 nl := ⟨by decide +kernel, by decide +kernel⟩
def BB.lines (b : BB) : List Str := b.ps.map BP.line ++ b.ls.map BL.line ++ b.rs.map BR.line
def BB.text (b : BB) : Str := Txt.join nl b.lines
theorem BB.lines_as {b : BB} (h : b.Ok) : ∀ y ∈ b.lines, As 92260 y := by
  intro y hy
  simp only [BB.lines, List.mem_append, List.mem_map] at hy
  rcases hy with (⟨p, hp, rfl⟩ | ⟨p, hp, rfl⟩) | ⟨p, hp, rfl⟩
  · exact BP.line_as (h.ps p hp)
  · exact BL.line_as (h.ls p hp)
  · exact BR.line_as (h.rs p hp)
theorem BB.lines_len {b : BB} (h : b.Ok) : b.lines.length ≤ 36 := by
  have h1 := h.pl
  have h2 := h.ll
  have h3 := h.rl
  simp only [BB.lines, List.length_append, List.length_map]
  omega
theorem BB.text_as {b : BB} (h : b.Ok) : As (36 * 92261) b.text := nl_as.join (BB.lines_as h) (BB.lines_len h)
theorem BB.joined {b : BB} (h : b.Ok) : joinD nl b.lines = some (.str b.text) := join_ok (by decide +kernel) (BB.lines_as h) (BB.lines_len h) (by omega)

/-! ### the data is small -/
theorem sm5 {m k : Nat} {a b c d e : D} (h1 : Sm m k a) (h2 : Sm m k b) (h3 : Sm m k c) (h4 : Sm m k d) (h5 : Sm m k e) : Sm (5 * (m + 2) + 4) (k + 1) (.tup [a, b, c, d, e]) := by
  refine sm_tup (fun x hx => ?_) (by simp)
  simp only [List.mem_cons, List.not_mem_nil, or_false] at hx
  rcases hx with rfl | rfl | rfl | rfl | rfl <;> assumption
theorem sm4 {m k : Nat} {a b c d : D} (h1 : Sm m k a) (h2 : Sm m k b) (h3 : Sm m k c) (h4 : Sm m k d) : Sm (4 * (m + 2) + 4) (k + 1) (.tup [a, b, c, d]) := by
  refine sm_tup (fun x hx => ?_) (by simp)
  simp only [List.mem_cons, List.not_mem_nil, or_false] at hx
  rcases hx with rfl | rfl | rfl | rfl <;> assumption
theorem sm3 {m k : Nat} {a b c : D} (h1 : Sm m k a) (h2 : Sm m k b) (h3 : Sm m k c) : Sm (3 * (m + 2) + 4) (k + 1) (.tup [a, b, c]) := by
  refine sm_tup (fun x hx => ?_) (by simp)
  simp only [List.mem_cons, List.not_mem_nil, or_false] at hx
  rcases hx with rfl | rfl | rfl <;> assumption
theorem sm_wd {s : Str} (h : Wd s) : Sm 1921 1 (.str s) := (sm_str h).mono (by omega) (by omega)
theorem sm_nt {i : Int} (h : OkI i) : Sm 1921 1 (.int i) := (sm_int h.log).mono (by omega) (by omega)
theorem BP.sm {p : BP} (h : p.Ok) : Sm 100000 2 p.d := by
  refine Sm.mono (sm5 (m := 1921) (k := 1) (sm_wd h.nm) (sm_wd h.sp) ((sm_tup (sm_strs h.ks) (l := 12) (by simpa using h.kl)).mono (by omega) (by omega)) (sm_nt h.b) (sm_nt h.e)) (by omega) (by omega)
theorem BL.sm {p : BL} (h : p.Ok) : Sm 100000 2 p.d := by
  refine Sm.mono (sm4 (m := 1921) (k := 1) ((sm_tup (sm_strs h.ns) (l := 12) (by simpa using h.kl)).mono (by omega) (by omega)) (sm_nt h.b) (sm_nt h.e) (sm_nt h.c)) (by omega) (by omega)
theorem BR.sm {p : BR} (h : p.Ok) : Sm 100000 2 p.d := by
  cases p with
  | buy d k a =>
    obtain ⟨h1, h2, h3⟩ := h
    exact Sm.mono (sm4 (m := 1921) (k := 1) (sm_wd w_buy) (sm_nt h1) (sm_wd h2) (sm_nt h3)) (by omega) (by omega)
  | paid d k sh =>
    obtain ⟨h1, h2, h3, h4⟩ := h
    exact Sm.mono (sm4 (m := 23080) (k := 1) ((sm_wd w_paid).mono (by omega) (by omega)) ((sm_nt h1).mono (by omega) (by omega)) ((sm_wd h2).mono (by omega) (by omega)) ((sm_tup (sm_ints h3) (l := 12) (by simpa using h4)).mono (by omega) (by omega))) (by omega) (by omega)
theorem sm_maps {A : Type} {f : A → D} {as : List A} {m k : Nat} (h : ∀ a ∈ as, Sm m k (f a)) : ∀ d ∈ as.map f, Sm m k d := by
  intro d hd
  obtain ⟨a, ha, rfl⟩ := List.mem_map.mp hd
  exact h a ha
theorem BB.sm {b : BB} (h : b.Ok) : Sm 4000000 4 b.d := by
  refine Sm.mono (sm3 (m := 1300000) (k := 3) ?_ ?_ ?_) (by omega) (by omega)
  · exact (sm_tup (sm_maps fun p hp => BP.sm (h.ps p hp)) (l := 12) (by simpa using h.pl)).mono (by omega) (by omega)
  · exact (sm_tup (sm_maps fun p hp => BL.sm (h.ls p hp)) (l := 12) (by simpa using h.ll)).mono (by omega) (by omega)
  · exact (sm_tup (sm_maps fun p hp => BR.sm (h.rs p hp)) (l := 12) (by simpa using h.rl)).mono (by omega) (by omega)

/-! ### pages -/
theorem ix3a {a b c : D} : opIx (.tup [a, b, c]) (.int 0) = some a := rfl
theorem ix3b {a b c : D} : opIx (.tup [a, b, c]) (.int 1) = some b := rfl
theorem ix3c {a b c : D} : opIx (.tup [a, b, c]) (.int 2) = some c := rfl
theorem addL {xs ys : List D} (h : xs.length + ys.length ≤ 100) : opAdd (.lst xs) (.lst ys) = some (.lst (xs ++ ys)) := by
  have e : opAdd (.lst xs) (.lst ys) = if xs.length + ys.length ≤ sizeLine then some (.lst (xs ++ ys)) else none := rfl
  have h3 : sizeLine = 16777216 := by decide
  rw [e, if_pos (by omega)]
abbrev ln (s : Str) : D := .str s
theorem lines_d (b : BB) : b.ps.map (fun p => D.str p.line) ++ b.ls.map (fun p => D.str p.line) ++ b.rs.map (fun p => D.str p.line) = b.lines.map D.str := by
  simp only [BB.lines, List.map_append, List.map_map]
  rfl
theorem szl {n : Nat} (h : n ≤ 12) : n ≤ sizeLine := Nat.le_trans h (by decide)
theorem lc_ps {b : BB} (h : b.Ok) {i : Nat} {env : List SV} (hi : i < env.length) {rd : Rdr} {fm : FM} (hf : ∀ p : BP, p.Ok → ∀ r, fm [p.d] r = some (.str p.line, r)) : lcGo (.nm i) mYes (eFn fm 1 (aCons (eVar i) aNil)) (b.ps.map BP.d) env rd = some (b.ps.map (fun p => D.str p.line), rd) := by
  refine lcGo_map fun p hp => ?_
  have e : (env.set i (.val p.d))[i]? = some (.val p.d) := List.getElem?_set_self hi
  simp only [ev_bind1, ev_lift, ev_eC, ev_eVar, ev_eOp, ev_eUn, ev_eT, ev_mAnd, ev_mOr, ev_mNot, ev_eAnd, ev_eIf, ev_chain, ev_aNil, ev_aCons, ev_eTup, ev_eLst, ev_eCall, ev_eFn, ev_eFnR, ev_eIter, ev_eRange, ev_eLc, ev_eSl, ev_pNone, ev_pSome, ev_mFrz, ev_sNx, ev_sSet, ev_sRet, ev_sSeq, ev_sIf, ev_sUnp, ev_sNew, ev_fLst, ev_fCat, ev_sApp, ev_sFrz, ev_sFor, ev_vNil, ev_vVal, ev_vOwn, ev_sTup, ev_eRd, ev_sRd, and_self, true_and, and_true, eq_self, eqS, eqI, neS, neI, decide_true, decide_false, decide_eq_true_eq, Bool.not_true, Bool.not_false, initE, setPat, setAll, op1, isBl, flFin, iterD, seqOf, List.length_cons, List.length_nil, Bool.false_eq_true, if_false, if_true, List.nil_append, List.map_cons, List.map_nil, List.replicate, List.cons_append, Option.bind_some, Option.map_some, List.set_cons_succ, List.set_cons_zero, List.getElem?_cons_zero, List.getElem?_cons_succ, Nat.reduceAdd, e, hf p (h.ps p hp)]
theorem lc_ls {b : BB} (h : b.Ok) {i : Nat} {env : List SV} (hi : i < env.length) {rd : Rdr} {fm : FM} (hf : ∀ p : BL, p.Ok → ∀ r, fm [p.d] r = some (.str p.line, r)) : lcGo (.nm i) mYes (eFn fm 1 (aCons (eVar i) aNil)) (b.ls.map BL.d) env rd = some (b.ls.map (fun p => D.str p.line), rd) := by
  refine lcGo_map fun p hp => ?_
  have e : (env.set i (.val p.d))[i]? = some (.val p.d) := List.getElem?_set_self hi
  simp only [ev_bind1, ev_lift, ev_eC, ev_eVar, ev_eOp, ev_eUn, ev_eT, ev_mAnd, ev_mOr, ev_mNot, ev_eAnd, ev_eIf, ev_chain, ev_aNil, ev_aCons, ev_eTup, ev_eLst, ev_eCall, ev_eFn, ev_eFnR, ev_eIter, ev_eRange, ev_eLc, ev_eSl, ev_pNone, ev_pSome, ev_mFrz, ev_sNx, ev_sSet, ev_sRet, ev_sSeq, ev_sIf, ev_sUnp, ev_sNew, ev_fLst, ev_fCat, ev_sApp, ev_sFrz, ev_sFor, ev_vNil, ev_vVal, ev_vOwn, ev_sTup, ev_eRd, ev_sRd, and_self, true_and, and_true, eq_self, eqS, eqI, neS, neI, decide_true, decide_false, decide_eq_true_eq, Bool.not_true, Bool.not_false, initE, setPat, setAll, op1, isBl, flFin, iterD, seqOf, List.length_cons, List.length_nil, Bool.false_eq_true, if_false, if_true, List.nil_append, List.map_cons, List.map_nil, List.replicate, List.cons_append, Option.bind_some, Option.map_some, List.set_cons_succ, List.set_cons_zero, List.getElem?_cons_zero, List.getElem?_cons_succ, Nat.reduceAdd, e, hf p (h.ls p hp)]
theorem lc_rs {b : BB} (h : b.Ok) {i : Nat} {env : List SV} (hi : i < env.length) {rd : Rdr} {fm : FM} (hf : ∀ p : BR, p.Ok → ∀ r, fm [p.d] r = some (.str p.line, r)) : lcGo (.nm i) mYes (eFn fm 1 (aCons (eVar i) aNil)) (b.rs.map BR.d) env rd = some (b.rs.map (fun p => D.str p.line), rd) := by
  refine lcGo_map fun p hp => ?_
  have e : (env.set i (.val p.d))[i]? = some (.val p.d) := List.getElem?_set_self hi
  simp only [ev_bind1, ev_lift, ev_eC, ev_eVar, ev_eOp, ev_eUn, ev_eT, ev_mAnd, ev_mOr, ev_mNot, ev_eAnd, ev_eIf, ev_chain, ev_aNil, ev_aCons, ev_eTup, ev_eLst, ev_eCall, ev_eFn, ev_eFnR, ev_eIter, ev_eRange, ev_eLc, ev_eSl, ev_pNone, ev_pSome, ev_mFrz, ev_sNx, ev_sSet, ev_sRet, ev_sSeq, ev_sIf, ev_sUnp, ev_sNew, ev_fLst, ev_fCat, ev_sApp, ev_sFrz, ev_sFor, ev_vNil, ev_vVal, ev_vOwn, ev_sTup, ev_eRd, ev_sRd, and_self, true_and, and_true, eq_self, eqS, eqI, neS, neI, decide_true, decide_false, decide_eq_true_eq, Bool.not_true, Bool.not_false, initE, setPat, setAll, op1, isBl, flFin, iterD, seqOf, List.length_cons, List.length_nil, Bool.false_eq_true, if_false, if_true, List.nil_append, List.map_cons, List.map_nil, List.replicate, List.cons_append, Option.bind_some, Option.map_some, List.set_cons_succ, List.set_cons_zero, List.getElem?_cons_zero, List.getElem?_cons_succ, Nat.reduceAdd, e, hf p (h.rs p hp)]
theorem book_page_eq {b : BB} (h : b.Ok) (rd : Rdr) : mf__law_book_page [b.d] rd = some (.str b.text, rd) := by
  have h1 := h.pl
  have h2 := h.ll
  have h3 := h.rl
  have a1 := addL (xs := b.ps.map (fun p => D.str p.line)) (ys := b.ls.map (fun p => D.str p.line)) (by simp; omega)
  have a2 := addL (xs := b.ps.map (fun p => D.str p.line) ++ b.ls.map (fun p => D.str p.line)) (ys := b.rs.map (fun p => D.str p.line)) (by simp; omega)
  have p1 := fun (env : List SV) (hi : 2 < env.length) => lc_ps h hi (rd := rd) (fm := mf__law_purse_line) fun p hp r => purse_line_eq hp r
  have p2 := fun (env : List SV) (hi : 2 < env.length) => lc_ls h hi (rd := rd) (fm := mf__law_limit_line) fun p hp r => limit_line_eq hp r
  have p3 := fun (env : List SV) (hi : 2 < env.length) => lc_rs h hi (rd := rd) (fm := mf__law_row_line) fun p hp r => row_line_eq hp r
  have q1 := p1 [.val b.d, .un, .un] (by simp)
  have q2 := p2 [.val b.d, .un, .un] (by simp)
  have q3 := p3 [.val b.d, .val (.lst (b.ps.map (fun p => D.str p.line) ++ b.ls.map (fun p => D.str p.line))), .un] (by simp)
  have e : mf__law_book_page [b.d] rd = (b__law_book_page (initE false [b.d] 2) rd).bind flFin := rfl
  have j := BB.joined h
  rw [e]
  simp only [BB.d] at q1 q2 q3
  simp only [ev_bind1, ev_lift, ev_eC, ev_eVar, ev_eOp, ev_eUn, ev_eT, ev_mAnd, ev_mOr, ev_mNot, ev_eAnd, ev_eIf, ev_chain, ev_aNil, ev_aCons, ev_eTup, ev_eLst, ev_eCall, ev_eFn, ev_eFnR, ev_eIter, ev_eRange, ev_eLc, ev_eSl, ev_pNone, ev_pSome, ev_mFrz, ev_sNx, ev_sSet, ev_sRet, ev_sSeq, ev_sIf, ev_sUnp, ev_sNew, ev_fLst, ev_fCat, ev_sApp, ev_sFrz, ev_sFor, ev_vNil, ev_vVal, ev_vOwn, ev_sTup, ev_eRd, ev_sRd, and_self, true_and, and_true, eq_self, eqS, eqI, neS, neI, decide_true, decide_false, decide_eq_true_eq, Bool.not_true, Bool.not_false, initE, setPat, setAll, op1, isBl, flFin, iterD, seqOf, List.length_cons, List.length_nil, Bool.false_eq_true, if_false, if_true, List.nil_append, List.map_cons, List.map_nil, List.replicate, List.cons_append, Option.bind_some, Option.map_some, List.set_cons_succ, List.set_cons_zero, List.getElem?_cons_zero, List.getElem?_cons_succ, Nat.reduceAdd, b__law_book_page, BB.d, ix3a, ix3b, ix3c, List.length_map, szl h1, szl h2, szl h3, wipeE, q1, q2, q3, a1, a2, lines_d, opJoin, strs_map, j]
theorem book_lines_eq {b : BB} (h : b.Ok) (rd : Rdr) : mf_book_lines [b.d] rd = some (.lst (b.lines.map .str), rd) := by
  have h1 := h.pl
  have h2 := h.ll
  have h3 := h.rl
  have a1 := addL (xs := b.ps.map (fun p => D.str p.line)) (ys := b.ls.map (fun p => D.str p.line)) (by simp; omega)
  have a2 := addL (xs := b.ps.map (fun p => D.str p.line) ++ b.ls.map (fun p => D.str p.line)) (ys := b.rs.map (fun p => D.str p.line)) (by simp; omega)
  have p1 := fun (env : List SV) (hi : 5 < env.length) => lc_ps h hi (rd := rd) (fm := mf_purse_text) fun p hp r => purse_text_eq hp r
  have p2 := fun (env : List SV) (hi : 6 < env.length) => lc_ls h hi (rd := rd) (fm := mf_limit_text) fun p hp r => limit_text_eq hp r
  have p3 := fun (env : List SV) (hi : 7 < env.length) => lc_rs h hi (rd := rd) (fm := mf_row_text) fun p hp r => row_text_eq hp r
  have q1 := p1 [.val b.d, .val (.tup (b.ps.map BP.d)), .val (.tup (b.ls.map BL.d)), .val (.tup (b.rs.map BR.d)), .un, .un, .un, .un] (by simp)
  have q2 := p2 [.val b.d, .val (.tup (b.ps.map BP.d)), .val (.tup (b.ls.map BL.d)), .val (.tup (b.rs.map BR.d)), .un, .un, .un, .un] (by simp)
  have q3 := p3 [.val b.d, .val (.tup (b.ps.map BP.d)), .val (.tup (b.ls.map BL.d)), .val (.tup (b.rs.map BR.d)), .val (.lst (b.ps.map (fun p => D.str p.line) ++ b.ls.map (fun p => D.str p.line))), .un, .un, .un] (by simp)
  have e : mf_book_lines [b.d] rd = (b_book_lines (initE false [b.d] 7) rd).bind flFin := rfl
  rw [e]
  simp only [BB.d] at q1 q2 q3
  simp only [ev_bind1, ev_lift, ev_eC, ev_eVar, ev_eOp, ev_eUn, ev_eT, ev_mAnd, ev_mOr, ev_mNot, ev_eAnd, ev_eIf, ev_chain, ev_aNil, ev_aCons, ev_eTup, ev_eLst, ev_eCall, ev_eFn, ev_eFnR, ev_eIter, ev_eRange, ev_eLc, ev_eSl, ev_pNone, ev_pSome, ev_mFrz, ev_sNx, ev_sSet, ev_sRet, ev_sSeq, ev_sIf, ev_sUnp, ev_sNew, ev_fLst, ev_fCat, ev_sApp, ev_sFrz, ev_sFor, ev_vNil, ev_vVal, ev_vOwn, ev_sTup, ev_eRd, ev_sRd, and_self, true_and, and_true, eq_self, eqS, eqI, neS, neI, decide_true, decide_false, decide_eq_true_eq, Bool.not_true, Bool.not_false, initE, setPat, setAll, op1, isBl, flFin, iterD, seqOf, List.length_cons, List.length_nil, Bool.false_eq_true, if_false, if_true, List.nil_append, List.map_cons, List.map_nil, List.replicate, List.cons_append, Option.bind_some, Option.map_some, List.set_cons_succ, List.set_cons_zero, List.getElem?_cons_zero, List.getElem?_cons_succ, Nat.reduceAdd, b_book_lines, BB.d, List.length_map, szl h1, szl h2, szl h3, wipeE, q1, q2, q3, a1, a2, lines_d]
theorem book_text_eq {b : BB} (h : b.Ok) (rd : Rdr) : mf_book_text [b.d] rd = some (.str b.text, rd) := by
  have e : mf_book_text [b.d] rd = (b_book_text (initE false [b.d] 0) rd).bind flFin := rfl
  have f := fun r => book_lines_eq h r
  have j := BB.joined h
  rw [e]
  simp only [ev_bind1, ev_lift, ev_eC, ev_eVar, ev_eOp, ev_eUn, ev_eT, ev_mAnd, ev_mOr, ev_mNot, ev_eAnd, ev_eIf, ev_chain, ev_aNil, ev_aCons, ev_eTup, ev_eLst, ev_eCall, ev_eFn, ev_eFnR, ev_eIter, ev_eRange, ev_eLc, ev_eSl, ev_pNone, ev_pSome, ev_mFrz, ev_sNx, ev_sSet, ev_sRet, ev_sSeq, ev_sIf, ev_sUnp, ev_sNew, ev_fLst, ev_fCat, ev_sApp, ev_sFrz, ev_sFor, ev_vNil, ev_vVal, ev_vOwn, ev_sTup, ev_eRd, ev_sRd, and_self, true_and, and_true, eq_self, eqS, eqI, neS, neI, decide_true, decide_false, decide_eq_true_eq, Bool.not_true, Bool.not_false, initE, setPat, setAll, op1, isBl, flFin, iterD, seqOf, List.length_cons, List.length_nil, Bool.false_eq_true, if_false, if_true, List.nil_append, List.map_cons, List.map_nil, List.replicate, List.cons_append, Option.bind_some, Option.map_some, List.set_cons_succ, List.set_cons_zero, List.getElem?_cons_zero, List.getElem?_cons_succ, Nat.reduceAdd, b_book_text, f, opJoin, strs_map, j]
end My

set_option Elab.async false
set_option linter.all false
set_option maxRecDepth 100000
set_option maxHeartbeats 2000000
namespace My
open PySem PySem.Spec PyProof.Rows L2 FW
def chk : MM Fl := (sSeq (sSet 5 (eCall (op1 opRepr) (aCons (eVar 4) aNil)))
  (sSeq (sIf (eT (eOp opNe (eCall (op1 opRepr) (aCons (eFn mf_book_text 1 (aCons (eVar 4) aNil)) aNil)) (eCall (op1 opRepr) (aCons (eFn mf__law_book_page 1 (aCons (eVar 4) aNil)) aNil)))) (sRet (eC (.bl false))) sNx)
  (sSeq (sSet 6 (eOp opAdd (eLc (eIter (eOp opIx (eVar 4) (eC (.int 0)))) (.nm 7) [7] mYes (eFn mf_purse_text 1 (aCons (eVar 7) aNil))) (eLc (eIter (eOp opIx (eVar 4) (eC (.int 1)))) (.nm 7) [7] mYes (eFn mf_limit_text 1 (aCons (eVar 7) aNil)))))
  (sSeq (sSet 6 (eOp opAdd (eVar 6) (eLc (eIter (eOp opIx (eVar 4) (eC (.int 2)))) (.nm 7) [7] mYes (eFn mf_row_text 1 (aCons (eVar 7) aNil)))))
  (sSeq (sIf (mOr (eT (eOp opNe (eCall (op1 opRepr) (aCons (eOp opJoin (eC (.str ("\n" : Str))) (eVar 6)) aNil)) (eCall (op1 opRepr) (aCons (eFn mf__law_book_page 1 (aCons (eVar 4) aNil)) aNil)))) (eT (eOp opNe (eCall (op1 opRepr) (aCons (eVar 4) aNil)) (eVar 5)))) (sRet (eC (.bl false))) sNx)
  (sSeq (sIf (eT (eOp opNe (eLc (eIter (eOp opIx (eVar 4) (eC (.int 2)))) (.nm 7) [7] (eT (eOp opNe (eFn mf_row_text 1 (aCons (eVar 7) aNil)) (eFn mf__law_row_line 1 (aCons (eVar 7) aNil)))) (eVar 7)) (eLst aNil))) (sRet (eC (.bl false))) sNx)
  (sIf (eT (eOp opNe (eLc (eIter (eOp opIx (eVar 4) (eC (.int 1)))) (.nm 7) [7] (eT (eOp opNe (eFn mf_limit_text 1 (aCons (eVar 7) aNil)) (eFn mf__law_limit_line 1 (aCons (eVar 7) aNil)))) (eVar 7)) (eLst aNil))) (sRet (eC (.bl false))) sNx)))))))
def tl : MM Fl := (sSeq (sIf (eT (eOp opNe (eFn mf_purse_text 1 (aCons (eTup (aCons (eC (.str ("a" : Str))) (aCons (eC (.str ("b" : Str))) (aCons (eTup (aCons (eC (.str ("c" : Str))) (aCons (eC (.str ("d" : Str))) aNil))) (aCons (eC (.int 1)) (aCons (eC (.int 2)) aNil)))))) aNil)) (eC (.str ("purse a b 1 2 c,d" : Str))))) (sRet (eC (.bl false))) sNx)
  (sRet (eOp opEq (eFn mf_row_text 1 (aCons (eTup (aCons (eC (.str ("paid" : Str))) (aCons (eC (.int 0)) (aCons (eC (.str ("a" : Str))) (aCons (eTup aNil) aNil))))) aNil)) (eC (.str ("paid 0 a -" : Str))))))
def mk : MM Fl := (sApp 2 (eIf (eT (eOp opEq (eOp opMod (eCall (op1 opInt) (aCons (eVar 3) aNil)) (eC (.int 2))) (eC (.int 0)))) (eFnR mf__law_random_book 0 1 aNil) (eFnR mf__law_loose 0 1 aNil)))
theorem b_law_is : b_law = sSeq (sNew 2 (fCat (eFn mf__law_fixed_books 0 aNil) (eLst (aCons (eFn mf__law_wide 0 aNil) aNil)))) (sSeq (sFor (eRange range1 (aCons (eC (.int 8)) aNil)) (.nm 3) mk) (sSeq (sFrz 2 (sFor (eIter (eVar 2)) (.nm 4) chk)) tl)) := rfl
theorem neLN : opNe (.lst []) (.lst []) = some (.bl false) := by
  have e : opNe (.lst []) (.lst []) = if SeqAt.shaped (toPy (.lst [])) = true ∧ SeqAt.shaped (toPy (.lst [])) = true then some (.bl (!PyData.eqv (toPy (.lst [])) (toPy (.lst [])))) else none := rfl
  rw [e, if_pos ⟨by decide +kernel, by decide +kernel⟩]
  rfl
theorem chk_ok {b : BB} (h : b.Ok) (l t x5 x6 : SV) (rd : Rdr) :
    chk [.un, .rdr, l, t, .val b.d, x5, x6, .un] rd = some (.nx [.un, .rdr, l, t, .val b.d, .val (.str (shownD b.d)), .val (.lst (b.lines.map .str)), .un], rd) := by
  have h1 := h.pl
  have h2 := h.ll
  have h3 := h.rl
  have a1 := addL (xs := b.ps.map (fun p => D.str p.line)) (ys := b.ls.map (fun p => D.str p.line)) (by simp; omega)
  have a2 := addL (xs := b.ps.map (fun p => D.str p.line) ++ b.ls.map (fun p => D.str p.line)) (ys := b.rs.map (fun p => D.str p.line)) (by simp; omega)
  have r1 : opRepr b.d = some (.str (shownD b.d)) := (BB.sm h).repr (by omega) (by decide)
  have r2 : opRepr (.str b.text) = some (.str (shownD (.str b.text))) := (sm_str (BB.text_as h)).repr (by omega) (by decide)
  have f1 := fun r => book_text_eq h r
  have f2 := fun r => book_page_eq h r
  have q1 := fun (env : List SV) (hi : 7 < env.length) => lc_ps h hi (rd := rd) (fm := mf_purse_text) fun p hp r => purse_text_eq hp r
  have q2 := fun (env : List SV) (hi : 7 < env.length) => lc_ls h hi (rd := rd) (fm := mf_limit_text) fun p hp r => limit_text_eq hp r
  have q3 := fun (env : List SV) (hi : 7 < env.length) => lc_rs h hi (rd := rd) (fm := mf_row_text) fun p hp r => row_text_eq hp r
  have e : b.d = .tup [.tup (b.ps.map BP.d), .tup (b.ls.map BL.d), .tup (b.rs.map BR.d)] := rfl
  have i1 : opIx b.d (.int 0) = some (.tup (b.ps.map BP.d)) := rfl
  have i2 : opIx b.d (.int 1) = some (.tup (b.ls.map BL.d)) := rfl
  have i3 : opIx b.d (.int 2) = some (.tup (b.rs.map BR.d)) := rfl
  have j := BB.joined h
  have z1 : ∀ env : List SV, 7 < env.length → lcGo (.nm 7) (eT (eOp opNe (eFn mf_row_text 1 (aCons (eVar 7) aNil)) (eFn mf__law_row_line 1 (aCons (eVar 7) aNil)))) (eVar 7) (b.rs.map BR.d) env rd = some ([], rd) := fun env hi => lcGo_none fun p hp => by
    have e7 : (env.set 7 (.val p.d))[7]? = some (.val p.d) := List.getElem?_set_self hi
    have g1 := fun r => row_text_eq (h.rs p hp) r
    have g2 := fun r => row_line_eq (h.rs p hp) r
    simp only [ev_bind1, ev_lift, ev_eC, ev_eVar, ev_eOp, ev_eUn, ev_eT, ev_mAnd, ev_mOr, ev_mNot, ev_eAnd, ev_eIf, ev_chain, ev_aNil, ev_aCons, ev_eTup, ev_eLst, ev_eCall, ev_eFn, ev_eFnR, ev_eIter, ev_eRange, ev_eLc, ev_eSl, ev_pNone, ev_pSome, ev_mFrz, ev_sNx, ev_sSet, ev_sRet, ev_sSeq, ev_sIf, ev_sUnp, ev_sNew, ev_fLst, ev_fCat, ev_sApp, ev_sFrz, ev_sFor, ev_vNil, ev_vVal, ev_vOwn, ev_sTup, ev_eRd, ev_sRd, and_self, true_and, and_true, eq_self, eqS, eqI, neS, neI, decide_true, decide_false, decide_eq_true_eq, Bool.not_true, Bool.not_false, initE, setPat, setAll, op1, isBl, flFin, iterD, seqOf, List.length_cons, List.length_nil, Bool.false_eq_true, if_false, if_true, List.nil_append, List.map_cons, List.map_nil, List.replicate, List.cons_append, Option.bind_some, Option.map_some, List.set_cons_succ, List.set_cons_zero, List.getElem?_cons_zero, List.getElem?_cons_succ, Nat.reduceAdd, e7, g1, g2]
  have z2 : ∀ env : List SV, 7 < env.length → lcGo (.nm 7) (eT (eOp opNe (eFn mf_limit_text 1 (aCons (eVar 7) aNil)) (eFn mf__law_limit_line 1 (aCons (eVar 7) aNil)))) (eVar 7) (b.ls.map BL.d) env rd = some ([], rd) := fun env hi => lcGo_none fun p hp => by
    have e7 : (env.set 7 (.val p.d))[7]? = some (.val p.d) := List.getElem?_set_self hi
    have g1 := fun r => limit_text_eq (h.ls p hp) r
    have g2 := fun r => limit_line_eq (h.ls p hp) r
    simp only [ev_bind1, ev_lift, ev_eC, ev_eVar, ev_eOp, ev_eUn, ev_eT, ev_mAnd, ev_mOr, ev_mNot, ev_eAnd, ev_eIf, ev_chain, ev_aNil, ev_aCons, ev_eTup, ev_eLst, ev_eCall, ev_eFn, ev_eFnR, ev_eIter, ev_eRange, ev_eLc, ev_eSl, ev_pNone, ev_pSome, ev_mFrz, ev_sNx, ev_sSet, ev_sRet, ev_sSeq, ev_sIf, ev_sUnp, ev_sNew, ev_fLst, ev_fCat, ev_sApp, ev_sFrz, ev_sFor, ev_vNil, ev_vVal, ev_vOwn, ev_sTup, ev_eRd, ev_sRd, and_self, true_and, and_true, eq_self, eqS, eqI, neS, neI, decide_true, decide_false, decide_eq_true_eq, Bool.not_true, Bool.not_false, initE, setPat, setAll, op1, isBl, flFin, iterD, seqOf, List.length_cons, List.length_nil, Bool.false_eq_true, if_false, if_true, List.nil_append, List.map_cons, List.map_nil, List.replicate, List.cons_append, Option.bind_some, Option.map_some, List.set_cons_succ, List.set_cons_zero, List.getElem?_cons_zero, List.getElem?_cons_succ, Nat.reduceAdd, e7, g1, g2]
  have L8 : ∀ (a0 a1 a2 a3 a4 a5 a6 a7 : SV), 7 < [a0, a1, a2, a3, a4, a5, a6, a7].length := fun _ _ _ _ _ _ _ _ => by simp
  have l0 : (0 : Nat) ≤ sizeLine := Nat.zero_le _
  simp only [ev_bind1, ev_lift, ev_eC, ev_eVar, ev_eOp, ev_eUn, ev_eT, ev_mAnd, ev_mOr, ev_mNot, ev_eAnd, ev_eIf, ev_chain, ev_aNil, ev_aCons, ev_eTup, ev_eLst, ev_eCall, ev_eFn, ev_eFnR, ev_eIter, ev_eRange, ev_eLc, ev_eSl, ev_pNone, ev_pSome, ev_mFrz, ev_sNx, ev_sSet, ev_sRet, ev_sSeq, ev_sIf, ev_sUnp, ev_sNew, ev_fLst, ev_fCat, ev_sApp, ev_sFrz, ev_sFor, ev_vNil, ev_vVal, ev_vOwn, ev_sTup, ev_eRd, ev_sRd, and_self, true_and, and_true, eq_self, eqS, eqI, neS, neI, decide_true, decide_false, decide_eq_true_eq, Bool.not_true, Bool.not_false, initE, setPat, setAll, op1, isBl, flFin, iterD, seqOf, List.length_cons, List.length_nil, Bool.false_eq_true, if_false, if_true, List.nil_append, List.map_cons, List.map_nil, List.replicate, List.cons_append, Option.bind_some, Option.map_some, List.set_cons_succ, List.set_cons_zero, List.getElem?_cons_zero, List.getElem?_cons_succ, Nat.reduceAdd, chk, r1, f1, f2, r2, i1, i2, i3, List.length_map, szl h1, szl h2, szl h3, wipeE, q1 _ (L8 _ _ _ _ _ _ _ _), q2 _ (L8 _ _ _ _ _ _ _ _), q3 _ (L8 _ _ _ _ _ _ _ _), a1, a2, lines_d, opJoin, strs_map, j, z1 _ (L8 _ _ _ _ _ _ _ _), z2 _ (L8 _ _ _ _ _ _ _ _), neLN, l0]
theorem tl_ok (env : List SV) (rd : Rdr) : tl env rd = some (.ret (.bl true), rd) := by
  have k1 : OkI 1 := by unfold OkI; omega
  have k2 : OkI 2 := by unfold OkI; omega
  have k0 : OkI 0 := by unfold OkI; omega
  have wa : ∀ s ∈ ([("a" : Str), ("b" : Str), ("c" : Str), ("d" : Str)]), Wd s := by
    intro s hs
    simp only [List.mem_cons, List.not_mem_nil, or_false] at hs
    rcases hs with rfl | rfl | rfl | rfl <;> exact ⟨by decide +kernel, by decide +kernel⟩
  have p1 : (BP.mk "a" "b" ["c", "d"] 1 2).Ok := ⟨wa _ (by simp), wa _ (by simp), fun k hk => wa _ (by simp at hk ⊢; rcases hk with rfl | rfl <;> simp), by simp, by simp, k1, k2⟩
  have f1 := fun r => purse_text_eq p1 r
  have p2 : (BR.paid 0 "a" []).Ok := ⟨k0, wa _ (by simp), fun s hs => (List.not_mem_nil hs).elim, by simp⟩
  have f2 := fun r => row_text_eq p2 r
  have e1 : (BP.mk "a" "b" ["c", "d"] 1 2).line = ("purse a b 1 2 c,d" : Str) := by decide +kernel
  have e2 : (BR.paid 0 "a" []).line = ("paid 0 a -" : Str) := by decide +kernel
  rw [e1] at f1
  rw [e2] at f2
  simp only [BP.d, BR.d, List.map_cons, List.map_nil] at f1 f2
  have l1 : (0 : Nat) ≤ sizeLine := Nat.zero_le _
  have l2 : (2 : Nat) ≤ sizeLine := by decide
  have l4 : (4 : Nat) ≤ sizeLine := by decide
  have l5 : (5 : Nat) ≤ sizeLine := by decide
  simp only [ev_bind1, ev_lift, ev_eC, ev_eVar, ev_eOp, ev_eUn, ev_eT, ev_mAnd, ev_mOr, ev_mNot, ev_eAnd, ev_eIf, ev_chain, ev_aNil, ev_aCons, ev_eTup, ev_eLst, ev_eCall, ev_eFn, ev_eFnR, ev_eIter, ev_eRange, ev_eLc, ev_eSl, ev_pNone, ev_pSome, ev_mFrz, ev_sNx, ev_sSet, ev_sRet, ev_sSeq, ev_sIf, ev_sUnp, ev_sNew, ev_fLst, ev_fCat, ev_sApp, ev_sFrz, ev_sFor, ev_vNil, ev_vVal, ev_vOwn, ev_sTup, ev_eRd, ev_sRd, and_self, true_and, and_true, eq_self, eqS, eqI, neS, neI, decide_true, decide_false, decide_eq_true_eq, Bool.not_true, Bool.not_false, initE, setPat, setAll, op1, isBl, flFin, iterD, seqOf, List.length_cons, List.length_nil, Bool.false_eq_true, if_false, if_true, List.nil_append, List.map_cons, List.map_nil, List.replicate, List.cons_append, Option.bind_some, Option.map_some, List.set_cons_succ, List.set_cons_zero, List.getElem?_cons_zero, List.getElem?_cons_succ, Nat.reduceAdd, tl, l1, l2, l4, l5, f1, f2]
end My

set_option Elab.async false
set_option linter.all false
set_option maxRecDepth 100000
set_option maxHeartbeats 2000000
namespace My
open PySem PySem.Spec PyProof.Rows L2 FW
theorem cmpI {pi : Int → Int → Bool} {ps : Str → Str → Bool} {i j : Int} : opCmp pi ps (.int i) (.int j) = some (.bl (pi i j)) := rfl
theorem opIi {c : Int → Int → Bool} {g : Int → Int → D} {i j : Int} : opI c g (.int i) (.int j) = if c i j = true then some (g i j) else none := rfl
theorem addI {i j : Int} : opAdd (.int i) (.int j) = some (.int (i + j)) := rfl
theorem lenL {ds : List D} : opLen (.lst ds) = some (.int ds.length) := rfl
theorem lenT {ds : List D} : opLen (.tup ds) = some (.int ds.length) := rfl
theorem intI {i : Int} : opInt (.int i) = some (.int i) := rfl
theorem mulI {i j : Int} (h : i.natAbs < 18446744073709551616) : opMul (.int i) (.int j) = some (.int (i * j)) := by
  have e : opMul (.int i) (.int j) = if i.natAbs < 18446744073709551616 ∨ j.natAbs < 18446744073709551616 then some (.int (i * j)) else none := rfl
  rw [e, if_pos (.inl h)]
theorem ints_lay : ∀ ns : List Int, PyData.canLayAll0 (toPys (ns.map D.int)) = true ∧ PyData.depthAll (toPys (ns.map D.int)) = 0
  | [] => by simp [toPys, PyData.canLayAll0, PyData.depthAll]
  | n :: ns => by
    obtain ⟨h1, h2⟩ := ints_lay ns
    simp [toPys, toPy, PyData.canLayAll0, PyData.canLay0, PyData.depthAll, PyData.depth, h1, h2]
theorem ints_shaped (ns : List Int) : SeqAt.shaped (toPy (.lst (ns.map D.int))) = true := by
  obtain ⟨h1, h2⟩ := ints_lay ns
  simp [SeqAt.shaped, toPy, PyData.canLay0, h1, PyData.depth, h2]
theorem ne_cells (ns : List Int) : opNe (.lst (ns.map .int)) (.lst []) = some (.bl (!decide (ns = []))) := by
  have e : opNe (.lst (ns.map .int)) (.lst []) = if SeqAt.shaped (toPy (.lst (ns.map .int))) = true ∧ SeqAt.shaped (toPy (.lst [])) = true then some (.bl (!PyData.eqv (toPy (.lst (ns.map .int))) (toPy (.lst [])))) else none := rfl
  rw [e, if_pos ⟨ints_shaped ns, by decide +kernel⟩]
  cases ns with
  | nil => rfl
  | cons d ds => rfl
theorem at_mod {ds : List D} {i : Int} (h0 : 0 ≤ i) (h : i < ds.length) : ∃ d, opIx (.lst ds) (.int i) = some d ∧ d ∈ ds := by
  have e : opIx (.lst ds) (.int i) = (ixN ds.length i).bind fun j => ds[j]? := rfl
  obtain ⟨n, rfl⟩ := Int.eq_ofNat_of_zero_le h0
  have hn : n < ds.length := by omega
  refine ⟨ds[n], ?_, List.getElem_mem hn⟩
  rw [e]
  have e2 : ixN ds.length (n : Int) = some n := by
    unfold ixN
    simp
    omega
  rw [e2, Option.bind_some, List.getElem?_eq_getElem hn]
structure RdI (n : Int) (rd : Rdr) : Prop where
  lo : 0 ≤ rd.cnt
  hi : rd.cnt ≤ n
theorem draw_ok {many n : Int} (h1 : 1 ≤ many) (h2 : many ≤ 1000) (hn : n ≤ 1000000) {rd : Rdr} (hr : RdI n rd) :
    Wp (mf__law_draw [.int many] rd) fun d rd' => (∃ k : Int, d = .int k ∧ 0 ≤ k ∧ k < many) ∧ RdI (n + 1) rd' := by
  obtain ⟨cells, ix, rest, cnt⟩ := rd
  obtain ⟨lo, hi⟩ := hr
  simp only at lo hi
  have e : mf__law_draw [.int many] ⟨cells, ix, rest, cnt⟩ = (b__law_draw (initE true [.int many] 3) ⟨cells, ix, rest, cnt⟩).bind flFin := rfl
  have fm : ∀ x : Int, 0 ≤ x.fmod many ∧ x.fmod many < many := fun x => ⟨Int.fmod_nonneg_of_pos x (by omega), Int.fmod_lt_of_pos x (by omega)⟩
  have m1 : (many ≠ 0) = True := by simp; omega
  have m2 : (many.natAbs < 1073741824) = True := by simp; omega
  rw [e]
  by_cases hrest : 0 < rest
  · simp only [ev_bind1, ev_lift, ev_eC, ev_eVar, ev_eOp, ev_eUn, ev_eT, ev_mAnd, ev_mOr, ev_mNot, ev_eAnd, ev_eIf, ev_chain, ev_aNil, ev_aCons, ev_eTup, ev_eLst, ev_eCall, ev_eFn, ev_eFnR, ev_eIter, ev_eRange, ev_eLc, ev_eSl, ev_pNone, ev_pSome, ev_mFrz, ev_sNx, ev_sSet, ev_sRet, ev_sSeq, ev_sIf, ev_sUnp, ev_sNew, ev_fLst, ev_fCat, ev_sApp, ev_sFrz, ev_sFor, ev_vNil, ev_vVal, ev_vOwn, ev_sTup, ev_eRd, ev_sRd, and_self, true_and, and_true, eq_self, eqS, eqI, neS, neI, decide_true, decide_false, decide_eq_true_eq, Bool.not_true, Bool.not_false, initE, setPat, setAll, op1, isBl, flFin, iterD, seqOf, List.length_cons, List.length_nil, Bool.false_eq_true, if_false, if_true, List.nil_append, List.map_cons, List.map_nil, List.replicate, List.cons_append, Option.bind_some, Option.map_some, List.set_cons_succ, List.set_cons_zero, List.getElem?_cons_zero, List.getElem?_cons_succ, Nat.reduceAdd, b__law_draw, rdItem, rdPut, addI, cmpI, opIi, intI, hrest, m1, m2]
    exact ⟨_, _, rfl, ⟨_, rfl, fm _⟩, ⟨by show 0 ≤ cnt + 1; omega, by show cnt + 1 ≤ n + 1; omega⟩⟩
  · -- the cell that is drawn
    have hcell : ∃ c : Int, (if cells = [] then c = 59 else (opIx (.lst (cells.map D.int)) (.int (ix.fmod cells.length)) = some (.int c))) := by
      by_cases hc : cells = []
      · exact ⟨59, by rw [if_pos hc]⟩
      · have hl : (0 : Int) < cells.length := by
          have := List.length_pos_iff.mpr hc
          omega
        obtain ⟨d, hd, hm⟩ := at_mod (ds := cells.map D.int) (i := ix.fmod cells.length) (Int.fmod_nonneg_of_pos _ hl) (by rw [List.length_map]; exact Int.fmod_lt_of_pos _ hl)
        obtain ⟨c, _, rfl⟩ := List.mem_map.mp hm
        exact ⟨c, by rw [if_neg hc]; exact hd⟩
    obtain ⟨c, hc⟩ := hcell
    have p18 : ((0 : Int) ≤ 18) = True := by simp
    have p19 : ((18 : Int) ≤ 1000000) = True := by simp
    have p20 : ((10 : Int).natAbs < 2 ^ 64) = True := by simp
    have p5 : ((0 : Int) ≤ 5) = True := by simp
    have p6 : ((5 : Int) ≤ 1000000) = True := by simp
    have k1 : 0 ≤ c.fmod 2147483423 ∧ c.fmod 2147483423 < 2147483423 := ⟨Int.fmod_nonneg_of_pos _ (by omega), Int.fmod_lt_of_pos _ (by omega)⟩
    have q1 : ((c.fmod 2147483423 + 7823 * (cnt + 1) + 17).natAbs < 2 ^ 64) = True := by
      simp
      omega
    have k2 : ∀ x : Int, 0 ≤ x.fmod 2147483629 ∧ x.fmod 2147483629 < 2147483629 := fun x => ⟨Int.fmod_nonneg_of_pos _ (by omega), Int.fmod_lt_of_pos _ (by omega)⟩
    have q2 : ∀ x : Int, ((x.fmod 2147483629 + 97007 * (cnt + 1)).natAbs < 2 ^ 64) = True := fun x => by
      have := k2 x
      simp
      omega
    have d1 : ((2147483423 : Int) ≠ 0) = True := by simp
    have d2 : ((2147483629 : Int) ≠ 0) = True := by simp
    have d3 : ((2147483647 : Int) ≠ 0) = True := by simp
    have d4 : ((64 : Int) ≠ 0) = True := by simp
    have d5 : ((64 : Int).natAbs < 1073741824) = True := by simp
    have mu1 : ∀ j, opMul (.int 7823) (.int j) = some (.int (7823 * j)) := fun j => mulI (by omega)
    have mu2 : ∀ j, opMul (.int 97007) (.int j) = some (.int (97007 * j)) := fun j => mulI (by omega)
    have l0 : (0 : Nat) ≤ sizeLine := Nat.zero_le _
    by_cases hcs : cells = []
    · rw [if_pos hcs] at hc
      subst hc
      subst hcs
      have ne0 : opNe (.lst ([] : List D)) (.lst []) = some (.bl false) := neLN
      have big : ((10 : Int) ^ (18 : Int).toNat ≤ 59) = False := by simp
      simp only [ev_bind1, ev_lift, ev_eC, ev_eVar, ev_eOp, ev_eUn, ev_eT, ev_mAnd, ev_mOr, ev_mNot, ev_eAnd, ev_eIf, ev_chain, ev_aNil, ev_aCons, ev_eTup, ev_eLst, ev_eCall, ev_eFn, ev_eFnR, ev_eIter, ev_eRange, ev_eLc, ev_eSl, ev_pNone, ev_pSome, ev_mFrz, ev_sNx, ev_sSet, ev_sRet, ev_sSeq, ev_sIf, ev_sUnp, ev_sNew, ev_fLst, ev_fCat, ev_sApp, ev_sFrz, ev_sFor, ev_vNil, ev_vVal, ev_vOwn, ev_sTup, ev_eRd, ev_sRd, and_self, true_and, and_true, eq_self, eqS, eqI, neS, neI, decide_true, decide_false, decide_eq_true_eq, Bool.not_true, Bool.not_false, initE, setPat, setAll, op1, isBl, flFin, iterD, seqOf, List.length_cons, List.length_nil, Bool.false_eq_true, if_false, if_true, List.nil_append, List.map_cons, List.map_nil, List.replicate, List.cons_append, Option.bind_some, Option.map_some, List.set_cons_succ, List.set_cons_zero, List.getElem?_cons_zero, List.getElem?_cons_succ, Nat.reduceAdd, b__law_draw, rdItem, rdPut, addI, cmpI, opIi, intI, hrest, m1, m2, ne0, l0, p18, p19, p20, p5, p6, q1, q2, d1, d2, d3, d4, d5, mu1, mu2, big]
      exact ⟨_, _, rfl, ⟨_, rfl, fm _⟩, ⟨by show 0 ≤ cnt + 1; omega, by show cnt + 1 ≤ n + 1; omega⟩⟩
    · rw [if_neg hcs] at hc
      have n0 : (((cells.length : Nat) : Int) ≠ 0) = True := by
        have := List.length_pos_iff.mpr hcs
        simp
        exact hcs
      by_cases h18 : (10 : Int) ^ (18 : Int).toNat ≤ c
      · by_cases hx : ix + 1 ≤ cells.length
        · simp only [ev_bind1, ev_lift, ev_eC, ev_eVar, ev_eOp, ev_eUn, ev_eT, ev_mAnd, ev_mOr, ev_mNot, ev_eAnd, ev_eIf, ev_chain, ev_aNil, ev_aCons, ev_eTup, ev_eLst, ev_eCall, ev_eFn, ev_eFnR, ev_eIter, ev_eRange, ev_eLc, ev_eSl, ev_pNone, ev_pSome, ev_mFrz, ev_sNx, ev_sSet, ev_sRet, ev_sSeq, ev_sIf, ev_sUnp, ev_sNew, ev_fLst, ev_fCat, ev_sApp, ev_sFrz, ev_sFor, ev_vNil, ev_vVal, ev_vOwn, ev_sTup, ev_eRd, ev_sRd, and_self, true_and, and_true, eq_self, eqS, eqI, neS, neI, decide_true, decide_false, decide_eq_true_eq, Bool.not_true, Bool.not_false, initE, setPat, setAll, op1, isBl, flFin, iterD, seqOf, List.length_cons, List.length_nil, Bool.false_eq_true, if_false, if_true, List.nil_append, List.map_cons, List.map_nil, List.replicate, List.cons_append, Option.bind_some, Option.map_some, List.set_cons_succ, List.set_cons_zero, List.getElem?_cons_zero, List.getElem?_cons_succ, Nat.reduceAdd, b__law_draw, rdItem, rdPut, addI, cmpI, opIi, intI, hrest, m1, m2, ne_cells, hcs, lenL, List.length_map, n0, hc, l0, p18, p19, p20, h18, hx]
          exact ⟨_, _, rfl, ⟨_, rfl, fm _⟩, ⟨by show 0 ≤ cnt + 1; omega, by show cnt + 1 ≤ n + 1; omega⟩⟩
        · simp only [ev_bind1, ev_lift, ev_eC, ev_eVar, ev_eOp, ev_eUn, ev_eT, ev_mAnd, ev_mOr, ev_mNot, ev_eAnd, ev_eIf, ev_chain, ev_aNil, ev_aCons, ev_eTup, ev_eLst, ev_eCall, ev_eFn, ev_eFnR, ev_eIter, ev_eRange, ev_eLc, ev_eSl, ev_pNone, ev_pSome, ev_mFrz, ev_sNx, ev_sSet, ev_sRet, ev_sSeq, ev_sIf, ev_sUnp, ev_sNew, ev_fLst, ev_fCat, ev_sApp, ev_sFrz, ev_sFor, ev_vNil, ev_vVal, ev_vOwn, ev_sTup, ev_eRd, ev_sRd, and_self, true_and, and_true, eq_self, eqS, eqI, neS, neI, decide_true, decide_false, decide_eq_true_eq, Bool.not_true, Bool.not_false, initE, setPat, setAll, op1, isBl, flFin, iterD, seqOf, List.length_cons, List.length_nil, Bool.false_eq_true, if_false, if_true, List.nil_append, List.map_cons, List.map_nil, List.replicate, List.cons_append, Option.bind_some, Option.map_some, List.set_cons_succ, List.set_cons_zero, List.getElem?_cons_zero, List.getElem?_cons_succ, Nat.reduceAdd, b__law_draw, rdItem, rdPut, addI, cmpI, opIi, intI, hrest, m1, m2, ne_cells, hcs, lenL, List.length_map, n0, hc, l0, p18, p19, p20, h18, hx, p5, p6, q1, q2, d1, d2, d3, d4, d5, mu1, mu2]
          exact ⟨_, _, rfl, ⟨_, rfl, fm _⟩, ⟨by show 0 ≤ cnt + 1; omega, by show cnt + 1 ≤ n + 1; omega⟩⟩
      · simp only [ev_bind1, ev_lift, ev_eC, ev_eVar, ev_eOp, ev_eUn, ev_eT, ev_mAnd, ev_mOr, ev_mNot, ev_eAnd, ev_eIf, ev_chain, ev_aNil, ev_aCons, ev_eTup, ev_eLst, ev_eCall, ev_eFn, ev_eFnR, ev_eIter, ev_eRange, ev_eLc, ev_eSl, ev_pNone, ev_pSome, ev_mFrz, ev_sNx, ev_sSet, ev_sRet, ev_sSeq, ev_sIf, ev_sUnp, ev_sNew, ev_fLst, ev_fCat, ev_sApp, ev_sFrz, ev_sFor, ev_vNil, ev_vVal, ev_vOwn, ev_sTup, ev_eRd, ev_sRd, and_self, true_and, and_true, eq_self, eqS, eqI, neS, neI, decide_true, decide_false, decide_eq_true_eq, Bool.not_true, Bool.not_false, initE, setPat, setAll, op1, isBl, flFin, iterD, seqOf, List.length_cons, List.length_nil, Bool.false_eq_true, if_false, if_true, List.nil_append, List.map_cons, List.map_nil, List.replicate, List.cons_append, Option.bind_some, Option.map_some, List.set_cons_succ, List.set_cons_zero, List.getElem?_cons_zero, List.getElem?_cons_succ, Nat.reduceAdd, b__law_draw, rdItem, rdPut, addI, cmpI, opIi, intI, hrest, m1, m2, ne_cells, hcs, lenL, List.length_map, n0, hc, l0, p18, p19, p20, h18, p5, p6, q1, q2, d1, d2, d3, d4, d5, mu1, mu2]
        exact ⟨_, _, rfl, ⟨_, rfl, fm _⟩, ⟨by show 0 ≤ cnt + 1; omega, by show cnt + 1 ≤ n + 1; omega⟩⟩
end My

set_option Elab.async false
set_option linter.all false
set_option maxRecDepth 100000
set_option maxHeartbeats 2000000
namespace My
open PySem PySem.Spec PyProof.Rows L2 FW
theorem wp_obind {α β : Type} {x : Option (α × Rdr)} {f : α × Rdr → Option (β × Rdr)} {Q : β → Rdr → Prop} : Wp (x.bind f) Q ↔ Wp x fun a rd => Wp (f (a, rd)) Q := by
  constructor
  · rintro ⟨b, rd2, h, q⟩
    obtain ⟨⟨a, rd1⟩, h1, h2⟩ := Option.bind_eq_some_iff.mp h
    exact ⟨a, rd1, h1, b, rd2, h2, q⟩
  · rintro ⟨a, rd1, h1, b, rd2, h2, q⟩
    exact ⟨b, rd2, by rw [h1]; exact h2, q⟩
theorem wp_omap {α : Type} {x : Option α} {rd : Rdr} {Q : α → Rdr → Prop} : Wp (x.map fun y => (y, rd)) Q ↔ ∃ a, x = some a ∧ Q a rd := by
  constructor
  · rintro ⟨b, rd2, h, q⟩
    obtain ⟨a, h1, h2⟩ := Option.map_eq_some_iff.mp h
    cases h2
    exact ⟨_, h1, q⟩
  · rintro ⟨a, rfl, q⟩
    exact ⟨a, rd, rfl, q⟩
theorem wp_omap2 {α β : Type} {x : Option (α × Rdr)} {g : α → β} {Q : β → Rdr → Prop} : Wp (x.map fun y => (g y.1, y.2)) Q ↔ Wp x fun a rd => Q (g a) rd := by
  constructor
  · rintro ⟨b, rd2, h, q⟩
    obtain ⟨⟨a, r⟩, h1, h2⟩ := Option.map_eq_some_iff.mp h
    cases h2
    exact ⟨a, r, h1, q⟩
  · rintro ⟨a, r, rfl, q⟩
    exact ⟨g a, r, rfl, q⟩
theorem lcGo_wp {p : Pat} {t : MM Bool} {e : MM D} {env : List SV} {P M : D → Prop} {J : Nat → Rdr → Prop} : ∀ {ds : List D} {n : Nat} {rd : Rdr},
    (∀ d ∈ ds, ∀ k r, k < n + ds.length → J k r → ∃ env1, setPat p d env = some env1 ∧ Wp (t env1 r) fun b r1 => (M d → b = true) ∧ (b = true → Wp (e env1 r1) fun y r2 => P y ∧ J (k + 1) r2) ∧ (b = false → J (k + 1) r1)) →
    J n rd → Wp (lcGo p t e ds env rd) fun ys rd' => (∀ y ∈ ys, P y) ∧ ys.length ≤ ds.length ∧ J (n + ds.length) rd' ∧ ((∃ d ∈ ds, M d) → ys ≠ [])
  | [], n, rd, _, hj => ⟨[], rd, rfl, fun y hy => (List.not_mem_nil hy).elim, Nat.le_refl _, hj, fun ⟨d, hd, _⟩ => (List.not_mem_nil hd).elim⟩
  | d :: ds, n, rd, h, hj => by
    obtain ⟨env1, s1, b, r1, t1, hm, hy, hn⟩ := h d List.mem_cons_self n rd (by rw [List.length_cons]; omega) hj
    have ih := fun r (hr : J (n + 1) r) => lcGo_wp (p := p) (t := t) (e := e) (env := env) (P := P) (M := M) (J := J) (ds := ds) (n := n + 1) (rd := r) (fun x hx k r' hk => h x (List.mem_cons_of_mem _ hx) k r' (by rw [List.length_cons]; omega)) hr
    have en : n + 1 + ds.length = n + (d :: ds).length := by rw [List.length_cons]; omega
    rw [en] at ih
    unfold lcGo
    rw [s1, Option.bind_some, t1, Option.bind_some]
    cases b with
    | true =>
      obtain ⟨y, r2, e1, py, j2⟩ := hy rfl
      obtain ⟨ys, r3, g1, g2, g3, g4, g5⟩ := ih r2 j2
      refine ⟨y :: ys, r3, ?_, fun z hz => ?_, by rw [List.length_cons, List.length_cons]; omega, g4, fun _ => by simp⟩
      · simp only [if_true, e1, Option.bind_some, g1, Option.map_some]
      · rcases List.mem_cons.mp hz with rfl | hz
        · exact py
        · exact g2 z hz
    | false =>
      obtain ⟨ys, r3, g1, g2, g3, g4, g5⟩ := ih r1 (hn rfl)
      refine ⟨ys, r3, ?_, g2, by rw [List.length_cons]; omega, g4, fun ⟨x, hx, mx⟩ => ?_⟩
      · simp only [Bool.false_eq_true, if_false, g1]
      · rcases List.mem_cons.mp hx with rfl | hx
        · exact absurd (hm mx) (by simp)
        · exact g5 ⟨x, hx, mx⟩
theorem forGo_wp {p : Pat} {b : MM Fl} {E : Nat → List SV → Rdr → Prop} : ∀ {ds : List D} {n : Nat} {env : List SV} {rd : Rdr},
    (∀ d ∈ ds, ∀ k env r, k < n + ds.length → E k env r → ∃ env1, setPat p d env = some env1 ∧ Wp (b env1 r) fun fl r1 => ∃ env2, fl = .nx env2 ∧ E (k + 1) env2 r1) →
    E n env rd → Wp (forGo p b ds env rd) fun fl rd' => ∃ env', fl = .nx env' ∧ E (n + ds.length) env' rd'
  | [], n, env, rd, _, he => ⟨.nx env, rd, rfl, env, rfl, he⟩
  | d :: ds, n, env, rd, h, he => by
    obtain ⟨env1, s1, fl, r1, t1, env2, rfl, e2⟩ := h d List.mem_cons_self n env rd (by rw [List.length_cons]; omega) he
    have ih := forGo_wp (p := p) (b := b) (E := E) (ds := ds) (n := n + 1) (env := env2) (rd := r1) (fun x hx k en r' hk => h x (List.mem_cons_of_mem _ hx) k en r' (by rw [List.length_cons]; omega)) e2
    have en : n + 1 + ds.length = n + (d :: ds).length := by rw [List.length_cons]; omega
    rw [en] at ih
    obtain ⟨fl, r3, g1, env', rfl, g2⟩ := ih
    refine ⟨.nx env', r3, ?_, env', rfl, g2⟩
    unfold forGo
    simp only [s1, t1, Option.bind_some]
    exact g1
theorem RdI.mono {n m : Int} {rd : Rdr} (h : RdI n rd) (e : n ≤ m) : RdI m rd := ⟨h.lo, by have := h.hi; omega⟩
theorem range1_n {n : Nat} (h : n ≤ 1000) : range1 [.int n] = some (rangeD 0 n) := by
  have e : range1 [.int n] = if okR n = true then some (rangeD 0 (n : Int).toNat) else none := rfl
  rw [e, if_pos (by unfold okR; simp; omega)]
  simp
theorem mem_range {n : Nat} {d : D} (h : d ∈ rangeD 0 n) : ∃ i : Nat, d = .int i ∧ i < n := by
  unfold rangeD at h
  obtain ⟨i, hi, rfl⟩ := List.mem_map.mp h
  exact ⟨i, by simp, List.mem_range.mp hi⟩
theorem range_mem {n : Nat} {k : Int} (h0 : 0 ≤ k) (h : k < n) : D.int k ∈ rangeD 0 n := by
  unfold rangeD
  obtain ⟨i, rfl⟩ := Int.eq_ofNat_of_zero_le h0
  exact List.mem_map.mpr ⟨i, List.mem_range.mpr (by omega), by simp⟩
theorem range_len {n : Nat} : (rangeD 0 n).length = n := by simp [rangeD]
/-- a list or a tuple of these items -/
def SeqD (ds : List D) (d : D) : Prop := d = .tup ds ∨ d = .lst ds
theorem SeqD.len {ds : List D} {d : D} (h : SeqD ds d) : opLen d = some (.int ds.length) := by
  rcases h with rfl | rfl <;> rfl
theorem SeqD.ix {ds : List D} {d : D} (h : SeqD ds d) {i : Nat} (hi : i < ds.length) : opIx d (.int i) = some ds[i] := by
  have e2 : ixN ds.length (i : Int) = some i := by
    unfold ixN
    simp
    omega
  have e : opIx d (.int i) = (ixN ds.length i).bind fun j => ds[j]? := by rcases h with rfl | rfl <;> rfl
  rw [e, e2, Option.bind_some, List.getElem?_eq_getElem hi]
theorem all_strs {ys : List D} {ws : List Str} (h : ∀ y ∈ ys, ∃ s ∈ ws, y = .str s) : ∃ ks : List Str, ys = ks.map .str ∧ ∀ k ∈ ks, k ∈ ws := by
  induction ys with
  | nil => exact ⟨[], rfl, fun k hk => (List.not_mem_nil hk).elim⟩
  | cons y ys ih =>
    obtain ⟨ks, e, hk⟩ := ih fun z hz => h z (List.mem_cons_of_mem _ hz)
    obtain ⟨s, hs, rfl⟩ := h y List.mem_cons_self
    refine ⟨s :: ks, by rw [e]; rfl, fun k hk' => ?_⟩
    rcases List.mem_cons.mp hk' with rfl | hk'
    · exact hs
    · exact hk k hk'
theorem some_of_ok {ws : List Str} (h1 : ws ≠ []) (h2 : ws.length ≤ 12) {pool : D} (hp : SeqD (ws.map .str) pool) {n : Int} (hn : n ≤ 900000) {rd : Rdr} (hr : RdI n rd) :
    Wp (mf__law_some_of [pool] rd) fun d rd' => (∃ ks : List Str, d = .tup (ks.map .str) ∧ ks ≠ [] ∧ (∀ k ∈ ks, k ∈ ws) ∧ ks.length ≤ ws.length) ∧ RdI (n + 13) rd' := by
  have e : mf__law_some_of [pool] rd = (b__law_some_of (initE true [pool] 2) rd).bind flFin := rfl
  have l1 := List.length_pos_iff.mpr h1
  have hl := hp.len
  rw [List.length_map] at hl
  rw [e]
  simp only [ev_bind1, ev_lift, ev_eC, ev_eVar, ev_eOp, ev_eUn, ev_eT, ev_mAnd, ev_mOr, ev_mNot, ev_eAnd, ev_eIf, ev_chain, ev_aNil, ev_aCons, ev_eTup, ev_eLst, ev_eCall, ev_eFn, ev_eFnR, ev_eIter, ev_eRange, ev_eLc, ev_eSl, ev_pNone, ev_pSome, ev_mFrz, ev_sNx, ev_sSet, ev_sRet, ev_sSeq, ev_sIf, ev_sUnp, ev_sNew, ev_fLst, ev_fCat, ev_sApp, ev_sFrz, ev_sFor, ev_vNil, ev_vVal, ev_vOwn, ev_sTup, ev_eRd, ev_sRd, and_self, true_and, and_true, eq_self, eqS, eqI, neS, neI, decide_true, decide_false, decide_eq_true_eq, Bool.not_true, Bool.not_false, initE, setPat, setAll, op1, isBl, flFin, iterD, seqOf, List.length_cons, List.length_nil, Bool.false_eq_true, if_false, if_true, List.nil_append, List.map_cons, List.map_nil, List.replicate, List.cons_append, Option.bind_some, Option.map_some, List.set_cons_succ, List.set_cons_zero, List.getElem?_cons_zero, List.getElem?_cons_succ, Nat.reduceAdd, b__law_some_of, hl]
  simp only [wp_obind, wp_some, wp_omap, wp_omap2]
  simp only [ev_bind1, ev_lift, ev_eC, ev_eVar, ev_eOp, ev_eUn, ev_eT, ev_mAnd, ev_mOr, ev_mNot, ev_eAnd, ev_eIf, ev_chain, ev_aNil, ev_aCons, ev_eTup, ev_eLst, ev_eCall, ev_eFn, ev_eFnR, ev_eIter, ev_eRange, ev_eLc, ev_eSl, ev_pNone, ev_pSome, ev_mFrz, ev_sNx, ev_sSet, ev_sRet, ev_sSeq, ev_sIf, ev_sUnp, ev_sNew, ev_fLst, ev_fCat, ev_sApp, ev_sFrz, ev_sFor, ev_vNil, ev_vVal, ev_vOwn, ev_sTup, ev_eRd, ev_sRd, and_self, true_and, and_true, eq_self, eqS, eqI, neS, neI, decide_true, decide_false, decide_eq_true_eq, Bool.not_true, Bool.not_false, initE, setPat, setAll, op1, isBl, flFin, iterD, seqOf, List.length_cons, List.length_nil, Bool.false_eq_true, if_false, if_true, List.nil_append, List.map_cons, List.map_nil, List.replicate, List.cons_append, Option.bind_some, Option.map_some, List.set_cons_succ, List.set_cons_zero, List.getElem?_cons_zero, List.getElem?_cons_succ, Nat.reduceAdd, wp_obind, wp_some, wp_omap, wp_omap2, hl]
  refine (draw_ok (many := ws.length) (by omega) (by omega) (by omega) hr).mono ?_
  rintro _ rd1 ⟨⟨k, rfl, k0, k1⟩, hr1⟩
  have z12 : (rangeD 0 ws.length).length ≤ sizeLine := by
    rw [range_len]
    exact szl h2
  refine ⟨_, rfl, _, range1_n (by omega), ?_⟩
  rw [if_pos z12]
  simp only [wp_omap2]
  refine (lcGo_wp (P := fun y => ∃ s ∈ ws, y = .str s) (M := fun d => d = .int k) (J := fun j r => RdI (n + 1 + j) r) (n := 0) ?_ (by simpa using hr1)).mono ?_
  · intro d hd j r hj hJ
    obtain ⟨i, rfl, hi⟩ := mem_range hd
    rw [range_len] at hj
    refine ⟨_, rfl, ?_⟩
    have hix := hp.ix (i := i) (by rw [List.length_map]; exact hi)
    rw [List.getElem_map] at hix
    have fin : ∀ r2, RdI (n + 1 + ((j + 1 : Nat) : Int)) r2 → Wp (eOp opIx (eVar 1) (eVar 3) [.rdr, .val pool, .val (.int k), .val (.int i)] r2) fun y r2 => (∃ s ∈ ws, y = .str s) ∧ RdI (n + 1 + ((j + 1 : Nat) : Int)) r2 := fun r2 h2 => by
      refine ⟨.str ws[i], r2, ?_, ⟨_, List.getElem_mem hi, rfl⟩, h2⟩
      simp only [ev_bind1, ev_lift, ev_eC, ev_eVar, ev_eOp, ev_eUn, ev_eT, ev_mAnd, ev_mOr, ev_mNot, ev_eAnd, ev_eIf, ev_chain, ev_aNil, ev_aCons, ev_eTup, ev_eLst, ev_eCall, ev_eFn, ev_eFnR, ev_eIter, ev_eRange, ev_eLc, ev_eSl, ev_pNone, ev_pSome, ev_mFrz, ev_sNx, ev_sSet, ev_sRet, ev_sSeq, ev_sIf, ev_sUnp, ev_sNew, ev_fLst, ev_fCat, ev_sApp, ev_sFrz, ev_sFor, ev_vNil, ev_vVal, ev_vOwn, ev_sTup, ev_eRd, ev_sRd, and_self, true_and, and_true, eq_self, eqS, eqI, neS, neI, decide_true, decide_false, decide_eq_true_eq, Bool.not_true, Bool.not_false, initE, setPat, setAll, op1, isBl, flFin, iterD, seqOf, List.length_cons, List.length_nil, Bool.false_eq_true, if_false, if_true, List.nil_append, List.map_cons, List.map_nil, List.replicate, List.cons_append, Option.bind_some, Option.map_some, List.set_cons_succ, List.set_cons_zero, List.getElem?_cons_zero, List.getElem?_cons_succ, Nat.reduceAdd, hix]
    have tst : mOr (eT (eOp opEq (eVar 3) (eVar 2))) (eT (eOp opEq (eFnR mf__law_draw 1 0 (aCons (eC (.int 2)) aNil)) (eC (.int 0)))) [.rdr, .val pool, .val (.int k), .val (.int i)] r =
        if (i : Int) = k then some (true, r) else (mf__law_draw [.int 2] r).bind fun p => (opEq p.1 (.int 0)).bind fun q => (isBl q).map fun x => (x, p.2) := by
      by_cases hik : (i : Int) = k
      · simp only [ev_bind1, ev_lift, ev_eC, ev_eVar, ev_eOp, ev_eUn, ev_eT, ev_mAnd, ev_mOr, ev_mNot, ev_eAnd, ev_eIf, ev_chain, ev_aNil, ev_aCons, ev_eTup, ev_eLst, ev_eCall, ev_eFn, ev_eFnR, ev_eIter, ev_eRange, ev_eLc, ev_eSl, ev_pNone, ev_pSome, ev_mFrz, ev_sNx, ev_sSet, ev_sRet, ev_sSeq, ev_sIf, ev_sUnp, ev_sNew, ev_fLst, ev_fCat, ev_sApp, ev_sFrz, ev_sFor, ev_vNil, ev_vVal, ev_vOwn, ev_sTup, ev_eRd, ev_sRd, and_self, true_and, and_true, eq_self, eqS, eqI, neS, neI, decide_true, decide_false, decide_eq_true_eq, Bool.not_true, Bool.not_false, initE, setPat, setAll, op1, isBl, flFin, iterD, seqOf, List.length_cons, List.length_nil, Bool.false_eq_true, if_false, if_true, List.nil_append, List.map_cons, List.map_nil, List.replicate, List.cons_append, Option.bind_some, Option.map_some, List.set_cons_succ, List.set_cons_zero, List.getElem?_cons_zero, List.getElem?_cons_succ, Nat.reduceAdd, hik]
      · simp only [ev_bind1, ev_lift, ev_eC, ev_eVar, ev_eOp, ev_eUn, ev_eT, ev_mAnd, ev_mOr, ev_mNot, ev_eAnd, ev_eIf, ev_chain, ev_aNil, ev_aCons, ev_eTup, ev_eLst, ev_eCall, ev_eFn, ev_eFnR, ev_eIter, ev_eRange, ev_eLc, ev_eSl, ev_pNone, ev_pSome, ev_mFrz, ev_sNx, ev_sSet, ev_sRet, ev_sSeq, ev_sIf, ev_sUnp, ev_sNew, ev_fLst, ev_fCat, ev_sApp, ev_sFrz, ev_sFor, ev_vNil, ev_vVal, ev_vOwn, ev_sTup, ev_eRd, ev_sRd, and_self, true_and, and_true, eq_self, eqS, eqI, neS, neI, decide_true, decide_false, decide_eq_true_eq, Bool.not_true, Bool.not_false, initE, setPat, setAll, op1, isBl, flFin, iterD, seqOf, List.length_cons, List.length_nil, Bool.false_eq_true, if_false, if_true, List.nil_append, List.map_cons, List.map_nil, List.replicate, List.cons_append, Option.bind_some, Option.map_some, List.set_cons_succ, List.set_cons_zero, List.getElem?_cons_zero, List.getElem?_cons_succ, Nat.reduceAdd, hik]
        generalize mf__law_draw [D.int 2] r = x
        cases x with
        | none => rfl
        | some p =>
          simp only [Option.bind_some]
          generalize opEq p.1 (D.int 0) = y
          cases y with
          | none => rfl
          | some q =>
            simp only [Option.bind_some, Option.map_some]
    show Wp (mOr _ _ [.rdr, .val pool, .val (.int k), .val (.int i)] r) _
    rw [tst]
    by_cases hik : (i : Int) = k
    · rw [if_pos hik]
      exact ⟨_, _, rfl, fun _ => rfl, fun _ => fin _ (hJ.mono (by omega)), fun z => by cases z⟩
    · rw [if_neg hik, wp_obind]
      refine (draw_ok (many := 2) (by omega) (by omega) (by omega) hJ).mono ?_
      rintro _ rd2 ⟨⟨q, rfl, q0, q1⟩, hr2⟩
      refine ⟨_, _, rfl, fun z => ?_, fun _ => fin _ (hr2.mono (by omega)), fun _ => hr2.mono (by omega)⟩
      exact absurd (by cases z; rfl) hik
  · rintro ys rd2 ⟨g1, g2, g3, g4⟩
    obtain ⟨ks, rfl, hk⟩ := all_strs g1
    rw [range_len] at g2 g3
    rw [List.length_map] at g2
    refine ⟨_, rfl, ⟨ks, rfl, fun z => ?_, hk, g2⟩, g3.mono (by omega)⟩
    exact g4 ⟨_, range_mem k0 k1, rfl⟩ (by rw [z]; rfl)
end My

set_option Elab.async false
set_option linter.all false
set_option maxRecDepth 100000
set_option maxHeartbeats 2000000
namespace My
open PySem PySem.Spec PyProof.Rows L2 FW
theorem ok_small {i : Int} (h0 : 0 ≤ i) (h : i ≤ 1000000) : OkI i := ⟨h0, by omega⟩
def words : List Str := [("buy" : Str), ("gift" : Str), ("meal" : Str), ("trip" : Str), ("a" : Str), ("limit" : Str), ("b" : Str), ("paid" : Str), ("zzzzzzzz" : Str), ("firm" : Str), ("aunt" : Str), ("me" : Str), ("food" : Str), ("toy" : Str), ("rent" : Str), ("c" : Str), ("d" : Str), ("e" : Str), ("no" : Str), ("pay" : Str), ("x" : Str), ("y" : Str), ("train" : Str), ("aa" : Str), ("ab" : Str), ("ac" : Str), ("s" : Str), ("sa" : Str), ("sb" : Str), ("sc" : Str), ("sd" : Str), ("purse" : Str), ("f" : Str), ("g" : Str), ("h" : Str), ("i" : Str), ("j" : Str), ("k" : Str), ("l" : Str)]
theorem words_ok : ∀ s ∈ words, Wd s := by
  have e : ∀ s ∈ words, s.length ≤ 8 ∧ ∀ c ∈ s.cps.toList, c < 128 := by decide +kernel
  exact e
theorem wd {s : Str} (h : s ∈ words) : Wd s := words_ok s h
def pools : List (List Str) := [[("buy" : Str), ("gift" : Str), ("meal" : Str), ("trip" : Str)], [("a" : Str), ("limit" : Str)], [("b" : Str), ("paid" : Str), ("zzzzzzzz" : Str)]]
theorem pools_ok : ∀ ws ∈ pools, ws ≠ [] ∧ ws.length ≤ 4 ∧ ∀ s ∈ ws, s ∈ words := by decide +kernel
def sponsors : List Str := [("firm" : Str), ("aunt" : Str), ("me" : Str), ("firm" : Str)]
theorem sponsors_ok : ∀ s ∈ sponsors, s ∈ words := by decide +kernel
def kinds3 : List Str := [("buy" : Str), ("food" : Str), ("toy" : Str)]
theorem kinds3_ok : ∀ s ∈ kinds3, s ∈ words := by decide +kernel
theorem ix_pools {k : Int} (h0 : 0 ≤ k) (h : k < 3) : ∃ ws ∈ pools, opIx (.lst (pools.map fun ws => .tup (ws.map .str))) (.int k) = some (.tup (ws.map .str)) := by
  obtain ⟨d, hd, hm⟩ := at_mod (ds := pools.map fun ws => D.tup (ws.map .str)) h0 (by simpa [pools] using h)
  obtain ⟨ws, hw, rfl⟩ := List.mem_map.mp hm
  exact ⟨ws, hw, hd⟩
theorem ix_strs {ws : List Str} {k : Int} (h0 : 0 ≤ k) (h : k < ws.length) : ∃ s ∈ ws, opIx (.lst (ws.map .str)) (.int k) = some (.str s) := by
  obtain ⟨d, hd, hm⟩ := at_mod (ds := ws.map D.str) h0 (by simpa using h)
  obtain ⟨s, hw, rfl⟩ := List.mem_map.mp hm
  exact ⟨s, hw, hd⟩
theorem random_purses_ok {n : Int} (hn : n ≤ 800000) {rd : Rdr} (hr : RdI n rd) :
    Wp (mf__law_random_purses [] rd) fun d rd' => (∃ ps : List BP, d = .tup (ps.map BP.d) ∧ ps ≠ [] ∧ ps.length ≤ 4 ∧ ∀ p ∈ ps, p.Ok) ∧ RdI (n + 100) rd' := by
  have e : mf__law_random_purses [] rd = (b__law_random_purses (initE true [] 6) rd).bind flFin := rfl
  have l0 : (0 : Nat) ≤ sizeLine := Nat.zero_le _
  have l2 : (2 : Nat) ≤ sizeLine := by decide
  have l3 : (3 : Nat) ≤ sizeLine := by decide
  have l4 : (4 : Nat) ≤ sizeLine := by decide
  have l5 : (5 : Nat) ≤ sizeLine := by decide
  rw [e]
  simp only [ev_bind1, ev_lift, ev_eC, ev_eVar, ev_eOp, ev_eUn, ev_eT, ev_mAnd, ev_mOr, ev_mNot, ev_eAnd, ev_eIf, ev_chain, ev_aNil, ev_aCons, ev_eTup, ev_eLst, ev_eCall, ev_eFn, ev_eFnR, ev_eIter, ev_eRange, ev_eLc, ev_eSl, ev_pNone, ev_pSome, ev_mFrz, ev_sNx, ev_sSet, ev_sRet, ev_sSeq, ev_sIf, ev_sUnp, ev_sNew, ev_fLst, ev_fCat, ev_sApp, ev_sFrz, ev_sFor, ev_vNil, ev_vVal, ev_vOwn, ev_sTup, ev_eRd, ev_sRd, and_self, true_and, and_true, eq_self, eqS, eqI, neS, neI, decide_true, decide_false, decide_eq_true_eq, Bool.not_true, Bool.not_false, initE, setPat, setAll, op1, isBl, flFin, iterD, seqOf, List.length_cons, List.length_nil, Bool.false_eq_true, if_false, if_true, List.nil_append, List.map_cons, List.map_nil, List.replicate, List.cons_append, Option.bind_some, Option.map_some, List.set_cons_succ, List.set_cons_zero, List.getElem?_cons_zero, List.getElem?_cons_succ, Nat.reduceAdd, b__law_random_purses, l0, l2, l3, l4]
  simp only [wp_obind, wp_some, wp_omap, wp_omap2]
  refine (draw_ok (many := 3) (by omega) (by omega) (by omega) hr).mono ?_
  rintro _ rd1 ⟨⟨k, rfl, k0, k1⟩, hr1⟩
  obtain ⟨ws, hws, hix⟩ := ix_pools k0 k1
  obtain ⟨w1, w2, w3⟩ := pools_ok ws hws
  refine ⟨_, hix, ?_⟩
  try simp only [ev_bind1, ev_lift, ev_eC, ev_eVar, ev_eOp, ev_eUn, ev_eT, ev_mAnd, ev_mOr, ev_mNot, ev_eAnd, ev_eIf, ev_chain, ev_aNil, ev_aCons, ev_eTup, ev_eLst, ev_eCall, ev_eFn, ev_eFnR, ev_eIter, ev_eRange, ev_eLc, ev_eSl, ev_pNone, ev_pSome, ev_mFrz, ev_sNx, ev_sSet, ev_sRet, ev_sSeq, ev_sIf, ev_sUnp, ev_sNew, ev_fLst, ev_fCat, ev_sApp, ev_sFrz, ev_sFor, ev_vNil, ev_vVal, ev_vOwn, ev_sTup, ev_eRd, ev_sRd, and_self, true_and, and_true, eq_self, eqS, eqI, neS, neI, decide_true, decide_false, decide_eq_true_eq, Bool.not_true, Bool.not_false, initE, setPat, setAll, op1, isBl, flFin, iterD, seqOf, List.length_cons, List.length_nil, Bool.false_eq_true, if_false, if_true, List.nil_append, List.map_cons, List.map_nil, List.replicate, List.cons_append, Option.bind_some, Option.map_some, List.set_cons_succ, List.set_cons_zero, List.getElem?_cons_zero, List.getElem?_cons_succ, Nat.reduceAdd, wp_obind, wp_some, wp_omap, wp_omap2]
  refine (some_of_ok w1 (by omega) (.inl rfl) (by omega) hr1).mono ?_
  rintro _ rd2 ⟨⟨ks, rfl, n1, n2, n3⟩, hr2⟩
  try simp only [ev_bind1, ev_lift, ev_eC, ev_eVar, ev_eOp, ev_eUn, ev_eT, ev_mAnd, ev_mOr, ev_mNot, ev_eAnd, ev_eIf, ev_chain, ev_aNil, ev_aCons, ev_eTup, ev_eLst, ev_eCall, ev_eFn, ev_eFnR, ev_eIter, ev_eRange, ev_eLc, ev_eSl, ev_pNone, ev_pSome, ev_mFrz, ev_sNx, ev_sSet, ev_sRet, ev_sSeq, ev_sIf, ev_sUnp, ev_sNew, ev_fLst, ev_fCat, ev_sApp, ev_sFrz, ev_sFor, ev_vNil, ev_vVal, ev_vOwn, ev_sTup, ev_eRd, ev_sRd, and_self, true_and, and_true, eq_self, eqS, eqI, neS, neI, decide_true, decide_false, decide_eq_true_eq, Bool.not_true, Bool.not_false, initE, setPat, setAll, op1, isBl, flFin, iterD, seqOf, List.length_cons, List.length_nil, Bool.false_eq_true, if_false, if_true, List.nil_append, List.map_cons, List.map_nil, List.replicate, List.cons_append, Option.bind_some, Option.map_some, List.set_cons_succ, List.set_cons_zero, List.getElem?_cons_zero, List.getElem?_cons_succ, Nat.reduceAdd, wp_obind, wp_some, wp_omap, wp_omap2]
  refine ⟨_, rfl, ?_⟩
  refine (forGo_wp (E := fun k env r => ∃ (ps : List BP) (x3 x4 x5 x6 : SV), env = [.rdr, .own (ps.map BP.d), .val (.tup (ws.map .str)), x3, x4, x5, x6] ∧ (∀ p ∈ ps, p.Ok) ∧ ps.length = k ∧ RdI (n + 14 + 20 * k) r) (n := 0) ?_ ⟨[], _, _, _, _, rfl, fun p hp => (List.not_mem_nil hp).elim, rfl, hr2.mono (by omega)⟩).mono ?_
  · rintro d hd j env r hj ⟨ps, x3, x4, x5, x6, rfl, hps, hpl, hJ⟩
    obtain ⟨nm, hnm, rfl⟩ := List.mem_map.mp hd
    rw [List.length_map] at hj
    have hnw := w3 _ (n2 _ hnm)
    refine ⟨_, rfl, ?_⟩
    simp only [ev_bind1, ev_lift, ev_eC, ev_eVar, ev_eOp, ev_eUn, ev_eT, ev_mAnd, ev_mOr, ev_mNot, ev_eAnd, ev_eIf, ev_chain, ev_aNil, ev_aCons, ev_eTup, ev_eLst, ev_eCall, ev_eFn, ev_eFnR, ev_eIter, ev_eRange, ev_eLc, ev_eSl, ev_pNone, ev_pSome, ev_mFrz, ev_sNx, ev_sSet, ev_sRet, ev_sSeq, ev_sIf, ev_sUnp, ev_sNew, ev_fLst, ev_fCat, ev_sApp, ev_sFrz, ev_sFor, ev_vNil, ev_vVal, ev_vOwn, ev_sTup, ev_eRd, ev_sRd, and_self, true_and, and_true, eq_self, eqS, eqI, neS, neI, decide_true, decide_false, decide_eq_true_eq, Bool.not_true, Bool.not_false, initE, setPat, setAll, op1, isBl, flFin, iterD, seqOf, List.length_cons, List.length_nil, Bool.false_eq_true, if_false, if_true, List.nil_append, List.map_cons, List.map_nil, List.replicate, List.cons_append, Option.bind_some, Option.map_some, List.set_cons_succ, List.set_cons_zero, List.getElem?_cons_zero, List.getElem?_cons_succ, Nat.reduceAdd, l3, l4]
    simp only [wp_obind, wp_some, wp_omap, wp_omap2]
    refine (draw_ok (many := 3) (by omega) (by omega) (by omega) hJ).mono ?_
    rintro _ r1 ⟨⟨b, rfl, b0, b1⟩, hr1⟩
    try simp only [ev_bind1, ev_lift, ev_eC, ev_eVar, ev_eOp, ev_eUn, ev_eT, ev_mAnd, ev_mOr, ev_mNot, ev_eAnd, ev_eIf, ev_chain, ev_aNil, ev_aCons, ev_eTup, ev_eLst, ev_eCall, ev_eFn, ev_eFnR, ev_eIter, ev_eRange, ev_eLc, ev_eSl, ev_pNone, ev_pSome, ev_mFrz, ev_sNx, ev_sSet, ev_sRet, ev_sSeq, ev_sIf, ev_sUnp, ev_sNew, ev_fLst, ev_fCat, ev_sApp, ev_sFrz, ev_sFor, ev_vNil, ev_vVal, ev_vOwn, ev_sTup, ev_eRd, ev_sRd, and_self, true_and, and_true, eq_self, eqS, eqI, neS, neI, decide_true, decide_false, decide_eq_true_eq, Bool.not_true, Bool.not_false, initE, setPat, setAll, op1, isBl, flFin, iterD, seqOf, List.length_cons, List.length_nil, Bool.false_eq_true, if_false, if_true, List.nil_append, List.map_cons, List.map_nil, List.replicate, List.cons_append, Option.bind_some, Option.map_some, List.set_cons_succ, List.set_cons_zero, List.getElem?_cons_zero, List.getElem?_cons_succ, Nat.reduceAdd, wp_obind, wp_some, wp_omap, wp_omap2]
    refine (draw_ok (many := 4) (by omega) (by omega) (by omega) hr1).mono ?_
    rintro _ r2 ⟨⟨q, rfl, q0, q1⟩, hr2⟩
    obtain ⟨sp, hsp, hix⟩ := ix_strs (ws := sponsors) q0 (by simpa [sponsors] using q1)
    refine ⟨_, hix, ?_⟩
    try simp only [ev_bind1, ev_lift, ev_eC, ev_eVar, ev_eOp, ev_eUn, ev_eT, ev_mAnd, ev_mOr, ev_mNot, ev_eAnd, ev_eIf, ev_chain, ev_aNil, ev_aCons, ev_eTup, ev_eLst, ev_eCall, ev_eFn, ev_eFnR, ev_eIter, ev_eRange, ev_eLc, ev_eSl, ev_pNone, ev_pSome, ev_mFrz, ev_sNx, ev_sSet, ev_sRet, ev_sSeq, ev_sIf, ev_sUnp, ev_sNew, ev_fLst, ev_fCat, ev_sApp, ev_sFrz, ev_sFor, ev_vNil, ev_vVal, ev_vOwn, ev_sTup, ev_eRd, ev_sRd, and_self, true_and, and_true, eq_self, eqS, eqI, neS, neI, decide_true, decide_false, decide_eq_true_eq, Bool.not_true, Bool.not_false, initE, setPat, setAll, op1, isBl, flFin, iterD, seqOf, List.length_cons, List.length_nil, Bool.false_eq_true, if_false, if_true, List.nil_append, List.map_cons, List.map_nil, List.replicate, List.cons_append, Option.bind_some, Option.map_some, List.set_cons_succ, List.set_cons_zero, List.getElem?_cons_zero, List.getElem?_cons_succ, Nat.reduceAdd, wp_obind, wp_some, wp_omap, wp_omap2]
    refine (some_of_ok (ws := kinds3) (by simp [kinds3]) (by simp [kinds3]) (.inl rfl) (by omega) hr2).mono ?_
    rintro _ r3 ⟨⟨ks, rfl, m1, m2, m3⟩, hr3⟩
    try simp only [ev_bind1, ev_lift, ev_eC, ev_eVar, ev_eOp, ev_eUn, ev_eT, ev_mAnd, ev_mOr, ev_mNot, ev_eAnd, ev_eIf, ev_chain, ev_aNil, ev_aCons, ev_eTup, ev_eLst, ev_eCall, ev_eFn, ev_eFnR, ev_eIter, ev_eRange, ev_eLc, ev_eSl, ev_pNone, ev_pSome, ev_mFrz, ev_sNx, ev_sSet, ev_sRet, ev_sSeq, ev_sIf, ev_sUnp, ev_sNew, ev_fLst, ev_fCat, ev_sApp, ev_sFrz, ev_sFor, ev_vNil, ev_vVal, ev_vOwn, ev_sTup, ev_eRd, ev_sRd, and_self, true_and, and_true, eq_self, eqS, eqI, neS, neI, decide_true, decide_false, decide_eq_true_eq, Bool.not_true, Bool.not_false, initE, setPat, setAll, op1, isBl, flFin, iterD, seqOf, List.length_cons, List.length_nil, Bool.false_eq_true, if_false, if_true, List.nil_append, List.map_cons, List.map_nil, List.replicate, List.cons_append, Option.bind_some, Option.map_some, List.set_cons_succ, List.set_cons_zero, List.getElem?_cons_zero, List.getElem?_cons_succ, Nat.reduceAdd, wp_obind, wp_some, wp_omap, wp_omap2]
    refine (draw_ok (many := 5) (by omega) (by omega) (by omega) hr3).mono ?_
    rintro _ r4 ⟨⟨z, rfl, z0, z1⟩, hr4⟩
    have lp : (List.map BP.d ps).length < sizeLine := by
      rw [List.length_map]
      have : sizeLine = 16777216 := by decide
      omega
    refine ⟨_, addI, ?_⟩
    simp only [ev_bind1, ev_lift, ev_eC, ev_eVar, ev_eOp, ev_eUn, ev_eT, ev_mAnd, ev_mOr, ev_mNot, ev_eAnd, ev_eIf, ev_chain, ev_aNil, ev_aCons, ev_eTup, ev_eLst, ev_eCall, ev_eFn, ev_eFnR, ev_eIter, ev_eRange, ev_eLc, ev_eSl, ev_pNone, ev_pSome, ev_mFrz, ev_sNx, ev_sSet, ev_sRet, ev_sSeq, ev_sIf, ev_sUnp, ev_sNew, ev_fLst, ev_fCat, ev_sApp, ev_sFrz, ev_sFor, ev_vNil, ev_vVal, ev_vOwn, ev_sTup, ev_eRd, ev_sRd, and_self, true_and, and_true, eq_self, eqS, eqI, neS, neI, decide_true, decide_false, decide_eq_true_eq, Bool.not_true, Bool.not_false, initE, setPat, setAll, op1, isBl, flFin, iterD, seqOf, List.length_cons, List.length_nil, Bool.false_eq_true, if_false, if_true, List.nil_append, List.map_cons, List.map_nil, List.replicate, List.cons_append, Option.bind_some, Option.map_some, List.set_cons_succ, List.set_cons_zero, List.getElem?_cons_zero, List.getElem?_cons_succ, Nat.reduceAdd, wp_obind, wp_some, wp_omap, wp_omap2, l5, lp]
    refine ⟨_, rfl, ps ++ [⟨nm, sp, ks, b, b + z⟩], _, _, _, _, by rw [List.map_append]; rfl, fun p hp => ?_, by rw [List.length_append, hpl]; rfl, hr4.mono (by omega)⟩
    rcases List.mem_append.mp hp with hp | hp
    · exact hps p hp
    · obtain rfl := List.mem_singleton.mp hp
      exact ⟨wd hnw, wd (sponsors_ok sp hsp), fun k hk => wd (kinds3_ok k (m2 k hk)), m1, Nat.le_trans m3 (by decide), ok_small (i := b) b0 (by omega), ok_small (i := b + z) (by omega) (by omega)⟩
  · rintro fl r ⟨env, rfl, ps, x3, x4, x5, x6, rfl, hps, hpl, hJ⟩
    rw [List.length_map] at hpl hJ
    have fz : frzAt 1 [.rdr, .own (ps.map BP.d), .val (.tup (ws.map .str)), x3, x4, x5, x6] = [.rdr, .val (.lst (ps.map BP.d)), .val (.tup (ws.map .str)), x3, x4, x5, x6] := rfl
    simp only [ev_bind1, ev_lift, ev_eC, ev_eVar, ev_eOp, ev_eUn, ev_eT, ev_mAnd, ev_mOr, ev_mNot, ev_eAnd, ev_eIf, ev_chain, ev_aNil, ev_aCons, ev_eTup, ev_eLst, ev_eCall, ev_eFn, ev_eFnR, ev_eIter, ev_eRange, ev_eLc, ev_eSl, ev_pNone, ev_pSome, ev_mFrz, ev_sNx, ev_sSet, ev_sRet, ev_sSeq, ev_sIf, ev_sUnp, ev_sNew, ev_fLst, ev_fCat, ev_sApp, ev_sFrz, ev_sFor, ev_vNil, ev_vVal, ev_vOwn, ev_sTup, ev_eRd, ev_sRd, and_self, true_and, and_true, eq_self, eqS, eqI, neS, neI, decide_true, decide_false, decide_eq_true_eq, Bool.not_true, Bool.not_false, initE, setPat, setAll, op1, isBl, flFin, iterD, seqOf, List.length_cons, List.length_nil, Bool.false_eq_true, if_false, if_true, List.nil_append, List.map_cons, List.map_nil, List.replicate, List.cons_append, Option.bind_some, Option.map_some, List.set_cons_succ, List.set_cons_zero, List.getElem?_cons_zero, List.getElem?_cons_succ, Nat.reduceAdd, wp_obind, wp_some, wp_omap, wp_omap2, fz]
    have kl := List.length_pos_iff.mpr n1
    refine ⟨_, rfl, ⟨ps, rfl, fun z => ?_, by omega, hps⟩, hJ.mono (by omega)⟩
    rw [z, List.length_nil] at hpl
    omega
theorem flat_strs (ks : List Str) : (ks.map D.str).all flatD = true := by
  induction ks with
  | nil => rfl
  | cons k ks ih => rw [List.map_cons, List.all_cons, ih]; rfl
theorem in_strs (neg : Bool) (k : Str) (ks : List Str) : ∃ b, opIn neg (.str k) (.tup (ks.map .str)) = some (.bl b) := by
  have e : opIn neg (.str k) (.tup (ks.map .str)) = if flatD (.str k) = true ∧ (ks.map D.str).all flatD = true then some (.bl (if neg = true then !inD (.str k) (ks.map .str) else inD (.str k) (ks.map .str))) else none := rfl
  exact ⟨_, by rw [e, if_pos ⟨rfl, flat_strs ks⟩]⟩
theorem ix5_2 {a b c d e : D} : opIx (.tup [a, b, c, d, e]) (.int 2) = some c := rfl
theorem ix5_3 {a b c d e : D} : opIx (.tup [a, b, c, d, e]) (.int 3) = some d := rfl
theorem ix5_4 {a b c d e : D} : opIx (.tup [a, b, c, d, e]) (.int 4) = some e := rfl
theorem ix5_0 {a b c d e : D} : opIx (.tup [a, b, c, d, e]) (.int 0) = some a := rfl
theorem ix5_1 {a b c d e : D} : opIx (.tup [a, b, c, d, e]) (.int 1) = some b := rfl
theorem ix4_0 {a b c d : D} : opIx (.tup [a, b, c, d]) (.int 0) = some a := rfl
theorem ix4_1 {a b c d : D} : opIx (.tup [a, b, c, d]) (.int 1) = some b := rfl
theorem ix4_2 {a b c d : D} : opIx (.tup [a, b, c, d]) (.int 2) = some c := rfl
theorem ix4_3 {a b c d : D} : opIx (.tup [a, b, c, d]) (.int 3) = some d := rfl
theorem pays_ok (p : BP) (w k : Str) (d a : Int) : ∃ c, ∀ rd, mf__law_pays [p.d, .tup [.str w, .int d, .str k, .int a]] rd = some (.bl c, rd) := by
  obtain ⟨c1, e1⟩ := in_strs false k p.ks
  refine ⟨c1 && (decide (p.b ≤ d) && decide (d ≤ p.e)), fun rd => ?_⟩
  have e : mf__law_pays [p.d, .tup [.str w, .int d, .str k, .int a]] rd = (b__law_pays (initE false [p.d, .tup [.str w, .int d, .str k, .int a]] 0) rd).bind flFin := rfl
  rw [e]
  cases c1 with
  | false => simp only [ev_bind1, ev_lift, ev_eC, ev_eVar, ev_eOp, ev_eUn, ev_eT, ev_mAnd, ev_mOr, ev_mNot, ev_eAnd, ev_eIf, ev_chain, ev_aNil, ev_aCons, ev_eTup, ev_eLst, ev_eCall, ev_eFn, ev_eFnR, ev_eIter, ev_eRange, ev_eLc, ev_eSl, ev_pNone, ev_pSome, ev_mFrz, ev_sNx, ev_sSet, ev_sRet, ev_sSeq, ev_sIf, ev_sUnp, ev_sNew, ev_fLst, ev_fCat, ev_sApp, ev_sFrz, ev_sFor, ev_vNil, ev_vVal, ev_vOwn, ev_sTup, ev_eRd, ev_sRd, and_self, true_and, and_true, eq_self, eqS, eqI, neS, neI, decide_true, decide_false, decide_eq_true_eq, Bool.not_true, Bool.not_false, initE, setPat, setAll, op1, isBl, flFin, iterD, seqOf, List.length_cons, List.length_nil, Bool.false_eq_true, if_false, if_true, List.nil_append, List.map_cons, List.map_nil, List.replicate, List.cons_append, Option.bind_some, Option.map_some, List.set_cons_succ, List.set_cons_zero, List.getElem?_cons_zero, List.getElem?_cons_succ, Nat.reduceAdd, b__law_pays, BP.d, ix5_2, ix5_3, ix5_4, ix4_1, ix4_2, e1, Bool.false_and]
  | true =>
    by_cases h1 : p.b ≤ d
    · simp only [ev_bind1, ev_lift, ev_eC, ev_eVar, ev_eOp, ev_eUn, ev_eT, ev_mAnd, ev_mOr, ev_mNot, ev_eAnd, ev_eIf, ev_chain, ev_aNil, ev_aCons, ev_eTup, ev_eLst, ev_eCall, ev_eFn, ev_eFnR, ev_eIter, ev_eRange, ev_eLc, ev_eSl, ev_pNone, ev_pSome, ev_mFrz, ev_sNx, ev_sSet, ev_sRet, ev_sSeq, ev_sIf, ev_sUnp, ev_sNew, ev_fLst, ev_fCat, ev_sApp, ev_sFrz, ev_sFor, ev_vNil, ev_vVal, ev_vOwn, ev_sTup, ev_eRd, ev_sRd, and_self, true_and, and_true, eq_self, eqS, eqI, neS, neI, decide_true, decide_false, decide_eq_true_eq, Bool.not_true, Bool.not_false, initE, setPat, setAll, op1, isBl, flFin, iterD, seqOf, List.length_cons, List.length_nil, Bool.false_eq_true, if_false, if_true, List.nil_append, List.map_cons, List.map_nil, List.replicate, List.cons_append, Option.bind_some, Option.map_some, List.set_cons_succ, List.set_cons_zero, List.getElem?_cons_zero, List.getElem?_cons_succ, Nat.reduceAdd, b__law_pays, BP.d, ix5_2, ix5_3, ix5_4, ix4_1, ix4_2, e1, cmpI, h1, Bool.true_and]
    · simp only [ev_bind1, ev_lift, ev_eC, ev_eVar, ev_eOp, ev_eUn, ev_eT, ev_mAnd, ev_mOr, ev_mNot, ev_eAnd, ev_eIf, ev_chain, ev_aNil, ev_aCons, ev_eTup, ev_eLst, ev_eCall, ev_eFn, ev_eFnR, ev_eIter, ev_eRange, ev_eLc, ev_eSl, ev_pNone, ev_pSome, ev_mFrz, ev_sNx, ev_sSet, ev_sRet, ev_sSeq, ev_sIf, ev_sUnp, ev_sNew, ev_fLst, ev_fCat, ev_sApp, ev_sFrz, ev_sFor, ev_vNil, ev_vVal, ev_vOwn, ev_sTup, ev_eRd, ev_sRd, and_self, true_and, and_true, eq_self, eqS, eqI, neS, neI, decide_true, decide_false, decide_eq_true_eq, Bool.not_true, Bool.not_false, initE, setPat, setAll, op1, isBl, flFin, iterD, seqOf, List.length_cons, List.length_nil, Bool.false_eq_true, if_false, if_true, List.nil_append, List.map_cons, List.map_nil, List.replicate, List.cons_append, Option.bind_some, Option.map_some, List.set_cons_succ, List.set_cons_zero, List.getElem?_cons_zero, List.getElem?_cons_succ, Nat.reduceAdd, b__law_pays, BP.d, ix5_2, ix5_3, ix5_4, ix4_1, ix4_2, e1, cmpI, h1, Bool.true_and, Bool.false_and]
def SmR (m : Nat) : BR → Prop
  | .buy d k a => (0 ≤ d ∧ d ≤ 4) ∧ k ∈ words ∧ 0 ≤ a ∧ a ≤ 4
  | .paid d k sh => (0 ≤ d ∧ d ≤ 4) ∧ k ∈ words ∧ sh.length = m ∧ ∀ s ∈ sh, 0 ≤ s ∧ s ≤ 3
def rowkinds : List Str := [("food" : Str), ("toy" : Str), ("buy" : Str), ("rent" : Str)]
theorem rowkinds_ok : ∀ s ∈ rowkinds, s ∈ words := by decide +kernel
theorem random_row_ok {ps : List BP} (hl : ps.length ≤ 4) {n : Int} (hn : n ≤ 800000) {rd : Rdr} (hr : RdI n rd) :
    Wp (mf__law_random_row [.tup (ps.map BP.d)] rd) fun d rd' => (∃ r : BR, d = r.d ∧ SmR ps.length r) ∧ RdI (n + 10) rd' := by
  have e : mf__law_random_row [.tup (ps.map BP.d)] rd = (b__law_random_row (initE true [.tup (ps.map BP.d)] 4) rd).bind flFin := rfl
  have l0 : (0 : Nat) ≤ sizeLine := Nat.zero_le _
  have l4 : (4 : Nat) ≤ sizeLine := by decide
  rw [e]
  simp only [ev_bind1, ev_lift, ev_eC, ev_eVar, ev_eOp, ev_eUn, ev_eT, ev_mAnd, ev_mOr, ev_mNot, ev_eAnd, ev_eIf, ev_chain, ev_aNil, ev_aCons, ev_eTup, ev_eLst, ev_eCall, ev_eFn, ev_eFnR, ev_eIter, ev_eRange, ev_eLc, ev_eSl, ev_pNone, ev_pSome, ev_mFrz, ev_sNx, ev_sSet, ev_sRet, ev_sSeq, ev_sIf, ev_sUnp, ev_sNew, ev_fLst, ev_fCat, ev_sApp, ev_sFrz, ev_sFor, ev_vNil, ev_vVal, ev_vOwn, ev_sTup, ev_eRd, ev_sRd, and_self, true_and, and_true, eq_self, eqS, eqI, neS, neI, decide_true, decide_false, decide_eq_true_eq, Bool.not_true, Bool.not_false, initE, setPat, setAll, op1, isBl, flFin, iterD, seqOf, List.length_cons, List.length_nil, Bool.false_eq_true, if_false, if_true, List.nil_append, List.map_cons, List.map_nil, List.replicate, List.cons_append, Option.bind_some, Option.map_some, List.set_cons_succ, List.set_cons_zero, List.getElem?_cons_zero, List.getElem?_cons_succ, Nat.reduceAdd, b__law_random_row, l0, l4]
  simp only [wp_obind, wp_some, wp_omap, wp_omap2]
  try simp only [ev_bind1, ev_lift, ev_eC, ev_eVar, ev_eOp, ev_eUn, ev_eT, ev_mAnd, ev_mOr, ev_mNot, ev_eAnd, ev_eIf, ev_chain, ev_aNil, ev_aCons, ev_eTup, ev_eLst, ev_eCall, ev_eFn, ev_eFnR, ev_eIter, ev_eRange, ev_eLc, ev_eSl, ev_pNone, ev_pSome, ev_mFrz, ev_sNx, ev_sSet, ev_sRet, ev_sSeq, ev_sIf, ev_sUnp, ev_sNew, ev_fLst, ev_fCat, ev_sApp, ev_sFrz, ev_sFor, ev_vNil, ev_vVal, ev_vOwn, ev_sTup, ev_eRd, ev_sRd, and_self, true_and, and_true, eq_self, eqS, eqI, neS, neI, decide_true, decide_false, decide_eq_true_eq, Bool.not_true, Bool.not_false, initE, setPat, setAll, op1, isBl, flFin, iterD, seqOf, List.length_cons, List.length_nil, Bool.false_eq_true, if_false, if_true, List.nil_append, List.map_cons, List.map_nil, List.replicate, List.cons_append, Option.bind_some, Option.map_some, List.set_cons_succ, List.set_cons_zero, List.getElem?_cons_zero, List.getElem?_cons_succ, Nat.reduceAdd, wp_obind, wp_some, wp_omap, wp_omap2]
  refine (draw_ok (many := 5) (by omega) (by omega) (by omega) hr).mono ?_
  rintro _ rd1 ⟨⟨dy, rfl, y0, y1⟩, hr1⟩
  try simp only [ev_bind1, ev_lift, ev_eC, ev_eVar, ev_eOp, ev_eUn, ev_eT, ev_mAnd, ev_mOr, ev_mNot, ev_eAnd, ev_eIf, ev_chain, ev_aNil, ev_aCons, ev_eTup, ev_eLst, ev_eCall, ev_eFn, ev_eFnR, ev_eIter, ev_eRange, ev_eLc, ev_eSl, ev_pNone, ev_pSome, ev_mFrz, ev_sNx, ev_sSet, ev_sRet, ev_sSeq, ev_sIf, ev_sUnp, ev_sNew, ev_fLst, ev_fCat, ev_sApp, ev_sFrz, ev_sFor, ev_vNil, ev_vVal, ev_vOwn, ev_sTup, ev_eRd, ev_sRd, and_self, true_and, and_true, eq_self, eqS, eqI, neS, neI, decide_true, decide_false, decide_eq_true_eq, Bool.not_true, Bool.not_false, initE, setPat, setAll, op1, isBl, flFin, iterD, seqOf, List.length_cons, List.length_nil, Bool.false_eq_true, if_false, if_true, List.nil_append, List.map_cons, List.map_nil, List.replicate, List.cons_append, Option.bind_some, Option.map_some, List.set_cons_succ, List.set_cons_zero, List.getElem?_cons_zero, List.getElem?_cons_succ, Nat.reduceAdd, wp_obind, wp_some, wp_omap, wp_omap2]
  refine (draw_ok (many := 4) (by omega) (by omega) (by omega) hr1).mono ?_
  rintro _ rd2 ⟨⟨q, rfl, q0, q1⟩, hr2⟩
  obtain ⟨kd, hkd, hix⟩ := ix_strs (ws := rowkinds) q0 (by simpa [rowkinds] using q1)
  refine ⟨_, hix, ?_⟩
  try simp only [ev_bind1, ev_lift, ev_eC, ev_eVar, ev_eOp, ev_eUn, ev_eT, ev_mAnd, ev_mOr, ev_mNot, ev_eAnd, ev_eIf, ev_chain, ev_aNil, ev_aCons, ev_eTup, ev_eLst, ev_eCall, ev_eFn, ev_eFnR, ev_eIter, ev_eRange, ev_eLc, ev_eSl, ev_pNone, ev_pSome, ev_mFrz, ev_sNx, ev_sSet, ev_sRet, ev_sSeq, ev_sIf, ev_sUnp, ev_sNew, ev_fLst, ev_fCat, ev_sApp, ev_sFrz, ev_sFor, ev_vNil, ev_vVal, ev_vOwn, ev_sTup, ev_eRd, ev_sRd, and_self, true_and, and_true, eq_self, eqS, eqI, neS, neI, decide_true, decide_false, decide_eq_true_eq, Bool.not_true, Bool.not_false, initE, setPat, setAll, op1, isBl, flFin, iterD, seqOf, List.length_cons, List.length_nil, Bool.false_eq_true, if_false, if_true, List.nil_append, List.map_cons, List.map_nil, List.replicate, List.cons_append, Option.bind_some, Option.map_some, List.set_cons_succ, List.set_cons_zero, List.getElem?_cons_zero, List.getElem?_cons_succ, Nat.reduceAdd, wp_obind, wp_some, wp_omap, wp_omap2, setSv]
  refine (draw_ok (many := 5) (by omega) (by omega) (by omega) hr2).mono ?_
  rintro _ rd3 ⟨⟨u, rfl, u0, u1⟩, hr3⟩
  refine ⟨_, cmpI, ?_⟩
  by_cases hu : u < 3
  · simp only [ev_bind1, ev_lift, ev_eC, ev_eVar, ev_eOp, ev_eUn, ev_eT, ev_mAnd, ev_mOr, ev_mNot, ev_eAnd, ev_eIf, ev_chain, ev_aNil, ev_aCons, ev_eTup, ev_eLst, ev_eCall, ev_eFn, ev_eFnR, ev_eIter, ev_eRange, ev_eLc, ev_eSl, ev_pNone, ev_pSome, ev_mFrz, ev_sNx, ev_sSet, ev_sRet, ev_sSeq, ev_sIf, ev_sUnp, ev_sNew, ev_fLst, ev_fCat, ev_sApp, ev_sFrz, ev_sFor, ev_vNil, ev_vVal, ev_vOwn, ev_sTup, ev_eRd, ev_sRd, and_self, true_and, and_true, eq_self, eqS, eqI, neS, neI, decide_true, decide_false, decide_eq_true_eq, Bool.not_true, Bool.not_false, initE, setPat, setAll, op1, isBl, flFin, iterD, seqOf, List.length_cons, List.length_nil, Bool.false_eq_true, if_false, if_true, List.nil_append, List.map_cons, List.map_nil, List.replicate, List.cons_append, Option.bind_some, Option.map_some, List.set_cons_succ, List.set_cons_zero, List.getElem?_cons_zero, List.getElem?_cons_succ, Nat.reduceAdd, wp_obind, wp_some, wp_omap, wp_omap2, hu]
    refine ⟨_, rfl, ?_⟩
    simp only [ev_bind1, ev_lift, ev_eC, ev_eVar, ev_eOp, ev_eUn, ev_eT, ev_mAnd, ev_mOr, ev_mNot, ev_eAnd, ev_eIf, ev_chain, ev_aNil, ev_aCons, ev_eTup, ev_eLst, ev_eCall, ev_eFn, ev_eFnR, ev_eIter, ev_eRange, ev_eLc, ev_eSl, ev_pNone, ev_pSome, ev_mFrz, ev_sNx, ev_sSet, ev_sRet, ev_sSeq, ev_sIf, ev_sUnp, ev_sNew, ev_fLst, ev_fCat, ev_sApp, ev_sFrz, ev_sFor, ev_vNil, ev_vVal, ev_vOwn, ev_sTup, ev_eRd, ev_sRd, and_self, true_and, and_true, eq_self, eqS, eqI, neS, neI, decide_true, decide_false, decide_eq_true_eq, Bool.not_true, Bool.not_false, initE, setPat, setAll, op1, isBl, flFin, iterD, seqOf, List.length_cons, List.length_nil, Bool.false_eq_true, if_false, if_true, List.nil_append, List.map_cons, List.map_nil, List.replicate, List.cons_append, Option.bind_some, Option.map_some, List.set_cons_succ, List.set_cons_zero, List.getElem?_cons_zero, List.getElem?_cons_succ, Nat.reduceAdd, wp_obind, wp_some, wp_omap, wp_omap2]
    refine (draw_ok (many := 5) (by omega) (by omega) (by omega) hr3).mono ?_
    rintro _ rd4 ⟨⟨v, rfl, v0, v1⟩, hr4⟩
    try simp only [ev_bind1, ev_lift, ev_eC, ev_eVar, ev_eOp, ev_eUn, ev_eT, ev_mAnd, ev_mOr, ev_mNot, ev_eAnd, ev_eIf, ev_chain, ev_aNil, ev_aCons, ev_eTup, ev_eLst, ev_eCall, ev_eFn, ev_eFnR, ev_eIter, ev_eRange, ev_eLc, ev_eSl, ev_pNone, ev_pSome, ev_mFrz, ev_sNx, ev_sSet, ev_sRet, ev_sSeq, ev_sIf, ev_sUnp, ev_sNew, ev_fLst, ev_fCat, ev_sApp, ev_sFrz, ev_sFor, ev_vNil, ev_vVal, ev_vOwn, ev_sTup, ev_eRd, ev_sRd, and_self, true_and, and_true, eq_self, eqS, eqI, neS, neI, decide_true, decide_false, decide_eq_true_eq, Bool.not_true, Bool.not_false, initE, setPat, setAll, op1, isBl, flFin, iterD, seqOf, List.length_cons, List.length_nil, Bool.false_eq_true, if_false, if_true, List.nil_append, List.map_cons, List.map_nil, List.replicate, List.cons_append, Option.bind_some, Option.map_some, List.set_cons_succ, List.set_cons_zero, List.getElem?_cons_zero, List.getElem?_cons_succ, Nat.reduceAdd, wp_obind, wp_some, wp_omap, wp_omap2, l4]
    exact ⟨⟨.buy dy kd v, rfl, ⟨y0, by omega⟩, rowkinds_ok kd hkd, v0, by omega⟩, hr4.mono (by omega)⟩
  · simp only [ev_bind1, ev_lift, ev_eC, ev_eVar, ev_eOp, ev_eUn, ev_eT, ev_mAnd, ev_mOr, ev_mNot, ev_eAnd, ev_eIf, ev_chain, ev_aNil, ev_aCons, ev_eTup, ev_eLst, ev_eCall, ev_eFn, ev_eFnR, ev_eIter, ev_eRange, ev_eLc, ev_eSl, ev_pNone, ev_pSome, ev_mFrz, ev_sNx, ev_sSet, ev_sRet, ev_sSeq, ev_sIf, ev_sUnp, ev_sNew, ev_fLst, ev_fCat, ev_sApp, ev_sFrz, ev_sFor, ev_vNil, ev_vVal, ev_vOwn, ev_sTup, ev_eRd, ev_sRd, and_self, true_and, and_true, eq_self, eqS, eqI, neS, neI, decide_true, decide_false, decide_eq_true_eq, Bool.not_true, Bool.not_false, initE, setPat, setAll, op1, isBl, flFin, iterD, seqOf, List.length_cons, List.length_nil, Bool.false_eq_true, if_false, if_true, List.nil_append, List.map_cons, List.map_nil, List.replicate, List.cons_append, Option.bind_some, Option.map_some, List.set_cons_succ, List.set_cons_zero, List.getElem?_cons_zero, List.getElem?_cons_succ, Nat.reduceAdd, wp_obind, wp_some, wp_omap, wp_omap2, hu]
    refine ⟨_, rfl, ?_⟩
    simp only [ev_bind1, ev_lift, ev_eC, ev_eVar, ev_eOp, ev_eUn, ev_eT, ev_mAnd, ev_mOr, ev_mNot, ev_eAnd, ev_eIf, ev_chain, ev_aNil, ev_aCons, ev_eTup, ev_eLst, ev_eCall, ev_eFn, ev_eFnR, ev_eIter, ev_eRange, ev_eLc, ev_eSl, ev_pNone, ev_pSome, ev_mFrz, ev_sNx, ev_sSet, ev_sRet, ev_sSeq, ev_sIf, ev_sUnp, ev_sNew, ev_fLst, ev_fCat, ev_sApp, ev_sFrz, ev_sFor, ev_vNil, ev_vVal, ev_vOwn, ev_sTup, ev_eRd, ev_sRd, and_self, true_and, and_true, eq_self, eqS, eqI, neS, neI, decide_true, decide_false, decide_eq_true_eq, Bool.not_true, Bool.not_false, initE, setPat, setAll, op1, isBl, flFin, iterD, seqOf, List.length_cons, List.length_nil, Bool.false_eq_true, if_false, if_true, List.nil_append, List.map_cons, List.map_nil, List.replicate, List.cons_append, Option.bind_some, Option.map_some, List.set_cons_succ, List.set_cons_zero, List.getElem?_cons_zero, List.getElem?_cons_succ, Nat.reduceAdd, wp_obind, wp_some, wp_omap, wp_omap2]
    refine (forGo_wp (E := fun k env r => ∃ (sh : List Int) (x5 : SV), env = [.rdr, .val (.tup (ps.map BP.d)), .val (.int dy), .val (.str kd), .own (sh.map .int), x5] ∧ (∀ s ∈ sh, 0 ≤ s ∧ s ≤ 3) ∧ sh.length = k ∧ RdI (n + 3 + k) r) (n := 0) ?_ ⟨[], _, rfl, fun p hp => (List.not_mem_nil hp).elim, rfl, hr3.mono (by omega)⟩).mono ?_
    · rintro d hd j env r hj ⟨sh, x5, rfl, hsh, hsl, hJ⟩
      obtain ⟨p, hp, rfl⟩ := List.mem_map.mp hd
      rw [List.length_map] at hj
      refine ⟨_, rfl, ?_⟩
      obtain ⟨c, hc⟩ := pays_ok p "buy" kd dy 0
      have lp : (List.map D.int sh).length < sizeLine := by
        rw [List.length_map]
        have : sizeLine = 16777216 := by decide
        omega
      have l2 : (2 : Nat) ≤ sizeLine := by decide
      simp only [ev_bind1, ev_lift, ev_eC, ev_eVar, ev_eOp, ev_eUn, ev_eT, ev_mAnd, ev_mOr, ev_mNot, ev_eAnd, ev_eIf, ev_chain, ev_aNil, ev_aCons, ev_eTup, ev_eLst, ev_eCall, ev_eFn, ev_eFnR, ev_eIter, ev_eRange, ev_eLc, ev_eSl, ev_pNone, ev_pSome, ev_mFrz, ev_sNx, ev_sSet, ev_sRet, ev_sSeq, ev_sIf, ev_sUnp, ev_sNew, ev_fLst, ev_fCat, ev_sApp, ev_sFrz, ev_sFor, ev_vNil, ev_vVal, ev_vOwn, ev_sTup, ev_eRd, ev_sRd, and_self, true_and, and_true, eq_self, eqS, eqI, neS, neI, decide_true, decide_false, decide_eq_true_eq, Bool.not_true, Bool.not_false, initE, setPat, setAll, op1, isBl, flFin, iterD, seqOf, List.length_cons, List.length_nil, Bool.false_eq_true, if_false, if_true, List.nil_append, List.map_cons, List.map_nil, List.replicate, List.cons_append, Option.bind_some, Option.map_some, List.set_cons_succ, List.set_cons_zero, List.getElem?_cons_zero, List.getElem?_cons_succ, Nat.reduceAdd, l4, hc]
      simp only [wp_obind, wp_some, wp_omap, wp_omap2]
      cases c with
      | true =>
        simp only [ev_bind1, ev_lift, ev_eC, ev_eVar, ev_eOp, ev_eUn, ev_eT, ev_mAnd, ev_mOr, ev_mNot, ev_eAnd, ev_eIf, ev_chain, ev_aNil, ev_aCons, ev_eTup, ev_eLst, ev_eCall, ev_eFn, ev_eFnR, ev_eIter, ev_eRange, ev_eLc, ev_eSl, ev_pNone, ev_pSome, ev_mFrz, ev_sNx, ev_sSet, ev_sRet, ev_sSeq, ev_sIf, ev_sUnp, ev_sNew, ev_fLst, ev_fCat, ev_sApp, ev_sFrz, ev_sFor, ev_vNil, ev_vVal, ev_vOwn, ev_sTup, ev_eRd, ev_sRd, and_self, true_and, and_true, eq_self, eqS, eqI, neS, neI, decide_true, decide_false, decide_eq_true_eq, Bool.not_true, Bool.not_false, initE, setPat, setAll, op1, isBl, flFin, iterD, seqOf, List.length_cons, List.length_nil, Bool.false_eq_true, if_false, if_true, List.nil_append, List.map_cons, List.map_nil, List.replicate, List.cons_append, Option.bind_some, Option.map_some, List.set_cons_succ, List.set_cons_zero, List.getElem?_cons_zero, List.getElem?_cons_succ, Nat.reduceAdd, wp_obind, wp_some, wp_omap, wp_omap2]
        refine (draw_ok (many := 4) (by omega) (by omega) (by omega) hJ).mono ?_
        rintro _ r1 ⟨⟨b, rfl, b0, b1⟩, hr1⟩
        simp only [ev_bind1, ev_lift, ev_eC, ev_eVar, ev_eOp, ev_eUn, ev_eT, ev_mAnd, ev_mOr, ev_mNot, ev_eAnd, ev_eIf, ev_chain, ev_aNil, ev_aCons, ev_eTup, ev_eLst, ev_eCall, ev_eFn, ev_eFnR, ev_eIter, ev_eRange, ev_eLc, ev_eSl, ev_pNone, ev_pSome, ev_mFrz, ev_sNx, ev_sSet, ev_sRet, ev_sSeq, ev_sIf, ev_sUnp, ev_sNew, ev_fLst, ev_fCat, ev_sApp, ev_sFrz, ev_sFor, ev_vNil, ev_vVal, ev_vOwn, ev_sTup, ev_eRd, ev_sRd, and_self, true_and, and_true, eq_self, eqS, eqI, neS, neI, decide_true, decide_false, decide_eq_true_eq, Bool.not_true, Bool.not_false, initE, setPat, setAll, op1, isBl, flFin, iterD, seqOf, List.length_cons, List.length_nil, Bool.false_eq_true, if_false, if_true, List.nil_append, List.map_cons, List.map_nil, List.replicate, List.cons_append, Option.bind_some, Option.map_some, List.set_cons_succ, List.set_cons_zero, List.getElem?_cons_zero, List.getElem?_cons_succ, Nat.reduceAdd, wp_obind, wp_some, wp_omap, wp_omap2, lp]
        refine ⟨_, rfl, sh ++ [b], _, by rw [List.map_append]; rfl, fun s hs => ?_, by rw [List.length_append, hsl]; rfl, hr1.mono (by omega)⟩
        rcases List.mem_append.mp hs with hs | hs
        · exact hsh s hs
        · obtain rfl := List.mem_singleton.mp hs
          exact ⟨b0, by omega⟩
      | false =>
        simp only [ev_bind1, ev_lift, ev_eC, ev_eVar, ev_eOp, ev_eUn, ev_eT, ev_mAnd, ev_mOr, ev_mNot, ev_eAnd, ev_eIf, ev_chain, ev_aNil, ev_aCons, ev_eTup, ev_eLst, ev_eCall, ev_eFn, ev_eFnR, ev_eIter, ev_eRange, ev_eLc, ev_eSl, ev_pNone, ev_pSome, ev_mFrz, ev_sNx, ev_sSet, ev_sRet, ev_sSeq, ev_sIf, ev_sUnp, ev_sNew, ev_fLst, ev_fCat, ev_sApp, ev_sFrz, ev_sFor, ev_vNil, ev_vVal, ev_vOwn, ev_sTup, ev_eRd, ev_sRd, and_self, true_and, and_true, eq_self, eqS, eqI, neS, neI, decide_true, decide_false, decide_eq_true_eq, Bool.not_true, Bool.not_false, initE, setPat, setAll, op1, isBl, flFin, iterD, seqOf, List.length_cons, List.length_nil, Bool.false_eq_true, if_false, if_true, List.nil_append, List.map_cons, List.map_nil, List.replicate, List.cons_append, Option.bind_some, Option.map_some, List.set_cons_succ, List.set_cons_zero, List.getElem?_cons_zero, List.getElem?_cons_succ, Nat.reduceAdd, wp_obind, wp_some, wp_omap, wp_omap2, lp]
        refine ⟨_, rfl, sh ++ [0], _, by rw [List.map_append]; rfl, fun s hs => ?_, by rw [List.length_append, hsl]; rfl, hJ.mono (by omega)⟩
        rcases List.mem_append.mp hs with hs | hs
        · exact hsh s hs
        · obtain rfl := List.mem_singleton.mp hs
          omega
    · rintro fl r ⟨env, rfl, sh, x5, rfl, hsh, hsl, hJ⟩
      rw [List.length_map] at hsl hJ
      have fz : frzAt 4 [.rdr, .val (.tup (ps.map BP.d)), .val (.int dy), .val (.str kd), .own (sh.map .int), x5] = [.rdr, .val (.tup (ps.map BP.d)), .val (.int dy), .val (.str kd), .val (.lst (sh.map .int)), x5] := rfl
      have tu : opTuple (.lst (sh.map .int)) = some (.tup (sh.map .int)) := rfl
      simp only [ev_bind1, ev_lift, ev_eC, ev_eVar, ev_eOp, ev_eUn, ev_eT, ev_mAnd, ev_mOr, ev_mNot, ev_eAnd, ev_eIf, ev_chain, ev_aNil, ev_aCons, ev_eTup, ev_eLst, ev_eCall, ev_eFn, ev_eFnR, ev_eIter, ev_eRange, ev_eLc, ev_eSl, ev_pNone, ev_pSome, ev_mFrz, ev_sNx, ev_sSet, ev_sRet, ev_sSeq, ev_sIf, ev_sUnp, ev_sNew, ev_fLst, ev_fCat, ev_sApp, ev_sFrz, ev_sFor, ev_vNil, ev_vVal, ev_vOwn, ev_sTup, ev_eRd, ev_sRd, and_self, true_and, and_true, eq_self, eqS, eqI, neS, neI, decide_true, decide_false, decide_eq_true_eq, Bool.not_true, Bool.not_false, initE, setPat, setAll, op1, isBl, flFin, iterD, seqOf, List.length_cons, List.length_nil, Bool.false_eq_true, if_false, if_true, List.nil_append, List.map_cons, List.map_nil, List.replicate, List.cons_append, Option.bind_some, Option.map_some, List.set_cons_succ, List.set_cons_zero, List.getElem?_cons_zero, List.getElem?_cons_succ, Nat.reduceAdd, wp_obind, wp_some, wp_omap, wp_omap2, fz, tu, l4]
      exact ⟨⟨.paid dy kd sh, rfl, ⟨y0, by omega⟩, rowkinds_ok kd hkd, by omega, hsh⟩, hJ.mono (by omega)⟩
end My

set_option Elab.async false
set_option linter.all false
set_option maxRecDepth 100000
set_option maxHeartbeats 2000000
namespace My
open PySem PySem.Spec PyProof.Rows L2 FW
theorem lcGo_filter {A : Type} {f g : A → D} {b : A → Bool} {i : Nat} {env : List SV} {rd : Rdr} {e : MM D} {t : MM Bool} : ∀ {as : List A}, (∀ a ∈ as, t (env.set i (.val (f a))) rd = some (b a, rd)) → (∀ a ∈ as, e (env.set i (.val (f a))) rd = some (g a, rd)) → lcGo (.nm i) t e (as.map f) env rd = some ((as.filter b).map g, rd)
  | [], _, _ => rfl
  | a :: as, ht, he => by
    have ih := lcGo_filter (f := f) (g := g) (b := b) (i := i) (env := env) (rd := rd) (e := e) (t := t) (as := as) (fun z hz => ht z (List.mem_cons_of_mem _ hz)) fun z hz => he z (List.mem_cons_of_mem _ hz)
    have e1 := ht a List.mem_cons_self
    have e2 := he a List.mem_cons_self
    cases hb : b a with
    | true =>
      rw [hb] at e1
      simp only [List.map_cons, lcGo, setPat, Option.bind_some, e1, if_true, e2, ih, Option.map_some, List.filter_cons, hb]
    | false =>
      rw [hb] at e1
      simp only [List.map_cons, lcGo, setPat, Option.bind_some, e1, ih, List.filter_cons, hb, Bool.false_eq_true, if_false]
theorem shaped_lst {ds : List D} {m k : Nat} (h : ∀ d ∈ ds, Sm m k d) (hk : k < 64) : SeqAt.shaped (toPy (.lst ds)) = true := canLay_lst h hk
theorem shaped_lst0 : SeqAt.shaped (toPy (.lst [])) = true := by decide +kernel
theorem ne_lstNil {ds : List D} {m k : Nat} (h : ∀ d ∈ ds, Sm m k d) (hk : k < 64) : opNe (.lst ds) (.lst []) = some (.bl (!decide (ds = []))) := by
  have e : opNe (.lst ds) (.lst []) = if SeqAt.shaped (toPy (.lst ds)) = true ∧ SeqAt.shaped (toPy (.lst [])) = true then some (.bl (!PyData.eqv (toPy (.lst ds)) (toPy (.lst [])))) else none := rfl
  rw [e, if_pos ⟨shaped_lst h hk, shaped_lst0⟩]
  cases ds with
  | nil => rfl
  | cons d ds => rfl
theorem eq_lstNil {ds : List D} {m k : Nat} (h : ∀ d ∈ ds, Sm m k d) (hk : k < 64) : opEq (.lst ds) (.lst []) = some (.bl (decide (ds = []))) := by
  have e : opEq (.lst ds) (.lst []) = if SeqAt.shaped (toPy (.lst ds)) = true ∧ SeqAt.shaped (toPy (.lst [])) = true then some (.bl (PyData.eqv (toPy (.lst ds)) (toPy (.lst [])))) else none := rfl
  rw [e, if_pos ⟨shaped_lst h hk, shaped_lst0⟩]
  cases ds with
  | nil => rfl
  | cons d ds => rfl
theorem eqB {a b : Bool} : opEq (.bl a) (.bl b) = some (.bl (a == b)) := by
  have e : opEq (.bl a) (.bl b) = if SeqAt.shaped (toPy (.bl a)) = true ∧ SeqAt.shaped (toPy (.bl b)) = true then some (.bl (PyData.eqv (toPy (.bl a)) (toPy (.bl b)))) else none := rfl
  have sh : ∀ c : Bool, SeqAt.shaped (toPy (.bl c)) = true := by
    intro c
    cases c <;> decide +kernel
  rw [e, if_pos ⟨sh a, sh b⟩]
  cases a <;> cases b <;> rfl
/-- the names of one area in (or not in) the other one -/
theorem lc_names (neg : Bool) (ns os : List Str) (h : ∀ k ∈ ns, Wd k) (i : Nat) (env : List SV) (hi : i < env.length) (hi0 : 1 ≠ i) (x : D) (hx : env[1]? = some (.val x)) (ox : opIx x (.int 0) = some (.tup (os.map .str))) :
    ∃ ks : List Str, (∀ k ∈ ks, Wd k) ∧ ∀ rd, lcGo (.nm i) (eT (eOp (opIn neg) (eVar i) (eOp opIx (eVar 1) (eC (.int 0))))) (eVar i) (ns.map .str) env rd = some (ks.map .str, rd) := by
  have hb : ∀ k, ∃ b, opIn neg (.str k) (.tup (os.map .str)) = some (.bl b) := fun k => in_strs neg k os
  let b : Str → Bool := fun k => Classical.choose (hb k)
  have hb2 : ∀ k, opIn neg (.str k) (.tup (os.map .str)) = some (.bl (b k)) := fun k => Classical.choose_spec (hb k)
  refine ⟨ns.filter b, fun k hk => h k (List.mem_filter.mp hk).1, fun rd => lcGo_filter (fun k hk => ?_) fun k hk => ?_⟩
  · have e1 : (env.set i (.val (.str k)))[i]? = some (.val (.str k)) := List.getElem?_set_self hi
    have e2 : (env.set i (.val (.str k)))[1]? = some (.val x) := by rw [List.getElem?_set_ne (Ne.symm hi0)]; exact hx
    simp only [ev_bind1, ev_lift, ev_eC, ev_eVar, ev_eOp, ev_eUn, ev_eT, ev_mAnd, ev_mOr, ev_mNot, ev_eAnd, ev_eIf, ev_chain, ev_aNil, ev_aCons, ev_eTup, ev_eLst, ev_eCall, ev_eFn, ev_eFnR, ev_eIter, ev_eRange, ev_eLc, ev_eSl, ev_pNone, ev_pSome, ev_mFrz, ev_sNx, ev_sSet, ev_sRet, ev_sSeq, ev_sIf, ev_sUnp, ev_sNew, ev_fLst, ev_fCat, ev_sApp, ev_sFrz, ev_sFor, ev_vNil, ev_vVal, ev_vOwn, ev_sTup, ev_eRd, ev_sRd, and_self, true_and, and_true, eq_self, eqS, eqI, neS, neI, decide_true, decide_false, decide_eq_true_eq, Bool.not_true, Bool.not_false, initE, setPat, setAll, op1, isBl, flFin, iterD, seqOf, List.length_cons, List.length_nil, Bool.false_eq_true, if_false, if_true, List.nil_append, List.map_cons, List.map_nil, List.replicate, List.cons_append, Option.bind_some, Option.map_some, List.set_cons_succ, List.set_cons_zero, List.getElem?_cons_zero, List.getElem?_cons_succ, Nat.reduceAdd, e1, e2, ox, hb2]
  · have e1 : (env.set i (.val (.str k)))[i]? = some (.val (.str k)) := List.getElem?_set_self hi
    simp only [ev_bind1, ev_lift, ev_eC, ev_eVar, ev_eOp, ev_eUn, ev_eT, ev_mAnd, ev_mOr, ev_mNot, ev_eAnd, ev_eIf, ev_chain, ev_aNil, ev_aCons, ev_eTup, ev_eLst, ev_eCall, ev_eFn, ev_eFnR, ev_eIter, ev_eRange, ev_eLc, ev_eSl, ev_pNone, ev_pSome, ev_mFrz, ev_sNx, ev_sSet, ev_sRet, ev_sSeq, ev_sIf, ev_sUnp, ev_sNew, ev_fLst, ev_fCat, ev_sApp, ev_sFrz, ev_sFor, ev_vNil, ev_vVal, ev_vOwn, ev_sTup, ev_eRd, ev_sRd, and_self, true_and, and_true, eq_self, eqS, eqI, neS, neI, decide_true, decide_false, decide_eq_true_eq, Bool.not_true, Bool.not_false, initE, setPat, setAll, op1, isBl, flFin, iterD, seqOf, List.length_cons, List.length_nil, Bool.false_eq_true, if_false, if_true, List.nil_append, List.map_cons, List.map_nil, List.replicate, List.cons_append, Option.bind_some, Option.map_some, List.set_cons_succ, List.set_cons_zero, List.getElem?_cons_zero, List.getElem?_cons_succ, Nat.reduceAdd, e1]
theorem within_ok (l o : BL) (hl : ∀ k ∈ l.ns, Wd k) (hn : l.ns.length ≤ 12) : ∃ c, ∀ rd, mf__law_within [l.d, o.d] rd = some (.bl c, rd) := by
  obtain ⟨ks, hk, lc⟩ := lc_names true l.ns o.ns hl 2 [.val l.d, .val o.d, .un] (by simp) (by omega) o.d rfl rfl
  have ne := ne_lstNil (sm_strs hk) (by omega)
  have l0 : (0 : Nat) ≤ sizeLine := Nat.zero_le _
  refine ⟨decide (ks = []) && (decide (o.b ≤ l.b) && decide (l.e ≤ o.e)), fun rd => ?_⟩
  have e : mf__law_within [l.d, o.d] rd = (b__law_within (initE false [l.d, o.d] 1) rd).bind flFin := rfl
  have i1 : opIx l.d (.int 0) = some (.tup (l.ns.map .str)) := rfl
  have i2 : opIx l.d (.int 1) = some (.int l.b) := rfl
  have i3 : opIx l.d (.int 2) = some (.int l.e) := rfl
  have i4 : opIx o.d (.int 1) = some (.int o.b) := rfl
  have i5 : opIx o.d (.int 2) = some (.int o.e) := rfl
  rw [e]
  by_cases hz : ks = []
  · have z : (ks.map D.str = []) = True := by simp [hz]
    have z2 : (ks = []) = True := by simp [hz]
    by_cases h1 : o.b ≤ l.b
    · simp only [ev_bind1, ev_lift, ev_eC, ev_eVar, ev_eOp, ev_eUn, ev_eT, ev_mAnd, ev_mOr, ev_mNot, ev_eAnd, ev_eIf, ev_chain, ev_aNil, ev_aCons, ev_eTup, ev_eLst, ev_eCall, ev_eFn, ev_eFnR, ev_eIter, ev_eRange, ev_eLc, ev_eSl, ev_pNone, ev_pSome, ev_mFrz, ev_sNx, ev_sSet, ev_sRet, ev_sSeq, ev_sIf, ev_sUnp, ev_sNew, ev_fLst, ev_fCat, ev_sApp, ev_sFrz, ev_sFor, ev_vNil, ev_vVal, ev_vOwn, ev_sTup, ev_eRd, ev_sRd, and_self, true_and, and_true, eq_self, eqS, eqI, neS, neI, decide_true, decide_false, decide_eq_true_eq, Bool.not_true, Bool.not_false, initE, setPat, setAll, op1, isBl, flFin, iterD, seqOf, List.length_cons, List.length_nil, Bool.false_eq_true, if_false, if_true, List.nil_append, List.map_cons, List.map_nil, List.replicate, List.cons_append, Option.bind_some, Option.map_some, List.set_cons_succ, List.set_cons_zero, List.getElem?_cons_zero, List.getElem?_cons_succ, Nat.reduceAdd, b__law_within, i1, i2, i3, i4, i5, List.length_map, szl hn, wipeE, lc, ne, l0, z, z2, cmpI, h1, Bool.true_and]
    · simp only [ev_bind1, ev_lift, ev_eC, ev_eVar, ev_eOp, ev_eUn, ev_eT, ev_mAnd, ev_mOr, ev_mNot, ev_eAnd, ev_eIf, ev_chain, ev_aNil, ev_aCons, ev_eTup, ev_eLst, ev_eCall, ev_eFn, ev_eFnR, ev_eIter, ev_eRange, ev_eLc, ev_eSl, ev_pNone, ev_pSome, ev_mFrz, ev_sNx, ev_sSet, ev_sRet, ev_sSeq, ev_sIf, ev_sUnp, ev_sNew, ev_fLst, ev_fCat, ev_sApp, ev_sFrz, ev_sFor, ev_vNil, ev_vVal, ev_vOwn, ev_sTup, ev_eRd, ev_sRd, and_self, true_and, and_true, eq_self, eqS, eqI, neS, neI, decide_true, decide_false, decide_eq_true_eq, Bool.not_true, Bool.not_false, initE, setPat, setAll, op1, isBl, flFin, iterD, seqOf, List.length_cons, List.length_nil, Bool.false_eq_true, if_false, if_true, List.nil_append, List.map_cons, List.map_nil, List.replicate, List.cons_append, Option.bind_some, Option.map_some, List.set_cons_succ, List.set_cons_zero, List.getElem?_cons_zero, List.getElem?_cons_succ, Nat.reduceAdd, b__law_within, i1, i2, i3, i4, i5, List.length_map, szl hn, wipeE, lc, ne, l0, z, z2, cmpI, h1, Bool.true_and, Bool.false_and]
  · have z : (ks.map D.str = []) = False := by simp [hz]
    have z2 : (ks = []) = False := by simp [hz]
    simp only [ev_bind1, ev_lift, ev_eC, ev_eVar, ev_eOp, ev_eUn, ev_eT, ev_mAnd, ev_mOr, ev_mNot, ev_eAnd, ev_eIf, ev_chain, ev_aNil, ev_aCons, ev_eTup, ev_eLst, ev_eCall, ev_eFn, ev_eFnR, ev_eIter, ev_eRange, ev_eLc, ev_eSl, ev_pNone, ev_pSome, ev_mFrz, ev_sNx, ev_sSet, ev_sRet, ev_sSeq, ev_sIf, ev_sUnp, ev_sNew, ev_fLst, ev_fCat, ev_sApp, ev_sFrz, ev_sFor, ev_vNil, ev_vVal, ev_vOwn, ev_sTup, ev_eRd, ev_sRd, and_self, true_and, and_true, eq_self, eqS, eqI, neS, neI, decide_true, decide_false, decide_eq_true_eq, Bool.not_true, Bool.not_false, initE, setPat, setAll, op1, isBl, flFin, iterD, seqOf, List.length_cons, List.length_nil, Bool.false_eq_true, if_false, if_true, List.nil_append, List.map_cons, List.map_nil, List.replicate, List.cons_append, Option.bind_some, Option.map_some, List.set_cons_succ, List.set_cons_zero, List.getElem?_cons_zero, List.getElem?_cons_succ, Nat.reduceAdd, b__law_within, i1, i2, i3, i4, i5, List.length_map, szl hn, wipeE, lc, ne, l0, z, z2, Bool.false_and]
theorem crosses_ok (l o : BL) (hl : ∀ k ∈ l.ns, Wd k) (hn : l.ns.length ≤ 12) (ol : ∀ k ∈ o.ns, Wd k) (on : o.ns.length ≤ 12) : ∃ c, ∀ rd, mf__law_crosses [l.d, o.d] rd = some (.bl c, rd) := by
  obtain ⟨ks, hk, lc⟩ := lc_names false l.ns o.ns hl 2 [.val l.d, .val o.d, .un] (by simp) (by omega) o.d rfl rfl
  have ne := eq_lstNil (sm_strs hk) (by omega)
  have l0 : (0 : Nat) ≤ sizeLine := Nat.zero_le _
  obtain ⟨c1, w1⟩ := within_ok l o hl hn
  obtain ⟨c2, w2⟩ := within_ok o l ol on
  have i1 : opIx l.d (.int 0) = some (.tup (l.ns.map .str)) := rfl
  have i2 : opIx l.d (.int 1) = some (.int l.b) := rfl
  have i3 : opIx l.d (.int 2) = some (.int l.e) := rfl
  have i4 : opIx o.d (.int 1) = some (.int o.b) := rfl
  have i5 : opIx o.d (.int 2) = some (.int o.e) := rfl
  refine ⟨if ks = [] ∨ l.e < o.b ∨ o.e < l.b then false else c1 == c2, fun rd => ?_⟩
  have e : mf__law_crosses [l.d, o.d] rd = (b__law_crosses (initE false [l.d, o.d] 1) rd).bind flFin := rfl
  rw [e]
  by_cases hz : ks = []
  · have z : (ks.map D.str = []) = True := by simp [hz]
    have z2 : (ks = []) = True := by simp [hz]
    simp only [ev_bind1, ev_lift, ev_eC, ev_eVar, ev_eOp, ev_eUn, ev_eT, ev_mAnd, ev_mOr, ev_mNot, ev_eAnd, ev_eIf, ev_chain, ev_aNil, ev_aCons, ev_eTup, ev_eLst, ev_eCall, ev_eFn, ev_eFnR, ev_eIter, ev_eRange, ev_eLc, ev_eSl, ev_pNone, ev_pSome, ev_mFrz, ev_sNx, ev_sSet, ev_sRet, ev_sSeq, ev_sIf, ev_sUnp, ev_sNew, ev_fLst, ev_fCat, ev_sApp, ev_sFrz, ev_sFor, ev_vNil, ev_vVal, ev_vOwn, ev_sTup, ev_eRd, ev_sRd, and_self, true_and, and_true, eq_self, eqS, eqI, neS, neI, decide_true, decide_false, decide_eq_true_eq, Bool.not_true, Bool.not_false, initE, setPat, setAll, op1, isBl, flFin, iterD, seqOf, List.length_cons, List.length_nil, Bool.false_eq_true, if_false, if_true, List.nil_append, List.map_cons, List.map_nil, List.replicate, List.cons_append, Option.bind_some, Option.map_some, List.set_cons_succ, List.set_cons_zero, List.getElem?_cons_zero, List.getElem?_cons_succ, Nat.reduceAdd, b__law_crosses, i1, i2, i3, i4, i5, List.length_map, szl hn, wipeE, lc, ne, l0, z, z2, true_or]
  · have z : (ks.map D.str = []) = False := by simp [hz]
    have z2 : (ks = []) = False := by simp [hz]
    by_cases h1 : l.e < o.b
    · simp only [ev_bind1, ev_lift, ev_eC, ev_eVar, ev_eOp, ev_eUn, ev_eT, ev_mAnd, ev_mOr, ev_mNot, ev_eAnd, ev_eIf, ev_chain, ev_aNil, ev_aCons, ev_eTup, ev_eLst, ev_eCall, ev_eFn, ev_eFnR, ev_eIter, ev_eRange, ev_eLc, ev_eSl, ev_pNone, ev_pSome, ev_mFrz, ev_sNx, ev_sSet, ev_sRet, ev_sSeq, ev_sIf, ev_sUnp, ev_sNew, ev_fLst, ev_fCat, ev_sApp, ev_sFrz, ev_sFor, ev_vNil, ev_vVal, ev_vOwn, ev_sTup, ev_eRd, ev_sRd, and_self, true_and, and_true, eq_self, eqS, eqI, neS, neI, decide_true, decide_false, decide_eq_true_eq, Bool.not_true, Bool.not_false, initE, setPat, setAll, op1, isBl, flFin, iterD, seqOf, List.length_cons, List.length_nil, Bool.false_eq_true, if_false, if_true, List.nil_append, List.map_cons, List.map_nil, List.replicate, List.cons_append, Option.bind_some, Option.map_some, List.set_cons_succ, List.set_cons_zero, List.getElem?_cons_zero, List.getElem?_cons_succ, Nat.reduceAdd, b__law_crosses, i1, i2, i3, i4, i5, List.length_map, szl hn, wipeE, lc, ne, l0, z, z2, cmpI, h1, true_or, or_true]
    · by_cases h2 : o.e < l.b
      · simp only [ev_bind1, ev_lift, ev_eC, ev_eVar, ev_eOp, ev_eUn, ev_eT, ev_mAnd, ev_mOr, ev_mNot, ev_eAnd, ev_eIf, ev_chain, ev_aNil, ev_aCons, ev_eTup, ev_eLst, ev_eCall, ev_eFn, ev_eFnR, ev_eIter, ev_eRange, ev_eLc, ev_eSl, ev_pNone, ev_pSome, ev_mFrz, ev_sNx, ev_sSet, ev_sRet, ev_sSeq, ev_sIf, ev_sUnp, ev_sNew, ev_fLst, ev_fCat, ev_sApp, ev_sFrz, ev_sFor, ev_vNil, ev_vVal, ev_vOwn, ev_sTup, ev_eRd, ev_sRd, and_self, true_and, and_true, eq_self, eqS, eqI, neS, neI, decide_true, decide_false, decide_eq_true_eq, Bool.not_true, Bool.not_false, initE, setPat, setAll, op1, isBl, flFin, iterD, seqOf, List.length_cons, List.length_nil, Bool.false_eq_true, if_false, if_true, List.nil_append, List.map_cons, List.map_nil, List.replicate, List.cons_append, Option.bind_some, Option.map_some, List.set_cons_succ, List.set_cons_zero, List.getElem?_cons_zero, List.getElem?_cons_succ, Nat.reduceAdd, b__law_crosses, i1, i2, i3, i4, i5, List.length_map, szl hn, wipeE, lc, ne, l0, z, z2, cmpI, h1, h2, true_or, or_true]
      · simp only [ev_bind1, ev_lift, ev_eC, ev_eVar, ev_eOp, ev_eUn, ev_eT, ev_mAnd, ev_mOr, ev_mNot, ev_eAnd, ev_eIf, ev_chain, ev_aNil, ev_aCons, ev_eTup, ev_eLst, ev_eCall, ev_eFn, ev_eFnR, ev_eIter, ev_eRange, ev_eLc, ev_eSl, ev_pNone, ev_pSome, ev_mFrz, ev_sNx, ev_sSet, ev_sRet, ev_sSeq, ev_sIf, ev_sUnp, ev_sNew, ev_fLst, ev_fCat, ev_sApp, ev_sFrz, ev_sFor, ev_vNil, ev_vVal, ev_vOwn, ev_sTup, ev_eRd, ev_sRd, and_self, true_and, and_true, eq_self, eqS, eqI, neS, neI, decide_true, decide_false, decide_eq_true_eq, Bool.not_true, Bool.not_false, initE, setPat, setAll, op1, isBl, flFin, iterD, seqOf, List.length_cons, List.length_nil, Bool.false_eq_true, if_false, if_true, List.nil_append, List.map_cons, List.map_nil, List.replicate, List.cons_append, Option.bind_some, Option.map_some, List.set_cons_succ, List.set_cons_zero, List.getElem?_cons_zero, List.getElem?_cons_succ, Nat.reduceAdd, b__law_crosses, i1, i2, i3, i4, i5, List.length_map, szl hn, wipeE, lc, ne, l0, z, z2, cmpI, h1, h2, or_self, w1, w2, eqB]
theorem sum_ok {ys : List D} (h : ∀ y ∈ ys, ∃ s : Int, y = .int s ∧ 0 ≤ s ∧ s ≤ 3) : ∃ S : Int, opSum (.lst ys) = some (.int S) ∧ 0 ≤ S ∧ S ≤ 3 * ys.length := by
  have aux : ∃ ns : List Int, intsOf ys = some ns ∧ 0 ≤ ns.sum ∧ ns.sum ≤ 3 * ys.length := by
    induction ys with
    | nil => exact ⟨[], rfl, by simp, by simp⟩
    | cons y ys ih =>
      obtain ⟨ns, e, a, b⟩ := ih fun z hz => h z (List.mem_cons_of_mem _ hz)
      obtain ⟨s, rfl, s0, s1⟩ := h y List.mem_cons_self
      refine ⟨s :: ns, ?_, ?_, ?_⟩
      · show (intsOf ys).map (s :: ·) = _
        rw [e]
        rfl
      · rw [List.sum_cons]; omega
      · rw [List.sum_cons, List.length_cons]; omega
  obtain ⟨ns, e, a, b⟩ := aux
  refine ⟨ns.sum, ?_, a, b⟩
  show (intsOf ys).map (fun ns => D.int ns.sum) = _
  rw [e]
  rfl
theorem SmR.ok {m : Nat} (hm : m ≤ 12) {r : BR} (h : SmR m r) : r.Ok := by
  cases r with
  | buy d k a =>
    obtain ⟨⟨h1, h2⟩, h3, h4, h5⟩ := h
    exact ⟨ok_small (i := d) h1 (by omega), wd h3, ok_small (i := a) h4 (by omega)⟩
  | paid d k sh =>
    obtain ⟨⟨h1, h2⟩, h3, h4, h5⟩ := h
    refine ⟨ok_small (i := d) h1 (by omega), wd h3, fun s hs => ?_, by omega⟩
    have := h5 s hs
    exact ok_small (i := s) this.1 (by omega)
theorem wp_set {i : Nat} {m : MM D} {b : MM Fl} {env : List SV} {rd : Rdr} {Q : Fl → Rdr → Prop} (h : Wp (m env rd) fun d r => Wp (b (env.set i (.val d)) r) Q) : Wp (sSeq (sSet i m) b env rd) Q := by
  obtain ⟨d, r, e1, h⟩ := h
  rw [ev_sSeq, ev_sSet, e1]
  exact h
theorem wp_seq {a b : MM Fl} {env : List SV} {rd : Rdr} {Q : Fl → Rdr → Prop} (h : Wp (a env rd) fun fl r => ∃ env', fl = .nx env' ∧ Wp (b env' r) Q) : Wp (sSeq a b env rd) Q := by
  obtain ⟨d, r, e1, env', rfl, h⟩ := h
  rw [ev_sSeq, e1]
  exact h
theorem wp_if {t : MM Bool} {a b : MM Fl} {env : List SV} {rd : Rdr} {Q : Fl → Rdr → Prop} (c : Bool) {r : Rdr} (ht : t env rd = some (c, r)) (ha : c = true → Wp (a env r) Q) (hb : c = false → Wp (b env r) Q) : Wp (sIf t a b env rd) Q := by
  rw [ev_sIf, ht, Option.bind_some]
  cases c with
  | true => exact ha rfl
  | false => exact hb rfl
theorem wp_for {mi : MM (List D)} {p : Pat} {b : MM Fl} {env : List SV} {rd : Rdr} {Q : Fl → Rdr → Prop} (h : Wp (mi env rd) fun ds r => Wp (forGo p b ds env r) Q) : Wp (sFor mi p b env rd) Q := by
  obtain ⟨d, r, e1, h⟩ := h
  rw [ev_sFor, e1]
  exact h
theorem wp_eq {α : Type} {x : Option (α × Rdr)} {a : α} {rd : Rdr} {Q : α → Rdr → Prop} (h : x = some (a, rd)) (q : Q a rd) : Wp x Q := ⟨a, rd, h, q⟩
def spT : MM Bool := (mAnd (eT (eOp opEq (eOp opIx (eVar 4) (eC (.int 0))) (eC (.str ("paid" : Str))))) (eT (chainT (eOp opIx (eVar 1) (eC (.int 1))) (eOp opIx (eVar 4) (eC (.int 1))) (eOp opIx (eVar 1) (eC (.int 2))) opLe opLe)))
def spM : MM D := (eOp opAdd (eVar 3) (eCall (op1 opSum) (aCons (eLc (eRange range1 (aCons (eCall (op1 opLen) (aCons (eVar 0) aNil)) aNil)) (.nm 5) [5] (eT (eOp (opIn false) (eOp opIx (eOp opIx (eVar 0) (eVar 5)) (eC (.int 0))) (eOp opIx (eVar 1) (eC (.int 0))))) (eOp opIx (eOp opIx (eVar 4) (eC (.int 3))) (eVar 5))) aNil)))
def spB : MM Fl := sIf spT (sSet 3 spM) sNx
theorem if_no {t : MM Bool} {a : MM Fl} {env : List SV} {rd r : Rdr} (h : t env rd = some (false, r)) : sIf t a sNx env rd = some (.nx env, r) := by
  rw [ev_sIf, h]
  rfl
theorem if_set {t : MM Bool} {i : Nat} {m : MM D} {b : MM Fl} {d : D} {env env2 : List SV} {rd r r2 : Rdr} (h : t env rd = some (true, r)) (hm : m env r = some (d, r2)) (he : env.set i (.val d) = env2) : sIf t (sSet i m) b env rd = some (.nx env2, r2) := by
  rw [ev_sIf, h, Option.bind_some, if_pos rfl, ev_sSet, hm, Option.bind_some, he]
theorem spB_ok {ps : List BP} (hpl : ps.length ≤ 4) (l : BL) (R : SV) (T : Int) (x5 : SV) {row : BR} (hs : SmR ps.length row) (r : Rdr) :
    ∃ S : Int, 0 ≤ S ∧ S ≤ 12 ∧ spB [.val (.tup (ps.map BP.d)), .val l.d, R, .val (.int T), .val row.d, x5] r = some (.nx [.val (.tup (ps.map BP.d)), .val l.d, R, .val (.int (T + S)), .val row.d, x5], r) := by
  have i1 : opIx l.d (.int 1) = some (.int l.b) := rfl
  have i2 : opIx l.d (.int 2) = some (.int l.e) := rfl
  have i0 : opIx l.d (.int 0) = some (.tup (l.ns.map .str)) := rfl
  have d1 : (("buy" : Str) = ("paid" : Str)) = False := by
    simp only [eq_iff_iff, iff_false]
    decide +kernel
  cases row with
  | buy d k a =>
    refine ⟨0, by omega, by omega, ?_⟩
    rw [Int.add_zero]
    refine if_no ?_
    simp only [ev_bind1, ev_lift, ev_eC, ev_eVar, ev_eOp, ev_eUn, ev_eT, ev_mAnd, ev_mOr, ev_mNot, ev_eAnd, ev_eIf, ev_chain, ev_aNil, ev_aCons, ev_eTup, ev_eLst, ev_eCall, ev_eFn, ev_eFnR, ev_eIter, ev_eRange, ev_eLc, ev_eSl, ev_pNone, ev_pSome, ev_mFrz, ev_sNx, ev_sSet, ev_sRet, ev_sSeq, ev_sIf, ev_sUnp, ev_sNew, ev_fLst, ev_fCat, ev_sApp, ev_sFrz, ev_sFor, ev_vNil, ev_vVal, ev_vOwn, ev_sTup, ev_eRd, ev_sRd, and_self, true_and, and_true, eq_self, eqS, eqI, neS, neI, decide_true, decide_false, decide_eq_true_eq, Bool.not_true, Bool.not_false, initE, setPat, setAll, op1, isBl, flFin, iterD, seqOf, List.length_cons, List.length_nil, Bool.false_eq_true, if_false, if_true, List.nil_append, List.map_cons, List.map_nil, List.replicate, List.cons_append, Option.bind_some, Option.map_some, List.set_cons_succ, List.set_cons_zero, List.getElem?_cons_zero, List.getElem?_cons_succ, Nat.reduceAdd, spT, BR.d, ix4_0, ix4_1, d1]
  | paid d k sh =>
    obtain ⟨_, _, hsl, hsh⟩ := hs
    by_cases h1 : l.b ≤ d
    · by_cases h2 : d ≤ l.e
      · have z12 : (rangeD 0 ps.length).length ≤ sizeLine := by
          rw [range_len]
          exact szl (by omega)
        have ra : range1 [.int (ps.length : Nat)] = some (rangeD 0 ps.length) := range1_n (by omega)
        have lc := lcGo_wp (p := .nm 5) (t := eT (eOp (opIn false) (eOp opIx (eOp opIx (eVar 0) (eVar 5)) (eC (.int 0))) (eOp opIx (eVar 1) (eC (.int 0))))) (e := eOp opIx (eOp opIx (eVar 4) (eC (.int 3))) (eVar 5)) (env := [.val (.tup (ps.map BP.d)), .val l.d, R, .val (.int T), .val (BR.paid d k sh).d, .un])
          (P := fun y => ∃ s : Int, y = .int s ∧ 0 ≤ s ∧ s ≤ 3) (M := fun d => False) (J := fun _ r' => r' = r) (ds := rangeD 0 ps.length) (n := 0) (rd := r) (fun x hx j' r' _ hJ' => by
            obtain ⟨i, rfl, hi⟩ := mem_range hx
            subst hJ'
            refine ⟨_, rfl, ?_⟩
            have x1 := SeqD.ix (ds := ps.map BP.d) (.inl rfl) (i := i) (by rw [List.length_map]; exact hi)
            rw [List.getElem_map] at x1
            have x2 := SeqD.ix (ds := sh.map D.int) (.inl rfl) (i := i) (by rw [List.length_map]; omega)
            rw [List.getElem_map] at x2
            have x3 : opIx (ps[i]).d (.int 0) = some (.str (ps[i]).nm) := rfl
            obtain ⟨c, hc⟩ := in_strs false (ps[i]).nm l.ns
            have hsi := hsh sh[i] (List.getElem_mem (by omega))
            refine ⟨c, r', ?_, fun z => z.elim, fun _ => ⟨.int sh[i], r', ?_, ⟨_, rfl, hsi.1, hsi.2⟩, rfl⟩, fun _ => rfl⟩
            · simp only [ev_bind1, ev_lift, ev_eC, ev_eVar, ev_eOp, ev_eUn, ev_eT, ev_mAnd, ev_mOr, ev_mNot, ev_eAnd, ev_eIf, ev_chain, ev_aNil, ev_aCons, ev_eTup, ev_eLst, ev_eCall, ev_eFn, ev_eFnR, ev_eIter, ev_eRange, ev_eLc, ev_eSl, ev_pNone, ev_pSome, ev_mFrz, ev_sNx, ev_sSet, ev_sRet, ev_sSeq, ev_sIf, ev_sUnp, ev_sNew, ev_fLst, ev_fCat, ev_sApp, ev_sFrz, ev_sFor, ev_vNil, ev_vVal, ev_vOwn, ev_sTup, ev_eRd, ev_sRd, and_self, true_and, and_true, eq_self, eqS, eqI, neS, neI, decide_true, decide_false, decide_eq_true_eq, Bool.not_true, Bool.not_false, initE, setPat, setAll, op1, isBl, flFin, iterD, seqOf, List.length_cons, List.length_nil, Bool.false_eq_true, if_false, if_true, List.nil_append, List.map_cons, List.map_nil, List.replicate, List.cons_append, Option.bind_some, Option.map_some, List.set_cons_succ, List.set_cons_zero, List.getElem?_cons_zero, List.getElem?_cons_succ, Nat.reduceAdd, x1, x3, i0, hc]
            · simp only [ev_bind1, ev_lift, ev_eC, ev_eVar, ev_eOp, ev_eUn, ev_eT, ev_mAnd, ev_mOr, ev_mNot, ev_eAnd, ev_eIf, ev_chain, ev_aNil, ev_aCons, ev_eTup, ev_eLst, ev_eCall, ev_eFn, ev_eFnR, ev_eIter, ev_eRange, ev_eLc, ev_eSl, ev_pNone, ev_pSome, ev_mFrz, ev_sNx, ev_sSet, ev_sRet, ev_sSeq, ev_sIf, ev_sUnp, ev_sNew, ev_fLst, ev_fCat, ev_sApp, ev_sFrz, ev_sFor, ev_vNil, ev_vVal, ev_vOwn, ev_sTup, ev_eRd, ev_sRd, and_self, true_and, and_true, eq_self, eqS, eqI, neS, neI, decide_true, decide_false, decide_eq_true_eq, Bool.not_true, Bool.not_false, initE, setPat, setAll, op1, isBl, flFin, iterD, seqOf, List.length_cons, List.length_nil, Bool.false_eq_true, if_false, if_true, List.nil_append, List.map_cons, List.map_nil, List.replicate, List.cons_append, Option.bind_some, Option.map_some, List.set_cons_succ, List.set_cons_zero, List.getElem?_cons_zero, List.getElem?_cons_succ, Nat.reduceAdd, x2, BR.d, ix4_3]) rfl
        obtain ⟨ys, r2, lc, g1, g2, rfl, _⟩ := lc
        rw [range_len] at g2
        obtain ⟨S, hS, s0, s1⟩ := sum_ok g1
        refine ⟨S, s0, by omega, ?_⟩
        simp only [BR.d] at lc
        refine if_set (d := .int (T + S)) (r := r2) ?_ ?_ rfl
        · simp only [ev_bind1, ev_lift, ev_eC, ev_eVar, ev_eOp, ev_eUn, ev_eT, ev_mAnd, ev_mOr, ev_mNot, ev_eAnd, ev_eIf, ev_chain, ev_aNil, ev_aCons, ev_eTup, ev_eLst, ev_eCall, ev_eFn, ev_eFnR, ev_eIter, ev_eRange, ev_eLc, ev_eSl, ev_pNone, ev_pSome, ev_mFrz, ev_sNx, ev_sSet, ev_sRet, ev_sSeq, ev_sIf, ev_sUnp, ev_sNew, ev_fLst, ev_fCat, ev_sApp, ev_sFrz, ev_sFor, ev_vNil, ev_vVal, ev_vOwn, ev_sTup, ev_eRd, ev_sRd, and_self, true_and, and_true, eq_self, eqS, eqI, neS, neI, decide_true, decide_false, decide_eq_true_eq, Bool.not_true, Bool.not_false, initE, setPat, setAll, op1, isBl, flFin, iterD, seqOf, List.length_cons, List.length_nil, Bool.false_eq_true, if_false, if_true, List.nil_append, List.map_cons, List.map_nil, List.replicate, List.cons_append, Option.bind_some, Option.map_some, List.set_cons_succ, List.set_cons_zero, List.getElem?_cons_zero, List.getElem?_cons_succ, Nat.reduceAdd, spT, BR.d, ix4_0, ix4_1, cmpI, i1, i2, h1, h2]
        · simp only [ev_bind1, ev_lift, ev_eC, ev_eVar, ev_eOp, ev_eUn, ev_eT, ev_mAnd, ev_mOr, ev_mNot, ev_eAnd, ev_eIf, ev_chain, ev_aNil, ev_aCons, ev_eTup, ev_eLst, ev_eCall, ev_eFn, ev_eFnR, ev_eIter, ev_eRange, ev_eLc, ev_eSl, ev_pNone, ev_pSome, ev_mFrz, ev_sNx, ev_sSet, ev_sRet, ev_sSeq, ev_sIf, ev_sUnp, ev_sNew, ev_fLst, ev_fCat, ev_sApp, ev_sFrz, ev_sFor, ev_vNil, ev_vVal, ev_vOwn, ev_sTup, ev_eRd, ev_sRd, and_self, true_and, and_true, eq_self, eqS, eqI, neS, neI, decide_true, decide_false, decide_eq_true_eq, Bool.not_true, Bool.not_false, initE, setPat, setAll, op1, isBl, flFin, iterD, seqOf, List.length_cons, List.length_nil, Bool.false_eq_true, if_false, if_true, List.nil_append, List.map_cons, List.map_nil, List.replicate, List.cons_append, Option.bind_some, Option.map_some, List.set_cons_succ, List.set_cons_zero, List.getElem?_cons_zero, List.getElem?_cons_succ, Nat.reduceAdd, spM, BR.d, lenT, List.length_map, ra, z12, wipeE, lc, hS, addI]
      · refine ⟨0, by omega, by omega, ?_⟩
        rw [Int.add_zero]
        refine if_no ?_
        simp only [ev_bind1, ev_lift, ev_eC, ev_eVar, ev_eOp, ev_eUn, ev_eT, ev_mAnd, ev_mOr, ev_mNot, ev_eAnd, ev_eIf, ev_chain, ev_aNil, ev_aCons, ev_eTup, ev_eLst, ev_eCall, ev_eFn, ev_eFnR, ev_eIter, ev_eRange, ev_eLc, ev_eSl, ev_pNone, ev_pSome, ev_mFrz, ev_sNx, ev_sSet, ev_sRet, ev_sSeq, ev_sIf, ev_sUnp, ev_sNew, ev_fLst, ev_fCat, ev_sApp, ev_sFrz, ev_sFor, ev_vNil, ev_vVal, ev_vOwn, ev_sTup, ev_eRd, ev_sRd, and_self, true_and, and_true, eq_self, eqS, eqI, neS, neI, decide_true, decide_false, decide_eq_true_eq, Bool.not_true, Bool.not_false, initE, setPat, setAll, op1, isBl, flFin, iterD, seqOf, List.length_cons, List.length_nil, Bool.false_eq_true, if_false, if_true, List.nil_append, List.map_cons, List.map_nil, List.replicate, List.cons_append, Option.bind_some, Option.map_some, List.set_cons_succ, List.set_cons_zero, List.getElem?_cons_zero, List.getElem?_cons_succ, Nat.reduceAdd, spT, BR.d, ix4_0, ix4_1, cmpI, i1, i2, h1, h2]
    · refine ⟨0, by omega, by omega, ?_⟩
      rw [Int.add_zero]
      refine if_no ?_
      simp only [ev_bind1, ev_lift, ev_eC, ev_eVar, ev_eOp, ev_eUn, ev_eT, ev_mAnd, ev_mOr, ev_mNot, ev_eAnd, ev_eIf, ev_chain, ev_aNil, ev_aCons, ev_eTup, ev_eLst, ev_eCall, ev_eFn, ev_eFnR, ev_eIter, ev_eRange, ev_eLc, ev_eSl, ev_pNone, ev_pSome, ev_mFrz, ev_sNx, ev_sSet, ev_sRet, ev_sSeq, ev_sIf, ev_sUnp, ev_sNew, ev_fLst, ev_fCat, ev_sApp, ev_sFrz, ev_sFor, ev_vNil, ev_vVal, ev_vOwn, ev_sTup, ev_eRd, ev_sRd, and_self, true_and, and_true, eq_self, eqS, eqI, neS, neI, decide_true, decide_false, decide_eq_true_eq, Bool.not_true, Bool.not_false, initE, setPat, setAll, op1, isBl, flFin, iterD, seqOf, List.length_cons, List.length_nil, Bool.false_eq_true, if_false, if_true, List.nil_append, List.map_cons, List.map_nil, List.replicate, List.cons_append, Option.bind_some, Option.map_some, List.set_cons_succ, List.set_cons_zero, List.getElem?_cons_zero, List.getElem?_cons_succ, Nat.reduceAdd, spT, BR.d, ix4_0, ix4_1, cmpI, i1, i2, h1]
theorem spent_ok {ps : List BP} (hpl : ps.length ≤ 4) (l : BL) {rs : List BR} (hrs : ∀ r ∈ rs, SmR ps.length r) (hrl : rs.length ≤ 12) (rd : Rdr) :
    ∃ T : Int, 0 ≤ T ∧ T ≤ 200 ∧ mf__law_spent [.tup (ps.map BP.d), l.d, .tup (rs.map BR.d)] rd = some (.int T, rd) := by
  have e : mf__law_spent [.tup (ps.map BP.d), l.d, .tup (rs.map BR.d)] rd = ((forGo (.nm 4) spB (rs.map BR.d) [.val (.tup (ps.map BP.d)), .val l.d, .val (.tup (rs.map BR.d)), .val (.int 0), .un, .un] rd).bind fun q => match q.1 with | .nx env' => sRet (eVar 3) env' q.2 | fl => some (fl, q.2)).bind flFin := rfl
  have w := forGo_wp (p := .nm 4) (b := spB) (E := fun k env r => ∃ (T : Int) (x4 : SV), env = [.val (.tup (ps.map BP.d)), .val l.d, .val (.tup (rs.map BR.d)), .val (.int T), x4, .un] ∧ 0 ≤ T ∧ T ≤ 12 * k ∧ r = rd) (ds := rs.map BR.d) (n := 0) (rd := rd) (env := [.val (.tup (ps.map BP.d)), .val l.d, .val (.tup (rs.map BR.d)), .val (.int 0), .un, .un]) (by
    rintro d hd j env r hj ⟨T, x4, rfl, t0, t1, rfl⟩
    obtain ⟨row, hrow, rfl⟩ := List.mem_map.mp hd
    obtain ⟨S, s0, s1, hb⟩ := spB_ok hpl l (.val (.tup (rs.map BR.d))) T .un (hrs row hrow) r
    exact ⟨_, rfl, _, _, hb, _, rfl, T + S, _, rfl, by omega, by omega, rfl⟩) ⟨0, _, rfl, Int.le_refl _, by omega, rfl⟩
  obtain ⟨fl, r, hw, env, rfl, T, x4, rfl, t0, t1, rfl⟩ := w
  rw [List.length_map] at t1
  refine ⟨T, t0, by omega, ?_⟩
  rw [e, hw]
  rfl
end My

set_option Elab.async false
set_option linter.all false
set_option maxRecDepth 100000
set_option maxHeartbeats 2000000
namespace My
open PySem PySem.Spec PyProof.Rows L2 FW
def rb5 : MM D := (eOp opIx (eOp opIx (eVar 1) (eFnR mf__law_draw 1 0 (aCons (eCall (op1 opLen) (aCons (eVar 1) aNil)) aNil))) (eC (.int 1)))
def rb6 : MM D := (eFnR mf__law_some_of 1 0 (aCons (eLc (eIter (eVar 1)) (.nm 9) [9] (eT (eOp opEq (eOp opIx (eVar 9) (eC (.int 1))) (eVar 5))) (eOp opIx (eVar 9) (eC (.int 0)))) aNil))
def rb8 : MM D := (eTup (aCons (eVar 6) (aCons (eVar 7) (aCons (eOp opAdd (eVar 7) (eFnR mf__law_draw 1 0 (aCons (eC (.int 4)) aNil))) (aCons (eC (.int 0)) aNil)))))
def rbT : MM Bool := (mFrz (eT (eOp opEq (eLc (eIter (eVar 2)) (.nm 9) [9] (eT (eFn mf__law_crosses 2 (aCons (eVar 9) (aCons (eVar 8) aNil)))) (eVar 9)) (eLst aNil))))
def rbA : MM D := (eOp opAdd (eSl (eVar 8) pNone (pSome (eC (.int 3)))) (eTup (aCons (eOp opAdd (eFn mf__law_spent 3 (aCons (eVar 1) (aCons (eVar 8) (aCons (eVar 4) aNil)))) (eFnR mf__law_draw 1 0 (aCons (eC (.int 7)) aNil))) aNil)))
def rbB : MM Fl := sSeq (sSet 5 rb5) (sSeq (sSet 6 rb6) (sSeq (sSet 7 (eFnR mf__law_draw 1 0 (aCons (eC (.int 4)) aNil))) (sSeq (sSet 8 rb8) (sIf rbT (sApp 2 rbA) sNx))))
def rbL : MM D := (eCall (op1 opTuple) (aCons (eLc (eRange range1 (aCons (eFnR mf__law_draw 1 0 (aCons (eC (.int 6)) aNil)) aNil)) (.nm 3) [3] mYes (eFnR mf__law_random_row 1 0 (aCons (eVar 1) aNil))) aNil))
def rbI : MM (List D) := eRange range1 (aCons (eFnR mf__law_draw 1 0 (aCons (eC (.int 6)) aNil)) aNil)
def rbR : MM D := eTup (aCons (eVar 1) (aCons (eCall (op1 opTuple) (aCons (eVar 2) aNil)) (aCons (eVar 4) aNil)))
theorem rb_is : b__law_random_book = sSeq (sTup [1, 2] (vVal (eFnR mf__law_random_purses 0 0 aNil) (vOwn (fLst aNil) vNil))) (sSeq (sSet 4 rbL) (sSeq (sFor rbI (.nm 3) rbB) (sFrz 2 (sRet rbR)))) := rfl
section
variable {ps : List BP} {F : List BL} {x3 x4 x5 x6 x7 x8 x9 : SV} {n : Int} {r : Rdr}
theorem rb5_ok (h0 : ps ≠ []) (hl : ps.length ≤ 4) (hn : n ≤ 800000) (hr : RdI n r) :
    Wp (rb5 [.rdr, .val (.tup (ps.map BP.d)), .own (F.map BL.d), x3, x4, x5, x6, x7, x8, x9] r) fun d r' => (∃ p ∈ ps, d = .str p.sp) ∧ RdI (n + 1) r' := by
  have l1 := List.length_pos_iff.mpr h0
  simp only [ev_bind1, ev_lift, ev_eC, ev_eVar, ev_eOp, ev_eUn, ev_eT, ev_mAnd, ev_mOr, ev_mNot, ev_eAnd, ev_eIf, ev_chain, ev_aNil, ev_aCons, ev_eTup, ev_eLst, ev_eCall, ev_eFn, ev_eFnR, ev_eIter, ev_eRange, ev_eLc, ev_eSl, ev_pNone, ev_pSome, ev_mFrz, ev_sNx, ev_sSet, ev_sRet, ev_sSeq, ev_sIf, ev_sUnp, ev_sNew, ev_fLst, ev_fCat, ev_sApp, ev_sFrz, ev_sFor, ev_vNil, ev_vVal, ev_vOwn, ev_sTup, ev_eRd, ev_sRd, and_self, true_and, and_true, eq_self, eqS, eqI, neS, neI, decide_true, decide_false, decide_eq_true_eq, Bool.not_true, Bool.not_false, initE, setPat, setAll, op1, isBl, flFin, iterD, seqOf, List.length_cons, List.length_nil, Bool.false_eq_true, if_false, if_true, List.nil_append, List.map_cons, List.map_nil, List.replicate, List.cons_append, Option.bind_some, Option.map_some, List.set_cons_succ, List.set_cons_zero, List.getElem?_cons_zero, List.getElem?_cons_succ, Nat.reduceAdd, rb5, lenT, List.length_map]
  simp only [wp_obind, wp_some, wp_omap, wp_omap2]
  refine (draw_ok (many := ps.length) (by omega) (by omega) (by omega) hr).mono ?_
  rintro _ r1 ⟨⟨q, rfl, q0, q1⟩, hr1⟩
  obtain ⟨i, rfl⟩ := Int.eq_ofNat_of_zero_le q0
  have hi : i < ps.length := by omega
  have x1 := SeqD.ix (ds := ps.map BP.d) (.inl rfl) (i := i) (by rw [List.length_map]; exact hi)
  rw [List.getElem_map] at x1
  exact ⟨_, x1, _, rfl, ⟨_, List.getElem_mem hi, rfl⟩, hr1⟩
theorem rb6_ok (hps : ∀ p ∈ ps, p.Ok) (hl : ps.length ≤ 4) (hn : n ≤ 800000) (hr : RdI n r) {p : BP} (hp : p ∈ ps) :
    Wp (rb6 [.rdr, .val (.tup (ps.map BP.d)), .own (F.map BL.d), x3, x4, .val (.str p.sp), x6, x7, x8, x9] r) fun d r' => (∃ ks : List Str, d = .tup (ks.map .str) ∧ ks ≠ [] ∧ (∀ k ∈ ks, Wd k) ∧ ks.length ≤ 12) ∧ RdI (n + 13) r' := by
  have lc := lcGo_filter (f := BP.d) (g := fun q => D.str q.nm) (b := fun q => decide (q.sp = p.sp)) (i := 9) (env := [.rdr, .val (.tup (ps.map BP.d)), .own (F.map BL.d), x3, x4, .val (.str p.sp), x6, x7, x8, .un]) (rd := r)
    (t := eT (eOp opEq (eOp opIx (eVar 9) (eC (.int 1))) (eVar 5))) (e := eOp opIx (eVar 9) (eC (.int 0))) (as := ps) (fun q _ => by simp only [ev_bind1, ev_lift, ev_eC, ev_eVar, ev_eOp, ev_eUn, ev_eT, ev_mAnd, ev_mOr, ev_mNot, ev_eAnd, ev_eIf, ev_chain, ev_aNil, ev_aCons, ev_eTup, ev_eLst, ev_eCall, ev_eFn, ev_eFnR, ev_eIter, ev_eRange, ev_eLc, ev_eSl, ev_pNone, ev_pSome, ev_mFrz, ev_sNx, ev_sSet, ev_sRet, ev_sSeq, ev_sIf, ev_sUnp, ev_sNew, ev_fLst, ev_fCat, ev_sApp, ev_sFrz, ev_sFor, ev_vNil, ev_vVal, ev_vOwn, ev_sTup, ev_eRd, ev_sRd, and_self, true_and, and_true, eq_self, eqS, eqI, neS, neI, decide_true, decide_false, decide_eq_true_eq, Bool.not_true, Bool.not_false, initE, setPat, setAll, op1, isBl, flFin, iterD, seqOf, List.length_cons, List.length_nil, Bool.false_eq_true, if_false, if_true, List.nil_append, List.map_cons, List.map_nil, List.replicate, List.cons_append, Option.bind_some, Option.map_some, List.set_cons_succ, List.set_cons_zero, List.getElem?_cons_zero, List.getElem?_cons_succ, Nat.reduceAdd, BP.d, ix5_1]) fun q _ => by simp only [ev_bind1, ev_lift, ev_eC, ev_eVar, ev_eOp, ev_eUn, ev_eT, ev_mAnd, ev_mOr, ev_mNot, ev_eAnd, ev_eIf, ev_chain, ev_aNil, ev_aCons, ev_eTup, ev_eLst, ev_eCall, ev_eFn, ev_eFnR, ev_eIter, ev_eRange, ev_eLc, ev_eSl, ev_pNone, ev_pSome, ev_mFrz, ev_sNx, ev_sSet, ev_sRet, ev_sSeq, ev_sIf, ev_sUnp, ev_sNew, ev_fLst, ev_fCat, ev_sApp, ev_sFrz, ev_sFor, ev_vNil, ev_vVal, ev_vOwn, ev_sTup, ev_eRd, ev_sRd, and_self, true_and, and_true, eq_self, eqS, eqI, neS, neI, decide_true, decide_false, decide_eq_true_eq, Bool.not_true, Bool.not_false, initE, setPat, setAll, op1, isBl, flFin, iterD, seqOf, List.length_cons, List.length_nil, Bool.false_eq_true, if_false, if_true, List.nil_append, List.map_cons, List.map_nil, List.replicate, List.cons_append, Option.bind_some, Option.map_some, List.set_cons_succ, List.set_cons_zero, List.getElem?_cons_zero, List.getElem?_cons_succ, Nat.reduceAdd, BP.d, ix5_0]
  have m1 : (ps.filter fun q => decide (q.sp = p.sp)).map (fun q => D.str q.nm) = ((ps.filter fun q => decide (q.sp = p.sp)).map BP.nm).map D.str := by rw [List.map_map]; rfl
  rw [m1] at lc
  have n1 : (ps.filter fun q => decide (q.sp = p.sp)).map BP.nm ≠ [] := by
    have : p ∈ ps.filter fun q => decide (q.sp = p.sp) := List.mem_filter.mpr ⟨hp, by simp⟩
    intro z
    rw [List.map_eq_nil_iff] at z
    rw [z] at this
    exact List.not_mem_nil this
  have n2 : ((ps.filter fun q => decide (q.sp = p.sp)).map BP.nm).length ≤ ps.length := by
    rw [List.length_map]
    exact List.length_filter_le _ _
  have sz := szl (n := ps.length) (by omega)
  have e : rb6 [.rdr, .val (.tup (ps.map BP.d)), .own (F.map BL.d), x3, x4, .val (.str p.sp), x6, x7, x8, x9] r = mf__law_some_of [.lst (((ps.filter fun q => decide (q.sp = p.sp)).map BP.nm).map .str)] r := by
    simp only [ev_bind1, ev_lift, ev_eC, ev_eVar, ev_eOp, ev_eUn, ev_eT, ev_mAnd, ev_mOr, ev_mNot, ev_eAnd, ev_eIf, ev_chain, ev_aNil, ev_aCons, ev_eTup, ev_eLst, ev_eCall, ev_eFn, ev_eFnR, ev_eIter, ev_eRange, ev_eLc, ev_eSl, ev_pNone, ev_pSome, ev_mFrz, ev_sNx, ev_sSet, ev_sRet, ev_sSeq, ev_sIf, ev_sUnp, ev_sNew, ev_fLst, ev_fCat, ev_sApp, ev_sFrz, ev_sFor, ev_vNil, ev_vVal, ev_vOwn, ev_sTup, ev_eRd, ev_sRd, and_self, true_and, and_true, eq_self, eqS, eqI, neS, neI, decide_true, decide_false, decide_eq_true_eq, Bool.not_true, Bool.not_false, initE, setPat, setAll, op1, isBl, flFin, iterD, seqOf, List.length_cons, List.length_nil, Bool.false_eq_true, if_false, if_true, List.nil_append, List.map_cons, List.map_nil, List.replicate, List.cons_append, Option.bind_some, Option.map_some, List.set_cons_succ, List.set_cons_zero, List.getElem?_cons_zero, List.getElem?_cons_succ, Nat.reduceAdd, rb6, List.length_map, sz, wipeE, lc]
  rw [e]
  refine (some_of_ok n1 (by omega) (.inr rfl) (by omega) hr).mono ?_
  rintro _ r1 ⟨⟨ks, rfl, a1, a2, a3⟩, hr1⟩
  refine ⟨⟨ks, rfl, a1, fun k hk => ?_, by omega⟩, hr1⟩
  obtain ⟨q, hq, rfl⟩ := List.mem_map.mp (a2 k hk)
  exact (hps q (List.mem_filter.mp hq).1).nm
theorem rb8_ok {ns : List Str} {b : Int} (hn : n ≤ 800000) (hr : RdI n r) :
    Wp (rb8 [.rdr, .val (.tup (ps.map BP.d)), .own (F.map BL.d), x3, x4, x5, .val (.tup (ns.map .str)), .val (.int b), x8, x9] r) fun d r' => (∃ z : Int, 0 ≤ z ∧ z < 4 ∧ d = (BL.mk ns b (b + z) 0).d) ∧ RdI (n + 1) r' := by
  have l4 : (4 : Nat) ≤ sizeLine := by decide
  obtain ⟨_, r1, hd, ⟨z, rfl, z0, z1⟩, hr1⟩ := draw_ok (many := 4) (by omega) (by omega) (by omega) hr
  refine wp_eq (a := (BL.mk ns b (b + z) 0).d) (rd := r1) ?_ ⟨⟨z, z0, z1, rfl⟩, hr1⟩
  simp only [ev_bind1, ev_lift, ev_eC, ev_eVar, ev_eOp, ev_eUn, ev_eT, ev_mAnd, ev_mOr, ev_mNot, ev_eAnd, ev_eIf, ev_chain, ev_aNil, ev_aCons, ev_eTup, ev_eLst, ev_eCall, ev_eFn, ev_eFnR, ev_eIter, ev_eRange, ev_eLc, ev_eSl, ev_pNone, ev_pSome, ev_mFrz, ev_sNx, ev_sSet, ev_sRet, ev_sSeq, ev_sIf, ev_sUnp, ev_sNew, ev_fLst, ev_fCat, ev_sApp, ev_sFrz, ev_sFor, ev_vNil, ev_vVal, ev_vOwn, ev_sTup, ev_eRd, ev_sRd, and_self, true_and, and_true, eq_self, eqS, eqI, neS, neI, decide_true, decide_false, decide_eq_true_eq, Bool.not_true, Bool.not_false, initE, setPat, setAll, op1, isBl, flFin, iterD, seqOf, List.length_cons, List.length_nil, Bool.false_eq_true, if_false, if_true, List.nil_append, List.map_cons, List.map_nil, List.replicate, List.cons_append, Option.bind_some, Option.map_some, List.set_cons_succ, List.set_cons_zero, List.getElem?_cons_zero, List.getElem?_cons_succ, Nat.reduceAdd, rb8, hd, addI, l4]
  rfl
theorem rbT_ok (hF : ∀ l ∈ F, l.Ok) (hFl : F.length ≤ 12) {l : BL} (hl : l.Ok) (rd : Rdr) :
    ∃ c, rbT [.rdr, .val (.tup (ps.map BP.d)), .own (F.map BL.d), x3, x4, x5, x6, x7, .val l.d, x9] rd = some (c, rd) := by
  have hc : ∀ f : BL, ∃ c, f ∈ F → ∀ rd, mf__law_crosses [f.d, l.d] rd = some (.bl c, rd) := fun f => by
    by_cases h : f ∈ F
    · obtain ⟨c, hc⟩ := crosses_ok f l (hF f h).ns (hF f h).kl hl.ns hl.kl
      exact ⟨c, fun _ => hc⟩
    · exact ⟨true, fun z => absurd z h⟩
  let b : BL → Bool := fun f => Classical.choose (hc f)
  have hb : ∀ f ∈ F, ∀ rd, mf__law_crosses [f.d, l.d] rd = some (.bl (b f), rd) := fun f h => Classical.choose_spec (hc f) h
  have lc := lcGo_filter (f := BL.d) (g := BL.d) (b := b) (i := 9) (env := [frzSV .rdr, frzSV (.val (.tup (ps.map BP.d))), .val (.lst (F.map BL.d)), frzSV x3, frzSV x4, frzSV x5, frzSV x6, frzSV x7, .val l.d, .un]) (rd := rd)
    (t := eT (eFn mf__law_crosses 2 (aCons (eVar 9) (aCons (eVar 8) aNil)))) (e := eVar 9) (as := F) (fun q hq => by simp only [ev_bind1, ev_lift, ev_eC, ev_eVar, ev_eOp, ev_eUn, ev_eT, ev_mAnd, ev_mOr, ev_mNot, ev_eAnd, ev_eIf, ev_chain, ev_aNil, ev_aCons, ev_eTup, ev_eLst, ev_eCall, ev_eFn, ev_eFnR, ev_eIter, ev_eRange, ev_eLc, ev_eSl, ev_pNone, ev_pSome, ev_mFrz, ev_sNx, ev_sSet, ev_sRet, ev_sSeq, ev_sIf, ev_sUnp, ev_sNew, ev_fLst, ev_fCat, ev_sApp, ev_sFrz, ev_sFor, ev_vNil, ev_vVal, ev_vOwn, ev_sTup, ev_eRd, ev_sRd, and_self, true_and, and_true, eq_self, eqS, eqI, neS, neI, decide_true, decide_false, decide_eq_true_eq, Bool.not_true, Bool.not_false, initE, setPat, setAll, op1, isBl, flFin, iterD, seqOf, List.length_cons, List.length_nil, Bool.false_eq_true, if_false, if_true, List.nil_append, List.map_cons, List.map_nil, List.replicate, List.cons_append, Option.bind_some, Option.map_some, List.set_cons_succ, List.set_cons_zero, List.getElem?_cons_zero, List.getElem?_cons_succ, Nat.reduceAdd, hb q hq]) fun q _ => by simp only [ev_bind1, ev_lift, ev_eC, ev_eVar, ev_eOp, ev_eUn, ev_eT, ev_mAnd, ev_mOr, ev_mNot, ev_eAnd, ev_eIf, ev_chain, ev_aNil, ev_aCons, ev_eTup, ev_eLst, ev_eCall, ev_eFn, ev_eFnR, ev_eIter, ev_eRange, ev_eLc, ev_eSl, ev_pNone, ev_pSome, ev_mFrz, ev_sNx, ev_sSet, ev_sRet, ev_sSeq, ev_sIf, ev_sUnp, ev_sNew, ev_fLst, ev_fCat, ev_sApp, ev_sFrz, ev_sFor, ev_vNil, ev_vVal, ev_vOwn, ev_sTup, ev_eRd, ev_sRd, and_self, true_and, and_true, eq_self, eqS, eqI, neS, neI, decide_true, decide_false, decide_eq_true_eq, Bool.not_true, Bool.not_false, initE, setPat, setAll, op1, isBl, flFin, iterD, seqOf, List.length_cons, List.length_nil, Bool.false_eq_true, if_false, if_true, List.nil_append, List.map_cons, List.map_nil, List.replicate, List.cons_append, Option.bind_some, Option.map_some, List.set_cons_succ, List.set_cons_zero, List.getElem?_cons_zero, List.getElem?_cons_succ, Nat.reduceAdd]
  have sz := szl hFl
  have eqn := eq_lstNil (ds := (F.filter b).map BL.d) (sm_maps fun f hf => BL.sm (hF f (List.mem_filter.mp hf).1)) (by omega)
  have l0 : (0 : Nat) ≤ sizeLine := Nat.zero_le _
  have f1 : frzSV (.own (F.map BL.d)) = .val (.lst (F.map BL.d)) := rfl
  have f2 : frzSV (.val l.d) = .val l.d := rfl
  refine ⟨decide ((F.filter b).map BL.d = []), ?_⟩
  simp only [ev_bind1, ev_lift, ev_eC, ev_eVar, ev_eOp, ev_eUn, ev_eT, ev_mAnd, ev_mOr, ev_mNot, ev_eAnd, ev_eIf, ev_chain, ev_aNil, ev_aCons, ev_eTup, ev_eLst, ev_eCall, ev_eFn, ev_eFnR, ev_eIter, ev_eRange, ev_eLc, ev_eSl, ev_pNone, ev_pSome, ev_mFrz, ev_sNx, ev_sSet, ev_sRet, ev_sSeq, ev_sIf, ev_sUnp, ev_sNew, ev_fLst, ev_fCat, ev_sApp, ev_sFrz, ev_sFor, ev_vNil, ev_vVal, ev_vOwn, ev_sTup, ev_eRd, ev_sRd, and_self, true_and, and_true, eq_self, eqS, eqI, neS, neI, decide_true, decide_false, decide_eq_true_eq, Bool.not_true, Bool.not_false, initE, setPat, setAll, op1, isBl, flFin, iterD, seqOf, List.length_cons, List.length_nil, Bool.false_eq_true, if_false, if_true, List.nil_append, List.map_cons, List.map_nil, List.replicate, List.cons_append, Option.bind_some, Option.map_some, List.set_cons_succ, List.set_cons_zero, List.getElem?_cons_zero, List.getElem?_cons_succ, Nat.reduceAdd, rbT, f1, f2, List.length_map, sz, wipeE, lc, l0, eqn]
theorem addT3 {a b c d : D} : opAdd (.tup [a, b, c]) (.tup [d]) = some (.tup [a, b, c, d]) := by
  have e : opAdd (.tup [a, b, c]) (.tup [d]) = if [a, b, c].length + [d].length ≤ sizeLine then some (.tup ([a, b, c] ++ [d])) else none := rfl
  rw [e]
  exact if_pos (show [a, b, c].length + [d].length ≤ sizeLine from (by decide : (4 : Nat) ≤ sizeLine))
theorem rbA_ok (hpl : ps.length ≤ 4) {rs : List BR} (hrs : ∀ q ∈ rs, SmR ps.length q) (hrl : rs.length ≤ 12) (hn : n ≤ 800000) (hr : RdI n r) (l : BL) :
    Wp (rbA [.rdr, .val (.tup (ps.map BP.d)), .own (F.map BL.d), x3, .val (.tup (rs.map BR.d)), x5, x6, x7, .val l.d, x9] r) fun d r' => (∃ c : Int, 0 ≤ c ∧ c ≤ 300 ∧ d = (BL.mk l.ns l.b l.e c).d) ∧ RdI (n + 1) r' := by
  obtain ⟨T, t0, t1, hT⟩ := spent_ok hpl l hrs hrl r
  have sl : opSl l.d none (some 3) = some (.tup [.tup (l.ns.map .str), .int l.b, .int l.e]) := rfl
  obtain ⟨_, r1, hd, ⟨z, rfl, z0, z1⟩, hr1⟩ := draw_ok (many := 7) (by omega) (by omega) (by omega) hr
  have l1 : (1 : Nat) ≤ sizeLine := by decide
  refine wp_eq (a := (BL.mk l.ns l.b l.e (T + z)).d) (rd := r1) ?_ ⟨⟨T + z, by omega, by omega, rfl⟩, hr1⟩
  simp only [ev_bind1, ev_lift, ev_eC, ev_eVar, ev_eOp, ev_eUn, ev_eT, ev_mAnd, ev_mOr, ev_mNot, ev_eAnd, ev_eIf, ev_chain, ev_aNil, ev_aCons, ev_eTup, ev_eLst, ev_eCall, ev_eFn, ev_eFnR, ev_eIter, ev_eRange, ev_eLc, ev_eSl, ev_pNone, ev_pSome, ev_mFrz, ev_sNx, ev_sSet, ev_sRet, ev_sSeq, ev_sIf, ev_sUnp, ev_sNew, ev_fLst, ev_fCat, ev_sApp, ev_sFrz, ev_sFor, ev_vNil, ev_vVal, ev_vOwn, ev_sTup, ev_eRd, ev_sRd, and_self, true_and, and_true, eq_self, eqS, eqI, neS, neI, decide_true, decide_false, decide_eq_true_eq, Bool.not_true, Bool.not_false, initE, setPat, setAll, op1, isBl, flFin, iterD, seqOf, List.length_cons, List.length_nil, Bool.false_eq_true, if_false, if_true, List.nil_append, List.map_cons, List.map_nil, List.replicate, List.cons_append, Option.bind_some, Option.map_some, List.set_cons_succ, List.set_cons_zero, List.getElem?_cons_zero, List.getElem?_cons_succ, Nat.reduceAdd, rbA, sl, hT, hd, addI, l1, addT3]
  rfl
theorem rbB_ok (hps : ∀ p ∈ ps, p.Ok) (h0 : ps ≠ []) (hpl : ps.length ≤ 4) {rs : List BR} (hrs : ∀ q ∈ rs, SmR ps.length q) (hrl : rs.length ≤ 12) (hF : ∀ l ∈ F, l.Ok) (hFl : F.length ≤ 6) (hn : n ≤ 700000) (hr : RdI n r) :
    Wp (rbB [.rdr, .val (.tup (ps.map BP.d)), .own (F.map BL.d), x3, .val (.tup (rs.map BR.d)), x5, x6, x7, x8, x9] r) fun fl r' => ∃ env', fl = .nx env' ∧ (∃ (F' : List BL) (y5 y6 y7 y8 : SV), env' = [.rdr, .val (.tup (ps.map BP.d)), .own (F'.map BL.d), x3, .val (.tup (rs.map BR.d)), y5, y6, y7, y8, x9] ∧ (∀ l ∈ F', l.Ok) ∧ F'.length ≤ F.length + 1) ∧ RdI (n + 20) r' := by
  unfold rbB
  refine wp_set ((rb5_ok h0 hpl (by omega) hr).mono ?_)
  rintro _ r1 ⟨⟨p, hp, rfl⟩, hr1⟩
  refine wp_set ((rb6_ok hps hpl (by omega) hr1 hp).mono ?_)
  rintro _ r2 ⟨⟨ns, rfl, a1, a2, a3⟩, hr2⟩
  refine wp_set (Wp.mono (draw_ok (many := 4) (by omega) (by omega) (by omega) hr2) ?_)
  rintro _ r3 ⟨⟨b, rfl, b0, b1⟩, hr3⟩
  refine wp_set ((rb8_ok (by omega) hr3).mono ?_)
  rintro _ r4 ⟨⟨z, z0, z1, rfl⟩, hr4⟩
  have ok0 : (BL.mk ns b (b + z) 0).Ok := ⟨a2, a1, a3, ok_small (i := b) b0 (by omega), ok_small (i := b + z) (by omega) (by omega), ok_small (i := 0) (by omega) (by omega)⟩
  obtain ⟨c, hc⟩ := rbT_ok (ps := ps) (x3 := x3) (x4 := .val (.tup (rs.map BR.d))) (x5 := .val (.str p.sp)) (x6 := .val (.tup (ns.map .str))) (x7 := .val (.int b)) (x9 := x9) hF (by omega) ok0 r4
  refine wp_if c hc (fun _ => ?_) fun _ => ?_
  · obtain ⟨d, r5, hA, ⟨cap, c0, c1, rfl⟩, hr5⟩ := rbA_ok (ps := ps) (F := F) (x3 := x3) (x5 := .val (.str p.sp)) (x6 := .val (.tup (ns.map .str))) (x7 := .val (.int b)) (x9 := x9) hpl hrs hrl (by omega) hr4 (BL.mk ns b (b + z) 0)
    have ok1 : (BL.mk ns b (b + z) cap).Ok := ⟨a2, a1, a3, ok0.b, ok0.e, ok_small (i := cap) c0 (by omega)⟩
    have lp : (F.map BL.d).length < sizeLine := by
      rw [List.length_map]
      have : sizeLine = 16777216 := by decide
      omega
    refine wp_eq (a := .nx [.rdr, .val (.tup (ps.map BP.d)), .own ((F ++ [BL.mk ns b (b + z) cap]).map BL.d), x3, .val (.tup (rs.map BR.d)), .val (.str p.sp), .val (.tup (ns.map .str)), .val (.int b), .val (BL.mk ns b (b + z) 0).d, x9]) (rd := r5) ?_ ⟨_, rfl, ⟨F ++ [BL.mk ns b (b + z) cap], _, _, _, _, rfl, fun l hl => ?_, by simp⟩, hr5.mono (by omega)⟩
    · refine Eq.trans (b := (some (Fl.nx [.rdr, .val (.tup (ps.map BP.d)), .own (F.map BL.d ++ [(BL.mk ns b (b + z) cap).d]), x3, .val (.tup (rs.map BR.d)), .val (.str p.sp), .val (.tup (ns.map .str)), .val (.int b), .val (BL.mk ns b (b + z) 0).d, x9], r5))) ?_ (by rw [List.map_append]; rfl)
      rw [ev_sApp]
      refine Eq.trans (congrArg (fun x => Option.bind x _) hA) ?_
      rw [Option.bind_some]
      exact if_pos lp
    · rcases List.mem_append.mp hl with hl | hl
      · exact hF l hl
      · obtain rfl := List.mem_singleton.mp hl
        exact ok1
  · exact wp_eq rfl ⟨_, rfl, ⟨F, _, _, _, _, rfl, hF, by omega⟩, hr4.mono (by omega)⟩
end
theorem all_rows {ys : List D} {m : Nat} (h : ∀ y ∈ ys, ∃ q : BR, y = q.d ∧ SmR m q) : ∃ rs : List BR, ys = rs.map BR.d ∧ ∀ q ∈ rs, SmR m q := by
  induction ys with
  | nil => exact ⟨[], rfl, fun k hk => (List.not_mem_nil hk).elim⟩
  | cons y ys ih =>
    obtain ⟨ks, e, hk⟩ := ih fun z hz => h z (List.mem_cons_of_mem _ hz)
    obtain ⟨s, rfl, hs⟩ := h y List.mem_cons_self
    refine ⟨s :: ks, by rw [e]; rfl, fun k hk' => ?_⟩
    rcases List.mem_cons.mp hk' with rfl | hk'
    · exact hs
    · exact hk k hk'
theorem rbL_ok {ps : List BP} {x2 x3 x4 x5 x6 x7 x8 x9 : SV} {n : Int} {r : Rdr} (hpl : ps.length ≤ 4) (hn : n ≤ 700000) (hr : RdI n r) :
    Wp (rbL [.rdr, .val (.tup (ps.map BP.d)), x2, x3, x4, x5, x6, x7, x8, x9] r) fun d r' => (∃ rs : List BR, d = .tup (rs.map BR.d) ∧ (∀ q ∈ rs, SmR ps.length q) ∧ rs.length ≤ 5) ∧ RdI (n + 61) r' := by
  obtain ⟨_, r1, hd, ⟨k, rfl, k0, k1⟩, hr1⟩ := draw_ok (many := 6) (by omega) (by omega) (by omega) hr
  obtain ⟨i, rfl⟩ := Int.eq_ofNat_of_zero_le k0
  have ra := range1_n (n := i) (by omega)
  have z12 : (rangeD 0 i).length ≤ sizeLine := by
    rw [range_len]
    exact szl (by omega)
  obtain ⟨ys, r2, lc, g1, g2, g3, _⟩ := lcGo_wp (p := .nm 3) (t := mYes) (e := eFnR mf__law_random_row 1 0 (aCons (eVar 1) aNil)) (env := [.rdr, .val (.tup (ps.map BP.d)), x2, .un, x4, x5, x6, x7, x8, x9]) (P := fun y => ∃ q : BR, y = q.d ∧ SmR ps.length q) (M := fun _ => False) (J := fun j r' => RdI (n + 1 + 10 * j) r') (ds := rangeD 0 i) (n := 0) (rd := r1) (by
    intro d hd j r' hj hJ
    rw [range_len] at hj
    refine ⟨_, rfl, ?_⟩
    refine wp_eq (a := true) rfl ⟨fun z => z.elim, fun _ => ?_, fun z => by cases z⟩
    refine (random_row_ok hpl (n := n + 1 + 10 * j) (by omega) hJ).mono ?_
    rintro y r3 ⟨hy, hr3⟩
    exact ⟨hy, hr3.mono (by omega)⟩) (by simpa using hr1)
  rw [range_len] at g2 g3
  obtain ⟨rs, rfl, hrs⟩ := all_rows g1
  rw [List.length_map] at g2
  have tu : opTuple (.lst (rs.map BR.d)) = some (.tup (rs.map BR.d)) := rfl
  refine wp_eq (a := .tup (rs.map BR.d)) (rd := r2) ?_ ⟨⟨rs, rfl, hrs, by omega⟩, g3.mono (by omega)⟩
  simp only [ev_bind1, ev_lift, ev_eC, ev_eVar, ev_eOp, ev_eUn, ev_eT, ev_mAnd, ev_mOr, ev_mNot, ev_eAnd, ev_eIf, ev_chain, ev_aNil, ev_aCons, ev_eTup, ev_eLst, ev_eCall, ev_eFn, ev_eFnR, ev_eIter, ev_eRange, ev_eLc, ev_eSl, ev_pNone, ev_pSome, ev_mFrz, ev_sNx, ev_sSet, ev_sRet, ev_sSeq, ev_sIf, ev_sUnp, ev_sNew, ev_fLst, ev_fCat, ev_sApp, ev_sFrz, ev_sFor, ev_vNil, ev_vVal, ev_vOwn, ev_sTup, ev_eRd, ev_sRd, and_self, true_and, and_true, eq_self, eqS, eqI, neS, neI, decide_true, decide_false, decide_eq_true_eq, Bool.not_true, Bool.not_false, initE, setPat, setAll, op1, isBl, flFin, iterD, seqOf, List.length_cons, List.length_nil, Bool.false_eq_true, if_false, if_true, List.nil_append, List.map_cons, List.map_nil, List.replicate, List.cons_append, Option.bind_some, Option.map_some, List.set_cons_succ, List.set_cons_zero, List.getElem?_cons_zero, List.getElem?_cons_succ, Nat.reduceAdd, rbL, hd, ra, z12, wipeE, lc, tu]
theorem random_book_ok {n : Int} (hn : n ≤ 600000) {rd : Rdr} (hr : RdI n rd) :
    Wp (mf__law_random_book [] rd) fun d rd' => (∃ b : BB, d = b.d ∧ b.Ok) ∧ RdI (n + 400) rd' := by
  have e : mf__law_random_book [] rd = (b__law_random_book [.rdr, .un, .un, .un, .un, .un, .un, .un, .un, .un] rd).bind flFin := rfl
  rw [e, rb_is]
  obtain ⟨_, r1, h1, ⟨ps, rfl, p0, p1, p2⟩, hr1⟩ := random_purses_ok (by omega) hr
  have s1 : sTup [1, 2] (vVal (eFnR mf__law_random_purses 0 0 aNil) (vOwn (fLst aNil) vNil)) [.rdr, .un, .un, .un, .un, .un, .un, .un, .un, .un] rd = some (.nx [.rdr, .val (.tup (ps.map BP.d)), .own ([].map BL.d), .un, .un, .un, .un, .un, .un, .un], r1) := by
    have l0 : (0 : Nat) ≤ sizeLine := Nat.zero_le _
    simp only [ev_bind1, ev_lift, ev_eC, ev_eVar, ev_eOp, ev_eUn, ev_eT, ev_mAnd, ev_mOr, ev_mNot, ev_eAnd, ev_eIf, ev_chain, ev_aNil, ev_aCons, ev_eTup, ev_eLst, ev_eCall, ev_eFn, ev_eFnR, ev_eIter, ev_eRange, ev_eLc, ev_eSl, ev_pNone, ev_pSome, ev_mFrz, ev_sNx, ev_sSet, ev_sRet, ev_sSeq, ev_sIf, ev_sUnp, ev_sNew, ev_fLst, ev_fCat, ev_sApp, ev_sFrz, ev_sFor, ev_vNil, ev_vVal, ev_vOwn, ev_sTup, ev_eRd, ev_sRd, and_self, true_and, and_true, eq_self, eqS, eqI, neS, neI, decide_true, decide_false, decide_eq_true_eq, Bool.not_true, Bool.not_false, initE, setPat, setAll, op1, isBl, flFin, iterD, seqOf, List.length_cons, List.length_nil, Bool.false_eq_true, if_false, if_true, List.nil_append, List.map_cons, List.map_nil, List.replicate, List.cons_append, Option.bind_some, Option.map_some, List.set_cons_succ, List.set_cons_zero, List.getElem?_cons_zero, List.getElem?_cons_succ, Nat.reduceAdd, setSv, h1, l0]
  refine wp_obind.mpr (Wp.mono (wp_seq (Q := fun fl r => ∃ b : BB, fl = .ret b.d ∧ b.Ok ∧ RdI (n + 400) r) (wp_eq s1 ⟨_, rfl, ?_⟩)) ?_)
  · refine wp_set ((rbL_ok p1 (by omega) hr1).mono ?_)
    rintro _ r2 ⟨⟨rs, rfl, q1, q2⟩, hr2⟩
    obtain ⟨_, r3, hd, ⟨k, rfl, k0, k1⟩, hr3⟩ := draw_ok (many := 6) (by omega) (by omega) (by omega) hr2
    obtain ⟨i, rfl⟩ := Int.eq_ofNat_of_zero_le k0
    have ra := range1_n (n := i) (by omega)
    have hI : ∀ env : List SV, env[0]? = some .rdr → rbI env r2 = some (rangeD 0 i, r3) := fun env h0 => by
      simp only [ev_bind1, ev_lift, ev_eC, ev_eVar, ev_eOp, ev_eUn, ev_eT, ev_mAnd, ev_mOr, ev_mNot, ev_eAnd, ev_eIf, ev_chain, ev_aNil, ev_aCons, ev_eTup, ev_eLst, ev_eCall, ev_eFn, ev_eFnR, ev_eIter, ev_eRange, ev_eLc, ev_eSl, ev_pNone, ev_pSome, ev_mFrz, ev_sNx, ev_sSet, ev_sRet, ev_sSeq, ev_sIf, ev_sUnp, ev_sNew, ev_fLst, ev_fCat, ev_sApp, ev_sFrz, ev_sFor, ev_vNil, ev_vVal, ev_vOwn, ev_sTup, ev_eRd, ev_sRd, and_self, true_and, and_true, eq_self, eqS, eqI, neS, neI, decide_true, decide_false, decide_eq_true_eq, Bool.not_true, Bool.not_false, initE, setPat, setAll, op1, isBl, flFin, iterD, seqOf, List.length_cons, List.length_nil, Bool.false_eq_true, if_false, if_true, List.nil_append, List.map_cons, List.map_nil, List.replicate, List.cons_append, Option.bind_some, Option.map_some, List.set_cons_succ, List.set_cons_zero, List.getElem?_cons_zero, List.getElem?_cons_succ, Nat.reduceAdd, rbI, h0, hd, ra]
    refine wp_seq (wp_for (wp_eq (hI _ rfl) ?_))
    refine (forGo_wp (E := fun j env r => ∃ (F : List BL) (y3 y5 y6 y7 y8 : SV), env = [.rdr, .val (.tup (ps.map BP.d)), .own (F.map BL.d), y3, .val (.tup (rs.map BR.d)), y5, y6, y7, y8, .un] ∧ (∀ l ∈ F, l.Ok) ∧ F.length ≤ j ∧ RdI (n + 170 + 20 * j) r) (n := 0) ?_ ⟨[], _, _, _, _, _, rfl, fun l hl => (List.not_mem_nil hl).elim, Nat.le_refl _, hr3.mono (by omega)⟩).mono ?_
    · rintro d hd j env r hj ⟨F, y3, y5, y6, y7, y8, rfl, hF, hFl, hJ⟩
      rw [range_len] at hj
      refine ⟨_, rfl, ?_⟩
      refine (rbB_ok p2 p0 p1 q1 (by omega) hF (by omega) (by omega) hJ).mono ?_
      rintro fl r' ⟨env', rfl, ⟨F', z5, z6, z7, z8, rfl, hF', hl'⟩, hJ'⟩
      exact ⟨_, rfl, F', _, _, _, _, _, rfl, hF', by omega, hJ'.mono (by omega)⟩
    · rintro fl r ⟨env, rfl, F, y3, y5, y6, y7, y8, rfl, hF, hFl, hJ⟩
      rw [range_len] at hFl hJ
      refine ⟨_, rfl, ?_⟩
      have tu : opTuple (.lst (F.map BL.d)) = some (.tup (F.map BL.d)) := rfl
      have l3 : (3 : Nat) ≤ sizeLine := by decide
      refine wp_eq (a := .ret (BB.mk ps F rs).d) (rd := r) ?_ ⟨⟨ps, F, rs⟩, rfl, ⟨p2, hF, fun q hq => (q1 q hq).ok (by omega), by show ps.length ≤ 12; omega, by show F.length ≤ 12; omega, by show rs.length ≤ 12; omega⟩, hJ.mono (by omega)⟩
      have fz : frzAt 2 [.rdr, .val (.tup (ps.map BP.d)), .own (F.map BL.d), y3, .val (.tup (rs.map BR.d)), y5, y6, y7, y8, .un] = [.rdr, .val (.tup (ps.map BP.d)), .val (.lst (F.map BL.d)), y3, .val (.tup (rs.map BR.d)), y5, y6, y7, y8, .un] := rfl
      rw [ev_sFrz, fz]
      simp only [ev_bind1, ev_lift, ev_eC, ev_eVar, ev_eOp, ev_eUn, ev_eT, ev_mAnd, ev_mOr, ev_mNot, ev_eAnd, ev_eIf, ev_chain, ev_aNil, ev_aCons, ev_eTup, ev_eLst, ev_eCall, ev_eFn, ev_eFnR, ev_eIter, ev_eRange, ev_eLc, ev_eSl, ev_pNone, ev_pSome, ev_mFrz, ev_sNx, ev_sSet, ev_sRet, ev_sSeq, ev_sIf, ev_sUnp, ev_sNew, ev_fLst, ev_fCat, ev_sApp, ev_sFrz, ev_sFor, ev_vNil, ev_vVal, ev_vOwn, ev_sTup, ev_eRd, ev_sRd, and_self, true_and, and_true, eq_self, eqS, eqI, neS, neI, decide_true, decide_false, decide_eq_true_eq, Bool.not_true, Bool.not_false, initE, setPat, setAll, op1, isBl, flFin, iterD, seqOf, List.length_cons, List.length_nil, Bool.false_eq_true, if_false, if_true, List.nil_append, List.map_cons, List.map_nil, List.replicate, List.cons_append, Option.bind_some, Option.map_some, List.set_cons_succ, List.set_cons_zero, List.getElem?_cons_zero, List.getElem?_cons_succ, Nat.reduceAdd, rbR, tu, l3, BB.d]
  · rintro fl r ⟨b, rfl, hb, hr⟩
    exact wp_eq rfl ⟨⟨b, rfl, hb⟩, hr⟩
end My

set_option Elab.async false
set_option linter.all false
set_option maxRecDepth 100000
set_option maxHeartbeats 2000000
namespace My
open PySem PySem.Spec PyProof.Rows L2 FW
/-! ### books that are told by a test -/
def wdB (s : Str) : Bool := decide (s.length ≤ 8) && s.cps.toList.all fun c => decide (c < 128)
theorem wdB_ok {s : Str} (h : wdB s = true) : Wd s := by
  simp only [wdB, Bool.and_eq_true, decide_eq_true_eq, List.all_eq_true] at h
  exact ⟨h.1, h.2⟩
def okIB (i : Int) : Bool := decide (0 ≤ i) && decide (i < 1000000000000000000000000000000000000000000000000000000000000)
theorem okIB_ok {i : Int} (h : okIB i = true) : OkI i := by
  simp only [okIB, Bool.and_eq_true, decide_eq_true_eq] at h
  exact h
def BP.okB (p : BP) : Bool := wdB p.nm && wdB p.sp && p.ks.all wdB && decide (p.ks ≠ []) && decide (p.ks.length ≤ 12) && okIB p.b && okIB p.e
theorem BP.okB_ok {p : BP} (h : p.okB = true) : p.Ok := by
  simp only [BP.okB, Bool.and_eq_true, decide_eq_true_eq, List.all_eq_true] at h
  obtain ⟨⟨⟨⟨⟨⟨h1, h2⟩, h3⟩, h4⟩, h5⟩, h6⟩, h7⟩ := h
  exact ⟨wdB_ok h1, wdB_ok h2, fun k hk => wdB_ok (h3 k hk), h4, h5, okIB_ok h6, okIB_ok h7⟩
def BL.okB (p : BL) : Bool := p.ns.all wdB && decide (p.ns ≠ []) && decide (p.ns.length ≤ 12) && okIB p.b && okIB p.e && okIB p.c
theorem BL.okB_ok {p : BL} (h : p.okB = true) : p.Ok := by
  simp only [BL.okB, Bool.and_eq_true, decide_eq_true_eq, List.all_eq_true] at h
  obtain ⟨⟨⟨⟨⟨h3, h4⟩, h5⟩, h6⟩, h7⟩, h8⟩ := h
  exact ⟨fun k hk => wdB_ok (h3 k hk), h4, h5, okIB_ok h6, okIB_ok h7, okIB_ok h8⟩
def BR.okB : BR → Bool
  | .buy d k a => okIB d && wdB k && okIB a
  | .paid d k sh => okIB d && wdB k && sh.all okIB && decide (sh.length ≤ 12)
theorem BR.okB_ok {p : BR} (h : p.okB = true) : p.Ok := by
  cases p with
  | buy d k a =>
    simp only [BR.okB, Bool.and_eq_true] at h
    exact ⟨okIB_ok h.1.1, wdB_ok h.1.2, okIB_ok h.2⟩
  | paid d k sh =>
    simp only [BR.okB, Bool.and_eq_true, List.all_eq_true, decide_eq_true_eq] at h
    exact ⟨okIB_ok h.1.1.1, wdB_ok h.1.1.2, fun s hs => okIB_ok (h.1.2 s hs), h.2⟩
def BB.okB (b : BB) : Bool := b.ps.all BP.okB && b.ls.all BL.okB && b.rs.all BR.okB && decide (b.ps.length ≤ 12) && decide (b.ls.length ≤ 12) && decide (b.rs.length ≤ 12)
theorem BB.okB_ok {b : BB} (h : b.okB = true) : b.Ok := by
  simp only [BB.okB, Bool.and_eq_true, decide_eq_true_eq, List.all_eq_true] at h
  obtain ⟨⟨⟨⟨⟨h1, h2⟩, h3⟩, h4⟩, h5⟩, h6⟩ := h
  exact ⟨fun p hp => BP.okB_ok (h1 p hp), fun p hp => BL.okB_ok (h2 p hp), fun p hp => BR.okB_ok (h3 p hp), h4, h5, h6⟩
theorem BB.drop_ok {ps : List BP} {ls : List BL} {rs : List BR} (h : (BB.mk ps ls rs).Ok) (i j k : Nat) : (BB.mk (ps.drop i) (ls.drop j) (rs.drop k)).Ok :=
  ⟨fun p hp => h.ps p (List.mem_of_mem_drop hp), fun p hp => h.ls p (List.mem_of_mem_drop hp), fun p hp => h.rs p (List.mem_of_mem_drop hp), by have := h.pl; simp only [List.length_drop] at *; omega, by have := h.ll; simp only [List.length_drop] at *; omega, by have := h.rl; simp only [List.length_drop] at *; omega⟩
abbrev far : Int := 10 ^ (59 : Int).toNat
def lP : List BP := [⟨("pay" : Str), ("buy" : Str), [("a" : Str), ("limit" : Str)], 3, far⟩, ⟨("paid" : Str), ("paid" : Str), [("b" : Str)], 0, 0⟩, ⟨("b" : Str), ("zzzzzzzz" : Str), [("c" : Str), ("d" : Str), ("e" : Str)], 7, 7⟩]
def lL : List BL := [⟨[("a" : Str), ("no" : Str)], 0, 0, far⟩, ⟨[("pay" : Str)], far, far, 0⟩, ⟨[("a" : Str), ("b" : Str), ("c" : Str), ("d" : Str)], 2, 99, 7⟩]
def lR : List BR := [.paid 0 ("a" : Str) [], .paid far ("paid" : Str) [0, far, 3], .buy 1 ("buy" : Str) far, .paid 3 ("x" : Str) [0], .buy 0 ("y" : Str) 0]
theorem loose_full : (BB.mk lP lL lR).Ok := BB.okB_ok (by decide +kernel)
theorem cut_from {xs : List D} {k : Int} (h : 0 ≤ k) : cutD xs (some k) none = xs.drop (min k.toNat xs.length) := by
  unfold FW.cutD
  have e1 : HT.sIx xs.length 0 (some k) = min k.toNat xs.length := by
    unfold HT.sIx
    simp only
    rw [if_neg (by omega)]
  have e2 : HT.sIx xs.length xs.length none = xs.length := rfl
  rw [e1, e2, List.take_of_length_le]
  rw [List.length_drop]
  exact Nat.le_refl _
theorem sl_from {xs : List D} {k : Int} (h : 0 ≤ k) : opSl (.lst xs) (some k) none = some (.lst (xs.drop (min k.toNat xs.length))) := by
  rw [← cut_from h]
  rfl
def lpD : MM Fl := (sSeq (sSet 2 (eCall (op1 opTuple) (aCons (eSl (eVar 2) (pSome (eFnR mf__law_draw 1 0 (aCons (eC (.int 3)) aNil))) pNone) aNil)))
  (sRet (eTup (aCons (eVar 2) (aCons (eCall (op1 opTuple) (aCons (eSl (eVar 3) (pSome (eFnR mf__law_draw 1 0 (aCons (eC (.int 4)) aNil))) pNone) aNil)) (aCons (eCall (op1 opTuple) (aCons (eSl (eVar 4) (pSome (eFnR mf__law_draw 1 0 (aCons (eC (.int 6)) aNil))) pNone) aNil)) aNil))))))
theorem loose_head (rd : Rdr) : ∃ a b c : SV, b__law_loose [.rdr, .un, .un, .un, .un] rd = lpD [.rdr, .val (.int far), .val (.lst (lP.map BP.d)), .val (.lst (lL.map BL.d)), .val (.lst (lR.map BR.d))] rd := ⟨.un, .un, .un, rfl⟩
theorem loose_ok {n : Int} (hn : n ≤ 600000) {rd : Rdr} (hr : RdI n rd) :
    Wp (mf__law_loose [] rd) fun d rd' => (∃ b : BB, d = b.d ∧ b.Ok) ∧ RdI (n + 400) rd' := by
  have e : mf__law_loose [] rd = (b__law_loose [.rdr, .un, .un, .un, .un] rd).bind flFin := rfl
  obtain ⟨_, _, _, e2⟩ := loose_head rd
  obtain ⟨_, r1, h1, ⟨k1, rfl, a1, b1⟩, hr1⟩ := draw_ok (many := 3) (by omega) (by omega) (by omega) hr
  obtain ⟨_, r2, h2, ⟨k2, rfl, a2, b2⟩, hr2⟩ := draw_ok (many := 4) (by omega) (by omega) (by omega) hr1
  obtain ⟨_, r3, h3, ⟨k3, rfl, a3, b3⟩, hr3⟩ := draw_ok (many := 6) (by omega) (by omega) (by omega) hr2
  have s1 := sl_from (xs := lP.map BP.d) a1
  have s2 := sl_from (xs := lL.map BL.d) a2
  have s3 := sl_from (xs := lR.map BR.d) a3
  rw [← List.map_drop] at s1 s2 s3
  have tu : ∀ xs : List D, opTuple (.lst xs) = some (.tup xs) := fun _ => rfl
  have l3 : (3 : Nat) ≤ sizeLine := by decide
  have ok := BB.drop_ok loose_full (min k1.toNat (lP.map BP.d).length) (min k2.toNat (lL.map BL.d).length) (min k3.toNat (lR.map BR.d).length)
  refine wp_eq (a := (BB.mk (lP.drop (min k1.toNat (lP.map BP.d).length)) (lL.drop (min k2.toNat (lL.map BL.d).length)) (lR.drop (min k3.toNat (lR.map BR.d).length))).d) (rd := r3) ?_ ⟨⟨_, rfl, ok⟩, hr3.mono (by omega)⟩
  rw [e, e2]
  simp only [ev_bind1, ev_lift, ev_eC, ev_eVar, ev_eOp, ev_eUn, ev_eT, ev_mAnd, ev_mOr, ev_mNot, ev_eAnd, ev_eIf, ev_chain, ev_aNil, ev_aCons, ev_eTup, ev_eLst, ev_eCall, ev_eFn, ev_eFnR, ev_eIter, ev_eRange, ev_eLc, ev_eSl, ev_pNone, ev_pSome, ev_mFrz, ev_sNx, ev_sSet, ev_sRet, ev_sSeq, ev_sIf, ev_sUnp, ev_sNew, ev_fLst, ev_fCat, ev_sApp, ev_sFrz, ev_sFor, ev_vNil, ev_vVal, ev_vOwn, ev_sTup, ev_eRd, ev_sRd, and_self, true_and, and_true, eq_self, eqS, eqI, neS, neI, decide_true, decide_false, decide_eq_true_eq, Bool.not_true, Bool.not_false, initE, setPat, setAll, op1, isBl, flFin, iterD, seqOf, List.length_cons, List.length_nil, Bool.false_eq_true, if_false, if_true, List.nil_append, List.map_cons, List.map_nil, List.replicate, List.cons_append, Option.bind_some, Option.map_some, List.set_cons_succ, List.set_cons_zero, List.getElem?_cons_zero, List.getElem?_cons_succ, Nat.reduceAdd, lpD, h1, h2, h3, s1, s2, s3, tu, l3]
  rfl
/-! ### the fixed ones -/
def gift : BP := ⟨("gift" : Str), ("aunt" : Str), [("food" : Str), ("toy" : Str)], 0, 9⟩
def meal : BP := ⟨("meal" : Str), ("firm" : Str), [("food" : Str)], 0, 4⟩
def trip : BP := ⟨("trip" : Str), ("firm" : Str), [("train" : Str)], 0, 9⟩
def caps : List BL := [⟨[("gift" : Str)], 0, 9, 10⟩, ⟨[("meal" : Str), ("trip" : Str)], 0, 9, 15⟩, ⟨[("meal" : Str)], 0, 0, 5⟩]
def caps2 : List BL := caps ++ [⟨[("meal" : Str)], 0, 3, 9⟩, ⟨[("meal" : Str)], 2, 3, 2⟩, ⟨[("gift" : Str)], 9, 9, 0⟩]
def fx1 : BB := ⟨[gift, meal, trip], caps, [.buy 0 ("food" : Str) 8, .buy 1 ("train" : Str) 9]⟩
def fx2 : BB := ⟨[gift, meal, trip], caps2, [.paid 0 ("food" : Str) [3, 5, 0], .buy 3 ("toy" : Str) 0, .paid 2 ("food" : Str) [0, 2, 0], .paid 4 ("train" : Str) [0, 0, 7]]⟩
def fx3 : BB := ⟨[⟨("limit" : Str), ("paid" : Str), [("buy" : Str), ("purse" : Str)], 2, 2⟩, ⟨("purse" : Str), ("purse" : Str), [("paid" : Str)], 0, 0⟩], [], [.paid 2 ("buy" : Str) [1, 0]]⟩
def fx4 : BB := ⟨[meal], [], []⟩
def sx (s : Str) : BP := ⟨s, ("s" : Str) ++ cutS s none (some 1), [("a" : Str), ("b" : Str), ("c" : Str), ("d" : Str), ("e" : Str)], 0, 9⟩
def wdL : List BL := [⟨[("aa" : Str), ("ab" : Str), ("ac" : Str)], 0, 9, 100⟩, ⟨[("aa" : Str), ("ab" : Str)], 0, 9, 90⟩, ⟨[("aa" : Str)], 0, 4, 30⟩, ⟨[("aa" : Str)], 0, 9, 60⟩, ⟨[("aa" : Str)], 5, 9, 40⟩, ⟨[("b" : Str)], 0, 9, 100⟩, ⟨[("c" : Str)], 3, 3, 0⟩, ⟨[("ab" : Str)], 0, 0, 30⟩]
def ten4 : List BR := [.buy 9 ("a" : Str) 30, .paid 0 ("a" : Str) [5, 15, 0, 0, 0, 0], .buy 0 ("e" : Str) 30, .paid 9 ("c" : Str) [20, 0, 0, 0, 0, 0]]
def fx5 : BB := ⟨[("aa" : Str), ("ab" : Str), ("ac" : Str), ("b" : Str), ("c" : Str), ("d" : Str)].map sx, wdL, ten4 ++ (ten4 ++ [.buy 3 ("b" : Str) 1, .paid 5 ("d" : Str) [0, 0, 0, 0, 0, 0]])⟩
def fixedB : List BB := [fx1, fx2, fx3, fx4, fx5]
theorem fixed_all : ∀ b ∈ fixedB, b.Ok := by
  have e : fixedB.all BB.okB = true := by decide +kernel
  intro b hb
  exact BB.okB_ok (List.all_eq_true.mp e b hb)
def fxT : MM Fl := (sSeq (sSet 8 (eCall (op1 opTuple) (aCons (eLc (eIter (eTup (aCons (eC (.str ("aa" : Str))) (aCons (eC (.str ("ab" : Str))) (aCons (eC (.str ("ac" : Str))) (aCons (eC (.str ("b" : Str))) (aCons (eC (.str ("c" : Str))) (aCons (eC (.str ("d" : Str))) aNil)))))))) (.nm 11) [11] mYes (eTup (aCons (eVar 11) (aCons (eOp opAdd (eC (.str ("s" : Str))) (eSl (eVar 11) pNone (pSome (eC (.int 1))))) (aCons (eTup (aCons (eC (.str ("a" : Str))) (aCons (eC (.str ("b" : Str))) (aCons (eC (.str ("c" : Str))) (aCons (eC (.str ("d" : Str))) (aCons (eC (.str ("e" : Str))) aNil)))))) (aCons (eC (.int 0)) (aCons (eC (.int 9)) aNil))))))) aNil)))
  (sSeq (sSet 9 (eTup (aCons (eTup (aCons (eTup (aCons (eC (.str ("aa" : Str))) (aCons (eC (.str ("ab" : Str))) (aCons (eC (.str ("ac" : Str))) aNil)))) (aCons (eC (.int 0)) (aCons (eC (.int 9)) (aCons (eC (.int 100)) aNil))))) (aCons (eTup (aCons (eTup (aCons (eC (.str ("aa" : Str))) (aCons (eC (.str ("ab" : Str))) aNil))) (aCons (eC (.int 0)) (aCons (eC (.int 9)) (aCons (eC (.int 90)) aNil))))) (aCons (eTup (aCons (eTup (aCons (eC (.str ("aa" : Str))) aNil)) (aCons (eC (.int 0)) (aCons (eC (.int 4)) (aCons (eC (.int 30)) aNil))))) aNil)))))
  (sSeq (sSet 9 (eOp opAdd (eVar 9) (eTup (aCons (eTup (aCons (eTup (aCons (eC (.str ("aa" : Str))) aNil)) (aCons (eC (.int 0)) (aCons (eC (.int 9)) (aCons (eC (.int 60)) aNil))))) (aCons (eTup (aCons (eTup (aCons (eC (.str ("aa" : Str))) aNil)) (aCons (eC (.int 5)) (aCons (eC (.int 9)) (aCons (eC (.int 40)) aNil))))) aNil)))))
  (sSeq (sSet 9 (eOp opAdd (eVar 9) (eTup (aCons (eTup (aCons (eTup (aCons (eC (.str ("b" : Str))) aNil)) (aCons (eC (.int 0)) (aCons (eC (.int 9)) (aCons (eC (.int 100)) aNil))))) (aCons (eTup (aCons (eTup (aCons (eC (.str ("c" : Str))) aNil)) (aCons (eC (.int 3)) (aCons (eC (.int 3)) (aCons (eC (.int 0)) aNil))))) (aCons (eTup (aCons (eTup (aCons (eC (.str ("ab" : Str))) aNil)) (aCons (eC (.int 0)) (aCons (eC (.int 0)) (aCons (eC (.int 30)) aNil))))) aNil))))))
  (sSeq (sSet 10 (eTup (aCons (eTup (aCons (eC (.str ("buy" : Str))) (aCons (eC (.int 9)) (aCons (eC (.str ("a" : Str))) (aCons (eC (.int 30)) aNil))))) (aCons (eTup (aCons (eC (.str ("paid" : Str))) (aCons (eC (.int 0)) (aCons (eC (.str ("a" : Str))) (aCons (eTup (aCons (eC (.int 5)) (aCons (eC (.int 15)) (aCons (eC (.int 0)) (aCons (eC (.int 0)) (aCons (eC (.int 0)) (aCons (eC (.int 0)) aNil))))))) aNil))))) (aCons (eTup (aCons (eC (.str ("buy" : Str))) (aCons (eC (.int 0)) (aCons (eC (.str ("e" : Str))) (aCons (eC (.int 30)) aNil))))) aNil)))))
  (sSeq (sSet 10 (eOp opAdd (eOp opMul (eOp opAdd (eVar 10) (eTup (aCons (eTup (aCons (eC (.str ("paid" : Str))) (aCons (eC (.int 9)) (aCons (eC (.str ("c" : Str))) (aCons (eTup (aCons (eC (.int 20)) (aCons (eC (.int 0)) (aCons (eC (.int 0)) (aCons (eC (.int 0)) (aCons (eC (.int 0)) (aCons (eC (.int 0)) aNil))))))) aNil))))) aNil))) (eC (.int 2))) (eTup (aCons (eTup (aCons (eC (.str ("buy" : Str))) (aCons (eC (.int 3)) (aCons (eC (.str ("b" : Str))) (aCons (eC (.int 1)) aNil))))) (aCons (eTup (aCons (eC (.str ("paid" : Str))) (aCons (eC (.int 5)) (aCons (eC (.str ("d" : Str))) (aCons (eOp opMul (eTup (aCons (eC (.int 0)) aNil)) (eC (.int 6))) aNil))))) aNil)))))
  (sRet (eLst (aCons (eVar 4) (aCons (eTup (aCons (eVar 2) (aCons (eVar 5) (aCons (eVar 6) aNil)))) (aCons (eVar 7) (aCons (eTup (aCons (eTup (aCons (eVar 1) aNil)) (aCons (eTup aNil) (aCons (eTup aNil) aNil)))) (aCons (eTup (aCons (eVar 8) (aCons (eVar 9) (aCons (eVar 10) aNil)))) aNil)))))))))))))
def fxM : MM D := (eCall (op1 opTuple) (aCons (eLc (eIter (eTup (aCons (eC (.str ("aa" : Str))) (aCons (eC (.str ("ab" : Str))) (aCons (eC (.str ("ac" : Str))) (aCons (eC (.str ("b" : Str))) (aCons (eC (.str ("c" : Str))) (aCons (eC (.str ("d" : Str))) aNil)))))))) (.nm 11) [11] mYes (eTup (aCons (eVar 11) (aCons (eOp opAdd (eC (.str ("s" : Str))) (eSl (eVar 11) pNone (pSome (eC (.int 1))))) (aCons (eTup (aCons (eC (.str ("a" : Str))) (aCons (eC (.str ("b" : Str))) (aCons (eC (.str ("c" : Str))) (aCons (eC (.str ("d" : Str))) (aCons (eC (.str ("e" : Str))) aNil)))))) (aCons (eC (.int 0)) (aCons (eC (.int 9)) aNil))))))) aNil))
def fxU : MM Fl := (sSeq (sSet 9 (eTup (aCons (eTup (aCons (eTup (aCons (eC (.str ("aa" : Str))) (aCons (eC (.str ("ab" : Str))) (aCons (eC (.str ("ac" : Str))) aNil)))) (aCons (eC (.int 0)) (aCons (eC (.int 9)) (aCons (eC (.int 100)) aNil))))) (aCons (eTup (aCons (eTup (aCons (eC (.str ("aa" : Str))) (aCons (eC (.str ("ab" : Str))) aNil))) (aCons (eC (.int 0)) (aCons (eC (.int 9)) (aCons (eC (.int 90)) aNil))))) (aCons (eTup (aCons (eTup (aCons (eC (.str ("aa" : Str))) aNil)) (aCons (eC (.int 0)) (aCons (eC (.int 4)) (aCons (eC (.int 30)) aNil))))) aNil)))))
  (sSeq (sSet 9 (eOp opAdd (eVar 9) (eTup (aCons (eTup (aCons (eTup (aCons (eC (.str ("aa" : Str))) aNil)) (aCons (eC (.int 0)) (aCons (eC (.int 9)) (aCons (eC (.int 60)) aNil))))) (aCons (eTup (aCons (eTup (aCons (eC (.str ("aa" : Str))) aNil)) (aCons (eC (.int 5)) (aCons (eC (.int 9)) (aCons (eC (.int 40)) aNil))))) aNil)))))
  (sSeq (sSet 9 (eOp opAdd (eVar 9) (eTup (aCons (eTup (aCons (eTup (aCons (eC (.str ("b" : Str))) aNil)) (aCons (eC (.int 0)) (aCons (eC (.int 9)) (aCons (eC (.int 100)) aNil))))) (aCons (eTup (aCons (eTup (aCons (eC (.str ("c" : Str))) aNil)) (aCons (eC (.int 3)) (aCons (eC (.int 3)) (aCons (eC (.int 0)) aNil))))) (aCons (eTup (aCons (eTup (aCons (eC (.str ("ab" : Str))) aNil)) (aCons (eC (.int 0)) (aCons (eC (.int 0)) (aCons (eC (.int 30)) aNil))))) aNil))))))
  (sSeq (sSet 10 (eTup (aCons (eTup (aCons (eC (.str ("buy" : Str))) (aCons (eC (.int 9)) (aCons (eC (.str ("a" : Str))) (aCons (eC (.int 30)) aNil))))) (aCons (eTup (aCons (eC (.str ("paid" : Str))) (aCons (eC (.int 0)) (aCons (eC (.str ("a" : Str))) (aCons (eTup (aCons (eC (.int 5)) (aCons (eC (.int 15)) (aCons (eC (.int 0)) (aCons (eC (.int 0)) (aCons (eC (.int 0)) (aCons (eC (.int 0)) aNil))))))) aNil))))) (aCons (eTup (aCons (eC (.str ("buy" : Str))) (aCons (eC (.int 0)) (aCons (eC (.str ("e" : Str))) (aCons (eC (.int 30)) aNil))))) aNil)))))
  (sSeq (sSet 10 (eOp opAdd (eOp opMul (eOp opAdd (eVar 10) (eTup (aCons (eTup (aCons (eC (.str ("paid" : Str))) (aCons (eC (.int 9)) (aCons (eC (.str ("c" : Str))) (aCons (eTup (aCons (eC (.int 20)) (aCons (eC (.int 0)) (aCons (eC (.int 0)) (aCons (eC (.int 0)) (aCons (eC (.int 0)) (aCons (eC (.int 0)) aNil))))))) aNil))))) aNil))) (eC (.int 2))) (eTup (aCons (eTup (aCons (eC (.str ("buy" : Str))) (aCons (eC (.int 3)) (aCons (eC (.str ("b" : Str))) (aCons (eC (.int 1)) aNil))))) (aCons (eTup (aCons (eC (.str ("paid" : Str))) (aCons (eC (.int 5)) (aCons (eC (.str ("d" : Str))) (aCons (eOp opMul (eTup (aCons (eC (.int 0)) aNil)) (eC (.int 6))) aNil))))) aNil)))))
  (sRet (eLst (aCons (eVar 4) (aCons (eTup (aCons (eVar 2) (aCons (eVar 5) (aCons (eVar 6) aNil)))) (aCons (eVar 7) (aCons (eTup (aCons (eTup (aCons (eVar 1) aNil)) (aCons (eTup aNil) (aCons (eTup aNil) aNil)))) (aCons (eTup (aCons (eVar 8) (aCons (eVar 9) (aCons (eVar 10) aNil)))) aNil))))))))))))
theorem fxT_is : fxT = sSeq (sSet 8 fxM) fxU := rfl
theorem seq_set {i : Nat} {m : MM D} {b : MM Fl} {env env2 : List SV} {rd r : Rdr} {d : D} (h : m env rd = some (d, r)) (h2 : env.set i (.val d) = env2) : sSeq (sSet i m) b env rd = b env2 r := by
  rw [ev_sSeq, ev_sSet, h, ← h2]
  rfl
theorem seq_gen {a b : MM Fl} {env env2 : List SV} {rd r : Rdr} (h : a env rd = some (.nx env2, r)) : sSeq a b env rd = b env2 r := by
  rw [ev_sSeq, h]
  rfl
theorem fx_head (rd : Rdr) : b__law_fixed_books (initE false [] 12) rd = fxT [.val gift.d, .val meal.d, .val (.tup ([gift, meal, trip].map BP.d)), .val (.tup (caps.map BL.d)), .val fx1.d, .val (.tup (caps2.map BL.d)), .val (.tup (fx2.rs.map BR.d)), .val fx3.d, .un, .un, .un, .un] rd := by
  unfold b__law_fixed_books
  refine Eq.trans (seq_gen (env2 := [.val gift.d, .val meal.d, .un, .un, .un, .un, .un, .un, .un, .un, .un, .un]) (r := rd) rfl) ?_
  refine Eq.trans (seq_set (d := .tup ([gift, meal, trip].map BP.d)) (r := rd) rfl rfl) ?_
  refine Eq.trans (seq_set (d := .tup (caps.map BL.d)) (r := rd) rfl rfl) ?_
  refine Eq.trans (seq_set (d := fx1.d) (r := rd) rfl rfl) ?_
  refine Eq.trans (seq_set (d := .tup (caps2.map BL.d)) (r := rd) rfl rfl) ?_
  refine Eq.trans (seq_set (d := .tup ([BR.paid 0 ("food" : Str) [3, 5, 0], .buy 3 ("toy" : Str) 0, .paid 2 ("food" : Str) [0, 2, 0]].map BR.d)) (r := rd) rfl rfl) ?_
  refine Eq.trans (seq_set (d := .tup (fx2.rs.map BR.d)) (r := rd) rfl rfl) ?_
  refine Eq.trans (seq_set (d := .tup (fx3.ps.map BP.d)) (r := rd) rfl rfl) ?_
  refine Eq.trans (seq_set (d := fx3.d) (r := rd) rfl rfl) ?_
  rfl
theorem fx_six (env : List SV) (hi : 11 < env.length) (rd : Rdr) : fxM env rd = some (.tup (fx5.ps.map BP.d), rd) := by
  have w : ∀ s ∈ [("aa" : Str), ("ab" : Str), ("ac" : Str), ("b" : Str), ("c" : Str), ("d" : Str)], Wd s := by
    have e : [("aa" : Str), ("ab" : Str), ("ac" : Str), ("b" : Str), ("c" : Str), ("d" : Str)].all wdB = true := by decide +kernel
    intro b hb
    exact wdB_ok (List.all_eq_true.mp e b hb)
  have lc := lcGo_map (f := D.str) (g := fun s => (sx s).d) (i := 11) (env := env.set 11 .un) (rd := rd) (as := [("aa" : Str), ("ab" : Str), ("ac" : Str), ("b" : Str), ("c" : Str), ("d" : Str)]) (e := eTup (aCons (eVar 11) (aCons (eOp opAdd (eC (.str ("s" : Str))) (eSl (eVar 11) pNone (pSome (eC (.int 1))))) (aCons (eTup (aCons (eC (.str ("a" : Str))) (aCons (eC (.str ("b" : Str))) (aCons (eC (.str ("c" : Str))) (aCons (eC (.str ("d" : Str))) (aCons (eC (.str ("e" : Str))) aNil)))))) (aCons (eC (.int 0)) (aCons (eC (.int 9)) aNil)))))) fun s hs => by
    have e1 : ((env.set 11 .un).set 11 (.val (.str s)))[11]? = some (.val (.str s)) := List.getElem?_set_self (by rw [List.length_set]; exact hi)
    have l5 : (5 : Nat) ≤ sizeLine := by decide
    have ls : s.length ≤ sizeLine := Nat.le_trans (w s hs).1 (by decide)
    have sl : opSl (.str s) none (some 1) = some (.str (cutS s none (some 1))) := if_pos ls
    have ln : (("s" : Str)).length + (cutS s none (some 1)).length ≤ sizeLine := by
      have h1 : (("s" : Str)).length = 1 := by decide +kernel
      have h2 : (cutS s none (some 1)).length ≤ s.length := by
        show (List.toArray _).size ≤ s.cps.size
        rw [List.size_toArray, List.length_take, List.length_drop, Array.length_toList]
        omega
      have h3 := (w s hs).1
      have h4 : sizeLine = 16777216 := by decide
      omega
    have ad : opAdd (.str ("s" : Str)) (.str (cutS s none (some 1))) = some (.str (("s" : Str) ++ cutS s none (some 1))) := if_pos ln
    simp only [ev_bind1, ev_lift, ev_eC, ev_eVar, ev_eOp, ev_eUn, ev_eT, ev_mAnd, ev_mOr, ev_mNot, ev_eAnd, ev_eIf, ev_chain, ev_aNil, ev_aCons, ev_eTup, ev_eLst, ev_eCall, ev_eFn, ev_eFnR, ev_eIter, ev_eRange, ev_eLc, ev_eSl, ev_pNone, ev_pSome, ev_mFrz, ev_sNx, ev_sSet, ev_sRet, ev_sSeq, ev_sIf, ev_sUnp, ev_sNew, ev_fLst, ev_fCat, ev_sApp, ev_sFrz, ev_sFor, ev_vNil, ev_vVal, ev_vOwn, ev_sTup, ev_eRd, ev_sRd, and_self, true_and, and_true, eq_self, eqS, eqI, neS, neI, decide_true, decide_false, decide_eq_true_eq, Bool.not_true, Bool.not_false, initE, setPat, setAll, op1, isBl, flFin, iterD, seqOf, List.length_cons, List.length_nil, Bool.false_eq_true, if_false, if_true, List.nil_append, List.map_cons, List.map_nil, List.replicate, List.cons_append, Option.bind_some, Option.map_some, List.set_cons_succ, List.set_cons_zero, List.getElem?_cons_zero, List.getElem?_cons_succ, Nat.reduceAdd, e1, l5, sl, ad]
    rfl
  have l6 : (6 : Nat) ≤ sizeLine := by decide
  have tu : ∀ xs : List D, opTuple (.lst xs) = some (.tup xs) := fun _ => rfl
  simp only [List.map_cons, List.map_nil] at lc
  simp only [ev_bind1, ev_lift, ev_eC, ev_eVar, ev_eOp, ev_eUn, ev_eT, ev_mAnd, ev_mOr, ev_mNot, ev_eAnd, ev_eIf, ev_chain, ev_aNil, ev_aCons, ev_eTup, ev_eLst, ev_eCall, ev_eFn, ev_eFnR, ev_eIter, ev_eRange, ev_eLc, ev_eSl, ev_pNone, ev_pSome, ev_mFrz, ev_sNx, ev_sSet, ev_sRet, ev_sSeq, ev_sIf, ev_sUnp, ev_sNew, ev_fLst, ev_fCat, ev_sApp, ev_sFrz, ev_sFor, ev_vNil, ev_vVal, ev_vOwn, ev_sTup, ev_eRd, ev_sRd, and_self, true_and, and_true, eq_self, eqS, eqI, neS, neI, decide_true, decide_false, decide_eq_true_eq, Bool.not_true, Bool.not_false, initE, setPat, setAll, op1, isBl, flFin, iterD, seqOf, List.length_cons, List.length_nil, Bool.false_eq_true, if_false, if_true, List.nil_append, List.map_cons, List.map_nil, List.replicate, List.cons_append, Option.bind_some, Option.map_some, List.set_cons_succ, List.set_cons_zero, List.getElem?_cons_zero, List.getElem?_cons_succ, Nat.reduceAdd, fxM, l6, wipeE, lc, tu]
  rfl
theorem fx_tail (rd : Rdr) (x : List SV) : fxU [.val gift.d, .val meal.d, .val (.tup ([gift, meal, trip].map BP.d)), .val (.tup (caps.map BL.d)), .val fx1.d, .val (.tup (caps2.map BL.d)), .val (.tup (fx2.rs.map BR.d)), .val fx3.d, .val (.tup (fx5.ps.map BP.d)), .un, .un, .un] rd = some (.ret (.lst (fixedB.map BB.d)), rd) := rfl
theorem fixed_eq (rd : Rdr) : mf__law_fixed_books [] rd = some (.lst (fixedB.map BB.d), rd) := by
  have e : mf__law_fixed_books [] rd = (b__law_fixed_books (initE false [] 12) rd).bind flFin := rfl
  rw [e, fx_head, fxT_is, seq_set (fx_six _ (by simp) rd) rfl]
  exact (congrArg (fun x => Option.bind x flFin) (fx_tail rd [])).trans rfl
end My

set_option Elab.async false
set_option linter.all false
set_option maxRecDepth 100000
set_option maxHeartbeats 2000000
namespace My
open PySem PySem.Spec PyProof.Rows L2 FW
def mkT : MM Bool := (eT (eOp opEq (eOp opMod (eCall (op1 opInt) (aCons (eVar 3) aNil)) (eC (.int 2))) (eC (.int 0))))
theorem mk_is : mk = sApp 2 (eIf mkT (eFnR mf__law_random_book 0 1 aNil) (eFnR mf__law_loose 0 1 aNil)) := rfl
theorem mk_ok {F : List BB} {n : Int} {i : Nat} {r : Rdr} (hF : ∀ b ∈ F, b.Ok) (hFl : F.length ≤ 20) (hi : i < 8) (hn : n ≤ 600000) (hr : RdI n r) :
    Wp (mk [.un, .rdr, .own (F.map BB.d), .val (.int i), .un, .un, .un, .un] r) fun fl r' => ∃ (F' : List BB), fl = .nx [.un, .rdr, .own (F'.map BB.d), .val (.int i), .un, .un, .un, .un] ∧ (∀ b ∈ F', b.Ok) ∧ F'.length = F.length + 1 ∧ RdI (n + 400) r' := by
  have m2 : opMod (.int (i : Nat)) (.int 2) = some (.int (((i : Nat) : Int).fmod 2)) := rfl
  have hT : mkT [.un, .rdr, .own (F.map BB.d), .val (.int i), .un, .un, .un, .un] r = some (decide (((i : Nat) : Int).fmod 2 = 0), r) := by
    simp only [ev_bind1, ev_lift, ev_eC, ev_eVar, ev_eOp, ev_eUn, ev_eT, ev_mAnd, ev_mOr, ev_mNot, ev_eAnd, ev_eIf, ev_chain, ev_aNil, ev_aCons, ev_eTup, ev_eLst, ev_eCall, ev_eFn, ev_eFnR, ev_eIter, ev_eRange, ev_eLc, ev_eSl, ev_pNone, ev_pSome, ev_mFrz, ev_sNx, ev_sSet, ev_sRet, ev_sSeq, ev_sIf, ev_sUnp, ev_sNew, ev_fLst, ev_fCat, ev_sApp, ev_sFrz, ev_sFor, ev_vNil, ev_vVal, ev_vOwn, ev_sTup, ev_eRd, ev_sRd, and_self, true_and, and_true, eq_self, eqS, eqI, neS, neI, decide_true, decide_false, decide_eq_true_eq, Bool.not_true, Bool.not_false, initE, setPat, setAll, op1, isBl, flFin, iterD, seqOf, List.length_cons, List.length_nil, Bool.false_eq_true, if_false, if_true, List.nil_append, List.map_cons, List.map_nil, List.replicate, List.cons_append, Option.bind_some, Option.map_some, List.set_cons_succ, List.set_cons_zero, List.getElem?_cons_zero, List.getElem?_cons_succ, Nat.reduceAdd, mkT, intI, m2]
  have lp : (F.map BB.d).length < sizeLine := by
    rw [List.length_map]
    have : sizeLine = 16777216 := by decide
    omega
  have fin : ∀ (b : BB) (r' : Rdr), b.Ok → RdI (n + 400) r' → eIf mkT (eFnR mf__law_random_book 0 1 aNil) (eFnR mf__law_loose 0 1 aNil) [.un, .rdr, .own (F.map BB.d), .val (.int i), .un, .un, .un, .un] r = some (b.d, r') → Wp (mk [.un, .rdr, .own (F.map BB.d), .val (.int i), .un, .un, .un, .un] r) fun fl r' => ∃ (F' : List BB), fl = .nx [.un, .rdr, .own (F'.map BB.d), .val (.int i), .un, .un, .un, .un] ∧ (∀ b ∈ F', b.Ok) ∧ F'.length = F.length + 1 ∧ RdI (n + 400) r' := by
    intro b r' hb hr' he
    refine wp_eq (a := .nx [.un, .rdr, .own ((F ++ [b]).map BB.d), .val (.int i), .un, .un, .un, .un]) (rd := r') ?_ ⟨F ++ [b], rfl, fun x hx => ?_, by simp, hr'⟩
    · rw [mk_is, ev_sApp, he, Option.bind_some, List.map_append]
      exact if_pos lp
    · rcases List.mem_append.mp hx with hx | hx
      · exact hF x hx
      · obtain rfl := List.mem_singleton.mp hx
        exact hb
  by_cases hz : ((i : Nat) : Int).fmod 2 = 0
  · obtain ⟨_, r1, h1, ⟨b, rfl, hb⟩, hr1⟩ := random_book_ok hn hr
    refine fin b r1 hb hr1 ?_
    have z : (((i : Nat) : Int).fmod 2 = 0) = True := by simp only [hz]
    simp only [ev_eIf, hT, Option.bind_some, z, decide_true, if_true, ev_eFnR, List.getElem?_cons_succ, List.getElem?_cons_zero, ev_aNil, List.length_nil, h1]
  · obtain ⟨_, r1, h1, ⟨b, rfl, hb⟩, hr1⟩ := loose_ok hn hr
    refine fin b r1 hb hr1 ?_
    have z : (((i : Nat) : Int).fmod 2 = 0) = False := by simp only [hz]
    simp only [ev_eIf, hT, Option.bind_some, z, decide_false, Bool.false_eq_true, if_false, if_true, ev_eFnR, List.getElem?_cons_succ, List.getElem?_cons_zero, ev_aNil, List.length_nil, h1]
theorem pure_of (wide : ∃ b : BB, b.Ok ∧ ∀ rd, mf__law_wide [] rd = some (b.d, rd)) (ns : List Int) : ∃ rd', b_law (env0 6) ⟨ns, 0, 0, 0⟩ = some (.ret (.bl true), rd') := by
  obtain ⟨wb, hwb, hw⟩ := wide
  have main : Wp (b_law (env0 6) ⟨ns, 0, 0, 0⟩) fun fl _ => fl = .ret (.bl true) := by
    rw [b_law_is]
    have s1 : sNew 2 (fCat (eFn mf__law_fixed_books 0 aNil) (eLst (aCons (eFn mf__law_wide 0 aNil) aNil))) (env0 6) ⟨ns, 0, 0, 0⟩ = some (.nx [.un, .rdr, .own ((fixedB ++ [wb]).map BB.d), .un, .un, .un, .un, .un], ⟨ns, 0, 0, 0⟩) := by
      have l1 : (1 : Nat) ≤ sizeLine := by decide
      have l6 : (fixedB.map BB.d).length + 1 ≤ sizeLine := (by decide : (6 : Nat) ≤ sizeLine)
      simp only [ev_sNew, ev_fCat, ev_eFn, ev_aNil, ev_eLst, ev_aCons, Option.bind_some, Option.map_some, List.length_nil, List.length_cons, if_true, fixed_eq, hw, l1, Nat.reduceAdd, l6]
      rw [List.map_append]
      rfl
    refine wp_seq (wp_eq s1 ⟨_, rfl, ?_⟩)
    have i8 : ∀ env rd, eRange range1 (aCons (eC (.int 8)) aNil) env rd = some (rangeD 0 8, rd) := fun _ _ => rfl
    refine wp_seq (wp_for (wp_eq (i8 _ _) ?_))
    refine (forGo_wp (E := fun j env r => ∃ (F : List BB) (y3 : SV), env = [.un, .rdr, .own (F.map BB.d), y3, .un, .un, .un, .un] ∧ (∀ b ∈ F, b.Ok) ∧ F.length = 6 + j ∧ RdI (400 * j) r) (n := 0) ?_ ⟨fixedB ++ [wb], _, rfl, fun b hb => ?_, rfl, ⟨Int.le_refl _, Int.le_refl _⟩⟩).mono ?_
    · rintro d hd j env r hj ⟨F, y3, rfl, hF, hFl, hJ⟩
      obtain ⟨i, rfl, hi⟩ := mem_range hd
      rw [range_len] at hj
      refine ⟨_, rfl, ?_⟩
      refine (mk_ok hF (by omega) hi (by omega) hJ).mono ?_
      rintro fl r' ⟨F', rfl, hF', hl', hJ'⟩
      exact ⟨_, rfl, F', _, rfl, hF', by omega, hJ'.mono (by omega)⟩
    · rcases List.mem_append.mp hb with hb | hb
      · exact fixed_all b hb
      · obtain rfl := List.mem_singleton.mp hb
        exact hwb
    · rintro fl r ⟨env, rfl, F, y3, rfl, hF, hFl, hJ⟩
      rw [range_len] at hFl
      refine ⟨_, rfl, ?_⟩
      have fz : frzAt 2 [.un, .rdr, .own (F.map BB.d), y3, .un, .un, .un, .un] = [.un, .rdr, .val (.lst (F.map BB.d)), y3, .un, .un, .un, .un] := rfl
      have it : eIter (eVar 2) [.un, .rdr, .val (.lst (F.map BB.d)), y3, .un, .un, .un, .un] r = some (F.map BB.d, r) := rfl
      refine wp_seq ?_
      rw [ev_sFrz, fz]
      refine wp_for (wp_eq it ?_)
      refine (forGo_wp (E := fun j env r => ∃ (y4 y5 y6 : SV), env = [.un, .rdr, .val (.lst (F.map BB.d)), y3, y4, y5, y6, .un]) (n := 0) ?_ ⟨_, _, _, rfl⟩).mono ?_
      · rintro d hd j env r hj ⟨y4, y5, y6, rfl⟩
        obtain ⟨b, hb, rfl⟩ := List.mem_map.mp hd
        exact ⟨_, rfl, wp_eq (chk_ok (hF b hb) _ _ _ _ _) ⟨_, rfl, _, _, _, rfl⟩⟩
      · rintro fl r ⟨env, rfl, y4, y5, y6, rfl⟩
        exact ⟨_, rfl, wp_eq (tl_ok _ _) rfl⟩
  obtain ⟨fl, rd', h, rfl⟩ := main
  exact ⟨rd', h⟩
end My

set_option Elab.async false
set_option linter.all false
set_option maxRecDepth 100000
set_option maxHeartbeats 4000000
namespace My
open PySem PySem.Spec PyProof.Rows L2 FW
def sg : List Str := [("a" : Str), ("b" : Str), ("c" : Str), ("d" : Str), ("e" : Str), ("f" : Str), ("g" : Str), ("h" : Str), ("i" : Str), ("j" : Str), ("k" : Str), ("l" : Str)]
theorem signs_eq : signsD ("abcdefghijkl" : Str) = sg.map .str := by
  have e : (("abcdefghijkl" : Str).cps.toList.map fun c => (⟨#[c]⟩ : Str)) = sg := by decide +kernel
  rw [← e, List.map_map]
  rfl
def wdP (ss : List Str) : List BP := (List.range 12).map fun k => ⟨ss.getD k "", ("s" : Str), ss.take (k + 1), ((k : Nat) : Int), 12⟩
def wdC (ss : List Str) : List BL := (List.range 12).map fun k => ⟨ss.drop k, ((k : Nat) : Int), ((k : Nat) : Int) + 1, 10 * ((k : Nat) : Int)⟩
def wdR (ss : List Str) : List BR := (List.range 12).map fun k => .paid ((k : Nat) : Int) (ss.getD k "") ((List.range 12).map fun j => ((k : Nat) : Int) + ((j : Nat) : Int))
def wM1 : MM D := (eCall (op1 opTuple) (aCons (eLc (eRange enumI (aCons (eVar 0) aNil)) (.tp [3, 4]) [3, 4] mYes (eTup (aCons (eVar 4) (aCons (eC (.str ("s" : Str))) (aCons (eSl (eVar 0) pNone (pSome (eOp opAdd (eVar 3) (eC (.int 1))))) (aCons (eVar 3) (aCons (eC (.int 12)) aNil))))))) aNil))
def wM2 : MM D := (eCall (op1 opTuple) (aCons (eLc (eRange range1 (aCons (eC (.int 12)) aNil)) (.nm 3) [3] mYes (eTup (aCons (eSl (eVar 0) (pSome (eVar 3)) pNone) (aCons (eVar 3) (aCons (eOp opAdd (eVar 3) (eC (.int 1))) (aCons (eOp opMul (eC (.int 10)) (eVar 3)) aNil)))))) aNil))
def wM3 : MM D := (eTup (aCons (eVar 1) (aCons (eVar 2) (aCons (eCall (op1 opTuple) (aCons (eLc (eRange range1 (aCons (eC (.int 12)) aNil)) (.nm 3) [3] mYes (eTup (aCons (eC (.str ("paid" : Str))) (aCons (eVar 3) (aCons (eOp opIx (eVar 0) (eVar 3)) (aCons (eOp opTupRg (eVar 3) (eOp opAdd (eVar 3) (eC (.int 12)))) aNil)))))) aNil)) aNil))))
theorem wide_is : b__law_wide = sSeq (sSet 0 (eCall (op1 opTupS) (aCons (eC (.str ("abcdefghijkl" : Str))) aNil))) (sSeq (sSet 1 wM1) (sSeq (sSet 2 wM2) (sRet wM3))) := rfl
section
variable {a b c d e f g h i j k l : Str}
theorem w1 (rd : Rdr) : wM1 [.val (.tup ([a, b, c, d, e, f, g, h, i, j, k, l].map .str)), .un, .un, .un, .un] rd = some (.tup ((wdP [a, b, c, d, e, f, g, h, i, j, k, l]).map BP.d), rd) := rfl
theorem w2 (x : SV) (rd : Rdr) : wM2 [.val (.tup ([a, b, c, d, e, f, g, h, i, j, k, l].map .str)), x, .un, .un, .un] rd = some (.tup ((wdC [a, b, c, d, e, f, g, h, i, j, k, l]).map BL.d), rd) := rfl
theorem w3 (x y : D) (rd : Rdr) : wM3 [.val (.tup ([a, b, c, d, e, f, g, h, i, j, k, l].map .str)), .val x, .val y, .un, .un] rd = some (.tup [x, y, .tup ((wdR [a, b, c, d, e, f, g, h, i, j, k, l]).map BR.d)], rd) := rfl
end
theorem w0 (env : List SV) (rd : Rdr) : eCall (op1 opTupS) (aCons (eC (.str ("abcdefghijkl" : Str))) aNil) env rd = some (.tup (sg.map .str), rd) := by
  have l : ("abcdefghijkl" : Str).length ≤ sizeLine := by decide +kernel
  have e : opTupS (.str ("abcdefghijkl" : Str)) = some (.tup (sg.map .str)) := by
    rw [← signs_eq]
    show (if ("abcdefghijkl" : Str).length ≤ sizeLine then some (D.tup (signsD ("abcdefghijkl" : Str))) else none) = _
    rw [if_pos l]
  simp only [ev_eCall, ev_aCons, ev_eC, ev_aNil, Option.bind_some, Option.map_some, op1, e]
def wideB : BB := ⟨wdP sg, wdC sg, wdR sg⟩
theorem wide_good : wideB.Ok := BB.okB_ok (by decide +kernel)
theorem wide_ok : ∃ b : BB, b.Ok ∧ ∀ rd, mf__law_wide [] rd = some (b.d, rd) := by
  refine ⟨wideB, wide_good, fun rd => ?_⟩
  have e : mf__law_wide [] rd = (b__law_wide [.un, .un, .un, .un, .un] rd).bind flFin := rfl
  have e4 : sRet wM3 [.val (.tup (sg.map .str)), .val (.tup ((wdP sg).map BP.d)), .val (.tup ((wdC sg).map BL.d)), .un, .un] rd = some (.ret wideB.d, rd) := by
    rw [ev_sRet, show wM3 [.val (.tup (sg.map .str)), .val (.tup ((wdP sg).map BP.d)), .val (.tup ((wdC sg).map BL.d)), .un, .un] rd = _ from w3 _ _ rd]
    rfl
  have h : b__law_wide [.un, .un, .un, .un, .un] rd = some (.ret wideB.d, rd) := by
    rw [wide_is]
    exact (seq_set (env2 := [.val (.tup (sg.map .str)), .un, .un, .un, .un]) (w0 _ rd) rfl).trans ((seq_set (env2 := [.val (.tup (sg.map .str)), .val (.tup ((wdP sg).map BP.d)), .un, .un, .un]) (w1 rd) rfl).trans ((seq_set (env2 := [.val (.tup (sg.map .str)), .val (.tup ((wdP sg).map BP.d)), .val (.tup ((wdC sg).map BL.d)), .un, .un]) (w2 _ rd) rfl).trans e4))
  rw [e, h]
  rfl
theorem pure_law : ∀ ns : List Int, ns.length ≤ 63 → ∃ rd', b_law (env0 6) ⟨ns, 0, 0, 0⟩ = some (.ret (.bl true), rd') := fun ns _ => pure_of wide_ok ns
end My

open PySem PySem.W PyProof.Rows
set_option maxHeartbeats 0 in
theorem PySem.Challenge.cw_latecharge_k10_texts_written_holds : PySem.Challenge.rw_latecharge_k10_texts_written.Holds := by
  w_on; o_law; k_head; (case hw => w_witness2)
  k_fill
  refine FW.walkM (l := PySem.Challenge.rw_latecharge_k10_texts_written) (k := 6) (x := "_law_script") rfl rfl ⟨rfl, by decide, by decide⟩ (fun w h Y => PySem.W.kIn_of Y) ?F
  case F =>
    intro w mg fa h KX G HX hmg
    refine' My.law_end My.pure_law KX G hmg ⟨FW.mk_f (st := My.topS 10) KX G ?a0 ?l0 ?c0 ?k0 (fun _ _ _ _ _ _ us hl => match us, hl with | [_], _ => rfl), FW.mk_f (st := My.topS 20) KX G ?a1 ?l1 ?c1 ?k1 (fun _ _ _ _ _ _ us hl => match us, hl with | [], _ => rfl), FW.mk_f (st := My.topS 2) KX G ?a2 ?l2 ?c2 ?k2 (fun _ _ _ _ _ _ us hl => match us, hl with | [_], _ => rfl), FW.mk_f (st := My.topS 4) KX G ?a3 ?l3 ?c3 ?k3 (fun _ _ _ _ _ _ us hl => match us, hl with | [_], _ => rfl), FW.mk_f (st := My.topS 3) KX G ?a4 ?l4 ?c4 ?k4 (fun _ _ _ _ _ _ us hl => match us, hl with | [_], _ => rfl), FW.mk_f (st := My.topS 6) KX G ?a5 ?l5 ?c5 ?k5 (fun _ _ _ _ _ _ us hl => match us, hl with | [_], _ => rfl), FW.mk_f (st := My.topS 27) KX G ?a6 ?l6 ?c6 ?k6 (fun _ _ _ _ _ _ us hl => match us, hl with | [], _ => rfl), FW.mk_f (st := My.topS 11) KX G ?a7 ?l7 ?c7 ?k7 (fun _ _ _ _ _ _ us hl => match us, hl with | [_, _], _ => rfl), FW.mk_f (st := My.topS 16) KX G ?a8 ?l8 ?c8 ?k8 (fun _ _ _ _ _ _ us hl => match us, hl with | [_, _], _ => rfl), FW.mk_f (st := My.topS 17) KX G ?a9 ?l9 ?c9 ?k9 (fun _ _ _ _ _ _ us hl => match us, hl with | [_], _ => rfl), FW.mk_f (st := My.topS 14) KX G ?a10 ?l10 ?c10 ?k10 (fun _ _ _ _ _ _ us hl => match us, hl with | [_, _], _ => rfl), FW.mk_f (st := My.topS 18) KX G ?a11 ?l11 ?c11 ?k11 (fun _ _ _ _ _ _ us hl => match us, hl with | [_, _], _ => rfl), FW.mk_f (st := My.topS 12) KX G ?a12 ?l12 ?c12 ?k12 (fun _ _ _ _ _ _ us hl => match us, hl with | [_, _], _ => rfl), FW.mk_f (st := My.topS 13) KX G ?a13 ?l13 ?c13 ?k13 (fun _ _ _ _ _ _ us hl => match us, hl with | [_, _], _ => rfl), FW.mk_f (st := My.topS 15) KX G ?a14 ?l14 ?c14 ?k14 (fun _ _ _ _ _ _ us hl => match us, hl with | [_, _, _], _ => rfl), FW.mk_f (st := My.topS 19) KX G ?a15 ?l15 ?c15 ?k15 (fun _ _ _ _ _ _ us hl => match us, hl with | [_], _ => rfl), FW.mk_f (st := My.topS 26) KX G ?a16 ?l16 ?c16 ?k16 (fun _ _ _ _ _ _ us hl => match us, hl with | [_], _ => rfl), FW.mk_f (st := My.topS 5) KX G ?a17 ?l17 ?c17 ?k17 (fun _ _ _ _ _ _ us hl => match us, hl with | [_], _ => rfl), FW.mk_f (st := My.topS 7) KX G ?a18 ?l18 ?c18 ?k18 (fun _ _ _ _ _ _ us hl => match us, hl with | [_], _ => rfl), FW.mk_f (st := My.topS 8) KX G ?a19 ?l19 ?c19 ?k19 (fun _ _ _ _ _ _ us hl => match us, hl with | [_], _ => rfl), FW.mk_f (st := My.topS 21) KX G ?a20 ?l20 ?c20 ?k20 (fun _ _ _ _ _ _ us hl => match us, hl with | [_], _ => rfl), FW.mk_f (st := My.topS 22) KX G ?a21 ?l21 ?c21 ?k21 (fun _ _ _ _ _ _ us hl => match us, hl with | [_], _ => rfl), FW.mk_f (st := My.topS 23) KX G ?a22 ?l22 ?c22 ?k22 (fun _ _ _ _ _ _ us hl => match us, hl with | [_], _ => rfl), FW.mk_f (st := My.topS 24) KX G ?a23 ?l23 ?c23 ?k23 (fun _ _ _ _ _ _ us hl => match us, hl with | [_], _ => rfl), FW.mk_f (st := My.topS 25) KX G ?a24 ?l24 ?c24 ?k24 (fun _ _ _ _ _ _ us hl => match us, hl with | [_], _ => rfl), FW.mk_f (st := My.topS 28) KX G ?a25 ?l25 ?c25 ?k25 (fun _ _ _ _ _ _ us hl => match us, hl with | [_], _ => rfl), FW.mk_loose HX.2 (by simp), PySem.W.mg_none_of KX G ?zenumerate, PySem.W.mg_none_of KX G ?zint, PySem.W.mg_none_of KX G ?zlen, PySem.W.mg_none_of KX G ?zrange, PySem.W.mg_none_of KX G ?zrepr, PySem.W.mg_none_of KX G ?zstr, PySem.W.mg_none_of KX G ?zsum, PySem.W.mg_none_of KX G ?ztuple⟩
    (case a0 => k_is)
    (case l0 => k_is)
    (case c0 => k_is)
    (case k0 => k_is)
    (case a1 => k_is)
    (case l1 => k_is)
    (case c1 => k_is)
    (case k1 => k_is)
    (case a2 => k_is)
    (case l2 => k_is)
    (case c2 => k_is)
    (case k2 => k_is)
    (case a3 => k_is)
    (case l3 => k_is)
    (case c3 => k_is)
    (case k3 => k_is)
    (case a4 => k_is)
    (case l4 => k_is)
    (case c4 => k_is)
    (case k4 => k_is)
    (case a5 => k_is)
    (case l5 => k_is)
    (case c5 => k_is)
    (case k5 => k_is)
    (case a6 => k_is)
    (case l6 => k_is)
    (case c6 => k_is)
    (case k6 => k_is)
    (case a7 => k_is)
    (case l7 => k_is)
    (case c7 => k_is)
    (case k7 => k_is)
    (case a8 => k_is)
    (case l8 => k_is)
    (case c8 => k_is)
    (case k8 => k_is)
    (case a9 => k_is)
    (case l9 => k_is)
    (case c9 => k_is)
    (case k9 => k_is)
    (case a10 => k_is)
    (case l10 => k_is)
    (case c10 => k_is)
    (case k10 => k_is)
    (case a11 => k_is)
    (case l11 => k_is)
    (case c11 => k_is)
    (case k11 => k_is)
    (case a12 => k_is)
    (case l12 => k_is)
    (case c12 => k_is)
    (case k12 => k_is)
    (case a13 => k_is)
    (case l13 => k_is)
    (case c13 => k_is)
    (case k13 => k_is)
    (case a14 => k_is)
    (case l14 => k_is)
    (case c14 => k_is)
    (case k14 => k_is)
    (case a15 => k_is)
    (case l15 => k_is)
    (case c15 => k_is)
    (case k15 => k_is)
    (case a16 => k_is)
    (case l16 => k_is)
    (case c16 => k_is)
    (case k16 => k_is)
    (case a17 => k_is)
    (case l17 => k_is)
    (case c17 => k_is)
    (case k17 => k_is)
    (case a18 => k_is)
    (case l18 => k_is)
    (case c18 => k_is)
    (case k18 => k_is)
    (case a19 => k_is)
    (case l19 => k_is)
    (case c19 => k_is)
    (case k19 => k_is)
    (case a20 => k_is)
    (case l20 => k_is)
    (case c20 => k_is)
    (case k20 => k_is)
    (case a21 => k_is)
    (case l21 => k_is)
    (case c21 => k_is)
    (case k21 => k_is)
    (case a22 => k_is)
    (case l22 => k_is)
    (case c22 => k_is)
    (case k22 => k_is)
    (case a23 => k_is)
    (case l23 => k_is)
    (case c23 => k_is)
    (case k23 => k_is)
    (case a24 => k_is)
    (case l24 => k_is)
    (case c24 => k_is)
    (case k24 => k_is)
    (case a25 => k_is)
    (case l25 => k_is)
    (case c25 => k_is)
    (case k25 => k_is)
    (case zenumerate => k_is)
    (case zint => k_is)
    (case zlen => k_is)
    (case zrange => k_is)
    (case zrepr => k_is)
    (case zstr => k_is)
    (case zsum => k_is)
    (case ztuple => k_is)
