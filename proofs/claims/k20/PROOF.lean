import PyProof.Rows.All
import Wide.All
import OpenK.AllK
import Wide.FinOn
import HandS.ForMost
import HandS.Walk
import HandS.TupAny
import HandS.ForExc
import HandS.ExcInit
import HandS.ExcField
import HandS.CallSlots
import HandS.Lambda
import KE.KExcIs
import KE.KIsAll
import HandS.TupMul
import HandS.IsInst
import HandS.RaiseMore
import HandS.FStr
import HandS.Conv
import PyProof.ReprRoads
import KE.GoesEnum
import KE.GoesMore
import PyProof.EnumMake
import HandS.Iter
import HandS.Deep
import HandS.Strs
import HandS.Zip
import PyProof.Draws
import HandS.Style
import KE.RegKIsAll
import PySem.Challenge.RW_latecharge_k20_paid_sums_told
set_option Elab.async false
set_option linter.all false
set_option maxRecDepth 100000
/-! FW1: data as trees, how they lie in the abstract heap, the reader, the slots; a def's parts as plain functions. -/
namespace FW
open PySem PySem.Spec PyProof.Rows L2

inductive D where
  | non | bl (b : Bool) | int (i : Int) | str (s : Str) | tup (ds : List D) | lst (ds : List D)
deriving Inhabited

mutual
def Rp (K : PySem.W.Frag) (F : Hp) : D → V → Prop
  | .non, v => v = .non
  | .bl b, v => v = .bl b
  | .int i, v => v = .int i
  | .str s, v => v = .str s
  | .tup ds, v => ∃ a vs, v = .ref a ∧ SqT K F a vs ∧ Rps K F ds vs
  | .lst ds, v => ∃ a vs, v = .ref a ∧ F a = some (.lst vs) ∧ Rps K F ds vs
def Rps (K : PySem.W.Frag) (F : Hp) : List D → List V → Prop
  | [], vs => vs = []
  | d :: ds, vs => ∃ v r, vs = v :: r ∧ Rp K F d v ∧ Rps K F ds r
end

theorem sqT_mono {K : PySem.W.Frag} {F F' : Hp} {a : Addr} {xs : List V} (e : Same F F') (h : SqT K F a xs) : SqT K F' a xs := by
  rcases h with (h | ⟨o, h⟩) | h
  · exact .inl (.inl (e _ _ h))
  · exact .inl (.inr ⟨o, e _ _ h⟩)
  · exact .inr h
mutual
theorem Rp.mono {K : PySem.W.Frag} {F F' : Hp} (e : Same F F') : ∀ (d : D) (v : V), Rp K F d v → Rp K F' d v
  | .non, _, h => by simpa only [Rp] using h
  | .bl _, _, h => by simpa only [Rp] using h
  | .int _, _, h => by simpa only [Rp] using h
  | .str _, _, h => by simpa only [Rp] using h
  | .tup ds, v, h => by
    simp only [Rp] at h ⊢
    obtain ⟨a, vs, h1, h2, h3⟩ := h
    exact ⟨a, vs, h1, sqT_mono e h2, Rps.mono e ds vs h3⟩
  | .lst ds, v, h => by
    simp only [Rp] at h ⊢
    obtain ⟨a, vs, h1, h2, h3⟩ := h
    exact ⟨a, vs, h1, e _ _ h2, Rps.mono e ds vs h3⟩
theorem Rps.mono {K : PySem.W.Frag} {F F' : Hp} (e : Same F F') : ∀ (ds : List D) (vs : List V), Rps K F ds vs → Rps K F' ds vs
  | [], _, h => by simpa only [Rps] using h
  | d :: ds, vs, h => by
    simp only [Rps] at h ⊢
    obtain ⟨v, r, h1, h2, h3⟩ := h
    exact ⟨v, r, h1, Rp.mono e d v h2, Rps.mono e ds r h3⟩
end
theorem Rps.nil {K : PySem.W.Frag} {F : Hp} : Rps K F [] [] := by simp only [Rps]
theorem Rps.cons {K : PySem.W.Frag} {F : Hp} {d : D} {ds : List D} {v : V} {vs : List V} (h : Rp K F d v) (t : Rps K F ds vs) : Rps K F (d :: ds) (v :: vs) := by
  simp only [Rps]
  exact ⟨v, vs, rfl, h, t⟩
theorem Rps.length {K : PySem.W.Frag} {F : Hp} : ∀ {ds : List D} {vs : List V}, Rps K F ds vs → ds.length = vs.length
  | [], _, h => by
    simp only [Rps] at h
    rw [h]
    rfl
  | d :: ds, vs, h => by
    simp only [Rps] at h
    obtain ⟨v, r, rfl, _, h3⟩ := h
    rw [List.length_cons, List.length_cons, Rps.length h3]
theorem Rps.get {K : PySem.W.Frag} {F : Hp} : ∀ {ds : List D} {vs : List V} {i : Nat} {d : D}, Rps K F ds vs → ds[i]? = some d → ∃ v, vs[i]? = some v ∧ Rp K F d v
  | [], _, _, _, _, e => by simp at e
  | d :: ds, vs, 0, d', h, e => by
    simp only [Rps] at h
    obtain ⟨v, r, rfl, h2, _⟩ := h
    simp at e
    subst e
    exact ⟨v, rfl, h2⟩
  | d :: ds, vs, i + 1, d', h, e => by
    simp only [Rps] at h
    obtain ⟨v, r, rfl, _, h3⟩ := h
    obtain ⟨v', q1, q2⟩ := Rps.get (i := i) h3 (by simpa using e)
    exact ⟨v', by simpa using q1, q2⟩
theorem Rps.get' {K : PySem.W.Frag} {F : Hp} {ds : List D} {vs : List V} {i : Nat} {v : V} (h : Rps K F ds vs) (e : vs[i]? = some v) : ∃ d, ds[i]? = some d ∧ Rp K F d v := by
  have hi : i < ds.length := by
    rw [h.length]
    exact (List.getElem?_eq_some_iff.mp e).1
  obtain ⟨v', q1, q2⟩ := h.get (List.getElem?_eq_getElem hi)
  rw [e] at q1
  cases q1
  exact ⟨_, List.getElem?_eq_getElem hi, q2⟩
theorem Rps.append {K : PySem.W.Frag} {F : Hp} : ∀ {ds es : List D} {vs ws : List V}, Rps K F ds vs → Rps K F es ws → Rps K F (ds ++ es) (vs ++ ws)
  | [], es, vs, ws, h, h2 => by
    simp only [Rps] at h
    subst h
    exact h2
  | d :: ds, es, vs, ws, h, h2 => by
    simp only [Rps] at h
    obtain ⟨v, r, rfl, q1, q2⟩ := h
    exact Rps.cons q1 (Rps.append q2 h2)
theorem Rps.drop {K : PySem.W.Frag} {F : Hp} : ∀ {ds : List D} {vs : List V} (n : Nat), Rps K F ds vs → Rps K F (ds.drop n) (vs.drop n)
  | _, _, 0, h => h
  | [], vs, n + 1, h => by
    simp only [Rps] at h
    subst h
    exact Rps.nil
  | d :: ds, vs, n + 1, h => by
    simp only [Rps] at h
    obtain ⟨v, r, rfl, q1, q2⟩ := h
    exact Rps.drop n q2
theorem Rps.take {K : PySem.W.Frag} {F : Hp} : ∀ {ds : List D} {vs : List V} (n : Nat), Rps K F ds vs → Rps K F (ds.take n) (vs.take n)
  | _, _, 0, h => by
    rw [List.take_zero, List.take_zero]
    exact Rps.nil
  | [], vs, n + 1, h => by
    simp only [Rps] at h
    subst h
    exact Rps.nil
  | d :: ds, vs, n + 1, h => by
    simp only [Rps] at h
    obtain ⟨v, r, rfl, q1, q2⟩ := h
    exact Rps.cons q1 (Rps.take n q2)
theorem Rps.set {K : PySem.W.Frag} {F : Hp} {d : D} {v : V} (q : Rp K F d v) : ∀ {ds : List D} {vs : List V} (n : Nat), Rps K F ds vs → Rps K F (ds.set n d) (vs.set n v)
  | [], vs, n, h => by
    simp only [Rps] at h
    subst h
    exact Rps.nil
  | e :: ds, vs, 0, h => by
    simp only [Rps] at h
    obtain ⟨w, r, rfl, q1, q2⟩ := h
    exact Rps.cons q q2
  | e :: ds, vs, n + 1, h => by
    simp only [Rps] at h
    obtain ⟨w, r, rfl, q1, q2⟩ := h
    exact Rps.cons q1 (Rps.set q n q2)
theorem Rps.ints {K : PySem.W.Frag} {F : Hp} : ∀ {ns : List Int} {vs : List V}, Rps K F (ns.map D.int) vs → vs = ns.map V.int
  | [], vs, h => by simpa only [List.map_nil, Rps] using h
  | n :: ns, vs, h => by
    simp only [List.map_cons, Rps, Rp] at h
    obtain ⟨v, r, rfl, rfl, q⟩ := h
    rw [Rps.ints q]
    rfl
theorem Rps.strs {K : PySem.W.Frag} {F : Hp} : ∀ {ns : List Str} {vs : List V}, Rps K F (ns.map D.str) vs → vs = ns.map V.str
  | [], vs, h => by simpa only [List.map_nil, Rps] using h
  | n :: ns, vs, h => by
    simp only [List.map_cons, Rps, Rp] at h
    obtain ⟨v, r, rfl, rfl, q⟩ := h
    rw [Rps.strs q]
    rfl
theorem Rps.bls {K : PySem.W.Frag} {F : Hp} : ∀ {ns : List Bool} {vs : List V}, Rps K F (ns.map D.bl) vs → vs = ns.map V.bl
  | [], vs, h => by simpa only [List.map_nil, Rps] using h
  | n :: ns, vs, h => by
    simp only [List.map_cons, Rps, Rp] at h
    obtain ⟨v, r, rfl, rfl, q⟩ := h
    rw [Rps.bls q]
    rfl

/-! ### the reader of the script's numbers; steps of the heap -/
structure Rdr where
  cells : List Int
  ix : Int
  rest : Int
  cnt : Int
abbrev Ro := Option (Addr × Addr)

/-- F: what stands for good; H: all that is tracked. ro: the reader (its list, its cells), which alone may change -/
structure Stp (T : List (Addr × Str)) (ro : Ro) (F H F' H' : Hp) : Prop where
  ff : Same F F'
  fh : Same F' H'
  hh : ∀ p o, H p = some o → (∀ c, ro ≠ some (p, c)) → (∀ ps, o ≠ .tbl ps) → H' p = some o
  tb : LamX.Tabs T H → LamX.Tabs T H'
  nt : ∀ b ps, F' b = some (.tbl ps) → F b = some (.tbl ps)
  hn : ∀ p, H' p = none → H p = none
  fz : ∀ p, H p ≠ none → F p = none → F' p = none
theorem Stp.refl {T : List (Addr × Str)} {ro : Ro} {F H : Hp} (h : Same F H) : Stp T ro F H F H := ⟨Same.refl _, h, fun _ _ q _ _ => q, fun q => q, fun _ _ q => q, fun _ q => q, fun _ _ q => q⟩
theorem Stp.trans {T : List (Addr × Str)} {ro : Ro} {F H F1 H1 F2 H2 : Hp} (a : Stp T ro F H F1 H1) (b : Stp T ro F1 H1 F2 H2) : Stp T ro F H F2 H2 :=
  ⟨a.ff.trans b.ff, b.fh, fun p o q n t => b.hh p o (a.hh p o q n t) n t, fun q => b.tb (a.tb q), fun p ps q => a.nt p ps (b.nt p ps q), fun p q => a.hn p (b.hn p q), fun p q n => b.fz p (fun z => q (a.hn p z)) (a.fz p q n)⟩
/-- only new things -/
structure Alc (F H F' H' : Hp) : Prop where
  ff : Same F F'
  fh : Same F' H'
  hh : Same H H'
  fz : ∀ p, H p ≠ none → F p = none → F' p = none
  nt : ∀ b ps, F' b = some (.tbl ps) → F b = some (.tbl ps)
theorem Alc.refl {F H : Hp} (h : Same F H) : Alc F H F H := ⟨Same.refl _, h, Same.refl _, fun _ _ q => q, fun _ _ q => q⟩
theorem Alc.hn {F H F' H' : Hp} (a : Alc F H F' H') (p : Addr) (q : H' p = none) : H p = none := a.hh.free q
theorem Alc.trans {F H F1 H1 F2 H2 : Hp} (a : Alc F H F1 H1) (b : Alc F1 H1 F2 H2) : Alc F H F2 H2 :=
  ⟨a.ff.trans b.ff, b.fh, a.hh.trans b.hh, fun p q n => b.fz p (fun z => q (a.hn p z)) (a.fz p q n), fun p ps q => a.nt p ps (b.nt p ps q)⟩
theorem Alc.stp {T : List (Addr × Str)} {ro : Ro} {F H F' H' : Hp} (a : Alc F H F' H') : Stp T ro F H F' H' := ⟨a.ff, a.fh, fun p o q _ _ => a.hh p o q, fun q => q.ext a.hh, a.nt, fun p q => a.hn p q, a.fz⟩
theorem same_new {H : Hp} {p : Addr} {o : HO} (h : H p = none) : Same H (upd H p o) := fun b x e => by
  rw [upd_ne (ne_of_none e h)]
  exact e
theorem Alc.new {F H : Hp} {p : Addr} {o : HO} (h : Same F H) (hp : H p = none) (ho : ∀ ps, o ≠ .tbl ps) : Alc F H (upd F p o) (upd H p o) := by
  have fp : F p = none := h.free hp
  refine ⟨same_new fp, fun b x e => ?_, same_new hp, fun q n z => ?_, fun b ps e => ?_⟩
  · by_cases hb : b = p
    · subst hb
      rw [upd_same] at e ⊢
      exact e
    · rw [upd_ne hb] at e ⊢
      exact h b x e
  · by_cases hb : q = p
    · subst hb
      exact absurd hp n
    · rw [upd_ne hb]
      exact z
  · by_cases hb : b = p
    · subst hb
      rw [upd_same] at e
      exact absurd (Option.some.inj e) (ho ps)
    · rw [upd_ne hb] at e
      exact e

theorem tabs_keep {T : List (Addr × Str)} {H H' : Hp} (h : LamX.Tabs T H) (k : ∀ b o, H b = some o → (∀ xs, o ≠ .lst xs) → H' b = some o) : LamX.Tabs T H' := fun p hp => by
  obtain ⟨ps, h1, h2, h3⟩ := h p hp
  refine ⟨ps, k _ _ h1 (fun _ z => by cases z), h2, fun pos cv e => ?_⟩
  obtain ⟨c, e1, e2⟩ := h3 pos cv e
  exact ⟨c, e1, k _ _ e2 (fun xs z => by
    unfold LamX.CodeO at z
    cases z)⟩
theorem tabs_lst {T : List (Addr × Str)} {H : Hp} {L : Addr} {ys : List V} (h : LamX.Tabs T H) (hL : H L = none ∨ ∃ xs, H L = some (.lst xs)) : LamX.Tabs T (upd H L (.lst ys)) := tabs_keep h fun b o e n => by
  rw [upd_ne (fun z => by
    subst z
    rcases hL with q | ⟨xs, q⟩
    · rw [q] at e
      cases e
    · rw [q] at e
      exact n xs (Option.some.inj e).symm)]
  exact e
def RdOk (ro : Ro) (rd : Rdr) (F H : Hp) : Prop := match ro with
  | none => True
  | some (r, c) => F r = none ∧ H r = some (.lst [.ref c, .int rd.ix, .int rd.rest, .int rd.cnt]) ∧ F c = some (.lst (rd.cells.map V.int))
theorem RdOk.alc {ro : Ro} {rd : Rdr} {F H F' H' : Hp} (h : RdOk ro rd F H) (a : Alc F H F' H') : RdOk ro rd F' H' := by
  cases ro with
  | none => trivial
  | some rc =>
    obtain ⟨r, c⟩ := rc
    obtain ⟨h1, h2, h3⟩ := h
    exact ⟨a.fz r (by rw [h2]; exact fun z => by cases z) h1, a.hh _ _ h2, a.ff _ _ h3⟩

/-! ### slots -/
inductive SV where
  | un | val (d : D) | own (ds : List D) | rdr | lam | exn (c : Str) (fs : List (Str × D))

/-- what a body's reading knows of the outside: the module's names, the tables of code objects, the lambda that a def got, the exception that a suite holds -/
structure Gm where
  mg : Str → Option Value
  T : List (Addr × Str)
  lam : Option (Addr × Option (Addr × Addr) × Hp × Hp)
  exn : Option (Addr × Value × Option Addr)
/-- an exception: its class by name, its fields -/
def ExR (mg : Str → Option Value) (K : PySem.W.Frag) (ro : Ro) (F H : Hp) (c : Str) (fs : List (Str × D)) (cls : Value) (d : Option Addr) : Prop :=
  ∃ C dd l, mg c = some (.ref C) ∧ cls = .ref C ∧ d = some dd ∧ H dd = some (.xd l) ∧ (∀ c, ro ≠ some (dd, c)) ∧ ∀ n z, fs.lookup n = some z → ∃ v, l.lookup n = some v ∧ Rp K F z v
theorem ExR.step {T : List (Addr × Str)} {mg : Str → Option Value} {K : PySem.W.Frag} {ro : Ro} {F H F' H' : Hp} {c : Str} {fs : List (Str × D)} {cls : Value} {d : Option Addr} (h : ExR mg K ro F H c fs cls d) (a : Stp T ro F H F' H') : ExR mg K ro F' H' c fs cls d := by
  obtain ⟨C, dd, l, h1, h2, h3, h4, h5, h6⟩ := h
  refine ⟨C, dd, l, h1, h2, h3, a.hh _ _ h4 h5 (fun _ z => by cases z), h5, fun n z e => ?_⟩
  obtain ⟨v, q1, q2⟩ := h6 n z e
  exact ⟨v, q1, Rp.mono a.ff z v q2⟩
variable {γ : Gm} {W : WX}

/-- what came behind the lambda's making -/
def LamNew (γ : Gm) (p : Addr) : Prop := ∀ f rm Fm Hm, γ.lam = some (f, rm, Fm, Hm) → Hm p = none
def SlotOk (γ : Gm) (K : PySem.W.Frag) (ro : Ro) (H0 F H : Hp) : SV → Option V → Prop
  | .un, _ => True
  | .val d, o => ∃ v, o = some v ∧ Rp K F d v
  | .own ds, o => ∃ p vs, o = some (.ref p) ∧ F p = none ∧ H p = some (.lst vs) ∧ Rps K F ds vs ∧ H0 p = none ∧ (∀ c, ro ≠ some (p, c)) ∧ LamNew γ p
  | .rdr, o => ∃ r c, ro = some (r, c) ∧ o = some (.ref r)
  | .lam, o => ∃ f r, γ.lam = some (f, r) ∧ o = some (.ref f)
  | .exn c fs, o => ∃ a cls d, γ.exn = some (a, cls, d) ∧ o = some (.ref a) ∧ ExR γ.mg K ro F H c fs cls d

structure EnvOk (γ : Gm) (K : PySem.W.Frag) (ro : Ro) (H0 F H : Hp) (env : List SV) (σ : L2.St) : Prop where
  len : env.length = σ.length
  ok : ∀ (i : Nat) (sv : SV), env[i]? = some sv → ∃ o : Option V, σ[i]? = some o ∧ SlotOk γ K ro H0 F H sv o
  sep : ∀ (i j : Nat) (ds es : List D) (p : Addr), i ≠ j → env[i]? = some (.own ds) → env[j]? = some (.own es) → σ[i]? = some (some (.ref p)) → σ[j]? ≠ some (some (.ref p))

/-- the tables stand, and are none of what stands for good -/
def TabF (T : List (Addr × Str)) (F H : Hp) : Prop := LamX.Tabs T H ∧ ∀ p ∈ T, F p.1 = none
/-- what was so when the lambda was made: its maker's ground is kept -/
def LamOk (γ : Gm) (ro : Ro) (F H : Hp) : Prop := ∀ f rm Fm Hm, γ.lam = some (f, rm, Fm, Hm) → ro = rm ∧ Same Fm F ∧ Stp γ.T ro Fm Hm Fm H ∧ ∀ b ps, F b = some (.tbl ps) → Fm b = some (.tbl ps)
structure TabL (γ : Gm) (ro : Ro) (F H : Hp) : Prop where
  tf : TabF γ.T F H
  l : LamOk γ ro F H
theorem TabF.step {T : List (Addr × Str)} {ro : Ro} {F H F' H' : Hp} (h : TabF T F H) (a : Stp T ro F H F' H') : TabF T F' H' := ⟨a.tb h.1, fun p hp => by
  obtain ⟨ps, h1, _⟩ := h.1 p hp
  exact a.fz p.1 (by rw [h1]; exact fun z => by cases z) (h.2 p hp)⟩
theorem TabF.upd {T : List (Addr × Str)} {F H : Hp} {p : Addr} {vs : List V} {o : HO} (h : TabF T F H) (hp : H p = some (.lst vs)) : TabF T (L2.upd F p o) H := ⟨h.1, fun q hq => by
  obtain ⟨ps, h1, _⟩ := h.1 q hq
  rw [upd_ne (fun z => by
    rw [z, hp] at h1
    cases h1)]
  exact h.2 q hq⟩
theorem LamOk.off {ro : Ro} {F H : Hp} (h : γ.lam = none) : LamOk γ ro F H := fun f rm Fm Hm e => by
  rw [h] at e
  cases e
theorem LamOk.step {ro : Ro} {F H F' H' : Hp} (h : LamOk γ ro F H) (a : Stp γ.T ro F H F' H') : LamOk γ ro F' H' := fun f rm Fm Hm e => by
  obtain ⟨h1, h2, h3, h4⟩ := h f rm Fm Hm e
  refine ⟨h1, h2.trans a.ff, h3.trans ⟨Same.refl _, (h2.trans a.ff).trans a.fh, a.hh, a.tb, fun _ _ q => q, a.hn, fun _ _ q => q⟩, fun b ps q => h4 b ps (a.nt b ps q)⟩
/-- the ground is seen wider, the heap is as it is -/
theorem LamOk.wide {ro : Ro} {F H F' : Hp} (h : LamOk γ ro F H) (s : Same F F') (n : ∀ b ps, F' b = some (.tbl ps) → F b = some (.tbl ps)) : LamOk γ ro F' H := fun f rm Fm Hm e => by
  obtain ⟨h1, h2, h3, h4⟩ := h f rm Fm Hm e
  exact ⟨h1, h2.trans s, h3, fun b ps q => h4 b ps (n b ps q)⟩
theorem LamOk.new {ro : Ro} {F H : Hp} (h : LamOk γ ro F H) {p : Addr} (hp : H p = none) : LamNew γ p := fun f rm Fm Hm e => by
  obtain ⟨h1, h2, h3, h4⟩ := h f rm Fm Hm e
  exact h3.hn p hp
theorem TabL.step {ro : Ro} {F H F' H' : Hp} (h : TabL γ ro F H) (a : Stp γ.T ro F H F' H') : TabL γ ro F' H' := ⟨h.tf.step a, h.l.step a⟩
structure SRel (γ : Gm) (K : PySem.W.Frag) (ro : Ro) (F0 H0 F : Hp) (env : List SV) (rd : Rdr) (σ : L2.St) (H : Hp) : Prop where
  st : Stp γ.T ro F0 H0 F H
  rd : RdOk ro rd F H
  env : EnvOk γ K ro H0 F H env σ
  tab : TabL γ ro F H
theorem SlotOk.step {T : List (Addr × Str)} {K : PySem.W.Frag} {ro : Ro} {H0 F H F' H' : Hp} {sv : SV} {o : Option V} (h : SlotOk γ K ro H0 F H sv o) (a : Stp T ro F H F' H') : SlotOk γ K ro H0 F' H' sv o := by
  cases sv with
  | un => trivial
  | val d =>
    obtain ⟨v, h1, h2⟩ := h
    exact ⟨v, h1, Rp.mono a.ff d v h2⟩
  | own ds =>
    obtain ⟨p, vs, h1, h2, h3, h4, h5, h6⟩ := h
    exact ⟨p, vs, h1, a.fz p (by rw [h3]; exact fun z => by cases z) h2, a.hh p _ h3 h6.1 (fun _ z => by cases z), Rps.mono a.ff ds vs h4, h5, h6⟩
  | rdr => exact h
  | lam => exact h
  | exn c fs =>
    obtain ⟨e, cls, d, h1, h2, h3⟩ := h
    exact ⟨e, cls, d, h1, h2, h3.step a⟩
theorem EnvOk.step {T : List (Addr × Str)} {K : PySem.W.Frag} {ro : Ro} {H0 F H F' H' : Hp} {env : List SV} {σ : L2.St} (h : EnvOk γ K ro H0 F H env σ) (a : Stp T ro F H F' H') : EnvOk γ K ro H0 F' H' env σ :=
  ⟨h.len, fun i sv e => by
    obtain ⟨o, q1, q2⟩ := h.ok i sv e
    exact ⟨o, q1, q2.step a⟩, h.sep⟩
theorem SRel.step {K : PySem.W.Frag} {ro : Ro} {F0 H0 F H F' H' : Hp} {env : List SV} {rd rd' : Rdr} {σ : L2.St} (h : SRel γ K ro F0 H0 F env rd σ H) (a : Stp γ.T ro F H F' H') (r : RdOk ro rd' F' H') : SRel γ K ro F0 H0 F' env rd' σ H' :=
  ⟨h.st.trans a, r, h.env.step a, h.tab.step a⟩
theorem SRel.val {K : PySem.W.Frag} {ro : Ro} {F0 H0 F H : Hp} {env : List SV} {rd : Rdr} {σ : L2.St} {i : Nat} {d : D} (h : SRel γ K ro F0 H0 F env rd σ H) (e : env[i]? = some (.val d)) : ∃ v, σ[i]? = some (some v) ∧ Rp K F d v := by
  obtain ⟨o, q1, v, rfl, q2⟩ := h.env.ok i _ e
  exact ⟨v, q1, q2⟩
/-- a slot takes a value -/
theorem EnvOk.set {K : PySem.W.Frag} {ro : Ro} {H0 F H : Hp} {env : List SV} {σ : L2.St} (h : EnvOk γ K ro H0 F H env σ) {i : Nat} {d : D} {v : V} (q : Rp K F d v) : EnvOk γ K ro H0 F H (env.set i (.val d)) (σ.set i (some v)) := by
  refine ⟨by rw [List.length_set, List.length_set, h.len], fun j sv e => ?_, fun j k ds es p hjk e1 e2 s1 => ?_⟩
  · by_cases hij : i = j
    · subst hij
      have hl : i < env.length := by
        have := (List.getElem?_eq_some_iff.mp e).1
        rwa [List.length_set] at this
      rw [List.getElem?_set_self hl] at e
      cases e
      exact ⟨some v, List.getElem?_set_self (by rw [← h.len]; exact hl), v, rfl, q⟩
    · rw [List.getElem?_set_ne hij] at e
      obtain ⟨o, q1, q2⟩ := h.ok j sv e
      exact ⟨o, by rw [List.getElem?_set_ne hij]; exact q1, q2⟩
  · have nj : i ≠ j := fun z => by
      subst z
      have hl : i < env.length := by
        have := (List.getElem?_eq_some_iff.mp e1).1
        rwa [List.length_set] at this
      rw [List.getElem?_set_self hl] at e1
      cases e1
    have nk : i ≠ k := fun z => by
      subst z
      have hl : i < env.length := by
        have := (List.getElem?_eq_some_iff.mp e2).1
        rwa [List.length_set] at this
      rw [List.getElem?_set_self hl] at e2
      cases e2
    rw [List.getElem?_set_ne nj] at e1 s1
    rw [List.getElem?_set_ne nk] at e2 ⊢
    exact h.sep j k ds es p hjk e1 e2 s1
theorem SRel.set {K : PySem.W.Frag} {ro : Ro} {F0 H0 F H : Hp} {env : List SV} {rd : Rdr} {σ : L2.St} (h : SRel γ K ro F0 H0 F env rd σ H) {i : Nat} {d : D} {v : V} (q : Rp K F d v) : SRel γ K ro F0 H0 F (env.set i (.val d)) rd (σ.set i (some v)) H :=
  ⟨h.st, h.rd, h.env.set q, h.tab⟩

/-! ### readings made of plain functions -/
abbrev MM (α : Type) := List SV → Rdr → Option (α × Rdr)
inductive Fl where
  | nx (env : List SV) | ret (d : D) | brk (env : List SV) | ct (env : List SV) | exc (env : List SV) (c : Str) (fs : List (Str × D)) | own (ds : List D)

def tM (γ : Gm) (K : PySem.W.Frag) (m : MM D) : TE := fun σ H Q => ∃ ro F0 H0 F env rd d rd', SRel γ K ro F0 H0 F env rd σ H ∧ m env rd = some (d, rd') ∧
  ∀ v F' H', Stp γ.T ro F H F' H' → RdOk ro rd' F' H' → Rp K F' d v → Q v H'
def tMT (γ : Gm) (K : PySem.W.Frag) (m : MM Bool) : TT := fun σ H Q => ∃ ro F0 H0 F env rd b rd', SRel γ K ro F0 H0 F env rd σ H ∧ m env rd = some (b, rd') ∧
  ∀ F' H', Stp γ.T ro F H F' H' → RdOk ro rd' F' H' → Q b H'
def tMA (γ : Gm) (K : PySem.W.Frag) (m : MM (List D)) : TA := fun σ H Q => ∃ ro F0 H0 F env rd ds rd', SRel γ K ro F0 H0 F env rd σ H ∧ m env rd = some (ds, rd') ∧
  ∀ vs F' H', Stp γ.T ro F H F' H' → RdOk ro rd' F' H' → Rps K F' ds vs → Q vs H'
def flEnd (γ : Gm) (W : WX) (K : PySem.W.Frag) (ro : Ro) (F0 H0 : Hp) (rd : Rdr) (D : Ends) : Fl → Prop
  | .nx env => ∀ σ F H, SRel γ K ro F0 H0 F env rd σ H → D.nx σ H
  | .brk env => ∀ σ F H, SRel γ K ro F0 H0 F env rd σ H → D.bk σ H
  | .ct env => ∀ σ F H, SRel γ K ro F0 H0 F env rd σ H → D.ct σ H
  | .ret d => ∀ v F H, Stp γ.T ro F0 H0 F H → RdOk ro rd F H → Rp K F d v → D.rt v H
  | .exc env c fs => ∀ σ F H cls d, SRel γ K ro F0 H0 F env rd σ H → ExR γ.mg K ro F H c fs cls d → W cls d σ H
  | .own ds => ∀ p vs F H, Stp γ.T ro F0 H0 F H → RdOk ro rd F H → H0 p = none → F p = none → H p = some (.lst vs) → Rps K F ds vs → D.rt (.ref p) H
def tMS (γ : Gm) (W : WX) (K : PySem.W.Frag) (m : MM Fl) : TS := fun D σ H => ∃ ro F0 H0 F env rd fl rd', SRel γ K ro F0 H0 F env rd σ H ∧ m env rd = some (fl, rd') ∧ flEnd γ W K ro F0 H0 rd' D fl

section
variable {X : Cx}
theorem pe_imp {e : Expr} {t t' : TE} (h : PE X e t) (f : ∀ σ H Q, t' σ H Q → t σ H Q) : PE X e t' := ⟨fun pins s σ H Q I q => h.run pins s σ H Q I (f _ _ _ q)⟩
theorem pt_imp {e : Expr} {t t' : TT} (h : PT X e t) (f : ∀ σ H Q, t' σ H Q → t σ H Q) : PT X e t' := ⟨fun pins s σ H Q I q => h.run pins s σ H Q I (f _ _ _ q)⟩
theorem pw_imp {e : Expr} {t t' : TT} (h : PW X e t) (f : ∀ σ H Q, t' σ H Q → t σ H Q) : PW X e t' := ⟨fun wh pins s σ H Q I q => h.run wh pins s σ H Q I (f _ _ _ q)⟩
theorem pa_imp {es : List Expr} {t t' : TA} (h : PA X es t) (f : ∀ σ H Q, t' σ H Q → t σ H Q) : PA X es t' := ⟨fun pos pins s σ H Q I q => h.run pos pins s σ H Q I (f _ _ _ q)⟩
theorem ps_imp {st : Stmt} {t t' : TS} (h : PS X st t) (f : ∀ D σ H, t' D σ H → t D σ H) : PS X st t' := ⟨fun pins s σ H D I q => h.run pins s σ H D I (f _ _ _ q)⟩
theorem pss_imp {st : List Stmt} {t t' : TS} (h : PSs X st t) (f : ∀ D σ H, t' D σ H → t D σ H) : PSs X st t' := ⟨fun pins s σ H D I q => h.run pins s σ H D I (f _ _ _ q)⟩
abbrev PM (γ : Gm) (X : Cx) (e : Expr) (m : MM D) : Prop := PE X e (tM γ X.K m)
abbrev PMT (γ : Gm) (X : Cx) (e : Expr) (m : MM Bool) : Prop := PT X e (tMT γ X.K m)
abbrev PMW (γ : Gm) (X : Cx) (e : Expr) (m : MM Bool) : Prop := PW X e (tMT γ X.K m)
abbrev PMA (γ : Gm) (X : Cx) (es : List Expr) (m : MM (List D)) : Prop := PA X es (tMA γ X.K m)
abbrev PMS (γ : Gm) (W : WX) (X : Cx) (st : Stmt) (m : MM Fl) : Prop := PS X st (tMS γ W X.K m)
abbrev PMSs (γ : Gm) (W : WX) (X : Cx) (st : List Stmt) (m : MM Fl) : Prop := PSs X st (tMS γ W X.K m)

/-! ### names, constants -/
def eVar (i : Nat) : MM D := fun env rd => match env[i]? with
  | some (.val d) => some (d, rd)
  | _ => none
def eC (d : D) : MM D := fun _ rd => some (d, rd)
theorem pm_of_var {e : Expr} {i : Nat} (h : PE X e (tVar i)) : PM γ X e (eVar i) := pe_imp h fun σ H Q ⟨ro, F0, H0, F, env, rd, d, rd', hS, hm, q⟩ => by
  unfold eVar at hm
  split at hm
  · rename_i d' e1
    cases hm
    obtain ⟨v, s1, r1⟩ := hS.val e1
    exact ⟨v, s1, q v F H (Stp.refl hS.st.fh) hS.rd r1⟩
  · cases hm
theorem pmv (i : Nat) {x : Str} {pos : Pos} (hN : X.N[i]? = some x := by rfl) (hv : Vis X.env.scope x := by first | exact Or.inl rfl | exact Or.inr (Or.inl rfl) | exact Or.inr (Or.inr rfl)) (hd : (x == ("__debug__" : Str)) = false := by decide)
    (hcd : (x == ("__classdict__" : Str)) = false := by decide) : PM γ X (.Name x pos) (eVar i) := pm_of_var (pe_var hN hv hd hcd)
theorem pm_of_C {e : Expr} {v : V} {d : D} (h : PE X e (tC v)) (r : ∀ F, Rp X.K F d v) : PM γ X e (eC d) := pe_imp h fun σ H Q ⟨ro, F0, H0, F, env, rd, d', rd', hS, hm, q⟩ => by
  unfold eC at hm
  cases hm
  exact q v F H (Stp.refl hS.st.fh) hS.rd (r F)
theorem pm_int {i j pos} : PM γ X (.Constant (.int i) j pos) (eC (.int i)) := pm_of_C pe_int fun _ => by simp only [Rp]
theorem pm_bl {b j pos} : PM γ X (.Constant (.bool b) j pos) (eC (.bl b)) := pm_of_C pe_bl fun _ => by simp only [Rp]
theorem pm_non {j pos} : PM γ X (.Constant .none j pos) (eC .non) := pm_of_C pe_non fun _ => by simp only [Rp]
theorem pm_str {x j pos} : PM γ X (.Constant (.str x) j pos) (eC (.str x)) := pm_of_C pe_str fun _ => by simp only [Rp]

/-! ### two in a row -/
def bind1 {α β : Type} (a : MM α) (k : α → MM β) : MM β := fun env rd => (a env rd).bind fun p => k p.1 env p.2
theorem bind1_some {α β : Type} {a : MM α} {k : α → MM β} {env : List SV} {rd rd' : Rdr} {z : β} (h : bind1 a k env rd = some (z, rd')) : ∃ x rd1, a env rd = some (x, rd1) ∧ k x env rd1 = some (z, rd') := by
  unfold bind1 at h
  obtain ⟨p, h1, h2⟩ := Option.bind_eq_some_iff.mp h
  exact ⟨p.1, p.2, h1, h2⟩
def lift (o : Option α) : MM α := fun _ rd => o.map fun x => (x, rd)
theorem lift_some {α : Type} {o : Option α} {env : List SV} {rd rd' : Rdr} {z : α} (h : lift o env rd = some (z, rd')) : o = some z ∧ rd' = rd := by
  unfold lift at h
  cases o with
  | none => cases h
  | some x =>
    cases h
    exact ⟨rfl, rfl⟩

/-- what an operator on data is worth -/
def R2ok (K : PySem.W.Frag) (r : R2) (op : D → D → Option D) : Prop := ∀ F H x y d e z Q, Same F H → Rp K F d x → Rp K F e y → op d e = some z → (∀ v F' H', Alc F H F' H' → Rp K F' z v → Q v H') → r x y H Q
def rD (K : PySem.W.Frag) (op : D → D → Option D) : R2 := fun x y H Q => ∃ F d e z, Same F H ∧ Rp K F d x ∧ Rp K F e y ∧ op d e = some z ∧ ∀ v F' H', Alc F H F' H' → Rp K F' z v → Q v H'
def eOp (op : D → D → Option D) (a b : MM D) : MM D := bind1 a fun d => bind1 b fun e => lift (op d e)
theorem tM_op {K : PySem.W.Frag} {op : D → D → Option D} {a b : MM D} {σ : L2.St} {H : Hp} {Q : VK} (h : tM γ K (eOp op a b) σ H Q) : tOp (rD K op) (tM γ K a) (tM γ K b) σ H Q := by
  obtain ⟨ro, F0, H0, F, env, rd, z, rd', hS, hm, q⟩ := h
  obtain ⟨d, rd1, m1, hm⟩ := bind1_some hm
  obtain ⟨e, rd2, m2, hm⟩ := bind1_some hm
  obtain ⟨m3, rfl⟩ := lift_some hm
  refine ⟨ro, F0, H0, F, env, rd, d, rd1, hS, m1, fun x F1 H1 a1 r1 p1 => ?_⟩
  refine ⟨ro, F0, H0, F1, env, rd1, e, rd', hS.step a1 r1, m2, fun y F2 H2 a2 r2 p2 => ?_⟩
  refine ⟨F2, d, e, z, a2.fh, Rp.mono a2.ff d x p1, p2, m3, fun v F3 H3 a3 p3 => ?_⟩
  exact q v F3 H3 ((a1.trans a2).trans a3.stp) (r2.alc a3) p3
theorem pm_op {op : Operator} {f : D → D → Option D} {a b : Expr} {ma mb : MM D} {pos : Pos} (ho : OpR X (binaryOp op) (rD X.K f)) (ha : PM γ X a ma) (hb : PM γ X b mb) : PM γ X (.BinOp a op b pos) (eOp f ma mb) :=
  pe_imp (pe_op ho ha hb) fun _ _ _ h => tM_op h
theorem opr_of {f : Value → Value → Sem Value} {r : R2} {op : D → D → Option D} (h : OpR X f r) (k : R2ok X.K r op) : OpR X f (rD X.K op) := fun pins s σ H x y v u Q I rx ry q => by
  obtain ⟨F, d, e, z, s1, p1, p2, p3, q⟩ := q
  exact h pins s σ H x y v u Q I rx ry (k F H x y d e z Q s1 p1 p2 p3 q)
end
end FW

set_option Elab.async false
set_option linter.all false
set_option maxRecDepth 100000
set_option maxHeartbeats 1000000
namespace FW
open PySem PySem.Spec PyProof.Rows L2
variable {γ : Gm} {W : WX}
section
variable {X : Cx}

theorem Rps.lst {K : PySem.W.Frag} {F : Hp} {ds : List D} {a : Addr} {vs : List V} (h1 : F a = some (.lst vs)) (h2 : Rps K F ds vs) : Rp K F (.lst ds) (.ref a) := by
  simp only [Rp]
  exact ⟨a, vs, rfl, h1, h2⟩
theorem Rps.tup {K : PySem.W.Frag} {F : Hp} {ds : List D} {a : Addr} {vs : List V} (h1 : SqT K F a vs) (h2 : Rps K F ds vs) : Rp K F (.tup ds) (.ref a) := by
  simp only [Rp]
  exact ⟨a, vs, rfl, h1, h2⟩
theorem rp_int {K : PySem.W.Frag} {F : Hp} {i : Int} : Rp K F (.int i) (.int i) := by simp only [Rp]
theorem rp_bl {K : PySem.W.Frag} {F : Hp} {i : Bool} : Rp K F (.bl i) (.bl i) := by simp only [Rp]
theorem rp_str {K : PySem.W.Frag} {F : Hp} {i : Str} : Rp K F (.str i) (.str i) := by simp only [Rp]
theorem rp_non {K : PySem.W.Frag} {F : Hp} : Rp K F .non .non := by simp only [Rp]
theorem new_tup {K : PySem.W.Frag} {F H : Hp} {ds : List D} {vs : List V} {p : Addr} (s : Same F H) (hp : H p = none) (h : Rps K F ds vs) : Alc F H (upd F p (.tup vs)) (upd H p (.tup vs)) ∧ Rp K (upd F p (.tup vs)) (.tup ds) (.ref p) :=
  ⟨Alc.new s hp (fun _ z => by cases z), Rps.tup (.inl (.inl upd_same)) (Rps.mono (same_new (s.free hp)) ds vs h)⟩
theorem new_lst {K : PySem.W.Frag} {F H : Hp} {ds : List D} {vs : List V} {p : Addr} (s : Same F H) (hp : H p = none) (h : Rps K F ds vs) : Alc F H (upd F p (.lst vs)) (upd H p (.lst vs)) ∧ Rp K (upd F p (.lst vs)) (.lst ds) (.ref p) :=
  ⟨Alc.new s hp (fun _ z => by cases z), Rps.lst upd_same (Rps.mono (same_new (s.free hp)) ds vs h)⟩
theorem sqL_of {K : PySem.W.Frag} {H : Hp} {a : Addr} {xs : List V} (h : H a = some (.lst xs)) : SqL K H a xs := .inl (.inl h)

/-! ### + - * // % ** -/
def opAdd : D → D → Option D
  | .int i, .int j => some (.int (i + j))
  | .str i, .str j => if i.length + j.length ≤ sizeLine then some (.str (i ++ j)) else none
  | .tup xs, .tup ys => if xs.length + ys.length ≤ sizeLine then some (.tup (xs ++ ys)) else none
  | .lst xs, .lst ys => if xs.length + ys.length ≤ sizeLine then some (.lst (xs ++ ys)) else none
  | _, _ => none
theorem or_add : OpR X (binaryOp .Add) (rD X.K opAdd) := by
  intro pins s σ H x y v u Q I rx ry h
  obtain ⟨F, d, e, z, sf, pd, pe, hz, q⟩ := h
  cases d with
  | int i => cases e with
    | int j =>
      simp only [Rp] at pd pe
      subst pd pe
      simp only [opAdd, Option.some.injEq] at hz
      subst hz
      exact op_add pins s σ H _ _ v u Q I rx ry ⟨i, j, rfl, rfl, q _ F H (Alc.refl sf) rp_int⟩
    | _ => simp [opAdd] at hz
  | str i => cases e with
    | str j =>
      simp only [Rp] at pd pe
      subst pd pe
      simp only [opAdd, Option.ite_none_right_eq_some, Option.some.injEq] at hz
      obtain ⟨hl, rfl⟩ := hz
      exact op_add_str pins s σ H _ _ v u Q I rx ry ⟨i, j, rfl, rfl, hl, q _ F H (Alc.refl sf) rp_str⟩
    | _ => simp [opAdd] at hz
  | tup xs => cases e with
    | tup ys =>
      have pd0 := pd
      have pe0 := pe
      simp only [Rp] at pd pe
      obtain ⟨a, vs, rfl, ta, ra⟩ := pd
      obtain ⟨b, ws, rfl, tb, rb⟩ := pe
      simp only [opAdd, Option.ite_none_right_eq_some, Option.some.injEq] at hz
      obtain ⟨hl, rfl⟩ := hz
      refine op_catA pins s σ H _ _ v u Q I rx ry ⟨a, b, vs, ws, rfl, rfl, sqT_mono sf ta, sqT_mono sf tb, by rw [← ra.length, ← rb.length]; exact hl, fun e => ?_, fun _ e => ?_, fun _ _ p hp => ?_⟩
      · subst e
        have hx : xs = [] := List.eq_nil_of_length_eq_zero ra.length
        subst hx
        exact q _ F H (Alc.refl sf) pe0
      · subst e
        have hx : ys = [] := List.eq_nil_of_length_eq_zero rb.length
        subst hx
        rw [List.append_nil] at q
        exact q _ F H (Alc.refl sf) pd0
      · obtain ⟨q1, q2⟩ := new_tup sf hp (ra.append rb)
        exact q _ _ _ q1 q2
    | _ => simp [opAdd] at hz
  | lst xs => cases e with
    | lst ys =>
      simp only [Rp] at pd pe
      obtain ⟨a, vs, rfl, ta, ra⟩ := pd
      obtain ⟨b, ws, rfl, tb, rb⟩ := pe
      simp only [opAdd, Option.ite_none_right_eq_some, Option.some.injEq] at hz
      obtain ⟨hl, rfl⟩ := hz
      refine op_cat pins s σ H _ _ v u Q I rx ry ⟨a, b, vs, ws, rfl, rfl, sf _ _ ta, sf _ _ tb, by rw [← ra.length, ← rb.length]; exact hl, fun p hp => ?_⟩
      obtain ⟨q1, q2⟩ := new_lst sf hp (ra.append rb)
      exact q _ _ _ q1 q2
    | _ => simp [opAdd] at hz
  | _ => simp [opAdd] at hz
/-- an operator on two ints -/
def opI (c : Int → Int → Bool) (g : Int → Int → D) : D → D → Option D
  | .int i, .int j => if c i j = true then some (g i j) else none
  | _, _ => none
theorem opI_some {c : Int → Int → Bool} {g : Int → Int → D} {d e z : D} (h : opI c g d e = some z) : ∃ i j, d = .int i ∧ e = .int j ∧ c i j = true ∧ z = g i j := by
  cases d with
  | int i => cases e with
    | int j =>
      simp only [opI, Option.ite_none_right_eq_some, Option.some.injEq] at h
      exact ⟨i, j, rfl, rfl, h.1, h.2.symm⟩
    | _ => simp [opI] at h
  | _ => simp [opI] at h
theorem or_I {f : Value → Value → Sem Value} {r : R2} {c : Int → Int → Bool} {g : Int → Int → D} (h : OpR X f r)
    (k : ∀ (i j : Int) (H : Hp) (Q : VK), c i j = true → (∀ v, (∀ F, Rp X.K F (g i j) v) → Q v H) → r (.int i) (.int j) H Q) : OpR X f (rD X.K (opI c g)) := by
  intro pins s σ H x y v u Q I rx ry q
  obtain ⟨F, d, e, z, sf, pd, pe, hz, q⟩ := q
  obtain ⟨i, j, rfl, rfl, hc, rfl⟩ := opI_some hz
  simp only [Rp] at pd pe
  subst pd pe
  exact h pins s σ H _ _ v u Q I rx ry (k i j H Q hc fun v hv => q v F H (Alc.refl sf) (hv F))
abbrev opSub := opI (fun _ _ => true) fun i j => .int (i - j)
theorem or_sub : OpR X (binaryOp .Sub) (rD X.K opSub) := or_I op_sub fun i j H Q _ k => ⟨i, j, rfl, rfl, k _ fun _ => rp_int⟩
abbrev opMod := opI (fun _ j => decide (j ≠ 0)) fun i j => .int (i.fmod j)
theorem or_mod : OpR X (binaryOp .Mod) (rD X.K opMod) := or_I op_modN fun i j H Q hc k => ⟨i, j, rfl, rfl, of_decide_eq_true hc, k _ fun _ => rp_int⟩
abbrev opDiv := opI (fun _ j => decide (j ≠ 0 ∧ j.natAbs < 1073741824)) fun i j => .int (i.fdiv j)
theorem or_div : OpR X (binaryOp .FloorDiv) (rD X.K opDiv) := or_I op_fdivN fun i j H Q hc k => ⟨i, j, rfl, rfl, of_decide_eq_true (p := j ≠ 0 ∧ j.natAbs < 1073741824) hc, k _ fun _ => rp_int⟩
abbrev opPow := opI (fun i j => decide (0 ≤ j ∧ j ≤ 1000000 ∧ i.natAbs < 2 ^ 64)) fun i j => .int (i ^ j.toNat)
theorem or_pow : OpR X (binaryOp .Pow) (rD X.K opPow) := or_I op_pow fun i j H Q hc k => ⟨i, j, rfl, rfl, of_decide_eq_true (p := 0 ≤ j ∧ j ≤ 1000000 ∧ i.natAbs < 2 ^ 64) hc, k _ fun _ => rp_int⟩
theorem mul_bd {i j : Int} (h : i.natAbs < 18446744073709551616 ∨ j.natAbs < 18446744073709551616) : (-(2 ^ 64) < i ∧ i < 2 ^ 64) ∨ (-(2 ^ 64) < j ∧ j < 2 ^ 64) := by
  rcases h with h | h
  · left
    omega
  · right
    omega
def opMul : D → D → Option D
  | .int i, .int j => if i.natAbs < 18446744073709551616 ∨ j.natAbs < 18446744073709551616 then some (.int (i * j)) else none
  | .lst xs, .int k => if -(2 ^ 63) ≤ k ∧ k < 2 ^ 63 ∧ xs.length * k.toNat ≤ sizeLine then some (.lst (List.replicate k.toNat xs).flatten) else none
  | .tup xs, .int k => if xs.length ≠ 0 ∧ 2 ≤ k ∧ k ≤ 1000 ∧ xs.length ≤ 1000 then some (.tup (List.replicate k.toNat xs).flatten) else none
  | _, _ => none
theorem Rps.rep {K : PySem.W.Frag} {F : Hp} {ds : List D} {vs : List V} (h : Rps K F ds vs) : ∀ n : Nat, Rps K F (List.replicate n ds).flatten (List.replicate n vs).flatten
  | 0 => Rps.nil
  | n + 1 => by
    rw [List.replicate_succ, List.replicate_succ, List.flatten_cons, List.flatten_cons]
    exact h.append (Rps.rep h n)
theorem or_mul : OpR X (binaryOp .Mult) (rD X.K opMul) := by
  intro pins s σ H x y v u Q I rx ry h
  obtain ⟨F, d, e, z, sf, pd, pe, hz, q⟩ := h
  cases d with
  | int i => cases e with
    | int j =>
      simp only [Rp] at pd pe
      subst pd pe
      simp only [opMul, Option.ite_none_right_eq_some, Option.some.injEq] at hz
      obtain ⟨hl, rfl⟩ := hz
      exact op_mul pins s σ H _ _ v u Q I rx ry ⟨i, j, rfl, rfl, mul_bd hl, q _ F H (Alc.refl sf) rp_int⟩
    | _ => simp [opMul] at hz
  | lst xs => cases e with
    | int k =>
      simp only [Rp] at pd pe
      obtain ⟨a, vs, rfl, ta, ra⟩ := pd
      subst pe
      simp only [opMul, Option.ite_none_right_eq_some, Option.some.injEq] at hz
      obtain ⟨⟨h1, h2, h3⟩, rfl⟩ := hz
      refine op_rep pins s σ H _ _ v u Q I rx ry ⟨a, k, vs, rfl, rfl, sf _ _ ta, h1, h2, by rw [← ra.length]; exact h3, fun p hp => ?_⟩
      obtain ⟨q1, q2⟩ := new_lst sf hp (ra.rep k.toNat)
      exact q _ _ _ q1 q2
    | _ => simp [opMul] at hz
  | tup xs => cases e with
    | int k =>
      simp only [Rp] at pd pe
      obtain ⟨a, vs, rfl, ta, ra⟩ := pd
      subst pe
      simp only [opMul, Option.ite_none_right_eq_some, Option.some.injEq] at hz
      obtain ⟨⟨h0, h1, h2, h3⟩, rfl⟩ := hz
      refine op_repT pins s σ H _ _ v u Q I rx ry ⟨a, k, vs, rfl, rfl, sqT_mono sf ta, fun z => h0 (by rw [ra.length, z]; rfl), h1, h2, by rw [← ra.length]; exact h3, fun p hp => ?_⟩
      obtain ⟨q1, q2⟩ := new_tup sf hp (ra.rep k.toNat)
      exact q _ _ _ q1 q2
    | _ => simp [opMul] at hz
  | _ => simp [opMul] at hz

/-! ### comparisons -/
theorem pm_cmp {op : CmpOp} {f : D → D → Option D} {a b : Expr} {ma mb : MM D} {pos : Pos} (ho : OpR X (compareOp op) (rD X.K f)) (ha : PM γ X a ma) (hb : PM γ X b mb) (hm : behindInMarks op b = false) : PM γ X (.Compare a [op] [b] pos) (eOp f ma mb) :=
  pe_imp (pe_cmpR ho ha hb hm) fun _ _ _ h => tM_op h
/-- a value that is a bool, as a test -/
def isBl : D → Option Bool
  | .bl b => some b
  | _ => none
theorem isBl_some {d : D} {b : Bool} (h : isBl d = some b) : d = .bl b := by
  cases d with
  | bl c =>
    simp only [isBl, Option.some.injEq] at h
    rw [h]
  | _ => simp [isBl] at h
def eT (m : MM D) : MM Bool := bind1 m fun d => lift (isBl d)
theorem tMT_of {K : PySem.W.Frag} {m : MM D} {σ : L2.St} {H : Hp} {Q : Bool → Hp → Prop} (h : tMT γ K (eT m) σ H Q) : tM γ K m σ H fun x H1 => ∃ c, x = .bl c ∧ Q c H1 := by
  obtain ⟨ro, F0, H0, F, env, rd, b, rd', hS, hm, q⟩ := h
  obtain ⟨d, rd1, m1, hm⟩ := bind1_some hm
  obtain ⟨m2, rfl⟩ := lift_some hm
  have := isBl_some m2
  subst this
  refine ⟨ro, F0, H0, F, env, rd, _, rd', hS, m1, fun v F' H' a r p => ?_⟩
  simp only [Rp] at p
  exact ⟨b, p, q F' H' a r⟩
theorem pmt_val {e : Expr} {m : MM D} (h : PM γ X e m) (he : ∀ whole, isTrue e X.env whole = (do let v ← whole; standAt e.pos; holding [v] (truthy v)) := by intro _; rfl) : PMT γ X e (eT m) :=
  pt_imp (pt_val h he) fun _ _ _ q => tMT_of q
theorem pmt_cmp {op : CmpOp} {f : D → D → Option D} {a b : Expr} {ma mb : MM D} {pos : Pos} (ho : OpR X (compareOp op) (rD X.K f)) (ha : PM γ X a ma) (hb : PM γ X b mb) (hm : behindInMarks op b = false) : PMT γ X (.Compare a [op] [b] pos) (eT (eOp f ma mb)) :=
  pt_imp (pt_cmpR ho ha hb hm) fun σ H Q h => by
    have q := tMT_of h
    exact tM_op q
def mAnd (a b : MM Bool) : MM Bool := bind1 a fun x => if x = true then b else fun _ rd => some (false, rd)
def mOr (a b : MM Bool) : MM Bool := bind1 a fun x => if x = true then fun _ rd => some (true, rd) else b
def mNot (a : MM Bool) : MM Bool := bind1 a fun x => fun _ rd => some (!x, rd)
theorem tMT_and {K : PySem.W.Frag} {a b : MM Bool} {σ : L2.St} {H : Hp} {Q : Bool → Hp → Prop} (h : tMT γ K (mAnd a b) σ H Q) : tAnd (tMT γ K a) (tMT γ K b) σ H Q := by
  obtain ⟨ro, F0, H0, F, env, rd, z, rd', hS, hm, q⟩ := h
  obtain ⟨x, rd1, m1, hm⟩ := bind1_some hm
  refine ⟨ro, F0, H0, F, env, rd, x, rd1, hS, m1, fun F' H' a1 r1 => ?_⟩
  cases x with
  | true =>
    exact iteT ⟨ro, F0, H0, F', env, rd1, z, rd', hS.step a1 r1, hm, fun F2 H2 a2 r2 => q F2 H2 (a1.trans a2) r2⟩
  | false =>
    cases hm
    exact iteF (q F' H' a1 r1)
theorem tMT_or {K : PySem.W.Frag} {a b : MM Bool} {σ : L2.St} {H : Hp} {Q : Bool → Hp → Prop} (h : tMT γ K (mOr a b) σ H Q) : tOr (tMT γ K a) (tMT γ K b) σ H Q := by
  obtain ⟨ro, F0, H0, F, env, rd, z, rd', hS, hm, q⟩ := h
  obtain ⟨x, rd1, m1, hm⟩ := bind1_some hm
  refine ⟨ro, F0, H0, F, env, rd, x, rd1, hS, m1, fun F' H' a1 r1 => ?_⟩
  cases x with
  | true =>
    cases hm
    exact iteT (q F' H' a1 r1)
  | false =>
    exact iteF ⟨ro, F0, H0, F', env, rd1, z, rd', hS.step a1 r1, hm, fun F2 H2 a2 r2 => q F2 H2 (a1.trans a2) r2⟩
theorem tMT_not {K : PySem.W.Frag} {a : MM Bool} {σ : L2.St} {H : Hp} {Q : Bool → Hp → Prop} (h : tMT γ K (mNot a) σ H Q) : tNot (tMT γ K a) σ H Q := by
  obtain ⟨ro, F0, H0, F, env, rd, z, rd', hS, hm, q⟩ := h
  obtain ⟨x, rd1, m1, hm⟩ := bind1_some hm
  cases hm
  exact ⟨ro, F0, H0, F, env, rd, x, rd', hS, m1, q⟩
section
variable {a b : Expr} {rest : List Expr} {pos : Pos} {ma mb : MM Bool}
theorem pmw_and1 (ha : PMT γ X a ma) : PMW γ X (.BoolOp .And [a] pos) ma := pw_and1 ha
theorem pmw_or1 (ha : PMT γ X a ma) : PMW γ X (.BoolOp .Or [a] pos) ma := pw_or1 ha
theorem pmw_and (ha : PMT γ X a ma) (hb : PMW γ X (.BoolOp .And (b :: rest) pos) mb) : PMW γ X (.BoolOp .And (a :: b :: rest) pos) (mAnd ma mb) := pw_imp (pw_and ha hb) fun _ _ _ h => tMT_and h
theorem pmw_or (ha : PMT γ X a ma) (hb : PMW γ X (.BoolOp .Or (b :: rest) pos) mb) : PMW γ X (.BoolOp .Or (a :: b :: rest) pos) (mOr ma mb) := pw_imp (pw_or ha hb) fun _ _ _ h => tMT_or h
theorem pmt_not (ha : PMT γ X a ma) : PMT γ X (.UnaryOp .Not a pos) (mNot ma) := pt_imp (pt_not ha) fun _ _ _ h => tMT_not h
end
/-- and, or, not as values -/
def eAnd (a b : MM D) : MM D := bind1 (eT a) fun x => if x = true then b else fun _ rd => some (.bl false, rd)
def eOr (a b : MM D) : MM D := bind1 (eT a) fun x => if x = true then fun _ rd => some (.bl true, rd) else b
def eNot (a : MM D) : MM D := bind1 (eT a) fun x => fun _ rd => some (.bl (!x), rd)
theorem eT_some {m : MM D} {env : List SV} {rd rd' : Rdr} {b : Bool} (h : eT m env rd = some (b, rd')) : m env rd = some (.bl b, rd') := by
  obtain ⟨d, rd1, m1, hm⟩ := bind1_some h
  obtain ⟨m2, rfl⟩ := lift_some hm
  have := isBl_some m2
  subst this
  exact m1
section
variable {a b : Expr} {rest : List Expr} {pos : Pos} {ma mb : MM D}
theorem pm_one {op : BoolOp} (h : PM γ X a ma) : PM γ X (.BoolOp op [a] pos) ma := pe_one h
theorem pm_and (ha : PM γ X a ma) (hb : PM γ X (.BoolOp .And (b :: rest) pos) mb) : PM γ X (.BoolOp .And (a :: b :: rest) pos) (eAnd ma mb) := pe_imp (pe_and ha hb) fun σ H Q h => by
  obtain ⟨ro, F0, H0, F, env, rd, z, rd', hS, hm, q⟩ := h
  obtain ⟨x, rd1, m1, hm⟩ := bind1_some hm
  refine ⟨ro, F0, H0, F, env, rd, _, rd1, hS, eT_some m1, fun v F' H' a1 r1 p1 => ?_⟩
  simp only [Rp] at p1
  refine ⟨x, p1, ?_⟩
  cases x with
  | true => exact iteT ⟨ro, F0, H0, F', env, rd1, z, rd', hS.step a1 r1, hm, fun v2 F2 H2 a2 r2 p2 => q v2 F2 H2 (a1.trans a2) r2 p2⟩
  | false =>
    cases hm
    exact iteF (q _ F' H' a1 r1 rp_bl)
theorem pm_or (ha : PM γ X a ma) (hb : PM γ X (.BoolOp .Or (b :: rest) pos) mb) : PM γ X (.BoolOp .Or (a :: b :: rest) pos) (eOr ma mb) := pe_imp (pe_or ha hb) fun σ H Q h => by
  obtain ⟨ro, F0, H0, F, env, rd, z, rd', hS, hm, q⟩ := h
  obtain ⟨x, rd1, m1, hm⟩ := bind1_some hm
  refine ⟨ro, F0, H0, F, env, rd, _, rd1, hS, eT_some m1, fun v F' H' a1 r1 p1 => ?_⟩
  simp only [Rp] at p1
  refine ⟨x, p1, ?_⟩
  cases x with
  | true =>
    cases hm
    exact iteT (q _ F' H' a1 r1 rp_bl)
  | false => exact iteF ⟨ro, F0, H0, F', env, rd1, z, rd', hS.step a1 r1, hm, fun v2 F2 H2 a2 r2 p2 => q v2 F2 H2 (a1.trans a2) r2 p2⟩
theorem pm_not (ha : PM γ X a ma) : PM γ X (.UnaryOp .Not a pos) (eNot ma) := pe_imp (pe_not ha) fun σ H Q h => by
  obtain ⟨ro, F0, H0, F, env, rd, z, rd', hS, hm, q⟩ := h
  obtain ⟨x, rd1, m1, hm⟩ := bind1_some hm
  cases hm
  refine ⟨ro, F0, H0, F, env, rd, _, rd', hS, eT_some m1, fun v F' H' a1 r1 p1 => ?_⟩
  simp only [Rp] at p1
  exact ⟨x, p1, q _ F' H' a1 r1 rp_bl⟩
def eIf (t : MM Bool) (a b : MM D) : MM D := bind1 t fun x => if x = true then a else b
theorem pm_if {c : Expr} {mt : MM Bool} (hc : PMT γ X c mt) (ha : PM γ X a ma) (hb : PM γ X b mb) : PM γ X (.IfExp c a b pos) (eIf mt ma mb) := pe_imp (pe_ifExp hc ha hb) fun σ H Q h => by
  obtain ⟨ro, F0, H0, F, env, rd, z, rd', hS, hm, q⟩ := h
  obtain ⟨x, rd1, m1, hm⟩ := bind1_some hm
  refine ⟨ro, F0, H0, F, env, rd, x, rd1, hS, m1, fun F' H' a1 r1 => ?_⟩
  cases x with
  | true => exact iteT ⟨ro, F0, H0, F', env, rd1, z, rd', hS.step a1 r1, hm, fun v2 F2 H2 a2 r2 p2 => q v2 F2 H2 (a1.trans a2) r2 p2⟩
  | false => exact iteF ⟨ro, F0, H0, F', env, rd1, z, rd', hS.step a1 r1, hm, fun v2 F2 H2 a2 r2 p2 => q v2 F2 H2 (a1.trans a2) r2 p2⟩
end
/-- a unary minus -/
def opNeg : D → Option D
  | .int i => some (.int (-i))
  | _ => none
def eUn (f : D → Option D) (a : MM D) : MM D := bind1 a fun d => lift (f d)
theorem pm_neg {a : Expr} {ma : MM D} {pos : Pos} (ha : PM γ X a ma) : PM γ X (.UnaryOp .USub a pos) (eUn opNeg ma) := pe_imp (pe_un un_neg ha) fun σ H Q h => by
  obtain ⟨ro, F0, H0, F, env, rd, z, rd', hS, hm, q⟩ := h
  obtain ⟨d, rd1, m1, hm⟩ := bind1_some hm
  obtain ⟨m2, rfl⟩ := lift_some hm
  refine ⟨ro, F0, H0, F, env, rd, d, rd', hS, m1, fun v F' H' a1 r1 p1 => ?_⟩
  cases d with
  | int i =>
    simp only [opNeg, Option.some.injEq] at m2
    subst m2
    simp only [Rp] at p1
    subst p1
    exact ⟨i, rfl, q _ F' H' a1 r1 rp_int⟩
  | _ => simp [opNeg] at m2

/-! ### lt, le .. of ints and texts; == of data -/
def opCmp (pi : Int → Int → Bool) (ps : Str → Str → Bool) : D → D → Option D
  | .int i, .int j => some (.bl (pi i j))
  | .str i, .str j => some (.bl (ps i j))
  | _, _ => none
theorem or_cmp {op : CmpOp} {pi : Int → Int → Bool} {ps : Str → Str → Bool} (hi : OpR X (compareOp op) (rI0 fun i j => .bl (pi i j))) (hs : OpR X (compareOp op) fun x y H Q => ∃ i j, x = .str i ∧ y = .str j ∧ Q (.bl (ps i j)) H) :
    OpR X (compareOp op) (rD X.K (opCmp pi ps)) := by
  intro pins s σ H x y v u Q I rx ry h
  obtain ⟨F, d, e, z, sf, pd, pe, hz, q⟩ := h
  cases d with
  | int i => cases e with
    | int j =>
      simp only [Rp] at pd pe
      subst pd pe
      simp only [opCmp, Option.some.injEq] at hz
      subst hz
      exact hi pins s σ H _ _ v u Q I rx ry ⟨i, j, rfl, rfl, q _ F H (Alc.refl sf) rp_bl⟩
    | _ => simp [opCmp] at hz
  | str i => cases e with
    | str j =>
      simp only [Rp] at pd pe
      subst pd pe
      simp only [opCmp, Option.some.injEq] at hz
      subst hz
      exact hs pins s σ H _ _ v u Q I rx ry ⟨i, j, rfl, rfl, q _ F H (Alc.refl sf) rp_bl⟩
    | _ => simp [opCmp] at hz
  | _ => simp [opCmp] at hz
abbrev opLt := opCmp (fun i j => decide (i < j)) fun i j => decide (i.cps.toList < j.cps.toList)
abbrev opLe := opCmp (fun i j => decide (i ≤ j)) fun i j => !decide (j.cps.toList < i.cps.toList)
abbrev opGt := opCmp (fun i j => decide (j < i)) fun i j => decide (j.cps.toList < i.cps.toList)
abbrev opGe := opCmp (fun i j => decide (j ≤ i)) fun i j => !decide (i.cps.toList < j.cps.toList)
theorem or_lt : OpR X (compareOp .Lt) (rD X.K opLt) := or_cmp op_lt op_lt_str
theorem or_le : OpR X (compareOp .LtE) (rD X.K opLe) := or_cmp op_le op_le_str
theorem or_gt : OpR X (compareOp .Gt) (rD X.K opGt) := or_cmp op_gt op_gt_str
theorem or_ge : OpR X (compareOp .GtE) (rD X.K opGe) := or_cmp op_ge op_ge_str
mutual
def toPy : D → PyData
  | .non => .none
  | .bl b => .bool b
  | .int i => .int i
  | .str s => .str s
  | .tup ds => .tuple (toPys ds)
  | .lst ds => .list (toPys ds)
def toPys : List D → List PyData
  | [] => []
  | d :: ds => toPy d :: toPys ds
end
mutual
theorem dp_of {K : PySem.W.Frag} {F H : Hp} (e : Same F H) : ∀ (d : D) (v : V), Rp K F d v → Dp K H v (toPy d)
  | .non, v, h => by
    simp only [Rp] at h
    subst h
    simp only [toPy]
    exact .non
  | .bl b, v, h => by
    simp only [Rp] at h
    subst h
    simp only [toPy]
    exact .bl b
  | .int i, v, h => by
    simp only [Rp] at h
    subst h
    simp only [toPy]
    exact .int i
  | .str i, v, h => by
    simp only [Rp] at h
    subst h
    simp only [toPy]
    exact .str i
  | .tup ds, v, h => by
    simp only [Rp] at h
    obtain ⟨a, vs, rfl, h2, h3⟩ := h
    simp only [toPy]
    exact .tup (sqT_mono e h2) (dps_of e ds vs h3)
  | .lst ds, v, h => by
    simp only [Rp] at h
    obtain ⟨a, vs, rfl, h2, h3⟩ := h
    simp only [toPy]
    exact .lst (sqL_of (e _ _ h2)) (dps_of e ds vs h3)
theorem dps_of {K : PySem.W.Frag} {F H : Hp} (e : Same F H) : ∀ (ds : List D) (vs : List V), Rps K F ds vs → DpAll K H vs (toPys ds)
  | [], vs, h => by
    simp only [Rps] at h
    subst h
    simp only [toPys]
    exact .nil
  | d :: ds, vs, h => by
    simp only [Rps] at h
    obtain ⟨v, r, rfl, h2, h3⟩ := h
    simp only [toPys]
    exact .cons (dp_of e d v h2) (dps_of e ds r h3)
end
def opEq : D → D → Option D
  | .str a, .str b => some (.bl (decide (a = b)))
  | .int a, .int b => some (.bl (decide (a = b)))
  | d, e => if SeqAt.shaped (toPy d) = true ∧ SeqAt.shaped (toPy e) = true then some (.bl (PyData.eqv (toPy d) (toPy e))) else none
def opNe : D → D → Option D
  | .str a, .str b => some (.bl (!decide (a = b)))
  | .int a, .int b => some (.bl (!decide (a = b)))
  | d, e => if SeqAt.shaped (toPy d) = true ∧ SeqAt.shaped (toPy e) = true then some (.bl (!PyData.eqv (toPy d) (toPy e))) else none
theorem or_eq (hu : X.A.units + 64 < cLine) : OpR X (compareOp .Eq) (rD X.K opEq) := by
  intro pins s σ H x y v u Q I rx ry h
  obtain ⟨F, d, e, z, sf, pd, pe, hz, q⟩ := h
  unfold opEq at hz
  split at hz
  · simp only [Rp] at pd pe
    subst pd pe
    cases hz
    refine op_eq pins s σ H _ _ v u Q I rx ry ⟨rfl, ?_⟩
    simpa using q _ F H (Alc.refl sf) rp_bl
  · simp only [Rp] at pd pe
    subst pd pe
    cases hz
    refine op_eq pins s σ H _ _ v u Q I rx ry ⟨rfl, ?_⟩
    simpa using q _ F H (Alc.refl sf) rp_bl
  · simp only [Option.ite_none_right_eq_some, Option.some.injEq] at hz
    obtain ⟨⟨h1, h2⟩, rfl⟩ := hz
    exact op_eqD hu pins s σ H _ _ v u Q I rx ry ⟨_, _, dp_of sf _ x pd, dp_of sf _ y pe, h1, h2, q _ F H (Alc.refl sf) rp_bl⟩
theorem or_ne (hu : X.A.units + 64 < cLine) : OpR X (compareOp .NotEq) (rD X.K opNe) := by
  intro pins s σ H x y v u Q I rx ry h
  obtain ⟨F, d, e, z, sf, pd, pe, hz, q⟩ := h
  unfold opNe at hz
  split at hz
  · simp only [Rp] at pd pe
    subst pd pe
    cases hz
    refine op_ne pins s σ H _ _ v u Q I rx ry ⟨rfl, ?_⟩
    simpa using q _ F H (Alc.refl sf) rp_bl
  · simp only [Rp] at pd pe
    subst pd pe
    cases hz
    refine op_ne pins s σ H _ _ v u Q I rx ry ⟨rfl, ?_⟩
    simpa using q _ F H (Alc.refl sf) rp_bl
  · simp only [Option.ite_none_right_eq_some, Option.some.injEq] at hz
    obtain ⟨⟨h1, h2⟩, rfl⟩ := hz
    exact op_neD hu pins s σ H _ _ v u Q I rx ry ⟨_, _, dp_of sf _ x pd, dp_of sf _ y pe, h1, h2, q _ F H (Alc.refl sf) rp_bl⟩
/-- in, not in: flat items in a list or a tuple -/
def flatD : D → Bool
  | .non | .bl _ | .int _ | .str _ => true
  | _ => false
def seqOf : D → Option (List D)
  | .tup ds | .lst ds => some ds
  | _ => none
def eqF (d e : D) : Bool := PyData.eqv (toPy d) (toPy e)
def chainT (a b : MM D) (c : MM D) (f g : D → D → Option D) : MM D := bind1 a fun x => bind1 b fun y => bind1 (lift ((f x y).bind isBl)) fun k => if k = true then bind1 c fun z => lift (g y z) else fun _ rd => some (.bl false, rd)
theorem tM_chain {K : PySem.W.Frag} {f g : D → D → Option D} {a b c : MM D} {σ : L2.St} {H : Hp} {Q : VK} (h : tM γ K (chainT a b c f g) σ H Q) : tChain (rD K f) (rD K g) (tM γ K a) (tM γ K b) (tM γ K c) σ H Q := by
  obtain ⟨ro, F0, H0, F, env, rd, z, rd', hS, hm, q⟩ := h
  obtain ⟨d, rd1, m1, hm⟩ := bind1_some hm
  obtain ⟨e, rd2, m2, hm⟩ := bind1_some hm
  obtain ⟨k, rd3, m3, hm'⟩ := bind1_some hm
  obtain ⟨m3', e0⟩ := lift_some m3
  obtain ⟨w, m3, e3⟩ := Option.bind_eq_some_iff.mp m3'
  have e4 := isBl_some e3
  subst e0 e4
  refine ⟨ro, F0, H0, F, env, rd, d, rd1, hS, m1, fun x F1 H1 a1 r1 p1 => ?_⟩
  refine ⟨ro, F0, H0, F1, env, rd1, e, rd3, hS.step a1 r1, m2, fun y F2 H2 a2 r2 p2 => ?_⟩
  refine ⟨F2, d, e, _, a2.fh, Rp.mono a2.ff d x p1, p2, m3, fun v F3 H3 a3 p3 => ?_⟩
  simp only [Rp] at p3
  refine ⟨k, p3, ?_⟩
  have st3 := (a1.trans a2).trans (a3.stp (ro := ro))
  have r3 := r2.alc a3
  cases k with
  | true =>
    obtain ⟨u, rd4, m4, hm2⟩ := bind1_some (show bind1 c (fun z => lift (g e z)) env _ = _ from hm')
    obtain ⟨m5, e5⟩ := lift_some hm2
    subst e5
    refine iteT ⟨ro, F0, H0, F3, env, _, u, _, hS.step st3 r3, m4, fun w F4 H4 a4 r4 p4 => ?_⟩
    refine ⟨F4, e, u, z, a4.fh, Rp.mono (a3.ff.trans a4.ff) e y p2, p4, m5, fun v F5 H5 a5 p5 => ?_⟩
    exact q v F5 H5 ((st3.trans a4).trans a5.stp) (r4.alc a5) p5
  | false =>
    cases hm'
    exact iteF (q _ F3 H3 st3 r3 rp_bl)
theorem pm_chain {op op' : CmpOp} {f g : D → D → Option D} {a b c : Expr} {ma mb mc : MM D} {pos : Pos} (ho : OpR X (compareOp op) (rD X.K f)) (ho' : OpR X (compareOp op') (rD X.K g)) (ha : PM γ X a ma) (hb : PM γ X b mb) (hc : PM γ X c mc) (hm : lastMarks [op, op'] [b, c] = false := by rfl) :
    PM γ X (.Compare a [op, op'] [b, c] pos) (chainT ma mb mc f g) := pe_imp (pe_chain ho ho' ha hb hc hm) fun _ _ _ h => tM_chain h
theorem pmt_chain {op op' : CmpOp} {f g : D → D → Option D} {a b c : Expr} {ma mb mc : MM D} {pos : Pos} (ho : OpR X (compareOp op) (rD X.K f)) (ho' : OpR X (compareOp op') (rD X.K g)) (ha : PM γ X a ma) (hb : PM γ X b mb) (hc : PM γ X c mc) (hm : lastMarks [op, op'] [b, c] = false := by rfl) :
    PMT γ X (.Compare a [op, op'] [b, c] pos) (eT (chainT ma mb mc f g)) := pt_imp (pt_chain ho ho' ha hb hc hm) fun _ _ _ h => tM_chain (tMT_of h)
end
end FW

set_option Elab.async false
set_option linter.all false
set_option maxRecDepth 100000
set_option maxHeartbeats 1000000
namespace FW
open PySem PySem.Spec PyProof.Rows L2
variable {γ : Gm} {W : WX}
section
variable {X : Cx}

/-! ### argument lists, displays -/
def aNil : MM (List D) := fun _ rd => some ([], rd)
def aCons (a : MM D) (r : MM (List D)) : MM (List D) := bind1 a fun d => bind1 r fun ds => fun _ rd => some (d :: ds, rd)
theorem tMA_cons {K : PySem.W.Frag} {a : MM D} {r : MM (List D)} {σ : L2.St} {H : Hp} {Q : List V → Hp → Prop} (h : tMA γ K (aCons a r) σ H Q) : tCons (tM γ K a) (tMA γ K r) σ H Q := by
  obtain ⟨ro, F0, H0, F, env, rd, z, rd', hS, hm, q⟩ := h
  obtain ⟨d, rd1, m1, hm⟩ := bind1_some hm
  obtain ⟨ds, rd2, m2, hm⟩ := bind1_some hm
  cases hm
  refine ⟨ro, F0, H0, F, env, rd, d, rd1, hS, m1, fun v F1 H1 a1 r1 p1 => ?_⟩
  refine ⟨ro, F0, H0, F1, env, rd1, ds, _, hS.step a1 r1, m2, fun vs F2 H2 a2 r2 p2 => ?_⟩
  exact q _ F2 H2 (a1.trans a2) r2 (Rps.cons (Rp.mono a2.ff d v p1) p2)
theorem pma_nil : PMA γ X [] aNil := pa_imp pa_nil fun σ H Q ⟨ro, F0, H0, F, env, rd, z, rd', hS, hm, q⟩ => by
  cases hm
  exact q [] F H (Stp.refl hS.st.fh) hS.rd Rps.nil
theorem pma_cons {e : Expr} {es : List Expr} {m : MM D} {r : MM (List D)} (ha : PM γ X e m) (hr : PMA γ X es r) (hs : starEach (e :: es) X.env = (false, eval e X.env) :: starEach es X.env := by rfl) : PMA γ X (e :: es) (aCons m r) :=
  pa_imp (pa_cons ha hr hs) fun _ _ _ h => tMA_cons h
def eTup (a : MM (List D)) : MM D := bind1 a fun ds => fun _ rd => if ds.length ≤ sizeLine then some (.tup ds, rd) else none
def eLst (a : MM (List D)) : MM D := bind1 a fun ds => fun _ rd => if ds.length ≤ sizeLine then some (.lst ds, rd) else none
theorem pm_tup {es : List Expr} {x1} {pos : Pos} {m : MM (List D)} (h : PMA γ X es m) : PM γ X (.Tuple es x1 pos) (eTup m) := pe_imp (pe_tup h) fun σ H Q h => by
  obtain ⟨ro, F0, H0, F, env, rd, z, rd', hS, hm, q⟩ := h
  obtain ⟨ds, rd1, m1, hm⟩ := bind1_some hm
  simp only [Option.ite_none_right_eq_some, Option.some.injEq, Prod.mk.injEq] at hm
  obtain ⟨hl, rfl, rfl⟩ := hm
  refine ⟨ro, F0, H0, F, env, rd, ds, rd1, hS, m1, fun vs F' H' a r p => ⟨by rw [← p.length]; exact hl, fun x hx => ?_⟩⟩
  obtain ⟨q1, q2⟩ := new_tup a.fh hx p
  exact q _ _ _ (a.trans q1.stp) (r.alc q1) q2
theorem pm_lst {es : List Expr} {pos : Pos} {m : MM (List D)} (h : PMA γ X es m) : PM γ X (.List es pos) (eLst m) := pe_imp (pe_lst h) fun σ H Q h => by
  obtain ⟨ro, F0, H0, F, env, rd, z, rd', hS, hm, q⟩ := h
  obtain ⟨ds, rd1, m1, hm⟩ := bind1_some hm
  simp only [Option.ite_none_right_eq_some, Option.some.injEq, Prod.mk.injEq] at hm
  obtain ⟨hl, rfl, rfl⟩ := hm
  refine ⟨ro, F0, H0, F, env, rd, ds, rd1, hS, m1, fun vs F' H' a r p => ⟨by rw [← p.length]; exact hl, fun x hx => ?_⟩⟩
  obtain ⟨q1, q2⟩ := new_lst a.fh hx p
  exact q _ _ _ (a.trans q1.stp) (r.alc q1) q2

/-! ### built-in calls by data -/
def rCD (K : PySem.W.Frag) (op : List D → Option D) : List V → Hp → VK → Prop := fun vs H Q => ∃ F ds z, Same F H ∧ Rps K F ds vs ∧ op ds = some z ∧ ∀ v F' H', Alc F H F' H' → Rp K F' z v → Q v H'
def eCall (op : List D → Option D) (a : MM (List D)) : MM D := bind1 a fun ds => lift (op ds)
theorem tM_call {K : PySem.W.Frag} {op : List D → Option D} {a : MM (List D)} {σ : L2.St} {H : Hp} {Q : VK} (h : tM γ K (eCall op a) σ H Q) : tCB (rCD K op) (tMA γ K a) σ H Q := by
  obtain ⟨ro, F0, H0, F, env, rd, z, rd', hS, hm, q⟩ := h
  obtain ⟨ds, rd1, m1, hm⟩ := bind1_some hm
  obtain ⟨m2, rfl⟩ := lift_some hm
  refine ⟨ro, F0, H0, F, env, rd, ds, _, hS, m1, fun vs F1 H1 a1 r1 p1 => ?_⟩
  exact ⟨F1, ds, z, a1.fh, p1, m2, fun v F2 H2 a2 p2 => q v F2 H2 (a1.trans a2.stp) (r1.alc a2) p2⟩
section
variable {x : Str} {p pos : Pos} {e : Expr} {es : List Expr} {m : MM (List D)} {id T : String} {op : List D → Option D}
theorem pm_callB (hc : CallR X (.builtin id) (rCD X.K op)) (hg : Gl X x) (hm : X.mg x = none) (hv : bootBuiltins x = some (.builtin id)) (ha : PMA γ X (e :: es) m) (hn : x ≠ "__name__" := by decide) (hdb : (x == ("__debug__" : Str)) = false := by decide)
    (he : starEach (e :: es) X.env = (false, eval e X.env) :: starEach es X.env := by rfl) (hpl : (backTo pos (starEach es X.env)).any (·.1) = false := by rfl) : PM γ X (.Call (.Name x p) (e :: es) [] pos) (eCall op m) :=
  pe_imp (pe_callB hc hg hm hv ha hn hdb he hpl) fun _ _ _ h => tM_call h
theorem pm_callTy (hc : CallR X (.type T) (rCD X.K op)) (hg : Gl X x) (hm : X.mg x = none) (hv : bootBuiltins x = some (.type T)) (ha : PMA γ X (e :: es) m) (hn : x ≠ "__name__" := by decide) (hdb : (x == ("__debug__" : Str)) = false := by decide)
    (he : starEach (e :: es) X.env = (false, eval e X.env) :: starEach es X.env := by rfl) (hpl : (backTo pos (starEach es X.env)).any (·.1) = false := by rfl) : PM γ X (.Call (.Name x p) (e :: es) [] pos) (eCall op m) :=
  pe_imp (pe_callTy hc hg hm hv ha hn hdb he hpl) fun _ _ _ h => tM_call h
end
def op1 (f : D → Option D) : List D → Option D
  | [d] => f d
  | _ => none
theorem op1_some {f : D → Option D} {ds : List D} {z : D} (h : op1 f ds = some z) : ∃ d, ds = [d] ∧ f d = some z := by
  match ds, h with
  | [d], h => exact ⟨d, rfl, h⟩
/-- a call of one value -/
theorem cr_1 {f : Value} {r : List V → Hp → VK → Prop} {g : D → Option D} (h : CallR X f r)
    (k : ∀ (F H : Hp) (x : V) (d z : D) (Q : VK), Same F H → Rp X.K F d x → g d = some z → (∀ v F' H', Alc F H F' H' → Rp X.K F' z v → Q v H') → r [x] H Q) : CallR X f (rCD X.K (op1 g)) := by
  intro pins s σ H vs us Q I rv q
  obtain ⟨F, ds, z, sf, p, hz, q⟩ := q
  obtain ⟨d, rfl, hz⟩ := op1_some hz
  simp only [Rps] at p
  obtain ⟨v, r', rfl, p1, rfl⟩ := p
  exact h pins s σ H _ us Q I rv (k F H v d z Q sf p1 hz q)
def opLen : D → Option D
  | .str s => if s.length ≤ sizeLine then some (.int s.length) else none
  | .tup ds => some (.int ds.length)
  | .lst ds => some (.int ds.length)
  | _ => none
theorem cr_len : CallR X (.builtin "len") (rCD X.K (op1 opLen)) := cr_1 (call_len_seq.or call_len_str) fun F H x d z Q sf p hz q => by
  cases d with
  | str s =>
    simp only [opLen, Option.ite_none_right_eq_some, Option.some.injEq] at hz
    obtain ⟨hl, rfl⟩ := hz
    simp only [Rp] at p
    subst p
    exact .inr ⟨s, rfl, hl, q _ F H (Alc.refl sf) rp_int⟩
  | tup ds =>
    simp only [opLen, Option.some.injEq] at hz
    subst hz
    simp only [Rp] at p
    obtain ⟨a, vs, rfl, h2, h3⟩ := p
    exact .inl ⟨a, vs, rfl, .inr (sqT_mono sf h2), by rw [← h3.length]; exact q _ F H (Alc.refl sf) rp_int⟩
  | lst ds =>
    simp only [opLen, Option.some.injEq] at hz
    subst hz
    simp only [Rp] at p
    obtain ⟨a, vs, rfl, h2, h3⟩ := p
    exact .inl ⟨a, vs, rfl, .inl (sqL_of (sf _ _ h2)), by rw [← h3.length]; exact q _ F H (Alc.refl sf) rp_int⟩
  | _ => simp [opLen] at hz
def opInt : D → Option D
  | .int i => some (.int i)
  | .bl b => some (.int (if b then 1 else 0))
  | _ => none
theorem cr_int : CallR X (.type "int") (rCD X.K (op1 opInt)) := cr_1 call_int1 fun F H x d z Q sf p hz q => by
  cases d with
  | int i =>
    simp only [opInt, Option.some.injEq] at hz
    subst hz
    simp only [Rp] at p
    subst p
    exact .inl ⟨i, rfl, q _ F H (Alc.refl sf) rp_int⟩
  | bl b =>
    simp only [opInt, Option.some.injEq] at hz
    subst hz
    simp only [Rp] at p
    subst p
    exact .inr ⟨b, rfl, q _ F H (Alc.refl sf) rp_int⟩
  | _ => simp [opInt] at hz
def opStr : D → Option D
  | .int i => if i.natAbs.log2 < 1920 then some (.str (toString i)) else none
  | .str s => some (.str s)
  | _ => none
theorem cr_str : CallR X (.type "str") (rCD X.K (op1 opStr)) := cr_1 (call_str_int.or SkE.call_str_str) fun F H x d z Q sf p hz q => by
  cases d with
  | int i =>
    simp only [opStr, Option.ite_none_right_eq_some, Option.some.injEq] at hz
    obtain ⟨hl, rfl⟩ := hz
    simp only [Rp] at p
    subst p
    exact .inl ⟨i, rfl, hl, q _ F H (Alc.refl sf) rp_str⟩
  | str s =>
    simp only [opStr, Option.some.injEq] at hz
    subst hz
    simp only [Rp] at p
    subst p
    exact .inr ⟨s, rfl, q _ F H (Alc.refl sf) rp_str⟩
  | _ => simp [opStr] at hz
def opTuple : D → Option D
  | .tup ds => some (.tup ds)
  | .lst ds => some (.tup ds)
  | _ => none
theorem cr_tuple : CallR X (.type "tuple") (rCD X.K (op1 opTuple)) := cr_1 call_tuple_of fun F H x d z Q sf p hz q => by
  cases d with
  | tup ds =>
    simp only [opTuple, Option.some.injEq] at hz
    subst hz
    have p0 := p
    simp only [Rp] at p
    obtain ⟨a, vs, rfl, h2, h3⟩ := p
    exact ⟨a, vs, rfl, .inr ⟨sqT_mono sf h2, q _ F H (Alc.refl sf) p0⟩⟩
  | lst ds =>
    simp only [opTuple, Option.some.injEq] at hz
    subst hz
    simp only [Rp] at p
    obtain ⟨a, vs, rfl, h2, h3⟩ := p
    refine ⟨a, vs, rfl, .inl ⟨sqL_of (sf _ _ h2), fun l hl => ?_⟩⟩
    obtain ⟨q1, q2⟩ := new_tup sf hl h3
    exact q _ _ _ q1 q2
  | _ => simp [opTuple] at hz
def opList : D → Option D
  | .tup ds => some (.lst ds)
  | .lst ds => some (.lst ds)
  | _ => none
theorem cr_list : CallR X (.type "list") (rCD X.K (op1 opList)) := cr_1 call_list_of fun F H x d z Q sf p hz q => by
  cases d with
  | tup ds =>
    simp only [opList, Option.some.injEq] at hz
    subst hz
    simp only [Rp] at p
    obtain ⟨a, vs, rfl, h2, h3⟩ := p
    refine ⟨a, vs, rfl, .inr (sqT_mono sf h2), fun l hl => ?_⟩
    obtain ⟨q1, q2⟩ := new_lst sf hl h3
    exact q _ _ _ q1 q2
  | lst ds =>
    simp only [opList, Option.some.injEq] at hz
    subst hz
    simp only [Rp] at p
    obtain ⟨a, vs, rfl, h2, h3⟩ := p
    refine ⟨a, vs, rfl, .inl (sqL_of (sf _ _ h2)), fun l hl => ?_⟩
    obtain ⟨q1, q2⟩ := new_lst sf hl h3
    exact q _ _ _ q1 q2
  | _ => simp [opList] at hz
/-- lists of ints, of bools, of texts -/
def intsOf : List D → Option (List Int)
  | [] => some []
  | .int i :: r => (intsOf r).map (i :: ·)
  | _ => none
theorem intsOf_some : ∀ {ds : List D} {ns : List Int}, intsOf ds = some ns → ds = ns.map D.int
  | [], ns, h => by
    simp only [intsOf, Option.some.injEq] at h
    subst h
    rfl
  | .int i :: r, ns, h => by
    simp only [intsOf, Option.map_eq_some_iff] at h
    obtain ⟨ms, h1, rfl⟩ := h
    rw [intsOf_some h1]
    rfl
  | .non :: _, _, h => by simp [intsOf] at h
  | .bl _ :: _, _, h => by simp [intsOf] at h
  | .str _ :: _, _, h => by simp [intsOf] at h
  | .tup _ :: _, _, h => by simp [intsOf] at h
  | .lst _ :: _, _, h => by simp [intsOf] at h
def blsOf : List D → Option (List Bool)
  | [] => some []
  | .bl i :: r => (blsOf r).map (i :: ·)
  | _ => none
theorem blsOf_some : ∀ {ds : List D} {ns : List Bool}, blsOf ds = some ns → ds = ns.map D.bl
  | [], ns, h => by
    simp only [blsOf, Option.some.injEq] at h
    subst h
    rfl
  | .bl i :: r, ns, h => by
    simp only [blsOf, Option.map_eq_some_iff] at h
    obtain ⟨ms, h1, rfl⟩ := h
    rw [blsOf_some h1]
    rfl
  | .non :: _, _, h => by simp [blsOf] at h
  | .int _ :: _, _, h => by simp [blsOf] at h
  | .str _ :: _, _, h => by simp [blsOf] at h
  | .tup _ :: _, _, h => by simp [blsOf] at h
  | .lst _ :: _, _, h => by simp [blsOf] at h
def strsOf : List D → Option (List Str)
  | [] => some []
  | .str i :: r => (strsOf r).map (i :: ·)
  | _ => none
theorem strsOf_some : ∀ {ds : List D} {ns : List Str}, strsOf ds = some ns → ds = ns.map D.str
  | [], ns, h => by
    simp only [strsOf, Option.some.injEq] at h
    subst h
    rfl
  | .str i :: r, ns, h => by
    simp only [strsOf, Option.map_eq_some_iff] at h
    obtain ⟨ms, h1, rfl⟩ := h
    rw [strsOf_some h1]
    rfl
  | .non :: _, _, h => by simp [strsOf] at h
  | .int _ :: _, _, h => by simp [strsOf] at h
  | .bl _ :: _, _, h => by simp [strsOf] at h
  | .tup _ :: _, _, h => by simp [strsOf] at h
  | .lst _ :: _, _, h => by simp [strsOf] at h
def opSum : D → Option D
  | .lst ds => (intsOf ds).map fun ns => .int ns.sum
  | _ => none
theorem cr_sumD (hc : X.calm = true) : CallR X (.builtin "sum") (rCD X.K (op1 opSum)) := cr_1 (cr_sum hc) fun F H x d z Q sf p hz q => by
  cases d with
  | lst ds =>
    simp only [opSum, Option.map_eq_some_iff] at hz
    obtain ⟨ns, h1, rfl⟩ := hz
    obtain rfl := intsOf_some h1
    simp only [Rp] at p
    obtain ⟨a, vs, rfl, h2, h3⟩ := p
    obtain rfl := Rps.ints h3
    exact ⟨a, ns, rfl, sqL_of (sf _ _ h2), q _ F H (Alc.refl sf) rp_int⟩
  | _ => simp [opSum] at hz
def opAll : D → Option D
  | .lst ds => (blsOf ds).map fun ns => .bl (ns.all id)
  | _ => none
theorem cr_allD (hc : X.calm = true) : CallR X (.builtin "all") (rCD X.K (op1 opAll)) := cr_1 (cr_all hc) fun F H x d z Q sf p hz q => by
  cases d with
  | lst ds =>
    simp only [opAll, Option.map_eq_some_iff] at hz
    obtain ⟨ns, h1, rfl⟩ := hz
    obtain rfl := blsOf_some h1
    simp only [Rp] at p
    obtain ⟨a, vs, rfl, h2, h3⟩ := p
    obtain rfl := Rps.bls h3
    exact ⟨a, ns, rfl, sqL_of (sf _ _ h2), q _ F H (Alc.refl sf) rp_bl⟩
  | _ => simp [opAll] at hz
def opAny : D → Option D
  | .lst ds => (blsOf ds).map fun ns => .bl (ns.any id)
  | _ => none
theorem cr_anyD (hc : X.calm = true) : CallR X (.builtin "any") (rCD X.K (op1 opAny)) := cr_1 (cr_any hc) fun F H x d z Q sf p hz q => by
  cases d with
  | lst ds =>
    simp only [opAny, Option.map_eq_some_iff] at hz
    obtain ⟨ns, h1, rfl⟩ := hz
    obtain rfl := blsOf_some h1
    simp only [Rp] at p
    obtain ⟨a, vs, rfl, h2, h3⟩ := p
    obtain rfl := Rps.bls h3
    exact ⟨a, ns, rfl, sqL_of (sf _ _ h2), q _ F H (Alc.refl sf) rp_bl⟩
  | _ => simp [opAny] at hz
/-- sep.join(xs) -/
def joinD (a : Str) (ys : List Str) : Option D := if (ys.map (·.length)).sum + ys.length * a.length ≤ 16777216 then some (.str (Txt.join a ys)) else none
def opJoin (s : D) (d : D) : Option D := match s with
  | .str a => ((seqOf d).bind strsOf).bind (joinD a)
  | _ => none
theorem pm_join {o e : Expr} {mo me : MM D} {apos pos : Pos} (ho : PM γ X o mo) (he : PM γ X e me) (hs : starEach [e] X.env = [(false, eval e X.env)] := by rfl) (hbase : attributeBase o "join" X.env (eval o X.env) = eval o X.env := by rfl) (hline : (apos.endLine == pos.line) = true := by rfl) :
    PM γ X (.Call (.Attribute o "join" apos) [e] [] pos) (eOp opJoin mo me) := pe_imp (pe_join ho he hs hbase hline) fun σ H Q h => by
  obtain ⟨ro, F0, H0, F, env, rd, z, rd', hS, hm, q⟩ := h
  obtain ⟨d, rd1, m1, hm⟩ := bind1_some hm
  obtain ⟨e, rd2, m2, hm⟩ := bind1_some hm
  obtain ⟨m3, e3⟩ := lift_some hm
  subst e3
  cases d with
  | str a =>
      simp only [opJoin] at m3
      obtain ⟨ys, hs, m3⟩ := Option.bind_eq_some_iff.mp m3
      obtain ⟨ds, hq, hy⟩ := Option.bind_eq_some_iff.mp hs
      simp only [joinD, Option.ite_none_right_eq_some, Option.some.injEq] at m3
      obtain ⟨hl, rfl⟩ := m3
      obtain rfl := strsOf_some hy
      refine ⟨ro, F0, H0, F, env, rd, _, rd1, hS, m1, fun x F1 H1 a1 r1 p1 => ?_⟩
      simp only [Rp] at p1
      subst p1
      refine ⟨⟨a, rfl⟩, ro, F0, H0, F1, env, rd1, e, _, hS.step a1 r1, m2, fun y F2 H2 a2 r2 p2 => ?_⟩
      have fin := q (.str (Txt.join a ys)) F2 H2 (a1.trans a2) r2 rp_str
      cases e with
      | tup es =>
        simp only [seqOf, Option.some.injEq] at hq
        subst hq
        simp only [Rp] at p2
        obtain ⟨b, vs, rfl, h2, h3⟩ := p2
        obtain rfl := Rps.strs h3
        exact ⟨a, b, ys, rfl, rfl, .inr (sqT_mono a2.fh h2), hl, fin⟩
      | lst es =>
        simp only [seqOf, Option.some.injEq] at hq
        subst hq
        simp only [Rp] at p2
        obtain ⟨b, vs, rfl, h2, h3⟩ := p2
        obtain rfl := Rps.strs h3
        exact ⟨a, b, ys, rfl, rfl, .inl (sqL_of (a2.fh _ _ h2)), hl, fin⟩
      | _ => simp [seqOf] at hq
  | _ => simp [opJoin] at m3

/-! ### subscripts, slices -/
def opIx (d e : D) : Option D := match d, e with
  | .tup ds, .int i => atI ds i
  | .lst ds, .int i => atI ds i
  | .str s, .int i => if s.length ≤ sizeLine then (atI s.cps.toList i).map fun c => .str ⟨#[c]⟩ else none
  | _, _ => none
theorem atI_rps {K : PySem.W.Frag} {F : Hp} {ds : List D} {vs : List V} {i : Int} {z : D} (h : Rps K F ds vs) (e : atI ds i = some z) : ∃ v, atI vs i = some v ∧ Rp K F z v := by
  unfold atI at e ⊢
  rw [← h.length]
  obtain ⟨j, h1, h2⟩ := Option.bind_eq_some_iff.mp e
  obtain ⟨v, h3, h4⟩ := h.get h2
  exact ⟨v, Option.bind_eq_some_iff.mpr ⟨j, h1, h3⟩, h4⟩
theorem r_ix : R2ok X.K (rIx X.K) opIx := fun F H x y d e z Q sf pd pe hz q => by
  cases d with
  | tup ds => cases e with
    | int i =>
      simp only [opIx] at hz
      simp only [Rp] at pd pe
      subst pe
      obtain ⟨a, vs, rfl, h2, h3⟩ := pd
      obtain ⟨v, h4, h5⟩ := atI_rps h3 hz
      exact .inr (.inl ⟨a, vs, i, v, rfl, rfl, sqT_mono sf h2, h4, q _ F H (Alc.refl sf) h5⟩)
    | _ => simp [opIx] at hz
  | lst ds => cases e with
    | int i =>
      simp only [opIx] at hz
      simp only [Rp] at pd pe
      subst pe
      obtain ⟨a, vs, rfl, h2, h3⟩ := pd
      obtain ⟨v, h4, h5⟩ := atI_rps h3 hz
      exact .inl ⟨a, vs, i, v, rfl, rfl, sqL_of (sf _ _ h2), h4, q _ F H (Alc.refl sf) h5⟩
    | _ => simp [opIx] at hz
  | str s => cases e with
    | int i =>
      simp only [opIx, Option.ite_none_right_eq_some, Option.map_eq_some_iff] at hz
      obtain ⟨hl, c, h1, rfl⟩ := hz
      simp only [Rp] at pd pe
      subst pd pe
      exact .inr (.inr ⟨s, i, c, rfl, rfl, hl, h1, q _ F H (Alc.refl sf) rp_str⟩)
    | _ => simp [opIx] at hz
  | _ => simp [opIx] at hz
theorem tOp_r {K : PySem.W.Frag} {r : R2} {op : D → D → Option D} (k : R2ok K r op) {ta tb : TE} {σ : L2.St} {H : Hp} {Q : VK} (ma : ∀ σ H (Q Q' : VK), (∀ v H, Q v H → Q' v H) → ta σ H Q → ta σ H Q') (mb : ∀ σ H (Q Q' : VK), (∀ v H, Q v H → Q' v H) → tb σ H Q → tb σ H Q')
    (h : tOp (rD K op) ta tb σ H Q) : tOp r ta tb σ H Q := ma _ _ _ _ (fun x H1 h1 => mb _ _ _ _ (fun y H2 h2 => by
  obtain ⟨F, d, e, z, s1, p1, p2, p3, q⟩ := h2
  exact k F H2 x y d e z Q s1 p1 p2 p3 q) h1) h
theorem tM_mono {K : PySem.W.Frag} {m : MM D} (σ : L2.St) (H : Hp) (Q Q' : VK) (f : ∀ v H, Q v H → Q' v H) (h : tM γ K m σ H Q) : tM γ K m σ H Q' := by
  obtain ⟨ro, F0, H0, F, env, rd, z, rd', hS, hm, q⟩ := h
  exact ⟨ro, F0, H0, F, env, rd, z, rd', hS, hm, fun v F' H' a r p => f _ _ (q v F' H' a r p)⟩
theorem pm_ix {a b : Expr} {ma mb : MM D} {pos : Pos} (ha : PM γ X a ma) (hb : PM γ X b mb) (hs : PlainIx b := by exact fun _ _ => rfl) : PM γ X (.Subscript a b pos) (eOp opIx ma mb) :=
  pe_imp (pe_ix ix_seq ha hb hs) fun σ H Q h => tOp_r r_ix tM_mono tM_mono (tM_op h)
/-- the bounds of a slice -/
def pNone : MM (Option Int) := fun _ rd => some (none, rd)
def pSome (m : MM D) : MM (Option Int) := bind1 m fun d => lift (match d with
  | .int i => some (some i)
  | _ => none)
def tMO (γ : Gm) (K : PySem.W.Frag) (m : MM (Option Int)) : TO := fun σ H Q => ∃ ro F0 H0 F env rd o rd', SRel γ K ro F0 H0 F env rd σ H ∧ m env rd = some (o, rd') ∧
  ∀ F' H', Stp γ.T ro F H F' H' → RdOk ro rd' F' H' → Q o H'
abbrev PMO (γ : Gm) (X : Cx) (e : Option Expr) (m : MM (Option Int)) : Prop := PO X e (tMO γ X.K m)
theorem po_imp {e : Option Expr} {t t' : TO} (h : PO X e t) (f : ∀ σ H Q, t' σ H Q → t σ H Q) : PO X e t' := ⟨fun pins s σ H Q I q => h.run pins s σ H Q I (f _ _ _ q)⟩
theorem pmo_none : PMO γ X none pNone := po_imp po_none fun σ H Q ⟨ro, F0, H0, F, env, rd, z, rd', hS, hm, q⟩ => by
  cases hm
  exact q F H (Stp.refl hS.st.fh) hS.rd
theorem pmo_some {e : Expr} {m : MM D} (h : PM γ X e m) : PMO γ X (some e) (pSome m) := po_imp (po_some h) fun σ H Q ⟨ro, F0, H0, F, env, rd, z, rd', hS, hm, q⟩ => by
  obtain ⟨d, rd1, m1, hm⟩ := bind1_some hm
  obtain ⟨m2, rfl⟩ := lift_some hm
  cases d with
  | int i =>
    cases m2
    refine ⟨ro, F0, H0, F, env, rd, _, _, hS, m1, fun v F' H' a r p => ?_⟩
    simp only [Rp] at p
    exact ⟨i, p, q F' H' a r⟩
  | _ => cases m2
def cutD (xs : List D) (lo hi : Option Int) : List D := (xs.drop (HT.sIx xs.length 0 lo)).take (HT.sIx xs.length xs.length hi - HT.sIx xs.length 0 lo)
def opSl (d : D) (lo hi : Option Int) : Option D := match d with
  | .tup ds => some (.tup (cutD ds lo hi))
  | .lst ds => some (.lst (cutD ds lo hi))
  | .str s => if s.length ≤ sizeLine then some (.str (cutS s lo hi)) else none
  | _ => none
def eSl (m : MM D) (ml mh : MM (Option Int)) : MM D := bind1 m fun d => bind1 ml fun lo => bind1 mh fun hi => lift (opSl d lo hi)
theorem cut_rps {K : PySem.W.Frag} {F : Hp} {ds : List D} {vs : List V} (lo hi : Option Int) (h : Rps K F ds vs) : Rps K F (cutD ds lo hi) (cutV vs lo hi) := by
  unfold cutD cutV
  rw [h.length]
  exact Rps.take _ (Rps.drop _ h)
theorem pm_slice {e : Expr} {lo hi : Option Expr} {m : MM D} {ml mh : MM (Option Int)} {p2 pos : Pos} (he : PM γ X e m) (hl : PMO γ X lo ml) (hh : PMO γ X hi mh) : PM γ X (.Subscript e (.Slice lo hi none p2) pos) (eSl m ml mh) :=
  pe_imp (pe_slice (sl_list.or (sl_tupA.or sl_str)) he hl hh) fun σ H Q h => by
  obtain ⟨ro, F0, H0, F, env, rd, z, rd', hS, hm, q⟩ := h
  obtain ⟨d, rd1, m1, hm⟩ := bind1_some hm
  obtain ⟨lo, rd2, m2, hm⟩ := bind1_some hm
  obtain ⟨hi, rd3, m3, hm⟩ := bind1_some hm
  obtain ⟨m4, e4⟩ := lift_some hm
  subst e4
  refine ⟨ro, F0, H0, F, env, rd, d, rd1, hS, m1, fun x F1 H1 a1 r1 p1 => ?_⟩
  have S1 := hS.step a1 r1
  refine ⟨ro, F0, H0, F1, env, rd1, lo, rd2, S1, m2, fun F2 H2 a2 r2 => ?_⟩
  refine ⟨ro, F0, H0, F2, env, rd2, hi, _, S1.step a2 r2, m3, fun F3 H3 a3 r3 => ?_⟩
  have q' := fun v F' H' (b : Alc F3 H3 F' H') => q v F' H' (((a1.trans a2).trans a3).trans b.stp) (r3.alc b)
  have p1 := Rp.mono (a2.ff.trans a3.ff) d x p1
  cases d with
  | tup ds =>
    simp only [opSl, Option.some.injEq] at m4
    subst m4
    have p0 := p1
    simp only [Rp] at p1
    obtain ⟨a, vs, rfl, h2, h3⟩ := p1
    refine .inr (.inl ⟨a, vs, rfl, sqT_mono a3.fh h2, fun hw => ?_, fun _ p hp => ?_⟩)
    · have e : cutD ds lo hi = ds := by
        unfold cutD
        rw [← h3.length] at hw
        rw [hw.1, hw.2, List.drop_zero, Nat.sub_zero, List.take_length]
      rw [e] at q'
      exact q' _ F3 H3 (Alc.refl a3.fh) p0
    · obtain ⟨q1, q2⟩ := new_tup a3.fh hp (cut_rps lo hi h3)
      exact q' _ _ _ q1 q2
  | lst ds =>
    simp only [opSl, Option.some.injEq] at m4
    subst m4
    simp only [Rp] at p1
    obtain ⟨a, vs, rfl, h2, h3⟩ := p1
    refine .inl ⟨a, vs, rfl, sqL_of (a3.fh _ _ h2), fun p hp => ?_⟩
    obtain ⟨q1, q2⟩ := new_lst a3.fh hp (cut_rps lo hi h3)
    exact q' _ _ _ q1 q2
  | str s =>
    simp only [opSl, Option.ite_none_right_eq_some, Option.some.injEq] at m4
    obtain ⟨hl, rfl⟩ := m4
    simp only [Rp] at p1
    subst p1
    exact .inr (.inr ⟨s, rfl, hl, q' _ F3 H3 (Alc.refl a3.fh) rp_str⟩)
  | _ => simp [opSl] at m4

/-! ### isinstance -/
def tyName : D → String
  | .non => "NoneType"
  | .bl _ => "bool"
  | .int _ => "int"
  | .str _ => "str"
  | .tup _ => "tuple"
  | .lst _ => "list"
def opIs (T : String) (d : D) : Option D := (kitB (tyName d) T).map D.bl
theorem tyX_of {K : PySem.W.Frag} {F H : Hp} (sf : Same F H) {d : D} {v : V} (h : Rp K F d v) : TyX K H v (.type (tyName d)) := by
  cases d with
  | non => simp only [Rp] at h; subst h; exact .base .non
  | bl b => simp only [Rp] at h; subst h; exact .base (.bl b)
  | int b => simp only [Rp] at h; subst h; exact .base (.int b)
  | str b => simp only [Rp] at h; subst h; exact .base (.str b)
  | lst ds =>
    simp only [Rp] at h
    obtain ⟨a, vs, rfl, h2, _⟩ := h
    exact .base (.lst (sf _ _ h2))
  | tup ds =>
    simp only [Rp] at h
    obtain ⟨a, vs, rfl, h2, _⟩ := h
    rcases h2 with (h2 | ⟨o, h2⟩) | ⟨o, its, n, h2, h3, _⟩
    · exact .base (.tup (sf _ _ h2))
    · exact .fTuple (sf _ _ h2)
    · exact .kTuple h2 h3
theorem pm_isi {x T : Str} {Tn : String} {a : Expr} {ma : MM D} {p p2 pos : Pos} (hg : Gl X "isinstance") (hm : X.mg "isinstance" = none) (hgT : Gl X T) (hmT : X.mg T = none) (hvT : bootBuiltins T = some (.type Tn)) (ha : PM γ X a ma) (hn : T ≠ "__name__" := by decide) (hd : (T == ("__debug__" : Str)) = false := by decide)
    (h1 : starEach [a, .Name T p2] X.env = (false, eval a X.env) :: starEach [.Name T p2] X.env := by rfl) :
    PM γ X (.Call (.Name "isinstance" p) [a, .Name T p2] [] pos) (eUn (opIs Tn) ma) :=
  pe_imp (pe_callB (r := rIsi X.K) (id := "isinstance") call_isi hg hm (by decide +kernel) (pa_cons ha (pa_cons (pe_bltn (v := .ty Tn) hgT hmT hvT rfl hn hd) pa_nil) h1) (by decide) (by decide) h1) fun σ H Q h => by
  obtain ⟨ro, F0, H0, F, env, rd, z, rd', hS, hm, q⟩ := h
  obtain ⟨d, rd1, m1, hm⟩ := bind1_some hm
  obtain ⟨m2, e2⟩ := lift_some hm
  subst e2
  simp only [opIs, Option.map_eq_some_iff] at m2
  obtain ⟨b, hb, rfl⟩ := m2
  refine ⟨ro, F0, H0, F, env, rd, d, _, hS, m1, fun v F' H' a r p => ?_⟩
  exact ⟨v, .ty Tn, .type (tyName d), .type Tn, b, rfl, .ty Tn, tyX_of a.fh p, kit_ty hb, q _ F' H' a r rp_bl⟩
theorem kit_tab : kitB "NoneType" "int" = some false ∧ kitB "bool" "int" = some true ∧ kitB "int" "int" = some true ∧ kitB "str" "int" = some false ∧ kitB "tuple" "int" = some false ∧ kitB "list" "int" = some false := by decide +kernel
theorem kit_tab2 : kitB "NoneType" "str" = some false ∧ kitB "bool" "str" = some false ∧ kitB "int" "str" = some false ∧ kitB "str" "str" = some true ∧ kitB "tuple" "str" = some false ∧ kitB "list" "str" = some false := by decide +kernel
theorem kit_tab3 : kitB "NoneType" "bool" = some false ∧ kitB "bool" "bool" = some true ∧ kitB "int" "bool" = some false ∧ kitB "str" "bool" = some false ∧ kitB "tuple" "bool" = some false ∧ kitB "list" "bool" = some false := by decide +kernel
theorem kit_tab4 : kitB "NoneType" "tuple" = some false ∧ kitB "bool" "tuple" = some false ∧ kitB "int" "tuple" = some false ∧ kitB "str" "tuple" = some false ∧ kitB "tuple" "tuple" = some true ∧ kitB "list" "tuple" = some false := by decide +kernel
theorem kit_tab5 : kitB "NoneType" "list" = some false ∧ kitB "bool" "list" = some false ∧ kitB "int" "list" = some false ∧ kitB "str" "list" = some false ∧ kitB "tuple" "list" = some false ∧ kitB "list" "list" = some true := by decide +kernel
end
end FW

set_option Elab.async false
set_option linter.all false
set_option maxRecDepth 100000
set_option maxHeartbeats 1000000
namespace FW
open PySem PySem.Spec PyProof.Rows L2
variable {γ : Gm} {W : WX}
section
variable {X : Cx}

/-! ### targets -/
inductive Pat where
  | nm (i : Nat) | tp (is : List Nat)
def setAll : List Nat → List D → List SV → List SV
  | i :: is, d :: ds, env => setAll is ds (env.set i (.val d))
  | _, _, env => env
def setPat : Pat → D → List SV → Option (List SV)
  | .nm i, d, env => some (env.set i (.val d))
  | .tp is, .tup ds, env => if ds.length = is.length then some (setAll is ds env) else none
  | _, _, _ => none
def gAll : List Nat → TGs
  | [] => gNil
  | i :: is => gCons (gName i) (gAll is)
def gOf (K : PySem.W.Frag) : Pat → TG
  | .nm i => gName i
  | .tp is => gTup K is.length (gAll is)
def Pat.slots : Pat → List Nat
  | .nm i => [i]
  | .tp is => is
theorem wipe_set {σ : L2.St} {i : Nat} {o : Option V} : ∀ {vs : List Nat}, i ∈ vs → wipe (σ.set i o) vs = wipe σ vs
  | [], h => absurd h List.not_mem_nil
  | v :: vs, h => by
    unfold wipe
    by_cases hi : i ∈ vs
    · rw [wipe_set hi]
    · have e : i = v := by
        rcases List.mem_cons.mp h with e | e
        · exact e
        · exact absurd e hi
      subst e
      have aux : ∀ ws : List Nat, i ∉ ws → wipe (σ.set i o) ws = (wipe σ ws).set i o := by
        intro ws
        induction ws with
        | nil => intro _; rfl
        | cons w ws ih =>
          intro hw
          have h1 : i ≠ w := fun e => hw (by rw [e]; exact List.mem_cons_self)
          unfold wipe
          rw [ih fun z => hw (List.mem_cons_of_mem _ z), List.set_comm _ _ h1]
      rw [aux vs hi, List.set_set]
theorem gAll_ok {K : PySem.W.Frag} {ro : Ro} {H0 F H : Hp} {Q : L2.St → Hp → Prop} : ∀ {is : List Nat} {ds : List D} {vs : List V} {env : List SV} {σ : L2.St}, EnvOk γ K ro H0 F H env σ → Rps K F ds vs → ds.length = is.length →
    (∀ σ', EnvOk γ K ro H0 F H (setAll is ds env) σ' → (∀ ws : List Nat, (∀ i ∈ is, i ∈ ws) → wipe σ' ws = wipe σ ws) → Q σ' H) → gAll is vs σ H Q
  | [], [], vs, env, σ, hE, hR, _, q => by
    simp only [Rps] at hR
    exact ⟨hR, q σ hE fun _ _ => rfl⟩
  | i :: is, d :: ds, vs, env, σ, hE, hR, hl, q => by
    simp only [Rps] at hR
    obtain ⟨v, r, rfl, p1, p2⟩ := hR
    refine ⟨v, r, rfl, ?_⟩
    show gAll is r (σ.set i (some v)) H Q
    refine gAll_ok (hE.set p1) p2 (by simpa using hl) fun σ' e1 e2 => q σ' e1 fun ws hw => ?_
    rw [e2 ws fun j hj => hw j (List.mem_cons_of_mem _ hj), wipe_set (hw i List.mem_cons_self)]
  | [], _ :: _, _, _, _, _, _, hl, _ => by simp at hl
  | _ :: _, [], _, _, _, _, _, hl, _ => by simp at hl
theorem gOf_ok {K : PySem.W.Frag} {ro : Ro} {H0 F H : Hp} {Q : L2.St → Hp → Prop} {p : Pat} {d : D} {v : V} {env env' : List SV} {σ : L2.St} (hE : EnvOk γ K ro H0 F H env σ) (sf : Same F H) (hR : Rp K F d v) (hs : setPat p d env = some env')
    (q : ∀ σ', EnvOk γ K ro H0 F H env' σ' → (∀ ws : List Nat, (∀ i ∈ p.slots, i ∈ ws) → wipe σ' ws = wipe σ ws) → Q σ' H) : gOf K p v σ H Q := by
  cases p with
  | nm i =>
    simp only [setPat, Option.some.injEq] at hs
    subst hs
    exact q _ (hE.set hR) fun ws hw => wipe_set (hw i (by simp [Pat.slots]))
  | tp is =>
    cases d with
    | tup ds =>
      simp only [setPat, Option.ite_none_right_eq_some, Option.some.injEq] at hs
      obtain ⟨hl, rfl⟩ := hs
      simp only [Rp] at hR
      obtain ⟨a, vs, rfl, h2, h3⟩ := hR
      exact ⟨a, vs, rfl, sqT_mono sf h2, by rw [← h3.length, hl], gAll_ok hE h3 hl q⟩
    | _ => simp [setPat] at hs

/-! ### what is walked -/
structure Wk (K : PySem.W.Frag) (F : Hp) (J : It) (ds : List D) : Prop where
  go : ∀ i H, i < ds.length → Same F H → J.go i H
  stop : ∀ H, Same F H → J.stop ds.length H
  yld : ∀ i H x H' F2, i < ds.length → Same F F2 → Same F2 H → J.yld i H x H' → ∃ F3, Alc F2 H F3 H' ∧ ∃ d, ds[i]? = some d ∧ Rp K F3 d x
def tMI (γ : Gm) (K : PySem.W.Frag) (m : MM (List D)) : TI := fun σ H R => ∃ ro F0 H0 F env rd ds rd', SRel γ K ro F0 H0 F env rd σ H ∧ m env rd = some (ds, rd') ∧
  ∀ J F' H', Stp γ.T ro F H F' H' → RdOk ro rd' F' H' → Wk K F' J ds → R J H'
abbrev PMI (γ : Gm) (X : Cx) (tg iter : Expr) (m : MM (List D)) : Prop := PI X tg iter (tMI γ X.K m)
def signsD (s : Str) : List D := s.cps.toList.map fun c => .str ⟨#[c]⟩
def iterD : D → Option (List D)
  | .tup ds => some ds
  | .lst ds => some ds
  | .str s => some (signsD s)
  | _ => none
def eIter (m : MM D) : MM (List D) := bind1 m fun d => lift (iterD d)
theorem wk_list {K : PySem.W.Frag} {F : Hp} {a : Addr} {vs : List V} {ds : List D} (h : F a = some (.lst vs)) (r : Rps K F ds vs) : Wk K F (Itl K a) ds := by
  refine ⟨fun i H hi e => ?_, fun H e => ⟨vs, sqL_of (e _ _ h), by rw [r.length]; exact Nat.le_refl _⟩, fun i H x H' F2 hi e e2 y => ?_⟩
  · rw [r.length] at hi
    exact ⟨vs, vs[i], sqL_of (e _ _ h), List.getElem?_eq_getElem hi⟩
  · obtain ⟨rfl, y⟩ := y
    obtain ⟨d, h1, h2⟩ := r.get' (y vs (sqL_of (e2 _ _ (e _ _ h))))
    exact ⟨F2, Alc.refl e2, d, h1, Rp.mono e d x h2⟩
theorem wk_tup {K : PySem.W.Frag} {F : Hp} {a : Addr} {vs : List V} {ds : List D} (h : SqT K F a vs) (r : Rps K F ds vs) : Wk K F (Itt K a) ds := by
  refine ⟨fun i H hi e => ?_, fun H e => ⟨vs, sqT_mono e h, by rw [r.length]; exact Nat.le_refl _⟩, fun i H x H' F2 hi e e2 y => ?_⟩
  · rw [r.length] at hi
    exact ⟨vs, vs[i], sqT_mono e h, List.getElem?_eq_getElem hi⟩
  · obtain ⟨rfl, y⟩ := y
    obtain ⟨d, h1, h2⟩ := r.get' (y vs (sqT_mono (e.trans e2) h))
    exact ⟨F2, Alc.refl e2, d, h1, Rp.mono e d x h2⟩
theorem wk_str {K : PySem.W.Frag} {F : Hp} {z : Str} : Wk K F (Its z) (signsD z) := by
  have hl : (signsD z).length = z.cps.size := by
    unfold signsD
    rw [List.length_map, Array.length_toList]
  refine ⟨fun i H hi e => ?_, fun H e => ?_, fun i H x H' F2 hi e e2 y => ?_⟩
  · rw [hl] at hi
    exact walk_str.goes i H hi trivial
  · rw [hl]
    exact walk_str.stops H trivial
  · rw [hl] at hi
    obtain ⟨rfl, c, h1, rfl⟩ := walk_str.yields i H x H' hi trivial y
    refine ⟨F2, Alc.refl e2, .str ⟨#[c]⟩, ?_, rp_str⟩
    unfold signsD
    rw [List.getElem?_map, Array.getElem?_toList, h1]
    rfl
theorem pmi_seq {tg e : Expr} {m : MM D} (he : PM γ X e m) : PMI γ X tg e (eIter m) := by
  refine ⟨fun pins s σ H R I h => ?_⟩
  obtain ⟨ro, F0, H0, F, env, rd, ds, rd', hS, hm, q⟩ := h
  obtain ⟨d, rd1, m1, hm⟩ := bind1_some hm
  obtain ⟨m2, e2⟩ := lift_some hm
  subst e2
  cases d with
  | tup es =>
    simp only [iterD, Option.some.injEq] at m2
    subst m2
    refine (pi_tup he).run pins s σ H R I ⟨ro, F0, H0, F, env, rd, _, _, hS, m1, fun v F' H' a r p => ?_⟩
    simp only [Rp] at p
    obtain ⟨b, vs, rfl, h2, h3⟩ := p
    exact ⟨b, rfl, ⟨vs, sqT_mono a.fh h2⟩, q _ F' H' a r (wk_tup h2 h3)⟩
  | lst es =>
    simp only [iterD, Option.some.injEq] at m2
    subst m2
    refine (pi_list he).run pins s σ H R I ⟨ro, F0, H0, F, env, rd, _, _, hS, m1, fun v F' H' a r p => ?_⟩
    simp only [Rp] at p
    obtain ⟨b, vs, rfl, h2, h3⟩ := p
    exact ⟨b, rfl, ⟨vs, sqL_of (a.fh _ _ h2)⟩, q _ F' H' a r (wk_list h2 h3)⟩
  | str z =>
    simp only [iterD, Option.some.injEq] at m2
    subst m2
    refine (pi_str he).run pins s σ H R I ⟨ro, F0, H0, F, env, rd, _, _, hS, m1, fun v F' H' a r p => ?_⟩
    simp only [Rp] at p
    exact ⟨z, p, q _ F' H' a r wk_str⟩
  | _ => simp [iterD] at m2
def rangeD (lo : Int) (n : Nat) : List D := (List.range n).map fun (i : Nat) => D.int (lo + (i : Int))
theorem wk_range {K : PySem.W.Frag} {F : Hp} {lo : Int} {n : Nat} : Wk K F (Itr lo n) (rangeD lo n) := by
  have hl : (rangeD lo n).length = n := by
    unfold rangeD
    rw [List.length_map, List.length_range]
  refine ⟨fun i H hi e => ?_, fun H e => ?_, fun i H x H' F2 hi e e2 y => ?_⟩
  · rw [hl] at hi
    exact hi
  · show n ≤ (rangeD lo n).length
    rw [hl]
    exact Nat.le_refl _
  · rw [hl] at hi
    obtain ⟨rfl, rfl⟩ := y
    refine ⟨F2, Alc.refl e2, .int (lo + i), ?_, rp_int⟩
    unfold rangeD
    rw [List.getElem?_map, List.getElem?_range hi]
    rfl
def okR (j : Int) : Bool := decide (j.natAbs < 4611686018427387904)
theorem okR_of {j : Int} (h : okR j = true) : -(2 ^ 62) ≤ j ∧ j < 2 ^ 62 := by
  have h' : j.natAbs < 4611686018427387904 := of_decide_eq_true h
  omega
def range1 : List D → Option (List D)
  | [.int j] => if okR j = true then some (rangeD 0 j.toNat) else none
  | _ => none
def range2 : List D → Option (List D)
  | [.int i, .int j] => if okR i = true ∧ okR j = true then some (rangeD i (j - i).toNat) else none
  | _ => none
def eRange (f : List D → Option (List D)) (m : MM (List D)) : MM (List D) := bind1 m fun ds => lift (f ds)
theorem pmi_range1 {tg a : Expr} {m : MM (List D)} {p pos : Pos} (hg : Gl X "range") (hm : X.mg "range" = none) (ha : PMA γ X [a] m) (hs : starEach [a] X.env = [(false, eval a X.env)] := by rfl) : PMI γ X tg (.Call (.Name "range" p) [a] [] pos) (eRange range1 m) := by
  refine ⟨fun pins s σ H R I h => ?_⟩
  obtain ⟨ro, F0, H0, F, env, rd, ds, rd', hS, hm1, q⟩ := h
  obtain ⟨as, rd1, m1, hm2⟩ := bind1_some hm1
  obtain ⟨m2, e2⟩ := lift_some hm2
  subst e2
  match as, m2 with
  | [.int j], m2 =>
    simp only [range1, Option.ite_none_right_eq_some, Option.some.injEq] at m2
    obtain ⟨hj, rfl⟩ := m2
    have hj : -(2 ^ 62) ≤ j ∧ j < 2 ^ 62 := okR_of hj
    refine (pi_range1 hg hm ha hs).run pins s σ H R I ⟨ro, F0, H0, F, env, rd, _, _, hS, m1, fun vs F' H' a r p => ?_⟩
    simp only [Rps, Rp] at p
    obtain ⟨v, r', rfl, rfl, rfl⟩ := p
    exact ⟨j, rfl, hj.1, hj.2, q _ F' H' a r wk_range⟩
theorem pmi_range2 {tg a b : Expr} {m : MM (List D)} {p pos : Pos} (hg : Gl X "range") (hm : X.mg "range" = none) (ha : PMA γ X [a, b] m) (hs : starEach [a, b] X.env = [(false, eval a X.env), (false, eval b X.env)] := by rfl) (hs2 : starEach [b] X.env = [(false, eval b X.env)] := by rfl) :
    PMI γ X tg (.Call (.Name "range" p) [a, b] [] pos) (eRange range2 m) := by
  refine ⟨fun pins s σ H R I h => ?_⟩
  obtain ⟨ro, F0, H0, F, env, rd, ds, rd', hS, hm1, q⟩ := h
  obtain ⟨as, rd1, m1, hm2⟩ := bind1_some hm1
  obtain ⟨m2, e2⟩ := lift_some hm2
  subst e2
  match as, m2 with
  | [.int i, .int j], m2 =>
    simp only [range2, Option.ite_none_right_eq_some, Option.some.injEq] at m2
    obtain ⟨⟨hi, hj⟩, rfl⟩ := m2
    have hi : -(2 ^ 62) ≤ i ∧ i < 2 ^ 62 := okR_of hi
    have hj : -(2 ^ 62) ≤ j ∧ j < 2 ^ 62 := okR_of hj
    refine (pi_range2 hg hm ha hs hs2).run pins s σ H R I ⟨ro, F0, H0, F, env, rd, _, _, hS, m1, fun vs F' H' a r p => ?_⟩
    simp only [Rps, Rp] at p
    obtain ⟨v, r', rfl, rfl, v2, r2, rfl, rfl, rfl⟩ := p
    exact ⟨i, j, rfl, ⟨hi.1, hi.2, hj.1, hj.2⟩, q _ F' H' a r wk_range⟩

/-! ### comprehensions -/
def wipeE (env : List SV) : List Nat → List SV
  | [] => env
  | v :: vs => (wipeE env vs).set v .un
theorem EnvOk.forget {K : PySem.W.Frag} {ro : Ro} {H0 F H : Hp} {env : List SV} {σ : L2.St} {i : Nat} (h : EnvOk γ K ro H0 F H env σ) : EnvOk γ K ro H0 F H (env.set i .un) (σ.set i none) := by
  refine ⟨by rw [List.length_set, List.length_set, h.len], fun j sv e => ?_, fun j k ds es p hjk e1 e2 s1 => ?_⟩
  · by_cases hij : i = j
    · subst hij
      have hl : i < env.length := by
        have := (List.getElem?_eq_some_iff.mp e).1
        rwa [List.length_set] at this
      rw [List.getElem?_set_self hl] at e
      cases e
      exact ⟨none, List.getElem?_set_self (by rw [← h.len]; exact hl), trivial⟩
    · rw [List.getElem?_set_ne hij] at e
      obtain ⟨o, q1, q2⟩ := h.ok j sv e
      exact ⟨o, by rw [List.getElem?_set_ne hij]; exact q1, q2⟩
  · have nj : i ≠ j := fun z => by
      subst z
      have hl : i < env.length := by
        have := (List.getElem?_eq_some_iff.mp e1).1
        rwa [List.length_set] at this
      rw [List.getElem?_set_self hl] at e1
      cases e1
    have nk : i ≠ k := fun z => by
      subst z
      have hl : i < env.length := by
        have := (List.getElem?_eq_some_iff.mp e2).1
        rwa [List.length_set] at this
      rw [List.getElem?_set_self hl] at e2
      cases e2
    rw [List.getElem?_set_ne nj] at e1 s1
    rw [List.getElem?_set_ne nk] at e2 ⊢
    exact h.sep j k ds es p hjk e1 e2 s1
theorem EnvOk.wipe {K : PySem.W.Frag} {ro : Ro} {H0 F H : Hp} {env : List SV} {σ : L2.St} (h : EnvOk γ K ro H0 F H env σ) : ∀ vs : List Nat, EnvOk γ K ro H0 F H (wipeE env vs) (L2.wipe σ vs)
  | [] => h
  | v :: vs => (EnvOk.wipe h vs).forget
theorem wipe_idem {σ : L2.St} (vs : List Nat) : L2.wipe (L2.wipe σ vs) vs = L2.wipe σ vs := by
  have aux : ∀ ws : List Nat, (∀ w ∈ ws, w ∈ vs) → L2.wipe (L2.wipe σ ws) vs = L2.wipe σ vs := by
    intro ws
    induction ws with
    | nil => intro _; rfl
    | cons w ws ih =>
      intro hw
      show L2.wipe ((L2.wipe σ ws).set w none) vs = _
      rw [wipe_set (hw w List.mem_cons_self), ih fun z hz => hw z (List.mem_cons_of_mem _ hz)]
  exact aux vs fun _ h => h
def lcGo (p : Pat) (t : MM Bool) (e : MM D) : List D → List SV → Rdr → Option (List D × Rdr)
  | [], _, rd => some ([], rd)
  | d :: ds, env, rd => (setPat p d env).bind fun env1 => (t env1 rd).bind fun b => if b.1 = true then (e env1 b.2).bind fun y => (lcGo p t e ds env y.2).map fun r => (y.1 :: r.1, r.2) else lcGo p t e ds env b.2
def eLc (mi : MM (List D)) (p : Pat) (vs : List Nat) (t : MM Bool) (e : MM D) : MM D := bind1 mi fun ds env rd => if ds.length ≤ sizeLine then (lcGo p t e ds (wipeE env vs) rd).map fun r => (.lst r.1, r.2) else none
def mYes : MM Bool := fun _ rd => some (true, rd)
abbrev PMTs (γ : Gm) (X : Cx) (ifs : List Expr) (m : MM Bool) : Prop := PTs X ifs (tMT γ X.K m)
theorem pts_imp {ifs : List Expr} {t t' : TT} (h : PTs X ifs t) (f : ∀ σ H Q, t' σ H Q → t σ H Q) : PTs X ifs t' := ⟨fun pins s σ H Q I q => h.run pins s σ H Q I (f _ _ _ q)⟩
theorem pmts_nil : PMTs γ X [] mYes := pts_imp pts_nil fun σ H Q ⟨ro, F0, H0, F, env, rd, z, rd', hS, hm, q⟩ => by
  cases hm
  exact q F H (Stp.refl hS.st.fh) hS.rd
theorem pmts_one {c : Expr} {m : MM Bool} (h : PMT γ X c m) : PMTs γ X [c] m := pts_one h
/-- one turn's state: the new list at L holds what the first i items gave -/
def LcI (K : PySem.W.Frag) (ro : Ro) (F1 H1 : Hp) (L : Addr) (p : Pat) (t : MM Bool) (e : MM D) (ds : List D) (env : List SV) (out : List D) (rdE : Rdr) (i : Nat) (H : Hp) : Prop :=
  ∃ F rd done rest acc, Stp γ.T ro F1 H1 F H ∧ RdOk ro rd F H ∧ F L = none ∧ H L = some (.lst acc) ∧ Rps K F done acc ∧ done.length ≤ i ∧ lcGo p t e (ds.drop i) env rd = some (rest, rdE) ∧ done ++ rest = out
theorem tM_lc {K : PySem.W.Frag} {mi : MM (List D)} {p : Pat} {vs : List Nat} {t : MM Bool} {e : MM D} {σ : L2.St} {H : Hp} {Q : VK} (hp : ∀ i ∈ p.slots, i ∈ vs) (h : tM γ K (eLc mi p vs t e) σ H Q) :
    tLc (tMI γ K mi) (gOf K p) (tMT γ K t) (tM γ K e) vs σ H Q := by
  obtain ⟨ro, F0, H0, F, env, rd, z, rdE, hS, hm, q⟩ := h
  obtain ⟨ds, rd1, m1, hm⟩ := bind1_some hm
  simp only [Option.ite_none_right_eq_some, Option.map_eq_some_iff, Prod.mk.injEq] at hm
  obtain ⟨hsz, ⟨out, rdE'⟩, hgo, rfl, rfl⟩ := hm
  refine ⟨ro, F0, H0, F, env, rd, ds, rd1, hS, m1, fun J F1 H1 a1 r1 w => fun L hL => ?_⟩
  have S1 := hS.step a1 r1
  have fL : F1 L = none := a1.fh.free hL
  have roL : ∀ c, ro ≠ some (L, c) := fun c z => by
    subst z
    rw [r1.2.1] at hL
    cases hL
  have st0 : Stp γ.T ro F1 H1 F1 (upd H1 L (.lst [])) :=
    ⟨Same.refl _, a1.fh.trans (same_new hL), fun b o hb _ _ => (same_new hL) b o hb, fun h => h.ext (same_new hL), fun _ _ q => q, fun b hb => (same_new hL).free hb, fun _ _ z => z⟩
  have rd0 : RdOk ro rd1 F1 (upd H1 L (.lst [])) := by
    cases ro with
    | none => trivial
    | some rc =>
      obtain ⟨r, c⟩ := rc
      exact ⟨r1.1, (same_new hL) _ _ r1.2.1, r1.2.2⟩
  refine ⟨fun i m H => m = ds.length - i ∧ i ≤ ds.length ∧ LcI K ro F1 H1 L p t e ds (wipeE env vs) out rdE' i H, ⟨ds.length, by simp, Nat.zero_le _, F1, rd1, [], out, [], st0, rd0, fL, upd_same, Rps.nil, Nat.le_refl _, hgo, rfl⟩, ?_⟩
  rintro i m Hi ⟨rfl, hi, Fi, rdi, done, rest, acc, sti, roi, fLi, hLi, pi, hdl, gi, ei⟩
  by_cases hlt : i < ds.length
  · have e1 : ds.drop i = ds[i] :: ds.drop (i + 1) := List.drop_eq_getElem_cons hlt
    rw [e1] at gi
    simp only [lcGo] at gi
    obtain ⟨env1, g1, gi⟩ := Option.bind_eq_some_iff.mp gi
    obtain ⟨⟨b, rdb⟩, g2, gi⟩ := Option.bind_eq_some_iff.mp gi
    refine .inr ⟨w.go i Hi hlt (sti.ff.trans sti.fh), LcI K ro F1 H1 L p t e ds (wipeE env vs) out rdE' (i + 1), fun H' h' => ⟨ds.length - (i + 1), by omega, rfl, hlt, h'⟩, fun x Hx hy => ?_⟩
    obtain ⟨F3, al, d', hd', px⟩ := w.yld i Hi x Hx Fi hlt sti.ff sti.fh hy
    rw [List.getElem?_eq_getElem hlt] at hd'
    cases hd'
    have S3 : SRel γ K ro F0 H0 F3 env rdi σ Hx := S1.step (sti.trans al.stp) (roi.alc al)
    refine gOf_ok (S3.env.wipe vs) al.fh px g1 fun σ2 e2 e3 => ⟨?_, ?_⟩
    · rw [e3 vs hp, wipe_idem]
    · have S4 : SRel γ K ro F0 H0 F3 env1 rdi σ2 Hx := ⟨S3.st, S3.rd, e2, S3.tab⟩
      refine ⟨ro, F0, H0, F3, env1, rdi, b, rdb, S4, g2, fun F4 H4 a4 r4 => ?_⟩
      have st4 : Stp γ.T ro F1 H1 F4 H4 := (sti.trans al.stp).trans a4
      have hL3 : Hx L = some (.lst acc) := al.hh _ _ hLi
      have hL4 : H4 L = some (.lst acc) := a4.hh _ _ hL3 roL (fun _ z => by cases z)
      have fL3 : F3 L = none := al.fz L (by rw [hLi]; exact fun z => by cases z) fLi
      have fL4 : F4 L = none := a4.fz L (by rw [hL3]; exact fun z => by cases z) fL3
      cases b with
      | false =>
        simp only [Bool.false_eq_true, if_false] at gi ⊢
        exact ⟨F4, rdb, done, rest, acc, st4, r4, fL4, hL4, Rps.mono (al.ff.trans a4.ff) _ _ pi, by omega, gi, ei⟩
      | true =>
        simp only [if_true] at gi ⊢
        obtain ⟨⟨y, rdy⟩, g3, gi⟩ := Option.bind_eq_some_iff.mp gi
        simp only [Option.map_eq_some_iff, Prod.mk.injEq] at gi
        obtain ⟨⟨rest', rdE2⟩, g4, rfl, rfl⟩ := gi
        refine ⟨ro, F0, H0, F4, env1, rdb, y, rdy, S4.step a4 r4, g3, fun yv F5 H5 a5 r5 p5 => ?_⟩
        have hL5 : H5 L = some (.lst acc) := a5.hh _ _ hL4 roL (fun _ z => by cases z)
        have fL5 : F5 L = none := a5.fz L (by rw [hL4]; exact fun z => by cases z) fL4
        refine ⟨acc, hL5, ?_, F5, rdy, done ++ [y], rest', acc ++ [yv], ?_, ?_, fL5, upd_same, ?_, ?_, g4, ?_⟩
        · rw [← pi.length]
          omega
        · have st5 := st4.trans a5
          refine ⟨st5.ff, fun b o hb => ?_, fun b o hb hn ht => ?_, fun h => tabs_lst (st5.tb h) (.inr ⟨_, hL5⟩), st5.nt, fun b hb => ?_, st5.fz⟩
          · have nb : b ≠ L := fun z => by
              subst z
              rw [fL5] at hb
              cases hb
            rw [upd_ne nb]
            exact st5.fh b o hb
          · have nb : b ≠ L := fun z => by
              subst z
              rw [hL] at hb
              cases hb
            rw [upd_ne nb]
            exact st5.hh b o hb hn ht
          · by_cases nb : b = L
            · subst nb
              rw [upd_same] at hb
              cases hb
            · rw [upd_ne nb] at hb
              exact st5.hn b hb
        · cases ro with
          | none => trivial
          | some rc =>
            obtain ⟨r, c⟩ := rc
            refine ⟨r5.1, ?_, r5.2.2⟩
            rw [upd_ne (fun z => roL c (by rw [z]))]
            exact r5.2.1
        · exact (Rps.mono ((al.ff.trans a4.ff).trans a5.ff) _ _ pi).append (Rps.cons p5 Rps.nil)
        · rw [List.length_append]
          simp only [List.length_cons, List.length_nil]
          omega
        · rw [List.append_assoc]
          exact ei
  · have ie : i = ds.length := by omega
    subst ie
    rw [List.drop_length] at gi
    simp only [lcGo, Option.some.injEq, Prod.mk.injEq] at gi
    obtain ⟨rfl, rfl⟩ := gi
    rw [List.append_nil] at ei
    subst ei
    refine .inl ⟨w.stop Hi (sti.ff.trans sti.fh), ?_⟩
    -- the list is laid down for good
    have sameF : Same Fi (upd Fi L (.lst acc)) := same_new fLi
    have ne : ∀ b o, H1 b = some o → b ≠ L := fun b o hb z => by
      subst z
      rw [hL] at hb
      cases hb
    refine q (.ref L) (upd Fi L (.lst acc)) Hi ?_ ?_ (Rps.lst upd_same (Rps.mono sameF _ _ pi))
    · refine a1.trans ⟨sti.ff.trans sameF, fun b o hb => ?_, sti.hh, sti.tb, (fun b ps q => by
      by_cases nb : b = L
      · subst nb
        rw [upd_same] at q
        cases q
      · rw [upd_ne nb] at q
        exact sti.nt b ps q), sti.hn, fun b hb hf => ?_⟩
      · by_cases nb : b = L
        · subst nb
          rw [upd_same] at hb
          rw [← hb]
          exact hLi
        · rw [upd_ne nb] at hb
          exact sti.fh b o hb
      · cases hq : H1 b with
        | none => exact absurd hq hb
        | some o =>
          rw [upd_ne (ne b o hq)]
          exact sti.fz b hb hf
    · cases ro with
      | none => trivial
      | some rc =>
        obtain ⟨r, c⟩ := rc
        refine ⟨?_, roi.2.1, sameF _ _ roi.2.2⟩
        rw [upd_ne (fun z => roL c (by rw [z]))]
        exact roi.1
theorem pm_lc {elt tg iter : Expr} {ifs : List Expr} {scope : Scope} {own : List (Str × Nat)} {vs : List Nat} {pos : Pos} {mi : MM (List D)} {p : Pat} {t : MM Bool} {e : MM D} (hc : X.calm = true) (hN : X.N.Nodup) (hi : PMI γ X tg iter mi) (ok : BlkOk X.N X.env.scope scope own)
    (hv : own.map (·.2) = vs) (hp : ∀ i ∈ p.slots, i ∈ vs)
    (hg : ∀ (s : Shared) (H : Hp) (C : Addr) (cl : List (Str × Addr)) (fp : List Addr), PG (X.blk s H scope (compEnvC scope cl C X.env) fp) tg (gOf X.K p)) (ht : ∀ (s : Shared) (H : Hp) (C : Addr) (cl : List (Str × Addr)) (fp : List Addr), PMTs γ (X.blk s H scope (compEnvC scope cl C X.env) fp) ifs t)
    (he : ∀ (s : Shared) (H : Hp) (C : Addr) (cl : List (Str × Addr)) (fp : List Addr), PM γ (X.blk s H scope (compEnvC scope cl C X.env) fp) elt e) (hs : ∀ x, foldedSetIterable iter X.env x = pure x := by intro _; rfl) :
    PM γ X (.ListComp elt [⟨tg, iter, ifs, 0⟩] scope pos) (eLc mi p vs t e) := by
  subst hv
  exact pe_imp (pe_lc hc hN hi ok hg ht he hs) fun _ _ _ h => tM_lc hp h
/-- x = [..] on one line -/
def sSet (i : Nat) (m : MM D) : MM Fl := bind1 m fun d env rd => some (.nx (env.set i (.val d)), rd)
theorem tMS_set {K : PySem.W.Frag} {i : Nat} {m : MM D} {te : TE} (hi : ∀ σ H Q, tM γ K m σ H Q → te σ H Q) {D : Ends} {σ : L2.St} {H : Hp} (h : tMS γ W K (sSet i m) D σ H) : tAsg te (gName i) D σ H := by
  obtain ⟨ro, F0, H0, F, env, rd, fl, rd', hS, hm, q⟩ := h
  obtain ⟨d, rd1, m1, hm⟩ := bind1_some hm
  cases hm
  refine hi _ _ _ ⟨ro, F0, H0, F, env, rd, d, _, hS, m1, fun v F' H' a r p => ?_⟩
  exact q _ F' H' ((hS.step a r).set p)
theorem pms_setLc {i : Nat} {y : Str} {py : Pos} {elt tg iter : Expr} {ifs : List Expr} {scope : Scope} {own : List (Str × Nat)} {vs : List Nat} {pos spos : Pos} {mi : MM (List D)} {p : Pat} {t : MM Bool} {e : MM D} (hc : X.calm = true) (hN : X.N.Nodup) (hy : X.N[i]? = some y) (hyl : X.env.scope.names.lookup y = some .local)
    (hsw : swapsWith (.ListComp elt [⟨tg, iter, ifs, 0⟩] scope pos) (some (.Name y py)) spos.line X.env = pure true) (hi : PMI γ X tg iter mi) (ok : BlkOk X.N X.env.scope scope own) (hv : own.map (·.2) = vs) (hp : ∀ i ∈ p.slots, i ∈ vs)
    (hg : ∀ (s : Shared) (H : Hp) (C : Addr) (cl : List (Str × Addr)) (fp : List Addr), PG (X.blk s H scope (compEnvC scope cl C X.env) fp) tg (gOf X.K p)) (ht : ∀ (s : Shared) (H : Hp) (C : Addr) (cl : List (Str × Addr)) (fp : List Addr), PMTs γ (X.blk s H scope (compEnvC scope cl C X.env) fp) ifs t)
    (he : ∀ (s : Shared) (H : Hp) (C : Addr) (cl : List (Str × Addr)) (fp : List Addr), PM γ (X.blk s H scope (compEnvC scope cl C X.env) fp) elt e) (hs : ∀ x, foldedSetIterable iter X.env x = pure x := by intro _; rfl) :
    PMS γ W X (.Assign [.Name y py] (.ListComp elt [⟨tg, iter, ifs, 0⟩] scope pos) spos) (sSet i (eLc mi p vs t e)) := by
  subst hv
  exact ps_imp (ps_setLc hc hN hy hyl hsw hi ok hg ht he hs) fun D σ H h => tMS_set (fun _ _ _ q => tM_lc hp q) h
end
end FW

set_option Elab.async false
set_option linter.all false
set_option maxRecDepth 100000
set_option maxHeartbeats 1000000
namespace FW
open PySem PySem.Spec PyProof.Rows L2
variable {γ : Gm} {W : WX} {g : Bool}

/-! ### what a def is worth: its arguments' data to its answer's data, the reader going through -/
abbrev FM := List D → Rdr → Option (D × Rdr)
def ArgR (K : PySem.W.Frag) (hasR : Bool) (ro : Ro) (F : Hp) (ds : List D) (vs : List V) : Prop := match hasR with
  | false => Rps K F ds vs
  | true => ∃ r c ws, ro = some (r, c) ∧ vs = .ref r :: ws ∧ Rps K F ds ws
def spM (γ : Gm) (K : PySem.W.Frag) (hasR : Bool) (n : Nat) (fm : FM) : Sp := fun vs H Q _ => ∃ ro F ds rd d rd', TabF γ.T F H ∧ Same F H ∧ RdOk ro rd F H ∧ ArgR K hasR ro F ds vs ∧ ds.length = n ∧ fm ds rd = some (d, rd') ∧
  ∀ v F' H', Stp γ.T ro F H F' H' → RdOk ro rd' F' H' → Rp K F' d v → Q v H'
structure FnM (g : Bool) (P : Program) (w : World) (K : PySem.W.Frag) (mg : Str → Option Value) (base : Heap) (k : Nat) (f : Addr) (fd : FuncData) (ps : List Str) (sp : Sp) : Prop where
  len : ∀ vs H Q E, sp vs H Q E → vs.length = ps.length
  run : ∀ (A : Around) (outer : List Env) (s : Shared) (H : Hp) (args : Args) (us : List Value) (vs : List V) (Q : VK) (E : XK), Room k A → (g = true → A.guards = some []) → Env0 P w K mg base A outer s H →
    BindsTo s fd args (ps.zip us) → Vals vs us → sp vs H Q E → codeAny (model P w) A (.call (.ref f) args) (CR (L2.CX P w) outer P w H s Q E) s
theorem FnM.mono {P : Program} {w : World} {K : PySem.W.Frag} {mg : Str → Option Value} {base : Heap} {j k : Nat} {f : Addr} {fd : FuncData} {ps : List Str} {sp : Sp} (G : FnM g P w K mg base j f fd ps sp) (h : j ≤ k) : FnM g P w K mg base k f fd ps sp :=
  ⟨G.len, fun A outer s H args us vs Q E hr => G.run A outer s H args us vs Q E (hr.mono h)⟩

def initE (hasR : Bool) (ds : List D) (k : Nat) : List SV := (if hasR = true then [SV.rdr] else []) ++ ds.map SV.val ++ List.replicate k SV.un
def flFin : Fl × Rdr → Option (D × Rdr)
  | (.ret d, rd) => some (d, rd)
  | (.nx _, rd) => some (.non, rd)
  | (.own ds, rd) => some (.lst ds, rd)
  | _ => none
/-- the plain function of a def's body -/
def mFn (n : Nat) (hasR : Bool) (k : Nat) (m : MM Fl) : FM := fun ds rd => if ds.length = n then (m (initE hasR ds k) rd).bind flFin else none

/-- a new list that nothing else holds is laid down -/
theorem frz_new {K : PySem.W.Frag} {ro : Ro} {rd : Rdr} {F H F' H' : Hp} {p : Addr} {vs : List V} {ds : List D} (a : Stp γ.T ro F H F' H') (h1 : H p = none) (h2 : F' p = none) (h3 : H' p = some (.lst vs)) (h4 : Rps K F' ds vs) (r : RdOk ro rd F' H') :
    Stp γ.T ro F H (upd F' p (.lst vs)) H' ∧ Rp K (upd F' p (.lst vs)) (.lst ds) (.ref p) := by
  have sf : Same F' (upd F' p (.lst vs)) := same_new h2
  refine ⟨⟨a.ff.trans sf, fun b o hb => ?_, a.hh, a.tb, (fun b ps q => by
    by_cases hbp : b = p
    · subst hbp
      rw [upd_same] at q
      cases q
    · rw [upd_ne hbp] at q
      exact a.nt b ps q), a.hn, fun b hb hf => ?_⟩, ?_⟩
  · by_cases hbp : b = p
    · subst hbp
      rw [upd_same] at hb
      rw [← hb]
      exact h3
    · rw [upd_ne hbp] at hb
      exact a.fh b o hb
  · rw [upd_ne (fun z => by subst z; exact hb h1)]
    exact a.fz b hb hf
  · simp only [Rp]
    exact ⟨p, vs, rfl, upd_same, Rps.mono sf _ _ h4⟩
theorem RdOk.alcF {ro : Ro} {rd : Rdr} {F H F' H' : Hp} {p : Addr} {o : HO} (h : RdOk ro rd F' H') (a : Stp γ.T ro F H (upd F' p o) H') (h2 : F' p = none) (np : ∀ c, ro ≠ some (p, c)) : RdOk ro rd (upd F' p o) H' := by
  cases ro with
  | none => trivial
  | some rc =>
    obtain ⟨r, c⟩ := rc
    refine ⟨?_, h.2.1, same_new h2 _ _ h.2.2⟩
    rw [upd_ne (fun z => np c (by rw [z]))]
    exact h.1
section
variable {P : Program} {w : World} {K : PySem.W.Frag} {mg : Str → Option Value} {base : Heap}
theorem env_args {ro : Ro} {F H : Hp} : ∀ {ds : List D} {vs : List V}, Rps K F ds vs → ∀ (k : Nat) (i : Nat) (sv : SV), (ds.map SV.val ++ List.replicate k SV.un)[i]? = some sv → ∃ o : Option V, (vs.map some ++ List.replicate k none)[i]? = some o ∧ SlotOk γ K ro H F H sv o
  | [], vs, h, k, i, sv, e => by
    simp only [Rps] at h
    subst h
    simp only [List.map_nil, List.nil_append] at e ⊢
    have hi : i < k := by
      have := (List.getElem?_eq_some_iff.mp e).1
      simpa using this
    rw [List.getElem?_replicate, if_pos hi] at e ⊢
    cases e
    exact ⟨none, rfl, trivial⟩
  | d :: ds, vs, h, k, 0, sv, e => by
    simp only [Rps] at h
    obtain ⟨v, r, rfl, h1, _⟩ := h
    simp at e
    subst e
    exact ⟨some v, rfl, v, rfl, h1⟩
  | d :: ds, vs, h, k, i + 1, sv, e => by
    simp only [Rps] at h
    obtain ⟨v, r, rfl, _, h2⟩ := h
    obtain ⟨o, q1, q2⟩ := env_args (ro := ro) (H := H) h2 k i sv (by simpa using e)
    exact ⟨o, by simpa using q1, q2⟩
theorem no_own {hasR : Bool} {ds : List D} {k i : Nat} {es : List D} (h : (initE hasR ds k)[i]? = some (.own es)) : False := by
  have hm := List.mem_of_getElem? h
  unfold initE at hm
  rcases List.mem_append.mp hm with hm | hm
  · rcases List.mem_append.mp hm with hm | hm
    · cases hasR <;> simp at hm
    · obtain ⟨d, _, e⟩ := List.mem_map.mp hm
      cases e
  · have := List.eq_of_mem_replicate hm
    cases this
theorem env_start {hasR : Bool} {ro : Ro} {F H : Hp} {ds : List D} {vs : List V} {N : List Str} {k : Nat} (h : ArgR K hasR ro F ds vs) (hk : N.length - vs.length = k) : EnvOk γ K ro H F H (initE hasR ds k) (L2.start N vs) := by
  unfold L2.start
  rw [hk]
  refine ⟨?_, ?_, fun i j es fs p _ e1 _ _ => (no_own e1).elim⟩
  · cases hasR with
    | false =>
      have h' : Rps K F ds vs := h
      simp [initE, h'.length]
    | true =>
      obtain ⟨r, c, ws, _, rfl, h'⟩ := h
      simp [initE, h'.length]
  · cases hasR with
    | false =>
      have h' : Rps K F ds vs := h
      simpa [initE] using env_args (ro := ro) (H := H) h' k
    | true =>
      obtain ⟨r, c, ws, hro, rfl, h'⟩ := h
      intro i sv e
      cases i with
      | zero =>
        have e' : some SV.rdr = some sv := by simpa [initE] using e
        cases e'
        exact ⟨some (.ref r), by simp, r, c, hro, rfl⟩
      | succ i =>
        obtain ⟨o, q1, q2⟩ := env_args (ro := ro) (H := H) h' k i sv (by simpa [initE] using e)
        exact ⟨o, by simpa using q1, q2⟩

/-- a def keeps its promise, by a reading of its body -/
theorem fnm_gen {x qual : Str} {st : Stmt} {f : Addr} {fd : FuncData} {N ps : List Str} {k : Nat} {sp : Sp} (G : Fun K x qual st f fd) (S : FnScope N ps (defScope st)) (arity : ∀ vs H Q E, sp vs H Q E → vs.length = ps.length)
    (hbody : ∀ (cdv : Value) (A : Around) (outer : List Env) (s : Shared) (H : Hp) (vs : List V) (Q : VK) (E : XK), Room k (A.deeper (envOfC qual (defScope st) s.heap.objs.size f cdv)) → (g = true → A.guards = some []) → sp vs H Q E →
      ∃ t, PSs (cxOf (L2.CX P w) P w K mg base N qual (defScope st) f cdv A outer s H E) (defBody st) t ∧ t { nx := fun _ H' => Q .non H', rt := Q } (L2.start N vs) H) :
    FnM g P w K mg base (k + 1) f fd ps sp := by
  obtain ⟨oc, od, kV, doc, pm, an, cdv, ct, osl, rfl, lk, hcd⟩ := G.ex
  refine ⟨arity, ?_⟩
  intro A outer s H args us vs Q E hroom hguard env0 bind vals hsp
  have count := arity _ _ _ _ hsp
  have inK : K.In s.heap := env0.mod.kin.keeps fun b o e => (env0.bs b o e).1
  have kinds : ∀ y ∈ ps.zip us, (defScope st).names.lookup y.1 = some .local ∨ ((defScope st).names.lookup y.1 = some .cell ∧ ((cellsFrom (s.heap.objs.size + 1) (defScope st).names []).lookup y.1).isSome = true) := by
    rintro ⟨a, b⟩ hy
    cases S.par a (List.of_mem_zip hy).1 with
    | inl q => exact .inl q
    | inr q => exact .inr ⟨q, PySem.W.cellsFrom_some _ _ _ (.inl q)⟩
  refine codeAny_call_function hroom.depth (inK _ _ lk) rfl S.co S.gen rfl (PySem.W.codeRec_of inK hcd) ?_
  refine bind _ _ _ _ ?_
  refine wpAny_newFunctionEnv_cells S.kind kinds ?_
  intro env henv s1 entered
  subst henv
  refine ⟨(env0.mod.nolimit.keeps fun b o e => (env0.bs b o e).1).keeps entered.toInCall.keep, codeAny_func ?_⟩
  obtain ⟨t, body, hq⟩ := hbody cdv A outer s H vs Q E (hroom.deeper _) hguard hsp
  have I : Inv (cxOf (L2.CX P w) P w K mg base N qual (defScope st) f cdv A outer s H E) [] (L2.start N vs) H s1 := inv_start S hroom.hd env0 count vals entered
  refine wpAny_mono (body.run [] s1 (L2.start N vs) H _ I hq) (fun out s' hs => ?_) (fun e s' hs => hs)
  have close : ∀ {σ' : L2.St} {H' : Hp} {v : V} {u : Value}, Inv (cxOf (L2.CX P w) P w K mg base N qual (defScope st) f cdv A outer s H E) [] σ' H' s' → RelV v u → Q v H' → CE outer P w H s Q u s' :=
    fun J rv qv => ⟨_, _, J.os, J.bare, J.base, J.hok, rv, qv⟩
  cases out with
  | ret u =>
    obtain ⟨v, σ', H', J, rv, qv⟩ := hs
    exact close J rv qv
  | next =>
    obtain ⟨σ', H', J, qv⟩ := hs
    exact close (v := V.non) (u := Value.none) J rfl qv
  | brk =>
    obtain ⟨_, _, _, no⟩ := hs
    exact no.elim
  | cont =>
    obtain ⟨_, _, _, no⟩ := hs
    exact no.elim
theorem FnM.of {k : Nat} {f : Addr} {fd : FuncData} {ps : List Str} {sp : Sp} (G : FnOk P w K mg base (L2.CX P w) k f fd ps sp) : FnM g P w K mg base k f fd ps sp :=
  ⟨G.len, fun A outer s H args us vs Q E hr _ => G.run A outer s H args us vs Q E hr⟩
theorem arity_of {hasR : Bool} {n : Nat} {K : PySem.W.Frag} {ro : Ro} {F : Hp} {ds : List D} {vs : List V} (hA : ArgR K hasR ro F ds vs) (hl : ds.length = n) : vs.length = (if hasR = true then n + 1 else n) := by
  cases hasR with
  | false =>
    have hA' : Rps K F ds vs := hA
    rw [← hA'.length, hl]
    rfl
  | true =>
    obtain ⟨r, c, ws, _, rfl, hA'⟩ := hA
    rw [List.length_cons, ← hA'.length, hl]
    rfl
/-- .. by the plain function of its body -/
theorem fnm_of (hlam : γ.lam = none) {x qual : Str} {st : Stmt} {f : Addr} {fd : FuncData} {N ps : List Str} {k n : Nat} {hasR : Bool} {m : MM Fl} (G : Fun K x qual st f fd) (S : FnScope N ps (defScope st)) (hn : ps.length = (if hasR = true then n + 1 else n))
    (hbody : ∀ (cdv : Value) (A : Around) (outer : List Env) (s : Shared) (H : Hp) (E : XK), Room k (A.deeper (envOfC qual (defScope st) s.heap.objs.size f cdv)) → (g = true → A.guards = some []) →
      PMSs γ (fun _ _ _ _ => False) (cxOf (L2.CX P w) P w K mg base N qual (defScope st) f cdv A outer s H E).nox (defBody st) m) :
    FnM g P w K mg base (k + 1) f fd ps (spM γ K hasR n (mFn n hasR (N.length - ps.length) m)) := by
  have arity : ∀ vs H Q E, spM γ K hasR n (mFn n hasR (N.length - ps.length) m) vs H Q E → vs.length = ps.length := by
    rintro vs H Q E ⟨ro, F, ds, rd, d, rd', _, _, _, hA, hl, _, _⟩
    rw [hn, arity_of hA hl]
  refine fnm_gen G S arity fun cdv A outer s H vs Q E hr hguard hsp => ⟨_, (hbody cdv A outer s H E hr hguard).nox, ?_⟩
  have count := arity _ _ _ _ hsp
  obtain ⟨ro, F, ds, rd, d, rd', htab, sf, hro, hA, hl, hm, q⟩ := hsp
  unfold mFn at hm
  rw [if_pos hl] at hm
  obtain ⟨⟨fl, rdf⟩, hm, hf⟩ := Option.bind_eq_some_iff.mp hm
  refine ⟨ro, F, H, F, _, rd, fl, rdf, ⟨Stp.refl sf, hro, env_start hA (by rw [count]), ⟨htab, LamOk.off hlam⟩⟩, hm, ?_⟩
  cases fl with
  | nx env =>
    cases hf
    exact fun σ F' H' hS => q .non F' H' hS.st hS.rd rp_non
  | ret z =>
    cases hf
    exact fun v F' H' a r p => q v F' H' a r p
  | own es =>
    cases hf
    exact fun p vs F' H' a r h1 h2 h3 h4 => by
      obtain ⟨a2, p2⟩ := frz_new a h1 h2 h3 h4 r
      exact q _ _ H' a2 (r.alcF a2 h2 fun c z => by
        subst z
        have := hro.2.1
        rw [h1] at this
        cases this) p2
  | brk env => cases hf
  | ct env => cases hf
  | exc env c fs => cases hf
end

section
variable {X : Cx} {k : Nat} {f : Addr} {fd : FuncData} {ps : List Str} {n : Nat} {fm : FM} {x : Str} {p pos : Pos} {e : Expr} {es : List Expr}
/-- the callee runs -/
theorem run_fnm {hasR : Bool} {pins : List (Addr × Obj)} {σ : L2.St} {H : Hp} {s : Shared} {Q : VK} {us : List Value} {vs : List V} (G : FnM g X.prog X.w X.K X.mg X.base k f fd ps (spM γ X.K hasR n fm)) (hr : Room k X.A) (hgd : g = true → X.A.guards = some []) (hb : Binds X.K fd ps [])
    (I : Inv X pins σ H s) (r : Vals vs us) (h : spM γ X.K hasR n fm vs H Q L2.E0) : wpAny (model X.prog X.w) X.A (call (.ref f) us) (EP X pins σ Q) X.xe s := by
  have hl : (us ++ []).length = ps.length := by
    rw [List.append_nil, ← r.length]
    exact G.len _ _ _ _ h
  have hb' := hb s us I.kIn hl
  rw [List.append_nil] at hb'
  refine wpAny_call (codeAny_mono (G.run X.A X.stack s H ⟨us, []⟩ us vs Q L2.E0 hr hgd I.env0 hb' r h) ?_)
  intro res s' hq
  match res, hq with
  | .error e, hq => exact (passL pins σ H s e s' I hq)
  | .ok (.ret u), hq => exact I.after hq
  | .ok .next, hq => exact hq.elim
  | .ok .brk, hq => exact hq.elim
  | .ok .cont, hq => exact hq.elim
def eFn (fm : FM) (n : Nat) (a : MM (List D)) : MM D := bind1 a fun ds _ rd => if ds.length = n then fm ds rd else none
theorem pm_call {ma : MM (List D)} (G : FnM g X.prog X.w X.K X.mg X.base k f fd ps (spM γ X.K false n fm)) (hr : Room k X.A) (hgd : g = true → X.A.guards = some []) (hg : Gl X x) (hm : X.mg x = some (.ref f)) (hk : PySem.W.keepIn X.K (.ref f) = true) (hb : Binds X.K fd ps [])
    (ha : PMA γ X (e :: es) ma) (hdb : (x == ("__debug__" : Str)) = false := by decide) (he : starEach (e :: es) X.env = (false, eval e X.env) :: starEach es X.env := by rfl) (hpl : (backTo pos (starEach es X.env)).any (·.1) = false := by rfl) :
    PM γ X (.Call (.Name x p) (e :: es) [] pos) (eFn fm n ma) := by
  refine ⟨fun pins s σ H Q I h => ?_⟩
  obtain ⟨ro, F0, H0, F, env, rd, z, rd', hS, hz, q⟩ := h
  obtain ⟨ds, rd1, m1, hz⟩ := bind1_some hz
  simp only [Option.ite_none_right_eq_some] at hz
  obtain ⟨hl, hz⟩ := hz
  refine wpAny_Call_Name_kw (ld_glob I hg hm ?_ hdb)
  have args := ha.run pos pins s σ H (fun vs H1 => spM γ X.K false n fm vs H1 Q L2.E0) I ⟨ro, F0, H0, F, env, rd, ds, rd1, hS, m1, fun vs F1 H1 a1 r1 p1 =>
    ⟨ro, F1, ds, rd1, z, rd', (hS.step a1 r1).tab.tf, a1.fh, r1, p1, hl, hz, fun v F2 H2 a2 r2 p2 => q v F2 H2 (a1.trans a2) r2 p2⟩⟩
  refine PySem.W.callWith_K (h₀ := X.base) I.ok.mod.kin hk (thn args ?_) he hpl
  rintro us s1 ⟨vs, H1, I1, rv, sp⟩
  exact ⟨I1.kIn, run_fnm G hr hgd hb I1 rv sp⟩
theorem pm_call0 (G : FnM g X.prog X.w X.K X.mg X.base k f fd ps (spM γ X.K false 0 fm)) (hr : Room k X.A) (hgd : g = true → X.A.guards = some []) (hg : Gl X x) (hm : X.mg x = some (.ref f)) (hk : PySem.W.keepIn X.K (.ref f) = true) (hb : Binds X.K fd ps [])
    (hdb : (x == ("__debug__" : Str)) = false := by decide) : PM γ X (.Call (.Name x p) [] [] pos) (eFn fm 0 aNil) := by
  refine ⟨fun pins s σ H Q I h => ?_⟩
  obtain ⟨ro, F0, H0, F, env, rd, z, rd', hS, hz, q⟩ := h
  obtain ⟨ds, rd1, m1, hz⟩ := bind1_some hz
  cases m1
  simp only [List.length_nil, if_true] at hz
  refine wpAny_Call_Name_kw (ld_glob I hg hm ?_ hdb)
  have arg : ArgR X.K false ro F [] [] := Rps.nil (K := X.K) (F := F)
  exact PySem.W.callWith_K0 I.kIn hk (run_fnm (vs := []) (us := []) G hr hgd hb I .nil ⟨ro, F, [], rd, z, rd', hS.tab.tf, hS.st.fh, hS.rd, arg, rfl, hz, q⟩)
/-- f(reader, ..) -/
def eFnR (fm : FM) (n i : Nat) (a : MM (List D)) : MM D := fun env rd => match env[i]? with
  | some .rdr => (a env rd).bind fun q => if q.1.length = n then fm q.1 q.2 else none
  | _ => none
theorem pm_callR {i : Nat} {y : Str} {p2 : Pos} {ma : MM (List D)} (G : FnM g X.prog X.w X.K X.mg X.base k f fd ps (spM γ X.K true n fm)) (hr : Room k X.A) (hgd : g = true → X.A.guards = some []) (hg : Gl X x) (hm : X.mg x = some (.ref f)) (hk : PySem.W.keepIn X.K (.ref f) = true) (hb : Binds X.K fd ps [])
    (hv : PE X (.Name y p2) (tVar i)) (ha : PMA γ X es ma) (hdb : (x == ("__debug__" : Str)) = false := by decide) (he : starEach (.Name y p2 :: es) X.env = (false, eval (.Name y p2) X.env) :: starEach es X.env := by rfl) (hpl : (backTo pos (starEach es X.env)).any (·.1) = false := by rfl) :
    PM γ X (.Call (.Name x p) (.Name y p2 :: es) [] pos) (eFnR fm n i ma) := by
  refine ⟨fun pins s σ H Q I h => ?_⟩
  obtain ⟨ro, F0, H0, F, env, rd, z, rd', hS, hz, q⟩ := h
  unfold eFnR at hz
  split at hz
  · rename_i hi
    obtain ⟨⟨ds, rd1⟩, m1, hz⟩ := Option.bind_eq_some_iff.mp hz
    simp only [Option.ite_none_right_eq_some] at hz
    obtain ⟨hl, hz⟩ := hz
    obtain ⟨o, s1, r, c, hro, rfl⟩ := hS.env.ok i _ hi
    refine wpAny_Call_Name_kw (ld_glob I hg hm ?_ hdb)
    have args := (pa_cons hv ha he).run pos pins s σ H (fun vs H1 => spM γ X.K true n fm vs H1 Q L2.E0) I ⟨.ref r, s1, ro, F0, H0, F, env, rd, ds, rd1, hS, m1, fun vs F1 H1 a1 r1 p1 =>
      ⟨ro, F1, ds, rd1, z, rd', (hS.step a1 r1).tab.tf, a1.fh, r1, ⟨r, c, vs, hro, rfl, p1⟩, hl, hz, fun v F2 H2 a2 r2 p2 => q v F2 H2 (a1.trans a2) r2 p2⟩⟩
    refine PySem.W.callWith_K (h₀ := X.base) I.ok.mod.kin hk (thn args ?_) he hpl
    rintro us s1 ⟨vs, H1, I1, rv, sp⟩
    exact ⟨I1.kIn, run_fnm G hr hgd hb I1 rv sp⟩
  · cases hz
end

section
variable {X : Cx}
/-! ### statements -/
def sNx : MM Fl := fun env rd => some (.nx env, rd)
def sSeq (a b : MM Fl) : MM Fl := fun env rd => (a env rd).bind fun q => match q.1 with
  | .nx env' => b env' q.2
  | fl => some (fl, q.2)
theorem pmss_nil : PMSs γ W X [] sNx := pss_imp pss_nil fun D σ H ⟨ro, F0, H0, F, env, rd, fl, rd', hS, hm, q⟩ => by
  cases hm
  exact q σ F H hS
theorem pmss_one {st : Stmt} {m : MM Fl} (h : PMS γ W X st m) : PMSs γ W X [st] m := pss_one h
theorem pmss_cons {st : Stmt} {r : List Stmt} {a b : MM Fl} (h1 : PMS γ W X st a) (h2 : PMSs γ W X r b) : PMSs γ W X (st :: r) (sSeq a b) := pss_imp (pss_cons h1 h2) fun D σ H ⟨ro, F0, H0, F, env, rd, fl, rd', hS, hm, q⟩ => by
  obtain ⟨⟨fl1, rd1⟩, m1, hm⟩ := Option.bind_eq_some_iff.mp hm
  cases fl1 with
  | nx env' =>
    refine ⟨ro, F0, H0, F, env, rd, _, rd1, hS, m1, fun σ' F' H' hS' => ?_⟩
    exact ⟨ro, F0, H0, F', env', rd1, fl, rd', hS', hm, q⟩
  | ret d =>
    cases hm
    exact ⟨ro, F0, H0, F, env, rd, _, _, hS, m1, q⟩
  | brk d =>
    cases hm
    exact ⟨ro, F0, H0, F, env, rd, _, _, hS, m1, q⟩
  | ct d =>
    cases hm
    exact ⟨ro, F0, H0, F, env, rd, _, _, hS, m1, q⟩
  | exc d c fs =>
    cases hm
    exact ⟨ro, F0, H0, F, env, rd, _, _, hS, m1, q⟩
  | own d =>
    cases hm
    exact ⟨ro, F0, H0, F, env, rd, _, _, hS, m1, q⟩
theorem pms_set {i : Nat} {x : Str} {e : Expr} {m : MM D} {pos pos' : Pos} (hN : X.N.Nodup) (hi : X.N[i]? = some x) (hx : Loc X.env.scope x) (he : PM γ X e m) (hs : swapsWith e (some (.Name x pos')) pos.line X.env = pure false := by rfl) (hf : X.fn x = true ∨ X.env.scope.names.lookup x = some .local := by first | exact .inl rfl | exact .inr rfl | assumption) :
    PMS γ W X (.Assign [.Name x pos'] e pos) (sSet i m) := ps_imp (ps_set hN hi hx he hs hf) fun D σ H h => tMS_set (fun _ _ _ q => q) h
def sUnp (p : Pat) (m : MM D) : MM Fl := bind1 m fun d env rd => (setPat p d env).map fun env' => (.nx env', rd)
theorem pms_unp {tg e : Expr} {p : Pat} {m : MM D} {pos : Pos} (he : PM γ X e m) (hg : PG X tg (gOf X.K p)) (hs : swapsWithSole [tg] e pos.line X.env = pure false := by rfl) (hw : swappedStores [tg] e X.env = pure none := by rfl)
    (h1 : (assignEach [tg] X.env).map (·.2) = [assign tg X.env] := by rfl) : PMS γ W X (.Assign [tg] e pos) (sUnp p m) := ps_imp (ps_asg he hg hs hw h1) fun D σ H ⟨ro, F0, H0, F, env, rd, fl, rd', hS, hm, q⟩ => by
  obtain ⟨d, rd1, m1, hm⟩ := bind1_some hm
  simp only [Option.map_eq_some_iff, Prod.mk.injEq] at hm
  obtain ⟨env', hp, rfl, rfl⟩ := hm
  refine ⟨ro, F0, H0, F, env, rd, d, rd1, hS, m1, fun v F' H' a r pv => ?_⟩
  have S1 := hS.step a r
  exact gOf_ok S1.env a.fh pv hp fun σ' e1 _ => q σ' F' H' ⟨S1.st, S1.rd, e1, S1.tab⟩
def sRet (m : MM D) : MM Fl := bind1 m fun d _ rd => some (.ret d, rd)
theorem pms_ret {e : Expr} {m : MM D} {pos : Pos} (he : PM γ X e m) : PMS γ W X (.Return (some e) pos) (sRet m) := ps_imp (ps_ret he) fun D σ H ⟨ro, F0, H0, F, env, rd, fl, rd', hS, hm, q⟩ => by
  obtain ⟨d, rd1, m1, hm⟩ := bind1_some hm
  cases hm
  exact ⟨ro, F0, H0, F, env, rd, d, _, hS, m1, fun v F' H' a r p => q v F' H' (hS.st.trans a) r p⟩
def sIf (t : MM Bool) (a b : MM Fl) : MM Fl := bind1 t fun x => if x = true then a else b
theorem pms_if {c : Expr} {a b : List Stmt} {t : MM Bool} {ma mb : MM Fl} {pos : Pos} (hc : PMT γ X c t) (ha : PMSs γ W X a ma) (hb : PMSs γ W X b mb) : PMS γ W X (.If c a b pos) (sIf t ma mb) := ps_imp (ps_if hc ha hb) fun D σ H ⟨ro, F0, H0, F, env, rd, fl, rd', hS, hm, q⟩ => by
  obtain ⟨x, rd1, m1, hm⟩ := bind1_some hm
  refine ⟨ro, F0, H0, F, env, rd, x, rd1, hS, m1, fun F' H' a r => ?_⟩
  cases x with
  | true => exact iteT ⟨ro, F0, H0, F', env, rd1, fl, rd', hS.step a r, hm, q⟩
  | false => exact iteF ⟨ro, F0, H0, F', env, rd1, fl, rd', hS.step a r, hm, q⟩
def sNever : MM Fl := fun _ _ => none
theorem pms_never {st : Stmt} : PMS γ W X st sNever := ps_imp ps_never fun D σ H ⟨ro, F0, H0, F, env, rd, fl, rd', hS, hm, q⟩ => by cases hm
theorem pmss_never {st : List Stmt} : PMSs γ W X st sNever := pss_imp pss_never fun D σ H ⟨ro, F0, H0, F, env, rd, fl, rd', hS, hm, q⟩ => by cases hm
/-- a while whose test is false at once -/
def sWhile0 (t : MM Bool) : MM Fl := bind1 t fun x => if x = true then sNever else sNx
theorem pms_while0 {c : Expr} {body : List Stmt} {t : MM Bool} {pos : Pos} (hp : PassesOwn (model X.prog X.w) X.A X.env X.xe) (hc : PMT γ X c t) : PMS γ W X (.While c body [] pos) (sWhile0 t) := ps_imp (ps_while hp hc (pss_never (sts := body))) fun D σ H ⟨ro, F0, H0, F, env, rd, fl, rd', hS, hm, q⟩ => by
  obtain ⟨x, rd1, m1, hm⟩ := bind1_some hm
  refine ⟨fun _ σ' H' => σ' = σ ∧ H' = H, ⟨0, rfl, rfl⟩, ?_⟩
  rintro m σ' H' ⟨rfl, rfl⟩
  refine ⟨ro, F0, H0, F, env, rd, x, rd1, hS, m1, fun F' H' a r => ?_⟩
  cases x with
  | true => cases hm
  | false =>
    cases hm
    exact iteF (q σ' F' H' (hS.step a r))

/-! ### a fresh start within a def: what is owned stays apart -/
def OwnAt (env : List SV) (σ : L2.St) (p : Addr) : Prop := ∃ (i : Nat) (ds : List D), env[i]? = some (.own ds) ∧ σ[i]? = some (some (.ref p))
open Classical in
theorem SRel.rebase {K : PySem.W.Frag} {ro : Ro} {F0 H0 F : Hp} {env : List SV} {rd : Rdr} {σ : L2.St} {H : Hp} (S : SRel γ K ro F0 H0 F env rd σ H) :
    ∃ H1 : Hp, SRel γ K ro F H1 F env rd σ H ∧ (∀ F2 H2, Stp γ.T ro F H1 F2 H2 → Stp γ.T ro F0 H0 F2 H2) ∧ ∀ p, H1 p = none → H0 p = none := by
  have own : ∀ p, OwnAt env σ p → H0 p = none ∧ F p = none := by
    rintro p ⟨i, ds, e1, e2⟩
    obtain ⟨o, q1, p', vs, q2, q3, _, _, q4, _⟩ := S.env.ok i _ e1
    rw [e2] at q1
    cases q1
    cases q2
    exact ⟨q4, q3⟩
  let H1 : Hp := fun p => if OwnAt env σ p then none else H p
  have h1 : ∀ p, OwnAt env σ p → H1 p = none := fun p h => if_pos h
  have h2 : ∀ p, ¬ OwnAt env σ p → H1 p = H p := fun p h => if_neg h
  have h3 : ∀ p, H1 p = none → H0 p = none := fun p h => by
    by_cases hp : OwnAt env σ p
    · exact (own p hp).1
    · rw [h2 p hp] at h
      exact S.st.hn p h
  have tb1 : ∀ T, LamX.Tabs T H → LamX.Tabs T H1 := fun T h => tabs_keep h fun b o e n => by
    have nb : ¬ OwnAt env σ b := by
      rintro ⟨i, ds, e1, e2⟩
      obtain ⟨o', q1, p', vs, q2, _, q3, _⟩ := S.env.ok i _ e1
      rw [e2] at q1
      cases q1
      cases q2
      rw [e] at q3
      exact n vs (Option.some.inj q3)
    rw [h2 b nb]
    exact e
  have tb2 : ∀ T, LamX.Tabs T H1 → LamX.Tabs T H := fun T h => tabs_keep h fun b o e _ => by
    by_cases hp : OwnAt env σ b
    · rw [h1 b hp] at e
      cases e
    · rw [h2 b hp] at e
      exact e
  refine ⟨H1, ⟨⟨Same.refl _, S.st.fh, fun p o h _ _ => ?_, tb2 _, fun _ _ q => q, fun p h => ?_, fun _ _ h => h⟩, S.rd, ⟨S.env.len, fun i sv e => ?_, S.env.sep⟩, S.tab⟩, fun F2 H2 a => ⟨S.st.ff.trans a.ff, a.fh, fun p o h n t => ?_, fun q => a.tb (tb1 _ (S.st.tb q)), fun b ps q => S.st.nt b ps (a.nt b ps q), fun p h => h3 p (a.hn p h), fun p h f => ?_⟩, h3⟩
  · by_cases hp : OwnAt env σ p
    · rw [h1 p hp] at h
      cases h
    · rw [h2 p hp] at h
      exact h
  · by_cases hp : OwnAt env σ p
    · exact h1 p hp
    · rw [h2 p hp]
      exact h
  · obtain ⟨o, q1, q2⟩ := S.env.ok i sv e
    refine ⟨o, q1, ?_⟩
    cases sv with
    | own ds =>
      obtain ⟨p, vs, rfl, a1, a2, a3, a4, a5⟩ := q2
      exact ⟨p, vs, rfl, a1, a2, a3, h1 p ⟨i, ds, e, q1⟩, a5⟩
    | _ => exact q2
  · have np : ¬ OwnAt env σ p := fun z => by
      rw [(own p z).1] at h
      cases h
    exact a.hh p o (by rw [h2 p np]; exact S.st.hh p o h n t) n t
  · have np : ¬ OwnAt env σ p := fun z => h (own p z).1
    refine a.fz p ?_ (S.st.fz p h f)
    rw [h2 p np]
    exact fun z => h (S.st.hn p z)
theorem SRel.back {K : PySem.W.Frag} {ro : Ro} {F0 H0 F H1 : Hp} (f : ∀ F2 H2, Stp γ.T ro F H1 F2 H2 → Stp γ.T ro F0 H0 F2 H2) (g : ∀ p, H1 p = none → H0 p = none) {F2 : Hp} {env : List SV} {rd : Rdr} {σ : L2.St} {H2 : Hp} (S : SRel γ K ro F H1 F2 env rd σ H2) : SRel γ K ro F0 H0 F2 env rd σ H2 := by
  refine ⟨f _ _ S.st, S.rd, ⟨S.env.len, fun i sv e => ?_, S.env.sep⟩, S.tab⟩
  obtain ⟨o, q1, q2⟩ := S.env.ok i sv e
  refine ⟨o, q1, ?_⟩
  cases sv with
  | own ds =>
    obtain ⟨p, vs, rfl, a1, a2, a3, a4, a5⟩ := q2
    exact ⟨p, vs, rfl, a1, a2, a3, g p a4, a5⟩
  | _ => exact q2

/-! ### for -/
def forGo (p : Pat) (b : MM Fl) : List D → MM Fl
  | [], env, rd => some (.nx env, rd)
  | d :: ds, env, rd => (setPat p d env).bind fun env1 => (b env1 rd).bind fun q => match q.1 with
    | .nx env2 => forGo p b ds env2 q.2
    | .ct env2 => forGo p b ds env2 q.2
    | .brk env2 => some (.nx env2, q.2)
    | .ret d => some (.ret d, q.2)
    | .exc env2 c fs => some (.exc env2 c fs, q.2)
    | .own ds => some (.own ds, q.2)
def sFor (mi : MM (List D)) (p : Pat) (b : MM Fl) : MM Fl := bind1 mi fun ds => forGo p b ds
theorem tMS_for {K : PySem.W.Frag} {mi : MM (List D)} {p : Pat} {b : MM Fl} {D : Ends} {σ : L2.St} {H : Hp} (h : tMS γ W K (sFor mi p b) D σ H) : tFor (tMI γ K mi) (gOf K p) (tMS γ W K b) D σ H := by
  obtain ⟨ro, F0, H0, F, env, rd, fl, rdE, hS, hm, q⟩ := h
  obtain ⟨ds, rd1, m1, hm⟩ := bind1_some hm
  refine ⟨ro, F0, H0, F, env, rd, ds, rd1, hS, m1, fun J F1 H1 a1 r1 w => ?_⟩
  obtain ⟨Hb, S1, back, backN⟩ := (hS.step a1 r1).rebase
  let St (i : Nat) (σ : L2.St) (H : Hp) : Prop := ∃ F2 env2 rd2, SRel γ K ro F1 Hb F2 env2 rd2 σ H ∧ forGo p b (ds.drop i) env2 rd2 = some (fl, rdE)
  refine ⟨fun i m σ H => m = ds.length - i ∧ i ≤ ds.length ∧ St i σ H, ⟨ds.length, by simp, Nat.zero_le _, F1, env, rd1, S1, hm⟩, ?_⟩
  rintro i m σi Hi ⟨rfl, hi, F2, env2, rd2, S2, go⟩
  have s12 := S2.st.ff
  by_cases hlt : i < ds.length
  · rw [List.drop_eq_getElem_cons hlt] at go
    simp only [forGo] at go
    obtain ⟨env3, g1, go⟩ := Option.bind_eq_some_iff.mp go
    obtain ⟨⟨flb, rdb⟩, g2, go⟩ := Option.bind_eq_some_iff.mp go
    refine .inr ⟨w.go i Hi hlt (s12.trans S2.st.fh), St (i + 1), fun σ' H' h' => ⟨ds.length - (i + 1), by omega, rfl, hlt, h'⟩, fun x Hx hy => ?_⟩
    obtain ⟨F3, al, d', hd', px⟩ := w.yld i Hi x Hx F2 hlt s12 S2.st.fh hy
    rw [List.getElem?_eq_getElem hlt] at hd'
    cases hd'
    have S3 := S2.step (al.stp (ro := ro)) (S2.rd.alc al)
    refine gOf_ok S3.env al.fh px g1 fun σ3 e3 _ => ?_
    refine ⟨ro, F1, Hb, F3, env3, rd2, flb, rdb, ⟨S3.st, S3.rd, e3, S3.tab⟩, g2, ?_⟩
    cases flb with
    | nx env4 => exact fun σ4 F4 H4 S4 => ⟨F4, env4, rdb, S4, go⟩
    | ct env4 => exact fun σ4 F4 H4 S4 => ⟨F4, env4, rdb, S4, go⟩
    | brk env4 =>
      cases go
      exact fun σ4 F4 H4 S4 => q σ4 F4 H4 (S4.back back backN)
    | ret d =>
      cases go
      exact fun v F4 H4 a r pv => q v F4 H4 (back _ _ a) r pv
    | exc env4 c fs =>
      cases go
      exact fun σ4 F4 H4 cls dd S4 ex => q σ4 F4 H4 cls dd (S4.back back backN) ex
    | own es =>
      cases go
      exact fun p vs F4 H4 a r g1 g2 g3 g4 => q p vs F4 H4 (back _ _ a) r (backN p g1) g2 g3 g4
  · have ie : i = ds.length := by omega
    subst ie
    rw [List.drop_length] at go
    simp only [forGo, Option.some.injEq, Prod.mk.injEq] at go
    obtain ⟨rfl, rfl⟩ := go
    exact .inl ⟨w.stop Hi (s12.trans S2.st.fh), q σi F2 Hi (S2.back back backN)⟩
theorem pms_for {tg iter : Expr} {body : List Stmt} {mi : MM (List D)} {p : Pat} {b : MM Fl} {pos : Pos} (hp : PassesOwn (model X.prog X.w) X.A X.env X.xe) (hc : X.calm = true) (hi : PMI γ X tg iter mi) (hg : PG X tg (gOf X.K p)) (hb : PMSs γ W X body b)
    (hs : ∀ x, foldedSetIterable iter X.env x = pure x := by intro _; rfl) : PMS γ W X (.For tg iter body [] pos) (sFor mi p b) := ps_imp (ps_for hp hc hi hg hb hs) fun _ _ _ h => tMS_for h
end
end FW

set_option Elab.async false
set_option linter.all false
set_option maxRecDepth 100000
set_option maxHeartbeats 1000000
namespace FW
open PySem PySem.Spec PyProof.Rows L2
variable {γ : Gm} {W : WX}
section
variable {X : Cx}

/-! ### lists that are one's own: made, grown, laid down -/
/-- a new list, that nothing else holds -/
def tMF (γ : Gm) (K : PySem.W.Frag) (m : MM (List D)) : TE := fun σ H Q => ∃ ro F0 H0 F env rd ds rd', SRel γ K ro F0 H0 F env rd σ H ∧ m env rd = some (ds, rd') ∧
  ∀ p vs F' H', Stp γ.T ro F H F' H' → RdOk ro rd' F' H' → H p = none → F' p = none → H' p = some (.lst vs) → Rps K F' ds vs → Q (.ref p) H'
abbrev PMF (γ : Gm) (X : Cx) (e : Expr) (m : MM (List D)) : Prop := PE X e (tMF γ X.K m)
theorem new_own {ro : Ro} {rd : Rdr} {F H : Hp} {p : Addr} {o : HO} (sf : Same F H) (r : RdOk ro rd F H) (hp : H p = none) : Stp γ.T ro F H F (upd H p o) ∧ RdOk ro rd F (upd H p o) ∧ F p = none := by
  refine ⟨⟨Same.refl _, sf.trans (same_new hp), fun b u hb _ _ => same_new hp b u hb, fun h => h.ext (same_new hp), fun _ _ q => q, fun b hb => (same_new hp).free hb, fun _ _ z => z⟩, ?_, sf.free hp⟩
  cases ro with
  | none => trivial
  | some rc =>
    obtain ⟨r0, c⟩ := rc
    exact ⟨r.1, same_new hp _ _ r.2.1, r.2.2⟩
def fLst (a : MM (List D)) : MM (List D) := bind1 a fun ds => fun _ rd => if ds.length ≤ sizeLine then some (ds, rd) else none
theorem pmf_lst {es : List Expr} {pos : Pos} {m : MM (List D)} (h : PMA γ X es m) : PMF γ X (.List es pos) (fLst m) := pe_imp (pe_lst h) fun σ H Q h => by
  obtain ⟨ro, F0, H0, F, env, rd, z, rd', hS, hm, q⟩ := h
  obtain ⟨ds, rd1, m1, hm⟩ := bind1_some hm
  simp only [Option.ite_none_right_eq_some, Option.some.injEq, Prod.mk.injEq] at hm
  obtain ⟨hl, rfl, rfl⟩ := hm
  refine ⟨ro, F0, H0, F, env, rd, ds, rd1, hS, m1, fun vs F' H' a r p => ⟨by rw [← p.length]; exact hl, fun x hx => ?_⟩⟩
  obtain ⟨q1, q2, q3⟩ := new_own (o := .lst vs) a.fh r hx
  exact q x vs F' _ (a.trans q1) q2 (a.hn x hx) q3 upd_same p
/-- xs + ys, two lists -/
def fCat (a b : MM D) : MM (List D) := bind1 a fun d => bind1 b fun e => lift (match d, e with
  | .lst xs, .lst ys => if xs.length + ys.length ≤ sizeLine then some (xs ++ ys) else none
  | _, _ => none)
theorem pmf_cat {a b : Expr} {ma mb : MM D} {pos : Pos} (ha : PM γ X a ma) (hb : PM γ X b mb) : PMF γ X (.BinOp a .Add b pos) (fCat ma mb) := pe_imp (pe_op op_cat ha hb) fun σ H Q h => by
  obtain ⟨ro, F0, H0, F, env, rd, z, rd', hS, hm, q⟩ := h
  obtain ⟨d, rd1, m1, hm⟩ := bind1_some hm
  obtain ⟨e, rd2, m2, hm⟩ := bind1_some hm
  obtain ⟨m3, e3⟩ := lift_some hm
  subst e3
  cases d with
  | lst xs => cases e with
    | lst ys =>
      simp only [Option.ite_none_right_eq_some, Option.some.injEq] at m3
      obtain ⟨hl, rfl⟩ := m3
      refine ⟨ro, F0, H0, F, env, rd, _, rd1, hS, m1, fun x F1 H1 a1 r1 p1 => ?_⟩
      refine ⟨ro, F0, H0, F1, env, rd1, _, _, hS.step a1 r1, m2, fun y F2 H2 a2 r2 p2 => ?_⟩
      have p1 := Rp.mono a2.ff _ x p1
      simp only [Rp] at p1 p2
      obtain ⟨u, vs, rfl, ta, ra⟩ := p1
      obtain ⟨w, ws, rfl, tb, rb⟩ := p2
      refine ⟨u, w, vs, ws, rfl, rfl, a2.fh _ _ ta, a2.fh _ _ tb, by rw [← ra.length, ← rb.length]; exact hl, fun p hp => ?_⟩
      obtain ⟨q1, q2, q3⟩ := new_own (o := .lst (vs ++ ws)) a2.fh r2 hp
      have st := a1.trans a2
      exact q p _ F2 _ (st.trans q1) q2 (st.hn p hp) q3 upd_same (ra.append rb)
    | _ => cases m3
  | _ => cases m3
/-- list(xs) -/
def fList (a : MM (List D)) : MM (List D) := bind1 a fun ds => lift (match ds with
  | [.lst xs] => some xs
  | [.tup xs] => some xs
  | _ => none)
theorem pmf_list {x : Str} {e : Expr} {p pos : Pos} {m : MM (List D)} (hg : Gl X x) (hm : X.mg x = none) (hv : bootBuiltins x = some (.type "list")) (ha : PMA γ X [e] m) (hn : x ≠ "__name__" := by decide) (hdb : (x == ("__debug__" : Str)) = false := by decide)
    (he : starEach [e] X.env = (false, eval e X.env) :: starEach [] X.env := by rfl) (hpl : (backTo pos (starEach [] X.env)).any (·.1) = false := by rfl) : PMF γ X (.Call (.Name x p) [e] [] pos) (fList m) :=
  pe_imp (pe_callTy call_list_of hg hm hv ha hn hdb he hpl) fun σ H Q h => by
  obtain ⟨ro, F0, H0, F, env, rd, z, rd', hS, hm, q⟩ := h
  obtain ⟨ds, rd1, m1, hm⟩ := bind1_some hm
  obtain ⟨m3, e3⟩ := lift_some hm
  subst e3
  refine ⟨ro, F0, H0, F, env, rd, ds, _, hS, m1, fun vs F' H' a r p => ?_⟩
  match ds, m3 with
  | [.lst xs], m3 =>
    cases m3
    simp only [Rps, Rp] at p
    obtain ⟨v, r', rfl, ⟨b, ws, rfl, h2, h3⟩, rfl⟩ := p
    refine ⟨b, ws, rfl, .inl (sqL_of (a.fh _ _ h2)), fun l hl => ?_⟩
    obtain ⟨q1, q2, q3⟩ := new_own (o := .lst ws) a.fh r hl
    exact q l ws F' _ (a.trans q1) q2 (a.hn l hl) q3 upd_same h3
  | [.tup xs], m3 =>
    cases m3
    simp only [Rps, Rp] at p
    obtain ⟨v, r', rfl, ⟨b, ws, rfl, h2, h3⟩, rfl⟩ := p
    refine ⟨b, ws, rfl, .inr (sqT_mono a.fh h2), fun l hl => ?_⟩
    obtain ⟨q1, q2, q3⟩ := new_own (o := .lst ws) a.fh r hl
    exact q l ws F' _ (a.trans q1) q2 (a.hn l hl) q3 upd_same h3
/-- a slot takes a list of its own -/
theorem EnvOk.setOwn {K : PySem.W.Frag} {ro : Ro} {H0 F H : Hp} {env : List SV} {σ : L2.St} (h : EnvOk γ K ro H0 F H env σ) {i : Nat} {ds : List D} {vs : List V} {p : Addr} (h1 : F p = none) (h2 : H p = some (.lst vs)) (h3 : Rps K F ds vs) (h4 : H0 p = none) (h5 : ∀ c, ro ≠ some (p, c)) (hln : LamNew γ p)
    (h6 : ∀ (j : Nat) (es : List D), j ≠ i → env[j]? = some (.own es) → σ[j]? ≠ some (some (.ref p))) : EnvOk γ K ro H0 F H (env.set i (.own ds)) (σ.set i (some (.ref p))) := by
  refine ⟨by rw [List.length_set, List.length_set, h.len], fun j sv e => ?_, fun j k fs es q hjk e1 e2 s1 => ?_⟩
  · by_cases hij : i = j
    · subst hij
      have hl : i < env.length := by
        have := (List.getElem?_eq_some_iff.mp e).1
        rwa [List.length_set] at this
      rw [List.getElem?_set_self hl] at e
      cases e
      exact ⟨some (.ref p), List.getElem?_set_self (by rw [← h.len]; exact hl), p, vs, rfl, h1, h2, h3, h4, h5, hln⟩
    · rw [List.getElem?_set_ne hij] at e
      obtain ⟨o, q1, q2⟩ := h.ok j sv e
      exact ⟨o, by rw [List.getElem?_set_ne hij]; exact q1, q2⟩
  · by_cases hij : i = j
    · subst hij
      have hl : i < σ.length := by
        have := (List.getElem?_eq_some_iff.mp s1).1
        rwa [List.length_set] at this
      rw [List.getElem?_set_self hl] at s1
      cases s1
      rw [List.getElem?_set_ne hjk] at e2 ⊢
      exact h6 k es (Ne.symm hjk) e2
    · by_cases hik : i = k
      · subst hik
        have hl : i < env.length := by
          have := (List.getElem?_eq_some_iff.mp e2).1
          rwa [List.length_set] at this
        rw [List.getElem?_set_self (by rw [← h.len]; exact hl)]
        rw [List.getElem?_set_ne hij] at e1 s1
        intro z
        cases z
        exact h6 j fs hjk e1 s1
      · rw [List.getElem?_set_ne hij] at e1 s1
        rw [List.getElem?_set_ne hik] at e2 ⊢
        exact h.sep j k fs es q hjk e1 e2 s1
def sNew (i : Nat) (m : MM (List D)) : MM Fl := bind1 m fun ds env rd => some (.nx (env.set i (.own ds)), rd)
theorem SRel.setOwn {K : PySem.W.Frag} {ro : Ro} {F0 H0 F : Hp} {env : List SV} {rd rd' : Rdr} {σ : L2.St} {H F' H' : Hp} (hS : SRel γ K ro F0 H0 F env rd σ H) {i : Nat} {ds : List D} {vs : List V} {p : Addr} (a : Stp γ.T ro F H F' H') (r : RdOk ro rd' F' H') (hp : H p = none) (fp : F' p = none) (hp' : H' p = some (.lst vs)) (pv : Rps K F' ds vs) :
    SRel γ K ro F0 H0 F' (env.set i (.own ds)) rd' (σ.set i (some (.ref p))) H' := by
  have S1 := hS.step a r
  refine ⟨S1.st, S1.rd, S1.env.setOwn fp hp' pv (hS.st.hn p hp) (fun c z => ?_) (hS.tab.l.new hp) fun j es _ e s => ?_, S1.tab⟩
  · subst z
    have := hS.rd.2.1
    rw [hp] at this
    cases this
  · obtain ⟨o, q1, p', ws, q2, _, q3, _⟩ := hS.env.ok j _ e
    rw [s] at q1
    cases q1
    cases q2
    rw [hp] at q3
    cases q3
theorem tMS_new {K : PySem.W.Frag} {i : Nat} {m : MM (List D)} {D : Ends} {σ : L2.St} {H : Hp} (h : tMS γ W K (sNew i m) D σ H) : tAsg (tMF γ K m) (gName i) D σ H := by
  obtain ⟨ro, F0, H0, F, env, rd, fl, rd', hS, hm, q⟩ := h
  obtain ⟨ds, rd1, m1, hm⟩ := bind1_some hm
  cases hm
  refine ⟨ro, F0, H0, F, env, rd, ds, _, hS, m1, fun p vs F' H' a r hp fp hp' pv => ?_⟩
  exact q _ F' H' (hS.setOwn a r hp fp hp' pv)
theorem pms_new {i : Nat} {x : Str} {e : Expr} {m : MM (List D)} {pos pos' : Pos} (hN : X.N.Nodup) (hi : X.N[i]? = some x) (hx : Loc X.env.scope x) (he : PMF γ X e m) (hs : swapsWith e (some (.Name x pos')) pos.line X.env = pure false := by rfl) (hf : X.fn x = true ∨ X.env.scope.names.lookup x = some .local := by first | exact .inl rfl | exact .inr rfl | assumption) :
    PMS γ W X (.Assign [.Name x pos'] e pos) (sNew i m) := ps_imp (ps_set hN hi hx he hs hf) fun D σ H h => tMS_new h
theorem EnvOk.grow {K : PySem.W.Frag} {ro : Ro} {H0 F H : Hp} {env : List SV} {σ : L2.St} {i : Nat} {ds es : List D} {ws : List V} {p : Addr} (h : EnvOk γ K ro H0 F H env σ) (hi : env[i]? = some (.own ds)) (s1 : σ[i]? = some (some (.ref p))) (fp : F p = none) (pw : Rps K F es ws) :
    EnvOk γ K ro H0 F (upd H p (.lst ws)) (env.set i (.own es)) σ := by
  have hl : i < env.length := (List.getElem?_eq_some_iff.mp hi).1
  refine ⟨by rw [List.length_set, h.len], fun j sv e => ?_, fun j k fs gs q hjk e1 e2 z1 => ?_⟩
  · obtain ⟨o, q1, p', us, q2, _, _, _, q3, q4⟩ := h.ok i _ hi
    rw [s1] at q1
    cases q1
    cases q2
    by_cases hij : i = j
    · subst hij
      rw [List.getElem?_set_self hl] at e
      cases e
      exact ⟨_, s1, p, ws, rfl, fp, upd_same, pw, q3, q4⟩
    · rw [List.getElem?_set_ne hij] at e
      obtain ⟨o, r1, r2⟩ := h.ok j sv e
      refine ⟨o, r1, ?_⟩
      cases sv with
      | own gs =>
        obtain ⟨q, us, rfl, t1, t2, t3, t4, t5⟩ := r2
        refine ⟨q, us, rfl, t1, ?_, t3, t4, t5⟩
        rw [upd_ne (fun z => h.sep i j ds gs p hij hi e s1 (by rw [r1, z]))]
        exact t2
      | exn c fs =>
        obtain ⟨a, cls, d, t1, t2, C, dd, l, t3, t4, t5, t6, t7, t8⟩ := r2
        refine ⟨a, cls, d, t1, t2, C, dd, l, t3, t4, t5, ?_, t7, t8⟩
        obtain ⟨o2, q1, p2, us, q2, _, q3, _⟩ := h.ok i _ hi
        rw [s1] at q1
        cases q1
        cases q2
        rw [upd_ne (fun z => by
          subst z
          rw [q3] at t6
          cases t6)]
        exact t6
      | _ => exact r2
  · have g : ∀ (m : Nat) (fs : List D), (env.set i (.own es))[m]? = some (.own fs) → ∃ fs', env[m]? = some (.own fs') := fun m fs e => by
      by_cases him : i = m
      · subst him
        exact ⟨ds, hi⟩
      · rw [List.getElem?_set_ne him] at e
        exact ⟨fs, e⟩
    obtain ⟨fs', e1'⟩ := g j fs e1
    obtain ⟨gs', e2'⟩ := g k gs e2
    exact h.sep j k fs' gs' q hjk e1' e2' z1
/-- a list that is one's own is written -/
theorem TabL.app {ro : Ro} {F H : Hp} {p : Addr} {vs ws : List V} (h : TabL γ ro F H) (hp : H p = some (.lst vs)) (fp : F p = none) (hm : LamNew γ p) : TabL γ ro F (upd H p (.lst ws)) := by
  refine ⟨⟨tabs_lst h.tf.1 (.inr ⟨_, hp⟩), h.tf.2⟩, fun f rm Fm Hm e => ?_⟩
  obtain ⟨h1, h2, h3, h4⟩ := h.l f rm Fm Hm e
  have np : Hm p = none := hm f rm Fm Hm e
  refine ⟨h1, h2, ⟨h3.ff, fun b o q => ?_, fun b o q n t => ?_, fun q => tabs_lst (h3.tb q) (.inr ⟨_, hp⟩), h3.nt, fun b q => ?_, h3.fz⟩, h4⟩
  · rw [upd_ne (fun z => by
      subst z
      have := h2 _ _ q
      rw [fp] at this
      cases this)]
    exact h3.fh b o q
  · rw [upd_ne (ne_of_none q np)]
    exact h3.hh b o q n t
  · by_cases hb : b = p
    · rw [hb]
      exact np
    · rw [upd_ne hb] at q
      exact h3.hn b q
/-- x.append(e) -/
def sApp (i : Nat) (m : MM D) : MM Fl := bind1 m fun d env rd => match env[i]? with
  | some (.own ds) => if ds.length < sizeLine then some (.nx (env.set i (.own (ds ++ [d]))), rd) else none
  | _ => none
theorem pms_app {i : Nat} {x : Str} {p0 : Pos} {e : Expr} {m : MM D} {apos cpos pos : Pos} (hv : PE X (.Name x p0) (tVar i)) (he : PM γ X e m)
    (hbase : attributeBase (.Name x p0) "append" X.env (eval (.Name x p0) X.env) = eval (.Name x p0) X.env := by rfl)
    (hfew : ((backTo cpos (starEach [e] X.env)).all (fun x => !x.1) && (backToKw cpos (keywordEach [] X.env)).all (fun x => x.1.isSome) && decide ([e].length + ([] : List Keyword).length + (if ([] : List Keyword).isEmpty then 0 else 1) < 30)) = true := by rfl)
    (hline : (apos.endLine == cpos.line) = true := by rfl) (hs : starEach [e] X.env = (false, eval e X.env) :: starEach [] X.env := by rfl) (hplain : (backTo cpos (starEach [] X.env)).any (·.1) = false := by rfl)
    (hsw : swapsWith (.Call (.Attribute (.Name x p0) "append" apos) [e] [] cpos) none pos.line X.env = pure false := by rfl) : PMS γ W X (.Expr (.Call (.Attribute (.Name x p0) "append" apos) [e] [] cpos) pos) (sApp i m) :=
  ps_imp (ps_expr (pe_bm PySem.F.plainAttrs_list PySem.F.slot_list_append PySem.F.type_list_append mt_append hv (pa_cons he pa_nil hs) hbase hfew hline hs hplain) hsw) fun D σ H h => by
  obtain ⟨ro, F0, H0, F, env, rd, fl, rd', hS, hm, q⟩ := h
  obtain ⟨d, rd1, m1, hm⟩ := bind1_some hm
  split at hm
  · rename_i ds hi
    simp only [Option.ite_none_right_eq_some, Option.some.injEq, Prod.mk.injEq] at hm
    obtain ⟨hl, rfl, rfl⟩ := hm
    obtain ⟨o, s1, p, vs, rfl, fp, hp, pv, h0p, hro, hln⟩ := hS.env.ok i _ hi
    refine ⟨.ref p, s1, .inl ⟨rfl, vs, sqL_of hp⟩, ro, F0, H0, F, env, rd, d, rd1, hS, m1, fun v F' H' a r pd => ?_⟩
    have hp' := a.hh p _ hp hro (fun _ z => by cases z)
    have fp' : F' p = none := a.fz p (by rw [hp]; exact fun z => by cases z) fp
    refine ⟨p, vs, v, rfl, rfl, hp', by rw [← pv.length]; exact hl, ?_⟩
    have S1 := hS.step a r
    -- the list is longer by one
    have same' : Same F' (upd H' p (.lst (vs ++ [v]))) := fun b o hb => by
      rw [upd_ne (fun z => by subst z; rw [fp'] at hb; cases hb)]
      exact a.fh b o hb
    refine q σ F' (upd H' p (.lst (vs ++ [v]))) ⟨?_, ?_, S1.env.grow hi s1 fp' ((Rps.mono a.ff _ _ pv).append (Rps.cons pd Rps.nil)), S1.tab.app hp' fp' hln⟩
    · refine ⟨S1.st.ff, same', fun b o hb n t => ?_, fun h => tabs_lst (S1.st.tb h) (.inr ⟨_, hp'⟩), S1.st.nt, fun b hb => ?_, S1.st.fz⟩
      · rw [upd_ne (fun z => by subst z; rw [h0p] at hb; cases hb)]
        exact S1.st.hh b o hb n t
      · by_cases hbp : b = p
        · rw [hbp]
          exact h0p
        · rw [upd_ne hbp] at hb
          exact S1.st.hn b hb
    · cases ro with
      | none => trivial
      | some rc =>
        obtain ⟨r0, c⟩ := rc
        refine ⟨r.1, ?_, r.2.2⟩
        rw [upd_ne (fun z => hro c (by rw [z]))]
        exact r.2.1
  · cases hm
end
end FW

set_option Elab.async false
set_option linter.all false
set_option maxRecDepth 100000
set_option maxHeartbeats 1000000
namespace FW
open PySem PySem.Spec PyProof.Rows L2
variable {γ : Gm} {W : WX}
section
variable {X : Cx}
theorem ExR.frame {mg : Str → Option Value} {K : PySem.W.Frag} {ro : Ro} {F H F' : Hp} {c : Str} {fs : List (Str × D)} {cls : Value} {d : Option Addr} (h : ExR mg K ro F H c fs cls d) (a : Same F F') : ExR mg K ro F' H c fs cls d := by
  obtain ⟨C, dd, l, h1, h2, h3, h4, h5, h6⟩ := h
  refine ⟨C, dd, l, h1, h2, h3, h4, h5, fun n z e => ?_⟩
  obtain ⟨v, q1, q2⟩ := h6 n z e
  exact ⟨v, q1, Rp.mono a z v q2⟩

/-! ### lists of one's own laid down: for good (a statement), for the time of a test or of a flat value -/
theorem TabL.frz {ro : Ro} {F H : Hp} {p : Addr} {vs : List V} (h : TabL γ ro F H) (hp : H p = some (.lst vs)) (fp : F p = none) : TabL γ ro (upd F p (.lst vs)) H :=
  ⟨h.tf.upd hp, h.l.wide (same_new fp) fun b ps q => by
    by_cases hb : b = p
    · subst hb
      rw [upd_same] at q
      cases q
    · rw [upd_ne hb] at q
      exact q⟩
theorem TabL.rdr {r c : Addr} {F H : Hp} {xs ys : List V} (h : TabL γ (some (r, c)) F H) (hp : H r = some (.lst xs)) (fp : F r = none) : TabL γ (some (r, c)) F (upd H r (.lst ys)) := by
  refine ⟨⟨tabs_lst h.tf.1 (.inr ⟨_, hp⟩), h.tf.2⟩, fun f rm Fm Hm e => ?_⟩
  obtain ⟨h1, h2, h3, h4⟩ := h.l f rm Fm Hm e
  refine ⟨h1, h2, ⟨h3.ff, fun b o q => ?_, fun b o q n t => ?_, fun q => tabs_lst (h3.tb q) (.inr ⟨_, hp⟩), h3.nt, fun b q => ?_, h3.fz⟩, h4⟩
  · rw [upd_ne (fun z => by
      subst z
      have := h2 _ _ q
      rw [fp] at this
      cases this)]
    exact h3.fh b o q
  · rw [upd_ne (fun z => n c (by rw [z]))]
    exact h3.hh b o q n t
  · by_cases hb : b = r
    · subst hb
      rw [upd_same] at q
      cases q
    · rw [upd_ne hb] at q
      exact h3.hn b q
theorem SRel.freeze {K : PySem.W.Frag} {ro : Ro} {F0 H0 F : Hp} {env : List SV} {rd : Rdr} {σ : L2.St} {H : Hp} {i : Nat} {ds : List D} (S : SRel γ K ro F0 H0 F env rd σ H) (hi : env[i]? = some (.own ds)) : ∃ F', SRel γ K ro F0 H0 F' (env.set i (.val (.lst ds))) rd σ H := by
  obtain ⟨o, s1, p, vs, rfl, fp, hp, pv, h0, hro, hln⟩ := S.env.ok i _ hi
  have sf : Same F (upd F p (.lst vs)) := same_new fp
  have e2 : σ = σ.set i (some (.ref p)) := by
    obtain ⟨hlt, hget⟩ := List.getElem?_eq_some_iff.mp s1
    rw [← hget, List.set_getElem_self]
  refine ⟨upd F p (.lst vs), ⟨S.st.ff.trans sf, fun b o hb => ?_, S.st.hh, S.st.tb, (fun b ps q => by
    by_cases hbp : b = p
    · subst hbp
      rw [upd_same] at q
      cases q
    · rw [upd_ne hbp] at q
      exact S.st.nt b ps q), S.st.hn, fun b hb hf => ?_⟩, ?_, ?_, S.tab.frz hp fp⟩
  · by_cases hbp : b = p
    · subst hbp
      rw [upd_same] at hb
      rw [← hb]
      exact hp
    · rw [upd_ne hbp] at hb
      exact S.st.fh b o hb
  · rw [upd_ne (fun z => by subst z; exact hb h0)]
    exact S.st.fz b hb hf
  · cases ro with
    | none => trivial
    | some rc =>
      obtain ⟨r, c⟩ := rc
      obtain ⟨r1, r2, r3⟩ := S.rd
      refine ⟨?_, r2, sf _ _ r3⟩
      rw [upd_ne (fun z => hro c (by rw [z]))]
      exact r1
  · refine ⟨by rw [List.length_set, S.env.len], fun j sv e => ?_, fun j k es fs q hjk e1 e2 z => ?_⟩
    · by_cases hij : i = j
      · subst hij
        rw [List.getElem?_set_self (List.getElem?_eq_some_iff.mp hi).1] at e
        cases e
        exact ⟨_, s1, .ref p, rfl, Rps.lst upd_same (Rps.mono sf _ _ pv)⟩
      · rw [List.getElem?_set_ne hij] at e
        obtain ⟨o, q1, q2⟩ := S.env.ok j sv e
        refine ⟨o, q1, ?_⟩
        cases sv with
        | un => trivial
        | rdr => exact q2
        | lam => exact q2
        | exn c fs =>
          obtain ⟨a, cls, d, t1, t2, t3⟩ := q2
          exact ⟨a, cls, d, t1, t2, t3.frame sf⟩
        | val d =>
          obtain ⟨v, rfl, q3⟩ := q2
          exact ⟨v, rfl, Rp.mono sf d v q3⟩
        | own es =>
          obtain ⟨q, us, rfl, t1, t2, t3, t4, t5⟩ := q2
          refine ⟨q, us, rfl, ?_, t2, Rps.mono sf _ _ t3, t4, t5⟩
          rw [upd_ne (fun z => S.env.sep i j ds es p hij hi e s1 (by rw [q1, z]))]
          exact t1
    · have nj : i ≠ j := fun z => by
        subst z
        rw [List.getElem?_set_self (List.getElem?_eq_some_iff.mp hi).1] at e1
        cases e1
      have nk : i ≠ k := fun z => by
        subst z
        rw [List.getElem?_set_self (List.getElem?_eq_some_iff.mp hi).1] at e2
        cases e2
      rw [List.getElem?_set_ne nj] at e1
      rw [List.getElem?_set_ne nk] at e2
      exact S.env.sep j k es fs q hjk e1 e2 z
def frzAt (i : Nat) (env : List SV) : List SV := match env[i]? with
  | some (.own ds) => env.set i (.val (.lst ds))
  | _ => env
def sFrz (i : Nat) (m : MM Fl) : MM Fl := fun env rd => m (frzAt i env) rd
theorem SRel.frzAt {K : PySem.W.Frag} {ro : Ro} {F0 H0 F : Hp} {env : List SV} {rd : Rdr} {σ : L2.St} {H : Hp} (S : SRel γ K ro F0 H0 F env rd σ H) (i : Nat) : ∃ F', SRel γ K ro F0 H0 F' (frzAt i env) rd σ H := by
  unfold FW.frzAt
  split
  · rename_i ds hi
    exact S.freeze hi
  · exact ⟨F, S⟩
theorem pms_frz {st : Stmt} {i : Nat} {m : MM Fl} (h : PMS γ W X st m) : PMS γ W X st (sFrz i m) := ps_imp h fun D σ H ⟨ro, F0, H0, F, env, rd, fl, rd', hS, hm, q⟩ => by
  obtain ⟨F', S'⟩ := hS.frzAt i
  exact ⟨ro, F0, H0, F', _, rd, fl, rd', S', hm, q⟩
theorem pmss_frz {st : List Stmt} {i : Nat} {m : MM Fl} (h : PMSs γ W X st m) : PMSs γ W X st (sFrz i m) := pss_imp h fun D σ H ⟨ro, F0, H0, F, env, rd, fl, rd', hS, hm, q⟩ => by
  obtain ⟨F', S'⟩ := hS.frzAt i
  exact ⟨ro, F0, H0, F', _, rd, fl, rd', S', hm, q⟩

def frzSV : SV → SV
  | .own ds => .val (.lst ds)
  | sv => sv
open Classical in
/-- for the time of a reading that tells no list, what is one's own may be held as laid down -/
theorem lend {K : PySem.W.Frag} {ro : Ro} {F0 H0 F : Hp} {env : List SV} {rd : Rdr} {σ : L2.St} {H : Hp} (S : SRel γ K ro F0 H0 F env rd σ H) :
    ∃ Fe, SRel γ K ro Fe H Fe (env.map frzSV) rd σ H ∧ ∀ F' H' rd', Stp γ.T ro Fe H F' H' → RdOk ro rd' F' H' → ∃ F'', Stp γ.T ro F H F'' H' ∧ RdOk ro rd' F'' H' := by
  have own : ∀ p, OwnAt env σ p → F p = none ∧ (∀ c, ro ≠ some (p, c)) ∧ ∃ vs, H p = some (.lst vs) := by
    rintro p ⟨i, ds, e1, e2⟩
    obtain ⟨o, q1, p', vs, q2, q3, q4, _, _, q5⟩ := S.env.ok i _ e1
    rw [e2] at q1
    cases q1
    cases q2
    exact ⟨q3, q5.1, vs, q4⟩
  let Fe : Hp := fun p => if OwnAt env σ p then H p else F p
  have f1 : ∀ p, OwnAt env σ p → Fe p = H p := fun p h => if_pos h
  have f2 : ∀ p, ¬ OwnAt env σ p → Fe p = F p := fun p h => if_neg h
  have sfe : Same F Fe := fun b o hb => by
    have n : ¬ OwnAt env σ b := fun z => by
      rw [(own b z).1] at hb
      cases hb
    rw [f2 b n]
    exact hb
  have seh : Same Fe H := fun b o hb => by
    by_cases n : OwnAt env σ b
    · rw [f1 b n] at hb
      exact hb
    · rw [f2 b n] at hb
      exact S.st.fh b o hb
  have rde : RdOk ro rd Fe H := by
    cases ro with
    | none => trivial
    | some rc =>
      obtain ⟨r, c⟩ := rc
      obtain ⟨r1, r2, r3⟩ := S.rd
      refine ⟨?_, r2, sfe _ _ r3⟩
      rw [f2 r fun z => (own r z).2.1 c rfl]
      exact r1
  have nte : ∀ b ps, Fe b = some (.tbl ps) → F b = some (.tbl ps) := fun b ps q => by
    by_cases n : OwnAt env σ b
    · obtain ⟨_, _, vs, h2⟩ := own b n
      rw [f1 b n, h2] at q
      cases q
    · rw [f2 b n] at q
      exact q
  have tabe : TabL γ ro Fe H := ⟨⟨S.tab.tf.1, fun q hq => by
    obtain ⟨ps, h1, _⟩ := S.tab.tf.1 q hq
    rw [f2 q.1 fun z => by
      obtain ⟨_, _, vs, h2⟩ := own q.1 z
      rw [h1] at h2
      cases h2]
    exact S.tab.tf.2 q hq⟩, S.tab.l.wide sfe nte⟩
  refine ⟨Fe, ⟨Stp.refl seh, rde, ⟨by rw [List.length_map, S.env.len], fun i sv e => ?_, fun i j ds es p _ e1 _ _ => ?_⟩, tabe⟩, fun F' H' rd' a r => ?_⟩
  · rw [List.getElem?_map, Option.map_eq_some_iff] at e
    obtain ⟨sv0, e, rfl⟩ := e
    obtain ⟨o, q1, q2⟩ := S.env.ok i sv0 e
    refine ⟨o, q1, ?_⟩
    cases sv0 with
    | un => trivial
    | rdr => exact q2
    | lam => exact q2
    | exn c fs =>
      obtain ⟨a, cls, d, t1, t2, t3⟩ := q2
      exact ⟨a, cls, d, t1, t2, t3.frame sfe⟩
    | val d =>
      obtain ⟨v, rfl, q3⟩ := q2
      exact ⟨v, rfl, Rp.mono sfe d v q3⟩
    | own ds =>
      obtain ⟨p, vs, rfl, t1, t2, t3, _, _⟩ := q2
      refine ⟨.ref p, rfl, Rps.lst ?_ (Rps.mono sfe _ _ t3)⟩
      rw [f1 p ⟨i, ds, e, q1⟩]
      exact t2
  · rw [List.getElem?_map, Option.map_eq_some_iff] at e1
    obtain ⟨sv0, _, e⟩ := e1
    cases sv0 <;> cases e
  · let F'' : Hp := fun p => if OwnAt env σ p then none else F' p
    have g1 : ∀ p, OwnAt env σ p → F'' p = none := fun p h => if_pos h
    have g2 : ∀ p, ¬ OwnAt env σ p → F'' p = F' p := fun p h => if_neg h
    have s1 : Same F F'' := fun b o hb => by
      have n : ¬ OwnAt env σ b := fun z => by
        rw [(own b z).1] at hb
        cases hb
      rw [g2 b n]
      exact a.ff b o (sfe b o hb)
    have nt2 : ∀ b ps, F'' b = some (.tbl ps) → F b = some (.tbl ps) := fun b ps q => by
      by_cases n : OwnAt env σ b
      · rw [g1 b n] at q
        cases q
      · rw [g2 b n] at q
        exact nte b ps (a.nt b ps q)
    refine ⟨F'', ⟨s1, fun b o hb => ?_, a.hh, a.tb, nt2, a.hn, fun b hb hf => ?_⟩, ?_⟩
    · by_cases n : OwnAt env σ b
      · rw [g1 b n] at hb
        cases hb
      · rw [g2 b n] at hb
        exact a.fh b o hb
    · by_cases n : OwnAt env σ b
      · exact g1 b n
      · rw [g2 b n]
        exact a.fz b hb (by rw [f2 b n]; exact hf)
    · cases ro with
      | none => trivial
      | some rc =>
        obtain ⟨r0, c⟩ := rc
        refine ⟨?_, r.2.1, s1 _ _ S.rd.2.2 |> fun z => ?_⟩
        · by_cases n : OwnAt env σ r0
          · exact g1 r0 n
          · rw [g2 r0 n]
            exact r.1
        · have z' := a.ff _ _ (rde.2.2)
          rw [r.2.2] at z'
          rw [z]
          exact z'.symm
def mFrz {α : Type} (m : MM α) : MM α := fun env rd => m (env.map frzSV) rd
theorem pmt_frz {e : Expr} {m : MM Bool} (h : PMT γ X e m) : PMT γ X e (mFrz m) := pt_imp h fun σ H Q ⟨ro, F0, H0, F, env, rd, b, rd', hS, hm, q⟩ => by
  obtain ⟨Fe, Se, back⟩ := lend hS
  refine ⟨ro, Fe, H, Fe, _, rd, b, rd', Se, hm, fun F' H' a r => ?_⟩
  obtain ⟨F'', a', r'⟩ := back F' H' rd' a r
  exact q F'' H' a' r'
def flatDOk (m : MM D) : MM D := bind1 m fun d => lift (if flatD d = true then some d else none)
theorem pm_frz {e : Expr} {m : MM D} (h : PM γ X e m) : PM γ X e (mFrz (flatDOk m)) := pe_imp h fun σ H Q ⟨ro, F0, H0, F, env, rd, z, rd', hS, hm, q⟩ => by
  obtain ⟨Fe, Se, back⟩ := lend hS
  obtain ⟨d, rd1, m1, hm⟩ := bind1_some (show bind1 m (fun d => lift (if flatD d = true then some d else none)) _ _ = _ from hm)
  obtain ⟨m2, e2⟩ := lift_some hm
  subst e2
  simp only [Option.ite_none_right_eq_some, Option.some.injEq] at m2
  obtain ⟨hf, rfl⟩ := m2
  refine ⟨ro, Fe, H, Fe, _, rd, d, _, Se, m1, fun v F' H' a r p => ?_⟩
  obtain ⟨F'', a', r'⟩ := back F' H' _ a r
  refine q v F'' H' a' r' ?_
  cases d with
  | tup _ => simp [flatD] at hf
  | lst _ => simp [flatD] at hf
  | _ =>
    simp only [Rp] at p ⊢
    exact p

/-! ### repr -/
mutual
theorem noDict : ∀ d : D, (toPy d).hasDict = false
  | .non => by simp only [toPy, PyData.hasDict]
  | .bl _ => by simp only [toPy, PyData.hasDict]
  | .int _ => by simp only [toPy, PyData.hasDict]
  | .str _ => by simp only [toPy, PyData.hasDict]
  | .tup ds => by
    simp only [toPy, PyData.hasDict]
    exact noDicts ds
  | .lst ds => by
    simp only [toPy, PyData.hasDict]
    exact noDicts ds
theorem noDicts : ∀ ds : List D, PyData.hasDictAll (toPys ds) = false
  | [] => by simp only [toPys, PyData.hasDictAll]
  | d :: ds => by
    simp only [toPys, PyData.hasDictAll, noDict d, noDicts ds, Bool.or_self]
end
def shownD (d : D) : Str := (toPy d).shown
def okShow (d : D) : Bool := (toPy d).showable && decide ((toPy d).depth ≤ 100) && decide ((shownD d).length ≤ sizeLine)
def opRepr (d : D) : Option D := if okShow d = true then some (.str (shownD d)) else none
theorem cr_repr (hgd : X.A.guards = some []) (hu : X.A.units + 200 < cLine) : CallR X (.builtin "repr") (rCD X.K (op1 opRepr)) := by
  intro pins s σ H vs us Q I rv q
  obtain ⟨F, ds, z, sf, p, hz, q⟩ := q
  obtain ⟨d, rfl, hz'⟩ := op1_some hz
  simp only [Rps] at p
  obtain ⟨v, r', rfl, p1, rfl⟩ := p
  simp only [opRepr, okShow, Bool.and_eq_true, decide_eq_true_eq, Option.ite_none_right_eq_some, Option.some.injEq] at hz'
  obtain ⟨⟨⟨h1, h2⟩, h3⟩, rfl⟩ := hz'
  have fin := q (.str (shownD d)) F H (Alc.refl sf) rp_str
  cases rv with
  | cons r rr =>
    cases rr
    cases d with
    | non =>
      simp only [Rp] at p1
      subst p1
      cases r
      exact PySem.P.repr_of_none ⟨.str _, H, I.tok _, ⟨_, rfl⟩, fin⟩
    | bl b =>
      simp only [Rp] at p1
      subst p1
      cases r
      refine PySem.P.repr_of_bool ⟨.str _, H, I.tok _, ⟨_, rfl⟩, ?_⟩
      cases b <;> exact fin
    | int i =>
      simp only [Rp] at p1
      subst p1
      obtain ⟨t, rfl⟩ := r
      exact PySem.P.repr_of_int (by simpa [toPy, PyData.showable] using h1) ⟨.str _, H, I.tok _, ⟨_, rfl⟩, fin⟩
    | str x =>
      simp only [Rp] at p1
      subst p1
      obtain ⟨t, rfl⟩ := r
      exact PySem.P.repr_of_str ⟨.str _, H, I.tok _, ⟨_, rfl⟩, fin⟩ h3
    | tup es =>
      have dp := dp_of sf _ _ p1
      simp only [Rp] at p1
      obtain ⟨a, ws, rfl, _, _⟩ := p1
      obtain ⟨as, rds⟩ := Dp.reads I _ _ _ dp r
      cases r
      exact repr_of_reads' rds h1 (fun z => by rw [noDict] at z; cases z) hgd (by omega) (fun _ _ e => e) (fun h' u tk hk => ⟨.str _, H, I.kept (t' := tk) hk, ⟨_, rfl⟩, fin⟩) h3
    | lst es =>
      have dp := dp_of sf _ _ p1
      simp only [Rp] at p1
      obtain ⟨a, ws, rfl, _, _⟩ := p1
      obtain ⟨as, rds⟩ := Dp.reads I _ _ _ dp r
      cases r
      exact repr_of_reads' rds h1 (fun z => by rw [noDict] at z; cases z) hgd (by omega) (fun _ _ e => e) (fun h' u tk hk => ⟨.str _, H, I.kept (t' := tk) hk, ⟨_, rfl⟩, fin⟩) h3

/-! ### f'{a}{b}' -/
def fmtD : D → Option D
  | .int i => if i.natAbs.log2 < 1920 then some (.str (toString i)) else none
  | .str s => if s.length ≤ sizeLine then some (.str s) else none
  | _ => none
theorem pm_fmt {e : Expr} {m : MM D} {pos : Pos} (he : PM γ X e m) : PM γ X (.FormattedValue e (-1) none pos) (eUn fmtD m) := pe_imp (pe_fmt he) fun σ H Q h => by
  obtain ⟨ro, F0, H0, F, env, rd, z, rd', hS, hm, q⟩ := h
  obtain ⟨d, rd1, m1, hm⟩ := bind1_some hm
  obtain ⟨m2, e2⟩ := lift_some hm
  subst e2
  refine ⟨ro, F0, H0, F, env, rd, d, _, hS, m1, fun v F' H' a r p => ?_⟩
  cases d with
  | int i =>
    simp only [fmtD, Option.ite_none_right_eq_some, Option.some.injEq] at m2
    obtain ⟨hl, rfl⟩ := m2
    simp only [Rp] at p
    exact .inr ⟨i, p, hl, q _ F' H' a r rp_str⟩
  | str s =>
    simp only [fmtD, Option.ite_none_right_eq_some, Option.some.injEq] at m2
    obtain ⟨hl, rfl⟩ := m2
    simp only [Rp] at p
    exact .inl ⟨s, p, hl, q _ F' H' a r rp_str⟩
  | _ => simp [fmtD] at m2
def opFcat (d e : D) : Option D := match d, e with
  | .str a, .str b => if (Str.empty ++ a).length ≤ sizeLine ∧ (Str.empty ++ a ++ b).length ≤ sizeLine then some (.str (Str.empty ++ a ++ b)) else none
  | _, _ => none
theorem pm_js2 {a b : Expr} {ma mb : MM D} {pos : Pos} (ha : PM γ X a ma) (hb : PM γ X b mb) : PM γ X (.JoinedStr [a, b] pos) (eOp opFcat ma mb) := pe_imp (pe_joined (.cons ha (.cons hb .nil))) fun σ H Q h => by
  obtain ⟨ro, F0, H0, F, env, rd, z, rd', hS, hm, q⟩ := h
  obtain ⟨d, rd1, m1, hm⟩ := bind1_some hm
  obtain ⟨e, rd2, m2, hm⟩ := bind1_some hm
  obtain ⟨m3, e3⟩ := lift_some hm
  subst e3
  cases d with
  | str x => cases e with
    | str y =>
      simp only [opFcat, Option.ite_none_right_eq_some, Option.some.injEq] at m3
      obtain ⟨⟨h1, h2⟩, rfl⟩ := m3
      refine ⟨ro, F0, H0, F, env, rd, _, rd1, hS, m1, fun v F1 H1 a1 r1 p1 => ?_⟩
      simp only [Rp] at p1
      refine ⟨x, p1, h1, ro, F0, H0, F1, env, rd1, _, _, hS.step a1 r1, m2, fun w F2 H2 a2 r2 p2 => ?_⟩
      simp only [Rp] at p2
      exact ⟨y, p2, h2, q _ F2 H2 (a1.trans a2) r2 rp_str⟩
    | _ => simp [opFcat] at m3
  | _ => simp [opFcat] at m3

/-! ### the reader's own list -/
def rdItem (k : Nat) (rd : Rdr) : Option D := match k with
  | 0 => some (.lst (rd.cells.map D.int))
  | 1 => some (.int rd.ix)
  | 2 => some (.int rd.rest)
  | 3 => some (.int rd.cnt)
  | _ => none
def eRd (i k : Nat) : MM D := fun env rd => match env[i]? with
  | some .rdr => (rdItem k rd).map fun d => (d, rd)
  | _ => none
theorem rps_ints {K : PySem.W.Frag} {F : Hp} : ∀ ns : List Int, Rps K F (ns.map D.int) (ns.map V.int)
  | [] => Rps.nil
  | n :: ns => Rps.cons rp_int (rps_ints ns)
theorem rd_at {K : PySem.W.Frag} {F H : Hp} {r c : Addr} {rd : Rdr} (h : RdOk (some (r, c)) rd F H) {k : Nat} {d : D} (e : rdItem k rd = some d) : ∃ v, atI [V.ref c, .int rd.ix, .int rd.rest, .int rd.cnt] (k : Int) = some v ∧ Rp K F d v := by
  match k, e with
  | 0, e =>
    cases e
    exact ⟨.ref c, rfl, Rps.lst h.2.2 (rps_ints _)⟩
  | 1, e =>
    cases e
    exact ⟨_, rfl, rp_int⟩
  | 2, e =>
    cases e
    exact ⟨_, rfl, rp_int⟩
  | 3, e =>
    cases e
    exact ⟨_, rfl, rp_int⟩
theorem pm_rd {i : Nat} {y : Str} {p2 p3 pos : Pos} {k : Nat} {j : Nat} (hv : PE X (.Name y p2) (tVar i)) (hs : PlainIx (.Constant (.int (k : Int)) j p3) := by exact fun _ _ => rfl) : PM γ X (.Subscript (.Name y p2) (.Constant (.int (k : Int)) j p3) pos) (eRd i k) :=
  pe_imp (pe_ix ix_list hv pe_int hs) fun σ H Q ⟨ro, F0, H0, F, env, rd, z, rd', hS, hm, q⟩ => by
  unfold eRd at hm
  split at hm
  · rename_i hi
    simp only [Option.map_eq_some_iff, Prod.mk.injEq] at hm
    obtain ⟨d, h1, rfl, rfl⟩ := hm
    obtain ⟨o, s1, r, c, rfl, rfl⟩ := hS.env.ok i _ hi
    obtain ⟨v, h2, h3⟩ := rd_at (K := X.K) hS.rd h1
    exact ⟨.ref r, s1, r, _, k, v, rfl, rfl, sqL_of hS.rd.2.1, h2, q v F H (Stp.refl hS.st.fh) hS.rd h3⟩
  · cases hm
def rdPut (k : Nat) (x : Int) (rd : Rdr) : Option Rdr := match k with
  | 1 => some { rd with ix := x }
  | 2 => some { rd with rest := x }
  | 3 => some { rd with cnt := x }
  | _ => none
def sRd (i k : Nat) (m : MM D) : MM Fl := bind1 m fun d env rd => match env[i]?, d with
  | some .rdr, .int x => (rdPut k x rd).map fun rd' => (.nx env, rd')
  | _, _ => none
theorem pms_rd {i : Nat} {y : Str} {p2 p3 p4 pos : Pos} {k : Nat} {j : Nat} {e : Expr} {m : MM D} (he : PM γ X e m)
    (hst : PG X (.Subscript (.Name y p2) (.Constant (.int (k : Int)) j p3) p4) (gSub (tVar i) (tC (.int (k : Int))) rSetL))
    (hs : swapsWithSole [.Subscript (.Name y p2) (.Constant (.int (k : Int)) j p3) p4] e pos.line X.env = pure false := by rfl) (hw : swappedStores [.Subscript (.Name y p2) (.Constant (.int (k : Int)) j p3) p4] e X.env = pure none := by rfl)
    (h1 : (assignEach [.Subscript (.Name y p2) (.Constant (.int (k : Int)) j p3) p4] X.env).map (·.2) = [assign (.Subscript (.Name y p2) (.Constant (.int (k : Int)) j p3) p4) X.env] := by rfl) :
    PMS γ W X (.Assign [.Subscript (.Name y p2) (.Constant (.int (k : Int)) j p3) p4] e pos) (sRd i k m) := ps_imp (ps_asg he hst hs hw h1) fun D σ H ⟨ro, F0, H0, F, env, rd, fl, rd', hS, hm, q⟩ => by
  obtain ⟨d, rd1, m1, hm⟩ := bind1_some hm
  split at hm
  · rename_i x hi
    simp only [Option.map_eq_some_iff, Prod.mk.injEq] at hm
    obtain ⟨rd2, h2, rfl, rfl⟩ := hm
    obtain ⟨o, s1, r, c, rfl, rfl⟩ := hS.env.ok i _ hi
    refine ⟨_, F0, H0, F, env, rd, _, rd1, hS, m1, fun v F' H' a r1 p => ?_⟩
    simp only [Rp] at p
    subst p
    have S1 := hS.step a r1
    have hr := r1.2.1
    have fin : ∀ xs : List V, xs = [V.ref c, .int rd2.ix, .int rd2.rest, .int rd2.cnt] → rd2.cells = rd1.cells → D.nx σ (upd H' r (.lst xs)) := fun xs e ec => by
      subst e
      refine q σ F' _ ⟨⟨S1.st.ff, fun b o hb => ?_, fun b o hb n t => ?_, fun h => tabs_lst (S1.st.tb h) (.inr ⟨_, hr⟩), S1.st.nt, fun b hb => ?_, S1.st.fz⟩, ⟨r1.1, upd_same, by rw [ec]; exact r1.2.2⟩, ⟨S1.env.len, fun jj sv es => ?_, S1.env.sep⟩, S1.tab.rdr hr r1.1⟩
      · rw [upd_ne (fun z => by subst z; rw [r1.1] at hb; cases hb)]
        exact S1.st.fh b o hb
      · rw [upd_ne (fun z => n c (by rw [z]))]
        exact S1.st.hh b o hb n t
      · by_cases hbr : b = r
        · subst hbr
          rw [upd_same] at hb
          cases hb
        · rw [upd_ne hbr] at hb
          exact S1.st.hn b hb
      · obtain ⟨o, q1, q2⟩ := S1.env.ok jj sv es
        refine ⟨o, q1, ?_⟩
        cases sv with
        | own ds =>
          obtain ⟨p, vs, rfl, t1, t2, t3, t4, t5⟩ := q2
          refine ⟨p, vs, rfl, t1, ?_, t3, t4, t5⟩
          rw [upd_ne (fun z => t5.1 c (by rw [z]))]
          exact t2
        | exn c' fs =>
          obtain ⟨a, cls, d, t1, t2, C, dd, l, t3, t4, t5, t6, t7, t8⟩ := q2
          refine ⟨a, cls, d, t1, t2, C, dd, l, t3, t4, t5, ?_, t7, t8⟩
          rw [upd_ne (fun z => t7 c (by rw [z]))]
          exact t6
        | _ => exact q2
    match k, h2 with
    | 1, h2 =>
      cases h2
      exact ⟨.ref r, s1, r, _, _, 1, rfl, rfl, hr, rfl, fin _ rfl rfl⟩
    | 2, h2 =>
      cases h2
      exact ⟨.ref r, s1, r, _, _, 2, rfl, rfl, hr, rfl, fin _ rfl rfl⟩
    | 3, h2 =>
      cases h2
      exact ⟨.ref r, s1, r, _, _, 3, rfl, rfl, hr, rfl, fin _ rfl rfl⟩
  · cases hm
end
end FW

set_option Elab.async false
set_option linter.all false
set_option maxRecDepth 100000
set_option maxHeartbeats 1000000
namespace FW
open PySem PySem.Spec PyProof.Rows L2
variable {γ : Gm} {W : WX} {g : Bool}
section
variable {X : Cx} {k : Nat} {f : Addr} {fd : FuncData} {ps : List Str} {sp : Sp} {x : Str} {p pos : Pos} {e : Expr} {es : List Expr} {t : TA}
/-- a call by any promise -/
theorem pe_callM (G : FnM g X.prog X.w X.K X.mg X.base k f fd ps sp) (hr : Room k X.A) (hgd : g = true → X.A.guards = some []) (hg : Gl X x) (hm : X.mg x = some (.ref f)) (hk : PySem.W.keepIn X.K (.ref f) = true) (hb : Binds X.K fd ps [])
    (ha : PA X (e :: es) t) (hdb : (x == ("__debug__" : Str)) = false := by decide) (he : starEach (e :: es) X.env = (false, eval e X.env) :: starEach es X.env := by rfl) (hpl : (backTo pos (starEach es X.env)).any (·.1) = false := by rfl) :
    PE X (.Call (.Name x p) (e :: es) [] pos) (tCall sp [] L2.E0 t) := by
  refine ⟨fun pins s σ H Q I h => ?_⟩
  refine wpAny_Call_Name_kw (ld_glob I hg hm ?_ hdb)
  refine PySem.W.callWith_K (h₀ := X.base) I.ok.mod.kin hk (thn (ha.run pos pins s σ H _ I h) ?_) he hpl
  rintro us s1 ⟨vs, H1, I1, rv, q⟩
  rw [List.append_nil] at q
  have hl : (us ++ []).length = ps.length := by
    rw [List.append_nil, ← rv.length]
    exact G.len _ _ _ _ q
  have hb' := hb s1 us I1.kIn hl
  rw [List.append_nil] at hb'
  refine ⟨I1.kIn, wpAny_call (codeAny_mono (G.run X.A X.stack s1 H1 ⟨us, []⟩ us vs Q L2.E0 hr hgd I1.env0 hb' rv q) ?_)⟩
  intro res s' hq
  match res, hq with
  | .error e, hq => exact (passL pins σ H1 s1 e s' I1 hq)
  | .ok (.ret u), hq => exact I1.after hq
  | .ok .next, hq => exact hq.elim
  | .ok .brk, hq => exact hq.elim
  | .ok .cont, hq => exact hq.elim
end

/-! ### the script, the law -/
def spReader (K : PySem.W.Frag) : Sp := fun vs H Q _ => ∃ (a : Addr) (ns : List Int), vs = [.ref a] ∧ SqL K H a (ns.map V.int) ∧ ns.length ≤ 63 ∧
  ∀ r c H', Same H H' → r ≠ c → H' r = some (.lst [.ref c, .int 0, .int 0, .int 0]) → H' c = some (.lst (ns.map V.int)) → Q (.ref r) H'
def spLawM (γ : Gm) (K : PySem.W.Frag) : Sp := fun vs H Q _ => ∃ (a : Addr) (ns : List Int), LamX.Tabs γ.T H ∧ vs = [.ref a] ∧ SqL K H a (ns.map V.int) ∧ ns.length ≤ 63 ∧ ∀ H', Q (.bl true) H'
theorem cut63 {ns : List Int} (h : ns.length ≤ 63) : cutV (ns.map V.int) none (some 63) = ns.map V.int := by
  unfold cutV
  rw [HT.sIx_none, List.length_map, show HT.sIx ns.length ns.length (some 63) = min 63 ns.length from HT.sIx_nat ns.length ns.length 63, Nat.min_eq_right h, List.drop_zero, Nat.sub_zero]
  exact List.take_of_length_le (by rw [List.length_map]; exact Nat.le_refl _)
theorem reading_reader {K : PySem.W.Frag} {H : Hp} {vs : List V} {Q : VK} {E : XK} {N : List Str} {D : Ends} (h : spReader K vs H Q E) (hD : D.rt = Q) :
    tRet (tLst (tCons (tSl (rSlL K) (tVar 0) tNoPart (tPart (tC (.int 63)))) (tCons (tC (.int 0)) (tCons (tC (.int 0)) (tCons (tC (.int 0)) tNil))))) D (L2.start N vs) H := by
  obtain ⟨a, ns, rfl, hS, hl, q⟩ := h
  refine ⟨.ref a, rfl, 63, rfl, a, _, rfl, hS, fun c hc => ?_⟩
  refine ⟨(by decide : (4 : Nat) ≤ sizeLine), fun r hr => ?_⟩
  rw [hD]
  have hrc : r ≠ c := fun z => by
    subst z
    rw [upd_same] at hr
    cases hr
  refine q r c _ ((same_new hc).trans (same_new hr)) hrc upd_same ?_
  rw [upd_ne (Ne.symm hrc), upd_same, cut63 hl]
/-- the law's own def: the reader, then the rest -/
def env0 (n : Nat) : List SV := [SV.un, SV.rdr] ++ List.replicate n SV.un
theorem reading_law (hlam : γ.lam = none) {K : PySem.W.Frag} {H : Hp} {vs : List V} {Q : VK} {E : XK} {N : List Str} {D : Ends} {m : MM Fl} (hN : 2 ≤ N.length) (h : spLawM γ K vs H Q E) (hD : D.rt = Q)
    (pure : ∀ ns : List Int, ns.length ≤ 63 → ∃ rd', m (env0 (N.length - 2)) ⟨ns, 0, 0, 0⟩ = some (.ret (.bl true), rd')) :
    tSeq (tAsg (tCall (spReader K) [] L2.E0 (tCons (tVar 0) tNil)) (gName 1)) (tMS γ W K m) D (L2.start N vs) H := by
  obtain ⟨a, ns, htab, rfl, hS, hl, q⟩ := h
  refine ⟨.ref a, rfl, a, ns, rfl, hS, hl, fun r c H' sm hrc hr hc => ?_⟩
  obtain ⟨rd', hm⟩ := pure ns hl
  have e : (L2.start N [V.ref a]).set 1 (some (.ref r)) = [some (.ref a), some (.ref r)] ++ List.replicate (N.length - 2) none := by
    unfold L2.start
    obtain ⟨n, hn⟩ : ∃ n, N.length = n + 2 := ⟨N.length - 2, by omega⟩
    rw [hn]
    simp [List.replicate_succ]
  show tMS γ W K m D ((L2.start N [V.ref a]).set 1 (some (.ref r))) H'
  rw [e]
  have tab' := htab.ext sm
  let F : Hp := fun b => if b = r ∨ b ∈ γ.T.map (·.1) then none else H' b
  have fr : F r = none := if_pos (.inl rfl)
  have fT : ∀ p ∈ γ.T, F p.1 = none := fun p hp => if_pos (.inr (List.mem_map.mpr ⟨p, hp, rfl⟩))
  have fn : ∀ b, b ≠ r → b ∉ γ.T.map (·.1) → F b = H' b := fun b h h2 => if_neg (fun z => z.elim h h2)
  have nT : ∀ b xs, H' b = some (.lst xs) → b ∉ γ.T.map (·.1) := fun b xs hb hm => by
    obtain ⟨p, hp, rfl⟩ := List.mem_map.mp hm
    obtain ⟨ps, h1, _⟩ := tab' p hp
    rw [hb] at h1
    cases h1
  have sf : Same F H' := fun b o hb => by
    by_cases z : b = r ∨ b ∈ γ.T.map (·.1)
    · have fb : F b = none := if_pos z
      rw [fb] at hb
      cases hb
    · rw [fn b (fun q => z (.inl q)) (fun q => z (.inr q))] at hb
      exact hb
  refine ⟨some (r, c), F, H', F, env0 (N.length - 2), ⟨ns, 0, 0, 0⟩, .ret (.bl true), rd', ⟨Stp.refl sf, ⟨fr, hr, by rw [fn c (Ne.symm hrc) (nT c _ hc)]; exact hc⟩, ⟨?_, fun i sv es => ?_, fun i j ds es p _ e1 _ _ => ?_⟩, ⟨⟨tab', fT⟩, LamOk.off hlam⟩⟩, hm, fun v F2 H2 _ _ pv => ?_⟩
  · simp [env0]
  · match i, es with
    | 0, es =>
      have es' : some SV.un = some sv := by simpa [env0] using es
      cases es'
      exact ⟨_, rfl, trivial⟩
    | 1, es =>
      have es' : some SV.rdr = some sv := by simpa [env0] using es
      cases es'
      exact ⟨_, rfl, r, c, rfl, rfl⟩
    | i + 2, es =>
      have es' : (List.replicate (N.length - 2) SV.un)[i]? = some sv := by simpa [env0] using es
      have hi : i < N.length - 2 := by
        have := (List.getElem?_eq_some_iff.mp es').1
        simpa using this
      rw [List.getElem?_replicate, if_pos hi] at es'
      cases es'
      exact ⟨none, by simp [List.getElem?_replicate, hi], trivial⟩
  · match i, e1 with
    | 0, e1 => simp [env0] at e1
    | 1, e1 => simp [env0] at e1
    | i + 2, e1 =>
      have e1' : (List.replicate (N.length - 2) SV.un)[i]? = some (.own ds) := by simpa [env0] using e1
      have := List.eq_of_mem_replicate (List.mem_of_getElem? e1')
      cases this
  · simp only [Rp] at pv
    subst pv
    rw [hD]
    exact q H2

/-! ### the end of a law's row -/
theorem caller_guards : callerA.guards = some [] := rfl
/-- the code objects and tables that the law's own lambdas grow: (code, table, the lambda's long name) -/
abbrev Cts := List (Addr × Addr × Str)
def Cts.T (cs : Cts) : List (Addr × Str) := cs.map fun p => (p.2.1, p.2.2)
def Cts.at (cs : Cts) (b : Addr) : Bool := cs.any fun p => decide (p.2.1 = b)
theorem Cts.of_at {cs : Cts} {b : Addr} (h : cs.at b = true) : ∃ p ∈ cs, p.2.1 = b := by
  obtain ⟨p, hp, e⟩ := List.any_eq_true.mp h
  exact ⟨p, hp, of_decide_eq_true e⟩
theorem Cts.mk_at {cs : Cts} {p : Addr × Addr × Str} (h : p ∈ cs) : cs.at p.2.1 = true := List.any_eq_true.mpr ⟨p, h, decide_eq_true rfl⟩
/-- what the head tells of them -/
structure CtsOk (K : PySem.W.Frag) (h : Heap) (cs : Cts) : Prop where
  hd : ∀ p ∈ cs, PySem.W.CodeHd h p.1 p.2.1
  em : ∀ p ∈ cs, h.get? p.2.1 = some (PySem.W.tabObj #[])
  no : ∀ p ∈ cs, K.lookup p.2.1 = none
def CtB (base : Heap) (mg : Str → Option Value) (cs : Cts) : Prop := ∀ p ∈ cs, LamX.TabB base mg p.1 p.2.1
def BMain (mg : Str → Option Value) (h : Heap) : Prop := ∃ (bm : Addr) (ob : Obj), mg "__builtins__" = some (.ref bm) ∧ bm ≠ builtinsNs ∧ h.get? bm = some ob ∧ ob.cls = .type "module" ∧ ob.dict = some builtinsNs ∧ ob.data = .plain
theorem lawM_call {γ : Gm} {P : Program} {w : World} {K : PySem.W.Frag} {mg mb : Str → Option Value} {k : Nat} {fa a : Addr} {fd : FuncData} {x : Str} {s₁ : Shared} {us : List Value} {ns : List Int} {cs : Cts} (hγ : γ.T = cs.T)
    (inK : K.In s₁.heap) (gl : s₁.heap.Ns mainGlobals mg) (bl : s₁.heap.Ns builtinsNs mb) (blt : ∀ x : Str, x ≠ "__name__" → mb x = bootBuiltins x) (lim : s₁.heap.NoLimit) (gens : s₁.gens = #[]) (CO : CtsOk K s₁.heap cs) (bmn : BMain mg s₁.heap)
    (ha : s₁.heap.get? a = some { cls := .type "list", data := .seq us.toArray }) (hints : IntsAre us ns) (hl : ns.length ≤ 63) (hr : Room k callerA)
    (G : ∀ base : Heap, K.In base → base.Ns mainGlobals mg → CtB base mg cs → FnM g P w K mg base k fa fd [x] (spLawM γ K)) (bind : ∀ (s : Shared) (u : Value), BindsTo s fd ⟨[u], []⟩ [(x, u)]) :
    codeAny (model P w) callerA (.call (.ref fa) ⟨[.ref a], []⟩) (fun r s' => r = .ok (.ret (.bool true)) ∧ OldK s₁.heap s'.heap ∧ s'.os = s₁.os ∧ AllBare s'.gens) s₁ := by
  have vals := vals_ints hints
  have hl2 : ns.length ≤ sizeLine := Nat.le_trans hl (by decide)
  have noSc : cs.at a = false := by
    cases hc : cs.at a with
    | false => rfl
    | true =>
      obtain ⟨p, hp, e⟩ := Cts.of_at hc
      have z := CO.em p hp
      rw [e, ha] at z
      exact nomatch (show Data.seq us.toArray _ = Data.fields #[] from congrArg Obj.data (Option.some.inj z))
  have tabObj_at : ∀ b, cs.at b = true → s₁.heap.get? b = some (PySem.W.tabObj #[]) := fun b hb => by
    obtain ⟨p, hp, rfl⟩ := Cts.of_at hb
    exact CO.em p hp
  -- over a heap of which the script, if at all, and the tables are tracked
  have over : ∀ H : Hp, (∀ b, cs.at b = true → H b = some (.tbl #[])) → SqL K H a (ns.map V.int) → HOk P w H s₁.heap → (∀ b, H b ≠ none → cs.at b = true ∨ (b = a ∧ K.lookup a = none ∧ ∃ ob xs, H b = some (.frz ob (.lst xs)))) →
      codeAny (model P w) callerA (.call (.ref fa) ⟨[.ref a], []⟩) (fun r s' => r = .ok (.ret (.bool true)) ∧ OldK s₁.heap s'.heap ∧ s'.os = s₁.os ∧ AllBare s'.gens) s₁ := by
    intro H tbls seq hok just
    -- what is neither a list nor an empty record is not tracked
    have untr : ∀ {b : Addr} {o : Obj}, s₁.heap.get? b = some o → (∀ xs n, o.data ≠ .seq xs n) → o.data ≠ .fields #[] → H b = none := by
      intro b o e h1 h2
      cases hb : H b with
      | none => rfl
      | some u =>
        rcases just b (by rw [hb]; exact fun z => nomatch z) with ht | ⟨rfl, _⟩
        · rw [tabObj_at b ht] at e
          cases e
          exact (h2 rfl).elim
        · rw [ha] at e
          cases e
          exact (h1 _ _ rfl).elim
    have dicts : ∀ {b : Addr} {o : Obj} {ds : Array DictEntry} {n : Nat}, s₁.heap.get? b = some o → o.data = .dict ds n → H b = none := by
      intro b o ds n e d
      refine untr e (fun xs m z => ?_) fun z => ?_
      · rw [d] at z
        cases z
      · rw [d] at z
        cases z
    have names : ∀ {b : Addr} {m : Str → Option Value}, s₁.heap.Ns b m → (hidT s₁.heap H).Ns b m := by
      rintro b m ⟨o, ds, n, e, d, rest⟩
      exact ⟨o, ds, n, hidT_get e (dicts e d), d, rest⟩
    have inBase : K.In (hidT s₁.heap H) := by
      intro b o e
      refine hidT_get (inK b o e) ?_
      cases hb : H b with
      | none => rfl
      | some u =>
        rcases just b (by rw [hb]; exact fun z => nomatch z) with ht | ⟨rfl, no, _⟩
        · obtain ⟨p, hp, rfl⟩ := Cts.of_at ht
          rw [CO.no p hp] at e
          cases e
        · rw [no] at e
          cases e
    have modl : Mod K mg (hidT s₁.heap H) := by
      refine ⟨inBase, names gl, ⟨mb, names bl, blt⟩, ?_⟩
      obtain ⟨m, h1, h2⟩ := lim
      exact ⟨m, names h1, h2⟩
    have entry : Env0 P w K mg (hidT s₁.heap H) callerA [] s₁ H := by
      refine ⟨rfl, modl, fun b o e => of_hidT e, Nat.le_of_eq (hidT_size _ _), trivial, fun b hb => ?_, hok, .of_eq gens⟩
      exact (List.not_mem_nil (show b ∈ ([] : List Addr) from hb)).elim
    have ctb : CtB (hidT s₁.heap H) mg cs := by
      intro p hp
      have hem := CO.em p hp
      refine ⟨?_, ?_, ?_⟩
      · obtain ⟨o, vs, file, tf, flags, tg, inF, text, tt, e1, r1, r2, r3, rest⟩ := CO.hd p hp
        refine ⟨o, vs, file, tf, flags, tg, inF, text, tt, hidT_get e1 (untr e1 (fun xs n z => ?_) fun z => ?_), r1, r2, r3, rest⟩
        · rw [r2] at z
          cases z
        · rw [r2] at z
          cases z
          simp at r3
      · obtain ⟨bm, ob, b1, b2, b3, b4, b5, b6⟩ := bmn
        refine ⟨bm, ob, b1, b2, fun z => ?_, fun z => ?_, hidT_get b3 (untr b3 (fun xs n z => ?_) fun z => ?_), b4, b5, b6⟩
        · subst z
          obtain ⟨o, ds, n, e, d, _⟩ := gl
          rw [b3] at e
          cases e
          rw [b6] at d
          cases d
        · subst z
          rw [b3] at hem
          cases hem
          cases b6
        · rw [b6] at z
          cases z
        · rw [b6] at z
          cases z
      · intro z
        obtain ⟨o, ds, n, e, d, _⟩ := gl
        rw [z, hem] at e
        cases e
        cases d
    have tabs : LamX.Tabs γ.T H := by
      rw [hγ]
      intro q hq
      obtain ⟨p, hp, rfl⟩ := List.mem_map.mp hq
      exact LamX.TabS.nil (tbls _ (Cts.mk_at hp))
    refine codeAny_mono ((G _ inBase (names gl) ctb).run callerA [] s₁ H ⟨[.ref a], []⟩ [.ref a] [.ref a] (fun v _ => v = .bl true) L2.E0 hr (fun _ => caller_guards) entry (bind s₁ (.ref a)) (.cons rfl .nil) ⟨a, ns, tabs, rfl, seq, hl, fun _ => rfl⟩) ?_
    intro res s' out
    match res, out with
    | .error _, out =>
      obtain ⟨_, _, _, _, _, _, _, _, _, _, _, _, z⟩ := out
      exact z.elim
    | .ok .next, out => exact out.elim
    | .ok .brk, out => exact out.elim
    | .ok .cont, out => exact out.elim
    | .ok (.ret u), out =>
      obtain ⟨v, H', os, bare, un, hok', rel, hv⟩ := out
      have hv' : v = .bl true := hv
      subst hv'
      have hu : u = Value.bool true := rel
      subst hu
      have kept : ∀ b o, cs.at b = false → s₁.heap.get? b = some o → s'.heap.get? b = some o := by
        intro b o hc e
        cases hb : H b with
        | none =>
          refine un.keep b o e hb (fun z => ?_) (fun z => ?_)
          · exact List.not_mem_nil (show b ∈ ([] : List Addr) from z)
          · exact List.not_mem_nil z
        | some u =>
          rcases just b (by rw [hb]; exact fun z => nomatch z) with ht | ⟨_, _, ob, xs, lock⟩
          · rw [hc] at ht
            cases ht
          · have k1 := (hok b _ lock).1
            have k2 := (hok' b _ (un.frzs b ob _ lock)).1
            rw [e] at k1
            cases k1
            exact k2
      have grown : ∀ b, cs.at b = true → ∃ more : Array Value, s'.heap.get? b = some (PySem.W.tabObj more) := by
        intro b hb
        obtain ⟨more, e⟩ := un.tbls b #[] (tbls b hb)
        exact ⟨_, hok' b _ e⟩
      refine ⟨rfl, ⟨fun b o e => ?_, fun b o e => ?_⟩, os, bare⟩
      · cases hc : cs.at b with
        | false => exact .inl (kept b o hc e)
        | true =>
          obtain ⟨more, hm⟩ := grown b hc
          obtain ⟨p, hp, rfl⟩ := Cts.of_at hc
          rw [CO.em p hp] at e
          cases e
          exact .inr (.inl ⟨((CO.hd p hp).tab (CO.em p hp)).isCodeTable, rfl, #[], more, rfl, by rw [Array.empty_append]; exact hm⟩)
      · cases hc : cs.at b with
        | false => exact ⟨o, kept b o hc e⟩
        | true =>
          obtain ⟨more, hm⟩ := grown b hc
          exact ⟨_, hm⟩
  cases hK : K.lookup a with
  | some o =>
    have e := inK a o hK
    rw [ha] at e
    cases e
    let H : Hp := fun b => if cs.at b = true then some (.tbl #[]) else none
    have t1 : ∀ b, cs.at b = true → H b = some (.tbl #[]) := fun b h => if_pos h
    have t2 : ∀ b u, H b = some u → cs.at b = true ∧ u = .tbl #[] := fun b u h => by
      cases hc : cs.at b with
      | true =>
        rw [t1 b hc] at h
        exact ⟨rfl, (Option.some.inj h).symm⟩
      | false =>
        have z : H b = none := if_neg (by rw [hc]; exact fun z => by cases z)
        rw [z] at h
        cases h
    refine over H t1 (.inr ⟨_, us.toArray, _, hK, rfl, rfl, rfl, ?_, by simpa using vals⟩) (fun b u z => ?_) (fun b z => ?_)
    · rw [List.size_toArray, hints.length]
      exact hl2
    · obtain ⟨hc, rfl⟩ := t2 b u z
      exact tabObj_at b hc
    · cases hb : H b with
      | none => exact absurd hb z
      | some u => exact .inl (t2 b u hb).1
  | none =>
    let L : HO := .frz { cls := .type "list", data := .seq us.toArray } (.lst (ns.map V.int))
    let H : Hp := fun b => if cs.at b = true then some (.tbl #[]) else if b = a then some L else none
    have t1 : ∀ b, cs.at b = true → H b = some (.tbl #[]) := fun b h => if_pos h
    have at_a : H a = some L := by
      have z : H a = if a = a then some L else none := if_neg (by rw [noSc]; exact fun z => by cases z)
      rw [z, if_pos rfl]
    have t2 : ∀ b u, H b = some u → (cs.at b = true ∧ u = .tbl #[]) ∨ (b = a ∧ u = L) := fun b u h => by
      cases hc : cs.at b with
      | true =>
        rw [t1 b hc] at h
        exact .inl ⟨rfl, (Option.some.inj h).symm⟩
      | false =>
        have z : H b = if b = a then some L else none := if_neg (by rw [hc]; exact fun z => by cases z)
        by_cases hb : b = a
        · rw [z, if_pos hb] at h
          exact .inr ⟨hb, (Option.some.inj h).symm⟩
        · rw [z, if_neg hb] at h
          cases h
    refine over H t1 (.inl (.inr ⟨_, at_a⟩)) (fun b u z => ?_) (fun b z => ?_)
    · rcases t2 b u z with ⟨hc, rfl⟩ | ⟨rfl, rfl⟩
      · exact tabObj_at b hc
      · exact ⟨ha, by rw [List.length_map]; exact hl2, us, _, vals, ha⟩
    · cases hb : H b with
      | none => exact absurd hb z
      | some u =>
        rcases t2 b u hb with ⟨hc, _⟩ | ⟨rfl, rfl⟩
        · exact .inl hc
        · exact .inr ⟨rfl, hK, _, _, rfl⟩
theorem walkM {l : PySem.W.OpenLaw} {k : Nat} {q : Program} {loose : List Str} {XP : (Str → Option Value) → Heap → Prop} {YP : World → Heap → Prop} {d : DefRec} {K : Params → PySem.W.Frag} {x : Str}
    (hn : l.most = some 63) (hdf : d.params.defaults = []) (hr : Room k callerA) (hY : ∀ (w : World) (h : Heap), YP w h → (K w.params).In h)
    (G : ∀ (w : World) (mg : Str → Option Value) (fa : Addr) (h : Heap), (K w.params).In h → h.Ns mainGlobals mg → XP mg h → mg d.name = some (.ref fa) →
      ∃ (γ : Gm) (cs : Cts) (fd : FuncData), γ.T = cs.T ∧ ((∀ (y : Str) (c P : Addr), PySem.W.tabIn (K w.params) y = some (c, P) → (∃ e, (recsOf q).find? (fun e => e.name == y) = some e) → PySem.W.CodeHd h c P ∧ h.get? P = some (PySem.W.tabObj #[])) → CtsOk (K w.params) h cs) ∧
        (∀ (s : Shared) (u : Value), BindsTo s fd ⟨[u], []⟩ [(x, u)]) ∧ ∀ base : Heap, (K w.params).In base → base.Ns mainGlobals mg → CtB base mg cs → FnM g l.prog w (K w.params) mg base k fa fd [x] (spLawM γ (K w.params))) :
    PySem.W.WalkO q loose XP YP l.row.toRowW d [] (fun f vs => PySem.call f vs) := by
  refine Att.attach_call hn hdf ?_
  intro w s₀ s₁ mg mb fa o pm cd doc a us ns G0 Y ho hd hcd hmg hobj hints len gens
  obtain ⟨γ, cs, fd, hγ, co, bind, hG⟩ := G w mg fa _ (hY w _ Y) G0.T.g G0.X hmg
  have CO := co fun y c P ht ⟨e, he⟩ => PySem.W.tab_of G0.T (hY w _ Y) he ht
  exact lawM_call hγ (hY w _ Y) G0.T.g G0.T.b G0.T.builtins G0.T.nolimit gens CO G0.T.bmain hobj hints len hr hG bind
end FW

set_option Elab.async false
set_option linter.all false
set_option maxRecDepth 100000
set_option maxHeartbeats 1000000
namespace FW
open PySem PySem.Spec PyProof.Rows L2
variable {γ : Gm} {W : WX} {g : Bool}
section
variable {X : Cx}
/-! ### in, not in: flat items -/
def toV : D → V
  | .non => .non
  | .bl b => .bl b
  | .int i => .int i
  | .str s => .str s
  | _ => .non
theorem flat_toV {K : PySem.W.Frag} {F : Hp} {d : D} {v : V} (h : flatD d = true) (p : Rp K F d v) : v = toV d ∧ flatV v = true := by
  cases d with
  | tup _ => simp [flatD] at h
  | lst _ => simp [flatD] at h
  | _ =>
    simp only [Rp] at p
    subst p
    exact ⟨rfl, rfl⟩
theorem flats_toV {K : PySem.W.Frag} {F : Hp} : ∀ {ds : List D} {vs : List V}, ds.all flatD = true → Rps K F ds vs → vs = ds.map toV ∧ vs.all flatV = true
  | [], vs, _, p => by
    simp only [Rps] at p
    subst p
    exact ⟨rfl, rfl⟩
  | d :: ds, vs, h, p => by
    simp only [List.all_cons, Bool.and_eq_true] at h
    simp only [Rps] at p
    obtain ⟨v, r, rfl, p1, p2⟩ := p
    obtain ⟨e1, f1⟩ := flat_toV h.1 p1
    obtain ⟨e2, f2⟩ := flats_toV h.2 p2
    subst e1 e2
    exact ⟨rfl, by simp only [List.all_cons, Bool.and_eq_true]; exact ⟨f1, f2⟩⟩
def inD (d : D) (ds : List D) : Bool := inV (toV d) (ds.map toV)
def opIn (neg : Bool) (d e : D) : Option D := match seqOf e with
  | some ds => if flatD d = true ∧ ds.all flatD = true then some (.bl (if neg = true then !inD d ds else inD d ds)) else none
  | none => none
theorem r_in (neg : Bool) : R2ok X.K (rIn X.K neg) (opIn neg) := fun F H x y d e z Q sf pd pe hz q => by
  unfold opIn at hz
  split at hz
  · rename_i ds hs
    simp only [Option.ite_none_right_eq_some, Option.some.injEq] at hz
    obtain ⟨⟨h1, h2⟩, rfl⟩ := hz
    obtain ⟨rfl, f1⟩ := flat_toV h1 pd
    have fin := q _ F H (Alc.refl sf) rp_bl
    cases e with
    | tup es =>
      simp only [seqOf, Option.some.injEq] at hs
      subst hs
      simp only [Rp] at pe
      obtain ⟨a, vs, rfl, t1, t2⟩ := pe
      obtain ⟨rfl, f2⟩ := flats_toV h2 t2
      exact ⟨a, _, rfl, .inr (sqT_mono sf t1), f1, f2, fin⟩
    | lst es =>
      simp only [seqOf, Option.some.injEq] at hs
      subst hs
      simp only [Rp] at pe
      obtain ⟨a, vs, rfl, t1, t2⟩ := pe
      obtain ⟨rfl, f2⟩ := flats_toV h2 t2
      exact ⟨a, _, rfl, .inl (sqL_of (sf _ _ t1)), f1, f2, fin⟩
    | _ => simp [seqOf] at hs
  · cases hz
theorem or_in : OpR X (compareOp .In) (rD X.K (opIn false)) := opr_of op_in_seq (r_in false)
theorem or_notin : OpR X (compareOp .NotIn) (rD X.K (opIn true)) := opr_of op_notIn_seq (r_in true)
end

/-! ### a def of the text and its promise in one -/
def Ok (g : Bool) (P : Program) (w : World) (K : PySem.W.Frag) (mg : Str → Option Value) (base : Heap) (x : Str) (k : Nat) (ps : List Str) (sp : Sp) : Prop :=
  ∃ (f : Addr) (fd : FuncData), FnM g P w K mg base k f fd ps sp ∧ mg x = some (.ref f) ∧ PySem.W.keepIn K (.ref f) = true ∧ Binds K fd ps []
section
variable {X : Cx} {j k n : Nat} {ps : List Str} {fm : FM} {x : Str} {p pos : Pos} {e : Expr} {es : List Expr}
theorem pm_o {ma : MM (List D)} (G : Ok g X.prog X.w X.K X.mg X.base x k ps (spM γ X.K false n fm)) (hr : Room j X.A) (hgd : g = true → X.A.guards = some []) (hk : k ≤ j) (hg : Gl X x)
    (ha : PMA γ X (e :: es) ma) (hdb : (x == ("__debug__" : Str)) = false := by decide) (he : starEach (e :: es) X.env = (false, eval e X.env) :: starEach es X.env := by rfl) (hpl : (backTo pos (starEach es X.env)).any (·.1) = false := by rfl) :
    PM γ X (.Call (.Name x p) (e :: es) [] pos) (eFn fm n ma) := by
  obtain ⟨f, fd, G, g, kp, b⟩ := G
  exact pm_call G (hr.mono hk) hgd hg g kp b ha hdb he hpl
theorem pm_o0 (G : Ok g X.prog X.w X.K X.mg X.base x k ps (spM γ X.K false 0 fm)) (hr : Room j X.A) (hgd : g = true → X.A.guards = some []) (hk : k ≤ j) (hg : Gl X x) (hdb : (x == ("__debug__" : Str)) = false := by decide) :
    PM γ X (.Call (.Name x p) [] [] pos) (eFn fm 0 aNil) := by
  obtain ⟨f, fd, G, g, kp, b⟩ := G
  exact pm_call0 G (hr.mono hk) hgd hg g kp b hdb
theorem pm_oR {i : Nat} {y : Str} {p2 : Pos} {ma : MM (List D)} (G : Ok g X.prog X.w X.K X.mg X.base x k ps (spM γ X.K true n fm)) (hr : Room j X.A) (hgd : g = true → X.A.guards = some []) (hk : k ≤ j) (hg : Gl X x)
    (hv : PE X (.Name y p2) (tVar i)) (ha : PMA γ X es ma) (hdb : (x == ("__debug__" : Str)) = false := by decide) (he : starEach (.Name y p2 :: es) X.env = (false, eval (.Name y p2) X.env) :: starEach es X.env := by rfl) (hpl : (backTo pos (starEach es X.env)).any (·.1) = false := by rfl) :
    PM γ X (.Call (.Name x p) (.Name y p2 :: es) [] pos) (eFnR fm n i ma) := by
  obtain ⟨f, fd, G, g, kp, b⟩ := G
  exact pm_callR G (hr.mono hk) hgd hg g kp b hv ha hdb he hpl
theorem room200 {A : Around} (hr : Room j A) : A.units + 200 < cLine := by
  have := hr.un
  omega
/-- a module's constant -/
theorem pm_cst {y : Str} {v : V} {d : D} {pos : Pos} (hg : Gl X y) (h : ∃ u, X.mg y = some u ∧ RelV v u) (r : ∀ F, Rp X.K F d v) (hd : (y == ("__debug__" : Str)) = false := by decide) : PM γ X (.Name y pos) (eC d) := by
  obtain ⟨u, h1, h2⟩ := h
  exact pm_of_C (pe_glob hg h1 h2 hd) r
end
/-! ### several targets at once, some of them new lists -/
/-- what a slot gets: H the heap ahead, F' and H' those behind -/
def SvOk (K : PySem.W.Frag) (H F' H' : Hp) : List SV → List V → Prop
  | [], vs => vs = []
  | .val d :: svs, vs => ∃ v r, vs = v :: r ∧ Rp K F' d v ∧ SvOk K H F' H' svs r
  | .own ds :: svs, vs => ∃ p ws r, vs = .ref p :: r ∧ H p = none ∧ F' p = none ∧ H' p = some (.lst ws) ∧ Rps K F' ds ws ∧ (∀ (j : Nat) (es : List D), svs[j]? = some (.own es) → r[j]? ≠ some (.ref p)) ∧ SvOk K H F' H' svs r
  | _ :: _, _ => False
theorem SvOk.ahead {K : PySem.W.Frag} {H H1 F' H' : Hp} (h : ∀ p, H1 p = none → H p = none) : ∀ {svs : List SV} {vs : List V}, SvOk K H1 F' H' svs vs → SvOk K H F' H' svs vs
  | [], _, q => q
  | .val d :: svs, vs, q => by
    obtain ⟨v, r, e, p, q⟩ := q
    exact ⟨v, r, e, p, SvOk.ahead h q⟩
  | .own ds :: svs, vs, q => by
    obtain ⟨p, ws, r, e, a1, a2, a3, a4, a5, q⟩ := q
    exact ⟨p, ws, r, e, h p a1, a2, a3, a4, a5, SvOk.ahead h q⟩
  | .un :: _, _, q => q.elim
  | .rdr :: _, _, q => q.elim
theorem SvOk.fresh {K : PySem.W.Frag} {H F' H' : Hp} : ∀ {svs : List SV} {vs : List V}, SvOk K H F' H' svs vs → ∀ (j : Nat) (es : List D) (q : Addr), svs[j]? = some (.own es) → vs[j]? = some (.ref q) → H q = none
  | .val d :: svs, vs, h, 0, es, q, e, _ => by
    simp at e
  | .val d :: svs, vs, h, j + 1, es, q, e, e2 => by
    obtain ⟨v, r, rfl, _, h⟩ := h
    exact SvOk.fresh h j es q (by simpa using e) (by simpa using e2)
  | .own ds :: svs, vs, h, 0, es, q, e, e2 => by
    obtain ⟨p, ws, r, rfl, a1, _⟩ := h
    have : (V.ref p) = .ref q := by simpa using e2
    cases this
    exact a1
  | .own ds :: svs, vs, h, j + 1, es, q, e, e2 => by
    obtain ⟨p, ws, r, rfl, _, _, _, _, _, h⟩ := h
    exact SvOk.fresh h j es q (by simpa using e) (by simpa using e2)
  | [], _, _, j, _, _, e, _ => by simp at e
  | .un :: _, _, h, _, _, _, _, _ => h.elim
  | .rdr :: _, _, h, _, _, _, _, _ => h.elim
def tMV (γ : Gm) (K : PySem.W.Frag) (m : MM (List SV)) : TA := fun σ H Q => ∃ ro F0 H0 F env rd svs rd', SRel γ K ro F0 H0 F env rd σ H ∧ m env rd = some (svs, rd') ∧
  ∀ vs F' H', Stp γ.T ro F H F' H' → RdOk ro rd' F' H' → SvOk K H F' H' svs vs → Q vs H'
abbrev PMV (γ : Gm) (X : Cx) (es : List Expr) (m : MM (List SV)) : Prop := PA X es (tMV γ X.K m)
def vNil : MM (List SV) := fun _ rd => some ([], rd)
def vVal (m : MM D) (r : MM (List SV)) : MM (List SV) := bind1 m fun d => bind1 r fun svs => fun _ rd => some (.val d :: svs, rd)
def vOwn (m : MM (List D)) (r : MM (List SV)) : MM (List SV) := bind1 m fun ds => bind1 r fun svs => fun _ rd => some (.own ds :: svs, rd)
section
variable {X : Cx}
theorem pmv_nil : PMV γ X [] vNil := pa_imp pa_nil fun σ H Q ⟨ro, F0, H0, F, env, rd, z, rd', hS, hm, q⟩ => by
  cases hm
  exact q [] F H (Stp.refl hS.st.fh) hS.rd rfl
theorem pmv_val {e : Expr} {es : List Expr} {m : MM D} {r : MM (List SV)} (ha : PM γ X e m) (hr : PMV γ X es r) (hs : starEach (e :: es) X.env = (false, eval e X.env) :: starEach es X.env := by rfl) : PMV γ X (e :: es) (vVal m r) :=
  pa_imp (pa_cons ha hr hs) fun σ H Q ⟨ro, F0, H0, F, env, rd, z, rd', hS, hm, q⟩ => by
  obtain ⟨d, rd1, m1, hm⟩ := bind1_some hm
  obtain ⟨svs, rd2, m2, hm⟩ := bind1_some hm
  cases hm
  refine ⟨ro, F0, H0, F, env, rd, d, rd1, hS, m1, fun v F1 H1 a1 r1 p1 => ?_⟩
  refine ⟨ro, F0, H0, F1, env, rd1, svs, _, hS.step a1 r1, m2, fun vs F2 H2 a2 r2 p2 => ?_⟩
  exact q _ F2 H2 (a1.trans a2) r2 ⟨v, vs, rfl, Rp.mono a2.ff d v p1, p2.ahead a1.hn⟩
theorem pmv_own {e : Expr} {es : List Expr} {m : MM (List D)} {r : MM (List SV)} (ha : PMF γ X e m) (hr : PMV γ X es r) (hs : starEach (e :: es) X.env = (false, eval e X.env) :: starEach es X.env := by rfl) : PMV γ X (e :: es) (vOwn m r) :=
  pa_imp (pa_cons ha hr hs) fun σ H Q ⟨ro, F0, H0, F, env, rd, z, rd', hS, hm, q⟩ => by
  obtain ⟨ds, rd1, m1, hm⟩ := bind1_some hm
  obtain ⟨svs, rd2, m2, hm⟩ := bind1_some hm
  cases hm
  refine ⟨ro, F0, H0, F, env, rd, ds, rd1, hS, m1, fun p ws F1 H1 a1 r1 h1 h2 h3 h4 => ?_⟩
  refine ⟨ro, F0, H0, F1, env, rd1, svs, _, hS.step a1 r1, m2, fun vs F2 H2 a2 r2 p2 => ?_⟩
  have np : ∀ c, ro ≠ some (p, c) := fun c z => by
    subst z
    have := hS.rd.2.1
    rw [h1] at this
    cases this
  refine q _ F2 H2 (a1.trans a2) r2 ⟨p, ws, vs, rfl, h1, a2.fz p (by rw [h3]; exact fun z => by cases z) h2, a2.hh p _ h3 np (fun _ z => by cases z), Rps.mono a2.ff _ _ h4, fun j es e e2 => ?_, p2.ahead a1.hn⟩
  have := p2.fresh j es p e e2
  rw [h3] at this
  cases this
def setSv : List Nat → List SV → List SV → List SV
  | i :: is, sv :: svs, env => setSv is svs (env.set i sv)
  | _, _, env => env
theorem setSv_ok {K : PySem.W.Frag} {ro : Ro} {H0 H F' H' : Hp} (hn : ∀ p, H p = none → H0 p = none) (hr : ∀ p c, H p = none → ro ≠ some (p, c)) (hw : ∀ p, H p = none → LamNew γ p) : ∀ {is : List Nat} {svs : List SV} {vs : List V} {env : List SV} {σ : L2.St}, EnvOk γ K ro H0 F' H' env σ → SvOk K H F' H' svs vs → svs.length = is.length →
    (∀ (j : Nat) (es : List D) (k : Nat) (fs : List D) (p : Addr), env[j]? = some (.own es) → σ[j]? = some (some (.ref p)) → svs[k]? = some (.own fs) → vs[k]? ≠ some (.ref p)) →
    ∀ {Q : L2.St → Hp → Prop}, (∀ σ', EnvOk γ K ro H0 F' H' (setSv is svs env) σ' → Q σ' H') → gAll is vs σ H' Q
  | [], [], vs, env, σ, hE, hV, _, _, Q, q => ⟨hV, q σ hE⟩
  | i :: is, .val d :: svs, vs, env, σ, hE, hV, hl, hx, Q, q => by
    obtain ⟨v, r, rfl, p1, p2⟩ := hV
    refine ⟨v, r, rfl, ?_⟩
    show gAll is r (σ.set i (some v)) H' Q
    refine setSv_ok hn hr hw (hE.set p1) p2 (by simpa using hl) (fun j es k fs p e1 e2 e3 e4 => ?_) q
    by_cases hij : i = j
    · subst hij
      rw [List.getElem?_set_self (by have := (List.getElem?_eq_some_iff.mp e1).1; rwa [List.length_set] at this)] at e1
      cases e1
    · rw [List.getElem?_set_ne hij] at e1 e2
      exact hx j es (k + 1) fs p e1 e2 (by simpa using e3) (by simpa using e4)
  | i :: is, .own ds :: svs, vs, env, σ, hE, hV, hl, hx, Q, q => by
    obtain ⟨p, ws, r, rfl, a1, a2, a3, a4, a5, p2⟩ := hV
    refine ⟨.ref p, r, rfl, ?_⟩
    show gAll is r (σ.set i (some (.ref p))) H' Q
    refine setSv_ok hn hr hw (hE.setOwn a2 a3 a4 (hn p a1) (fun c => hr p c a1) (hw p a1) fun j es _ e1 e2 => hx j es 0 ds p e1 e2 rfl rfl) p2 (by simpa using hl) (fun j es k fs b e1 e2 e3 e4 => ?_) q
    by_cases hij : i = j
    · subst hij
      have hlt : i < σ.length := by
        have := (List.getElem?_eq_some_iff.mp e2).1
        rwa [List.length_set] at this
      rw [List.getElem?_set_self hlt] at e2
      cases e2
      exact a5 k fs e3 e4
    · rw [List.getElem?_set_ne hij] at e1 e2
      exact hx j es (k + 1) fs b e1 e2 (by simpa using e3) (by simpa using e4)
  | _ :: _, .un :: _, _, _, _, _, hV, _, _, _, _ => hV.elim
  | _ :: _, .rdr :: _, _, _, _, _, hV, _, _, _, _ => hV.elim
  | [], _ :: _, _, _, _, _, _, hl, _, _, _ => by simp at hl
  | _ :: _, [], _, _, _, _, _, hl, _, _, _ => by simp at hl
def sTup (is : List Nat) (m : MM (List SV)) : MM Fl := bind1 m fun svs env rd => if svs.length = is.length then some (.nx (setSv is svs env), rd) else none
theorem SvOk.count {K : PySem.W.Frag} {H F' H' : Hp} : ∀ {svs : List SV} {vs : List V}, SvOk K H F' H' svs vs → svs.length = vs.length
  | [], vs, h => by
    have h' : vs = [] := h
    rw [h']
    rfl
  | .val d :: svs, _, h => by
    obtain ⟨v, r, rfl, _, h⟩ := h
    rw [List.length_cons, List.length_cons, SvOk.count h]
  | .own d :: svs, _, h => by
    obtain ⟨p, ws, r, rfl, _, _, _, _, _, h⟩ := h
    rw [List.length_cons, List.length_cons, SvOk.count h]
  | .un :: _, _, h => h.elim
  | .rdr :: _, _, h => h.elim
theorem SvOk.more {K : PySem.W.Frag} {H F' H' H2 : Hp} (e : Same H' H2) : ∀ {svs : List SV} {vs : List V}, SvOk K H F' H' svs vs → SvOk K H F' H2 svs vs
  | [], _, h => h
  | .val d :: svs, _, h => by
    obtain ⟨v, r, rfl, p, h⟩ := h
    exact ⟨v, r, rfl, p, SvOk.more e h⟩
  | .own d :: svs, _, h => by
    obtain ⟨p, ws, r, rfl, a1, a2, a3, a4, a5, h⟩ := h
    exact ⟨p, ws, r, rfl, a1, a2, e _ _ a3, a4, a5, SvOk.more e h⟩
  | .un :: _, _, h => h.elim
  | .rdr :: _, _, h => h.elim
theorem sTup_run {K : PySem.W.Frag} {is : List Nat} {m : MM (List SV)} {D : Ends} {σ : L2.St} {H : Hp} (h : tMS γ W K (sTup is m) D σ H) :
    tMV γ K m σ H fun vs H1 => vs.length = is.length ∧ gAll is vs σ H1 D.nx ∧ ∀ t u, H1 t = none → gAll is vs σ (upd H1 t u) D.nx := by
  obtain ⟨ro, F0, H0, F, env, rd, fl, rd', hS, hm, q⟩ := h
  obtain ⟨svs, rd1, m1, hm⟩ := bind1_some hm
  simp only [Option.ite_none_right_eq_some, Option.some.injEq, Prod.mk.injEq] at hm
  obtain ⟨hl, rfl, rfl⟩ := hm
  refine ⟨ro, F0, H0, F, env, rd, svs, rd1, hS, m1, fun vs F1 H1 a1 r1 p1 => ?_⟩
  have main : ∀ H2, Stp γ.T ro F1 H1 F1 H2 → RdOk ro rd1 F1 H2 → Same H1 H2 → gAll is vs σ H2 D.nx := by
    intro H2 st r2 sm
    have S2 := (hS.step a1 r1).step st r2
    refine setSv_ok hS.st.hn (fun p c hp z => ?_) (fun p hp => hS.tab.l.new hp) S2.env (p1.more sm) hl (fun j es k fs p e1 e2 e3 e4 => ?_) fun σ' e => q σ' F1 H2 ⟨S2.st, S2.rd, e, S2.tab⟩
    · subst z
      have := hS.rd.2.1
      rw [hp] at this
      cases this
    · obtain ⟨o, q1, p', ws, q2, _, q3, _⟩ := hS.env.ok j _ e1
      rw [e2] at q1
      cases q1
      cases q2
      have := p1.fresh k fs p e3 e4
      rw [q3] at this
      cases this
  refine ⟨by rw [← p1.count, hl], main H1 (Stp.refl a1.fh) r1 (Same.refl _), fun t u ht => ?_⟩
  obtain ⟨n1, n2, _⟩ := new_own (o := u) a1.fh r1 ht
  exact main _ n1 n2 (same_new ht)
theorem tMV_mono {K : PySem.W.Frag} {m : MM (List SV)} {σ : L2.St} {H : Hp} {Q Q' : List V → Hp → Prop} (f : ∀ vs H, Q vs H → Q' vs H) (h : tMV γ K m σ H Q) : tMV γ K m σ H Q' := by
  obtain ⟨ro, F0, H0, F, env, rd, z, rd', hS, hm, q⟩ := h
  exact ⟨ro, F0, H0, F, env, rd, z, rd', hS, hm, fun v F' H' a r p => f _ _ (q v F' H' a r p)⟩
/-- a, b = x, y by names that are no cells -/
theorem pms_par {i j : Nat} {x y : Str} {a b : Expr} {p1 p2 tpos tp2 pos : Pos} {k1 k2 : Nat} {m : MM (List SV)} (h : ∀ {t : TA}, PA X [a, b] t → PS X (.Assign [.Tuple [.Name x p1, .Name y p2] k1 tpos] (.Tuple [a, b] k2 tp2) pos) (tPar i j t)) (ha : PMV γ X [a, b] m) :
    PMS γ W X (.Assign [.Tuple [.Name x p1, .Name y p2] k1 tpos] (.Tuple [a, b] k2 tp2) pos) (sTup [i, j] m) := ps_imp (h ha) fun D σ H q => tMV_mono (fun vs H1 q => by
  obtain ⟨hl, g, _⟩ := q
  match vs, hl, g with
  | [v, w], _, g =>
    obtain ⟨v', r, e1, g⟩ := g
    cases e1
    obtain ⟨w', r', e2, g⟩ := g
    cases e2
    exact ⟨v, w, rfl, g.2⟩) (sTup_run q)
/-- a, b, .. = x, y, .. -/
theorem pms_tupA {tg : Expr} {es : List Expr} {k2 : Nat} {tp2 pos : Pos} {is : List Nat} {m : MM (List SV)} (ha : PMV γ X es m) (hsz : is.length ≤ 1000) (hg : PG X tg (gTup X.K is.length (gAll is))) (hs : swapsWithSole [tg] (.Tuple es k2 tp2) pos.line X.env = pure false := by rfl) (hw : swappedStores [tg] (.Tuple es k2 tp2) X.env = pure none := by rfl)
    (h1 : (assignEach [tg] X.env).map (·.2) = [assign tg X.env] := by rfl) : PMS γ W X (.Assign [tg] (.Tuple es k2 tp2) pos) (sTup is m) := ps_imp (ps_asg (pe_tup ha) hg hs hw h1) fun D σ H q => tMV_mono (fun vs H1 q => by
  obtain ⟨hl, _, g⟩ := q
  refine ⟨by rw [hl]; exact Nat.le_of_lt (L2.small1000 hsz), fun t ht => ?_⟩
  exact ⟨t, vs, rfl, .inl (.inl upd_same), hl, g t _ ht⟩) (sTup_run q)
end
end FW

set_option Elab.async false
set_option linter.all false
set_option maxRecDepth 100000
set_option maxHeartbeats 1000000
namespace FW
open PySem PySem.Spec PyProof.Rows L2
variable {γ : Gm} {W : WX}
theorem wp_ite_any {α : Type} {M : Model} {A : Around} {c : Prop} [Decidable c] {a b : Sem α} {Q : α → Shared → Prop} {E : Value → Shared → Prop} {s : Shared} (h1 : c → wpAny M A a Q E s) (h2 : ¬ c → wpAny M A b Q E s) : wpAny M A (if c then a else b) Q E s := by
  split
  · exact h1 (by assumption)
  · exact h2 (by assumption)
theorem meets1 {v : Value} {o : Obj} {H : Heap → Prop} (B : Begins v o H) : Meets (Builtin.«enumerate.__new__» { pos := [Value.type "enumerate", v] }) fun x R s => H s.heap ∧ R (.ok (.ret (.ref (s.heap.push o).objs.size))) { heap := (s.heap.push o).push { cls := Value.type "enumerate", data := Data.fields #[Value.none, Value.bool false, Value.ref s.heap.objs.size, rawInt 0, Value.none, Value.none] }, gens := s.gens, drawn := s.drawn, toks := s.toks, os := s.os } := by
  refine Meets.of_wp fun prog w A R s h => ?_
  obtain ⟨h1, h2⟩ := h
  wp_walk
  refine wpAny_of_eq (sub_enumerate ..) ?_
  wp_walk
  refine wpAny_stack_any fun st => ?_
  refine wpAny_pure ?_
  refine wp_ite_any (fun _ => ?_) fun _ => ?_
  all_goals
    refine wpAny_bind (wpAny_of_eq (a := (v, none)) rfl ?_)
    refine wpAny_bind (m := pyIter v) ?_
    refine B.iter _ _ _ _ _ _ h1 ?_
    wp_walk
    exact ⟨_, rfl, h2⟩

theorem call_enum_B {prog : Program} {w : World} {A : Around} {E : Value → Shared → Prop} {s : Shared} {v : Value} {o : Obj} {H : Heap → Prop} {Q : Value → Shared → Prop} (B : Begins v o H) (h1 : H s.heap)
    (h : ∀ h' : Heap, IsEnum h' (s.heap.objs.size + 1) s.heap.objs.size 0 Value.none → h'.get? s.heap.objs.size = some o → h'.objs.size = s.heap.objs.size + 2 → (∀ (b : Addr) (o' : Obj), s.heap.get? b = some o' → h'.get? b = some o') →
      Q (.ref (s.heap.objs.size + 1)) { heap := h', gens := s.gens, drawn := s.drawn, toks := s.toks, os := s.os }) : wpAny (model prog w) A (call (.type "enumerate") [v]) Q E s := by
  have hz := Heap.size_push s.heap o
  refine callType_new F.called_enumerate (by decide) (F.typeCall_enumerate_1 v) (F.newCall_enumerate_1 v) (fun obj => F.args_object_init_2 obj v) F.entry_enumerate_new (meets1 B) ⟨h1, ?_⟩
  have he := Heap.get?_push_size (o := { cls := Value.type "enumerate", data := Data.fields #[Value.none, Value.bool false, Value.ref s.heap.objs.size, rawInt 0, Value.none, Value.none] }) (s.heap.push o) rfl
  rw [hz] at he
  show _ ∧ _
  rw [hz]
  refine ⟨⟨_, he, rfl⟩, h _ he (Heap.get?_push_of_some _ (Heap.get?_push_size s.heap B.free)) (by rw [Heap.size_push, hz]) fun b o' hb => Heap.get?_push_of_some _ (Heap.get?_push_of_some _ hb)⟩

def IteT (K : PySem.W.Frag) (a : Addr) (xs : List V) : It :=
  { go := fun i H => SqT K H a xs ∧ i < xs.length,
    yld := fun i H v H' => ∃ T x, v = V.ref T ∧ H T = none ∧ H' = upd H T (.tup [V.int (i : Nat), x]) ∧ xs[i]? = some x,
    stop := fun i H => SqT K H a xs ∧ i = xs.length }
theorem turn_enumT {P : Program} {w : World} {K : PySem.W.Frag} {elts : List Expr} {kk : Nat} {tpos : Pos} {xs : List V} (a e it : Addr) :
    Turn P w K (Expr.Tuple elts kk tpos) (IteT K a xs) [e, it] e fun i h => (∃ old, IsEnum h e it ((i : Nat) : Int) old) ∧ h.IsTupleIter it a i ∧ e ≠ it where
  mem := by simp
  obj := by
    rintro i h ⟨⟨old, he⟩, ⟨o, ho, hc, hd⟩, hne⟩ b hb
    simp only [List.mem_cons, List.not_mem_nil, or_false] at hb
    rcases hb with rfl | rfl
    · exact ⟨_, he, fun v q => by cases q⟩
    · exact ⟨o, ho, fun v q => by rw [hd] at q; cases q⟩
  keep := by
    rintro i h h' ⟨⟨old, he⟩, ⟨o, ho, hc, hd⟩, hne⟩ k
    exact ⟨⟨old, k e (by simp) _ he⟩, ⟨o, k it (by simp) _ ho, hc, hd⟩, hne⟩
  item := by
    rintro X rfl rfl rfl hc i pins s σ H E I hf ⟨⟨old, he⟩, hit, hne⟩ ⟨hq, hi⟩
    obtain ⟨its, rv, p, hz⟩ := Inv.tuple I hq
    have p' : s.heap.IsTuple a its.toArray := p
    have hx : xs[i]? = some xs[i] := List.getElem?_eq_getElem hi
    obtain ⟨u, hu, ru⟩ := Vals.get rv hx
    have hlen := Vals.length rv
    have hel := Heap.lt_size he
    obtain ⟨oi, hoi, hci, hdi⟩ := hit
    have hil := Heap.lt_size hoi
    have na : a ≠ it := by
      intro z
      subst z
      obtain ⟨o, ho, hco, _⟩ := p'
      rw [ho] at hoi
      cases hoi
      rw [hco] at hci
      exact absurd hci (by decide)
    have ea : e ≠ a := by
      intro z
      subst z
      obtain ⟨o, ho, hco, _⟩ := p'
      rw [IsEnum] at he
      rw [ho] at he
      cases he
      exact absurd hco (show ¬ (Value.type "enumerate" = Value.type "tuple") by decide)
    have dr := Draws.tuple (prog := X.prog) (w := X.w) (A := X.A.in1) (I.ok.hd hc) it a na its.toArray
    refine wpAny_pyNext_enum_itemD dr he ⟨⟨oi, hoi, hci, hdi⟩, p'⟩ (by simp; omega) hne (by simp; exact ⟨hne, ea⟩) ?_
    intro x h' tk hxi ho hst hT hsz hk
    have xu : x = u := by
      have h1 : its[i]? = some x := by simpa using hxi
      rw [hu] at h1
      exact (Option.some.inj h1).symm
    subst xu
    refine ⟨.ref s.heap.objs.size, rfl, wpAny_letOwnedTupleGo_enum ho fun h'' he' sb => ?_⟩
    have hT2 := (sb.right s.heap.objs.size (Nat.ne_of_gt hel)).trans hT
    have I1 := Inv.turnedNew I (t' := tk + 1) (ob := HO.tup [V.int (i : Nat), xs[i]]) (fun b ob hb q => (sb.right b fun z => hb (by simp [z])).trans (hk b ob (fun z => hb (by simp [z])) (fun z => hb (by simp [z])) q)) hf (Nat.le_refl s.heap.objs.size)
      ⟨(show (2 : Nat) ≤ sizeLine by decide), [Value.int (i : Nat) tk, x], Paired.cons ⟨tk, rfl⟩ (Paired.cons ru Paired.nil), ⟨_, hT2, rfl, 0, rfl⟩⟩
    obtain ⟨⟨oj, hoj, hcj, hdj⟩, _⟩ := hst
    refine ⟨V.ref s.heap.objs.size, upd H s.heap.objs.size (.tup [V.int (i : Nat), xs[i]]), I1, rfl, ⟨s.heap.objs.size, xs[i], rfl, HOk.fresh I.hok (Nat.le_refl _), rfl, hx⟩, ⟨⟨x, ?_⟩, ⟨oj, (sb.right it (Ne.symm hne)).trans hoj, hcj, hdj⟩, hne⟩, fun b hb => ?_⟩
    · have e1 : (((i + 1 : Nat)) : Int) = (i : Int) + 1 := by omega
      rw [e1]
      exact he'
    · have hb' : b < s.heap.objs.size := by
        simp only [List.mem_cons, List.not_mem_nil, or_false] at hb
        rcases hb with rfl | rfl
        · exact hel
        · exact hil
      rw [upd_ne (Nat.ne_of_lt hb')]
      exact (hf b hb).1
  done := by
    rintro X rfl rfl rfl hc i pins s σ H E I hf ⟨⟨old, he⟩, hit, hne⟩ ⟨hq, rfl⟩
    obtain ⟨its, rv, p, hz⟩ := Inv.tuple I hq
    have p' : s.heap.IsTuple a its.toArray := p
    have hlen := Vals.length rv
    obtain ⟨oi, hoi, hci, hdi⟩ := hit
    have na : a ≠ it := by
      intro z
      subst z
      obtain ⟨o, ho, hco, _⟩ := p'
      rw [ho] at hoi
      cases hoi
      rw [hco] at hci
      exact absurd hci (by decide)
    have dr := Draws.tuple (prog := X.prog) (w := X.w) (A := X.A.in1) (I.ok.hd hc) it a na its.toArray
    have hn : its.toArray.size = xs.length := by simp [hlen]
    obtain ⟨f0, f1, f2, f3, f4, f5⟩ := hf it (by simp)
    refine wpAny_pyNext_enum_endD dr he ⟨⟨oi, hoi, hci, by rw [hn]; exact hdi⟩, p'⟩ fun h' eb => ⟨rfl, Inv.turned I (fun b o hb q => eb b o hb q) f0 f1 f3 f4 f5⟩
  self := fun A i s Q E st h => by
    obtain ⟨⟨old, he⟩, _⟩ := st
    exact wpAny_pyIter_enum he h
def iEnumT (K : PySem.W.Frag) (ta : TA) : TI := fun σ H R => ta σ H fun vs H1 => ∃ a xs, vs = [V.ref a] ∧ SqT K H1 a xs ∧ R (IteT K a xs) H1
theorem pi_enumT {X : Cx} {e : Expr} {ta : TA} {p pos tpos : Pos} {elts : List Expr} {kk : Nat} (hg : Gl X "enumerate") (hm : X.mg "enumerate" = none) (ha : PA X [e] ta) (hs : starEach [e] X.env = [(false, eval e X.env)] := by rfl) :
    PI X (.Tuple elts kk tpos) (.Call (.Name "enumerate" p) [e] [] pos) (iEnumT X.K ta) := by
  refine ⟨fun pins s σ H R I h => ?_⟩
  refine Call_ (ld_blt I hg hm (u := .type "enumerate") (by decide +kernel) (callWith_type1 (thn (ha.run pos pins s σ H (fun vs H1 => ∃ a xs, vs = [V.ref a] ∧ SqT X.K H1 a xs ∧ R (IteT X.K a xs) H1) I h) ?_) hs rfl) (by decide) (by decide)) rfl
  rintro us s1 ⟨vs, H1, I1, r1, a, xs, rfl, hq, q⟩
  cases r1 with
  | cons r rr =>
    cases rr
    cases r
    obtain ⟨its, rv, p, hz⟩ := Inv.tuple I1 hq
    have p' : s1.heap.IsTuple a its.toArray := p
    refine call_enum_B (begins_tuple a its.toArray) p' fun h' he hit hsz hk => ?_
    refine wpAny_pyIter_enum he ?_
    have I2 := Inv.kept (t' := s1.toks) I1 hk
    refine ⟨s1.heap.objs.size + 1, [s1.heap.objs.size + 1, s1.heap.objs.size], _, IteT X.K a xs, H1, rfl, I2, turn_enumT a _ _, ⟨⟨_, he⟩, ⟨_, hit, rfl, rfl⟩, Nat.succ_ne_self _⟩, fun b hb => ?_, q⟩
    simp only [List.mem_cons, List.not_mem_nil, or_false] at hb
    have hb' : s1.heap.objs.size ≤ b := by
      rcases hb with rfl | rfl
      · exact Nat.le_succ _
      · exact Nat.le_refl _
    exact Inv.fpOk I1 hb' (HOk.fresh I1.hok hb')
/-! ### for the layer -/
section
variable {X : Cx}
def enumD (ds : List D) : List D := ds.zipIdx.map fun q => .tup [.int (q.2 : Nat), q.1]
theorem enumD_get {ds : List D} {i : Nat} {d : D} (h : ds[i]? = some d) : (enumD ds)[i]? = some (.tup [.int (i : Nat), d]) := by
  unfold enumD
  rw [List.getElem?_map, List.getElem?_zipIdx, h]
  simp
theorem enumD_len {ds : List D} : (enumD ds).length = ds.length := by simp [enumD]
theorem wk_enum {K : PySem.W.Frag} {F : Hp} {a : Addr} {vs : List V} {ds : List D} (h : SqT K F a vs) (r : Rps K F ds vs) : Wk K F (IteT K a vs) (enumD ds) := by
  refine ⟨fun i H hi e => ?_, fun H e => ⟨sqT_mono e h, by rw [enumD_len, r.length]⟩, fun i H x H' F2 hi e e2 y => ?_⟩
  · rw [enumD_len, r.length] at hi
    exact ⟨sqT_mono e h, hi⟩
  · obtain ⟨T, v, rfl, hT, rfl, hv⟩ := y
    obtain ⟨d, h1, h2⟩ := r.get' hv
    have p1 : Rps K F2 [.int (i : Nat), d] [.int (i : Nat), v] := Rps.cons rp_int (Rps.cons (Rp.mono e d v h2) Rps.nil)
    obtain ⟨q1, q2⟩ := new_tup e2 hT p1
    exact ⟨_, q1, _, enumD_get h1, q2⟩
def enumI : List D → Option (List D)
  | [.tup ds] => some (enumD ds)
  | _ => none
theorem pmi_enum {elts : List Expr} {kk : Nat} {tpos p pos : Pos} {e : Expr} {m : MM (List D)} (hg : Gl X "enumerate") (hm : X.mg "enumerate" = none) (ha : PMA γ X [e] m) (hs : starEach [e] X.env = [(false, eval e X.env)] := by rfl) :
    PMI γ X (.Tuple elts kk tpos) (.Call (.Name "enumerate" p) [e] [] pos) (eRange enumI m) := by
  refine ⟨fun pins s σ H R I h => ?_⟩
  obtain ⟨ro, F0, H0, F, env, rd, ds, rd', hS, hm1, q⟩ := h
  obtain ⟨as, rd1, m1, hm2⟩ := bind1_some hm1
  obtain ⟨m2, e2⟩ := lift_some hm2
  subst e2
  match as, m2 with
  | [.tup es], m2 =>
    cases m2
    refine (pi_enumT hg hm ha hs).run pins s σ H R I ⟨ro, F0, H0, F, env, rd, _, _, hS, m1, fun vs F' H' a r p => ?_⟩
    simp only [Rps, Rp] at p
    obtain ⟨v, r', rfl, ⟨b, ws, rfl, t1, t2⟩, rfl⟩ := p
    exact ⟨b, ws, rfl, sqT_mono a.fh t1, q _ F' H' a r (wk_enum t1 t2)⟩
end
end FW

set_option Elab.async false
set_option linter.all false
set_option maxRecDepth 100000
set_option maxHeartbeats 1000000
namespace FW
open PySem PySem.Spec PyProof.Rows L2
variable {γ : Gm} {W : WX}
section
variable {X : Cx}
theorem vals_signs : ∀ (cs : List Nat) (ws : List Value), ws.length = cs.length → (∀ (j : Nat) (v : Value), ws[j]? = some v → ∃ c u, cs[j]? = some c ∧ v = Value.str ⟨#[c]⟩ u) → Vals (cs.map fun c => V.str ⟨#[c]⟩) ws
  | [], [], _, _ => Paired.nil
  | c :: cs, w :: ws, hl, h => by
    obtain ⟨c', u, e, rfl⟩ := h 0 w rfl
    cases e
    exact Paired.cons ⟨u, rfl⟩ (vals_signs cs ws (by simpa using hl) fun j v hj => h (j + 1) v hj)
  | [], _ :: _, hl, _ => by simp at hl
  | _ :: _, [], hl, _ => by simp at hl
def signsV (z : Str) : List V := z.cps.toList.map fun c => .str ⟨#[c]⟩
theorem call_tuple_txt (hc : X.calm = true) : CallR X (.type "tuple") fun xs H Q => ∃ z : Str, xs = [.str z] ∧ z.length ≤ sizeLine ∧ ∀ l, H l = none → Q (.ref l) (upd H l (.tup (signsV z))) := by
  intro pins s σ H xs us Q I r h
  obtain ⟨z, rfl, hl, q⟩ := h
  cases r with
  | cons r rr =>
    cases rr
    obtain ⟨t, rfl⟩ := r
    refine call_tuple_str (I.ok.hd hc) z t (fun h' tk acc kp hit => ?_) hl
    have I1 := Inv.kept (t' := tk) I kp
    have rv : Vals (signsV z) acc.toList := by
      refine vals_signs _ _ (by rw [Array.length_toList, Array.length_toList]; exact hit.1) fun j v hj => ?_
      obtain ⟨c, u, e, rfl⟩ := hit.2 j v (by rw [← Array.getElem?_toList]; exact hj)
      exact ⟨c, u, by rw [Array.getElem?_toList]; exact e, rfl⟩
    have I2 := Inv.laid (t' := tk) (o := HO.tup (signsV z)) I1 (fun b o e => Heap.get?_push_of_some { cls := Value.type "tuple", data := Data.seq acc } e) (Nat.le_refl _) ⟨by simp [signsV]; exact hl, acc.toList, rv, IsTup.new h' acc.toList.toArray⟩
    exact ⟨.ref h'.objs.size, upd H _ (.tup (signsV z)), I2, rfl, q _ (HOk.fresh I1.hok (Nat.le_refl _))⟩
def opTupS : D → Option D
  | .str z => if z.length ≤ sizeLine then some (.tup (signsD z)) else none
  | _ => none
theorem cr_tupS (hc : X.calm = true) : CallR X (.type "tuple") (rCD X.K (op1 opTupS)) := cr_1 (call_tuple_txt hc) fun F H x d z Q sf p hz q => by
  cases d with
  | str s =>
    simp only [opTupS, Option.ite_none_right_eq_some, Option.some.injEq] at hz
    obtain ⟨hl, rfl⟩ := hz
    simp only [Rp] at p
    subst p
    refine ⟨s, rfl, hl, fun l hl => ?_⟩
    have rp : Rps X.K F (signsD s) (signsV s) := by
      unfold signsD signsV
      generalize s.cps.toList = cs
      induction cs with
      | nil => exact Rps.nil
      | cons c cs ih => exact Rps.cons rp_str ih
    obtain ⟨q1, q2⟩ := new_tup sf hl rp
    exact q _ _ _ q1 q2
  | _ => simp [opTupS] at hz
/-- tuple(range(a, b)) -/
def opTupRg (d e : D) : Option D := match d, e with
  | .int a, .int b => if a.natAbs < 1000000 ∧ b.natAbs < 1000000 then some (.tup (rangeD a (b - a).toNat)) else none
  | _, _ => none
theorem pm_tupRg {a b : Expr} {ma mb : MM D} {p p2 pos pos2 : Pos} (hc : X.calm = true) (hg : Gl X "tuple") (hm : X.mg "tuple" = none) (hg2 : Gl X "range") (hm2 : X.mg "range" = none) (ha : PM γ X a ma) (hb : PM γ X b mb) (hs : starEach [a, b] X.env = (false, eval a X.env) :: starEach [b] X.env := by rfl) (hs2 : starEach [b] X.env = (false, eval b X.env) :: starEach [] X.env := by rfl) (hp : (backTo pos2 (starEach [b] X.env)).any (·.1) = false := by rfl)
    (hs3 : starEach [Expr.Call (.Name "range" p2) [a, b] [] pos2] X.env = (false, eval (Expr.Call (.Name "range" p2) [a, b] [] pos2) X.env) :: starEach [] X.env := by rfl) :
    PM γ X (.Call (.Name "tuple" p) [.Call (.Name "range" p2) [a, b] [] pos2] [] pos) (eOp opTupRg ma mb) :=
  pe_imp (pe_tupRg hc hg hm (prg_2 hg2 hm2 ha hb hs hs2 hp) hs3) fun σ H Q h => by
  obtain ⟨ro, F0, H0, F, env, rd, z, rd', hS, hm, q⟩ := h
  obtain ⟨d, rd1, m1, hm⟩ := bind1_some hm
  obtain ⟨e, rd2, m2, hm⟩ := bind1_some hm
  obtain ⟨m3, e3⟩ := lift_some hm
  subst e3
  cases d with
  | int i => cases e with
    | int j =>
      simp only [opTupRg, Option.ite_none_right_eq_some, Option.some.injEq] at m3
      obtain ⟨⟨hi, hj⟩, rfl⟩ := m3
      refine ⟨ro, F0, H0, F, env, rd, _, rd1, hS, m1, fun v F1 H1 a1 r1 p1 => ?_⟩
      simp only [Rp] at p1
      subst p1
      refine ⟨ro, F0, H0, F1, env, rd1, _, _, hS.step a1 r1, m2, fun w F2 H2 a2 r2 p2 => ?_⟩
      simp only [Rp] at p2
      subst p2
      refine ⟨i, j, rfl, rfl, ⟨by omega, by omega, by omega, by omega, by omega⟩, fun l hl => ?_⟩
      have rp : Rps X.K F2 (rangeD i (j - i).toNat) (rgV i j) := by
        unfold rangeD rgV
        generalize (List.range (j - i).toNat) = ns
        induction ns with
        | nil => exact Rps.nil
        | cons n ns ih => exact Rps.cons rp_int ih
      obtain ⟨q1, q2⟩ := new_tup a2.fh hl rp
      exact q _ _ _ ((a1.trans a2).trans q1.stp) (r2.alc q1) q2
    | _ => simp [opTupRg] at m3
  | _ => simp [opTupRg] at m3
end
end FW

set_option Elab.async false
set_option linter.all false
set_option maxRecDepth 100000
set_option maxHeartbeats 1000000
namespace FW
open PySem PySem.Spec PyProof.Rows L2
variable {γ : Gm} {W : WX}
theorem mk_f {K : PySem.W.Frag} {h : Heap} {mg : Str → Option Value} {x : Str} {st : Stmt} {ps : List Str} {f : Addr} {oc : Value} {od an : Option Addr} {sl : Array (Option Value)} {kV doc pm cdv ct : Value} (X : K.In h) (G : h.Ns mainGlobals mg)
    (a : PySem.W.nsIn K mainGlobals x = some (some (.ref f))) (l : K.lookup f = some ⟨oc, od, .func (PySem.W.fnOf x x (defArgs st) (defBody st) (defScope st) .none kV doc pm an cdv ct), sl⟩) (c : PySem.W.codeIn K cdv x = true) (k : PySem.W.keepIn K (.ref f) = true)
    (hb : ∀ (kV doc pm : Value) (an : Option Addr) (cdv ct : Value) (us : List Value), us.length = ps.length → bindArgs (PySem.W.fnOf x x (defArgs st) (defBody st) (defScope st) .none kV doc pm an cdv ct) ⟨us, []⟩ = pure (ps.zip us)) :
    ∃ (f : Addr) (fd : FuncData), Fun K x x st f fd ∧ mg x = some (.ref f) ∧ Binds K fd ps [] := by
  have F := fun_mk (st := st) l c k
  exact ⟨f, _, F, PySem.W.mg_of X G a, F.binds hb⟩
theorem mk_c {K : PySem.W.Frag} {h : Heap} {mg : Str → Option Value} {x : Str} {u : Value} {v : V} (X : K.In h) (G : h.Ns mainGlobals mg) (a : PySem.W.nsIn K mainGlobals x = some (some u)) (r : RelV v u) : ∃ u, mg x = some u ∧ RelV v u :=
  ⟨u, PySem.W.mg_of X G a, r⟩
theorem mk_loose {lv : List (Str × PySem.W.WData)} {mg : Str → Option Value} {h : Heap} {x : Str} {n : Int} (V : PySem.W.LooseAre lv mg h) (hq : (x, PySem.W.WData.int n) ∈ lv) : ∃ u, mg x = some u ∧ RelV (.int n) u := by
  obtain ⟨v, h1, h2⟩ := V.val _ hq
  refine ⟨v, h1, ?_⟩
  cases h2
  exact ⟨_, rfl⟩
end FW

set_option Elab.async false
set_option linter.all false
set_option maxRecDepth 100000
set_option maxHeartbeats 1000000
namespace FW
open PySem PySem.Spec PyProof.Rows L2
variable {γ : Gm} {W : WX}

/-! ### lengths of texts as repr writes them -/
theorem reprChar_len : ∀ c < 128, (Builtin.Str.reprChar 34 c).length ≤ 4 ∧ (Builtin.Str.reprChar 39 c).length ≤ 4 := by decide +kernel
theorem quote_two (s : Str) : reprQuote s = 34 ∨ reprQuote s = 39 := by
  unfold reprQuote
  split
  · exact .inl rfl
  · exact .inr rfl
/-- at most n signs, all of them below 128 -/
def As (n : Nat) (s : Str) : Prop := s.length ≤ n ∧ ∀ c ∈ s.cps.toList, c < 128
theorem reprText_len {s : Str} {n : Nat} (h : As n s) : (reprText s).length ≤ 4 * n + 2 := by
  have hq : ∀ c < 128, (Builtin.Str.reprChar (reprQuote s) c).length ≤ 4 := fun c hc => by
    rcases quote_two s with e | e <;> rw [e]
    · exact (reprChar_len c hc).1
    · exact (reprChar_len c hc).2
  have aux : ∀ (cs : List Nat) (a : Array Nat), (∀ c ∈ cs, c < 128) → (cs.foldl (fun out c => out ++ (Builtin.Str.reprChar (reprQuote s) c).toArray) a).size ≤ a.size + 4 * cs.length := by
    intro cs
    induction cs with
    | nil => intro a _; simp
    | cons c cs ih =>
      intro a hc
      rw [List.foldl_cons]
      refine Nat.le_trans (ih _ fun d hd => hc d (List.mem_cons_of_mem _ hd)) ?_
      have := hq c (hc c List.mem_cons_self)
      simp only [Array.size_append, List.size_toArray, List.length_cons]
      omega
  have e : (reprText s).length = (s.cps.foldl (fun out c => out ++ (Builtin.Str.reprChar (reprQuote s) c).toArray) #[reprQuote s]).size + 1 := by
    show (Array.push _ _).size = _
    rw [Array.size_push]
  rw [e, ← Array.foldl_toList]
  have := aux s.cps.toList #[reprQuote s] h.2
  have h1 := h.1
  have h2 : s.cps.toList.length = s.length := by
    rw [Array.length_toList]
    rfl
  rw [h2] at this
  simp only [List.size_toArray, List.length_cons, List.length_nil] at this
  omega
theorem As.mono {n m : Nat} {s : Str} (h : As n s) (e : n ≤ m) : As m s := ⟨Nat.le_trans h.1 e, h.2⟩
theorem As.append {n m : Nat} {s t : Str} (h : As n s) (k : As m t) : As (n + m) (s ++ t) := by
  refine ⟨?_, fun c hc => ?_⟩
  · have e : (s ++ t).length = s.length + t.length := Array.size_append
    have := h.1
    have := k.1
    omega
  · have e : (s ++ t).cps.toList = s.cps.toList ++ t.cps.toList := Array.toList_append
    rw [e] at hc
    rcases List.mem_append.mp hc with q | q
    · exact h.2 c q
    · exact k.2 c q
theorem as_int {i : Int} (h : i.natAbs.log2 < 1920) : As 1921 (Str.ofString (toString i)) := by
  refine ⟨int_text_len_1921 h, fun c hc => ?_⟩
  by_cases k : c < 128
  · exact k
  · exact absurd hc (int_text_free' c ⟨by omega, .inr (by omega)⟩ i)
theorem glued_aux {g : Str} {a n : Nat} (hg : As a g) : ∀ {ys : List Str} {u : Array Nat} {b : Nat}, (∀ y ∈ ys, As n y) → As b ⟨u⟩ → As (b + ys.length * (n + a)) ⟨ys.foldl (fun acc p => acc ++ g.cps ++ p.cps) u⟩
  | [], u, b, _, hu => by simpa using hu
  | y :: ys, u, b, h, hu => by
    rw [List.foldl_cons]
    have h1 : As (b + a + n) ⟨u ++ g.cps ++ y.cps⟩ := (hu.append hg).append (h y List.mem_cons_self)
    refine (glued_aux hg (fun z hz => h z (List.mem_cons_of_mem _ hz)) h1).mono ?_
    rw [List.length_cons, Nat.succ_mul]
    omega
theorem As.join {g : Str} {a n k : Nat} {ys : List Str} (hg : As a g) (h : ∀ y ∈ ys, As n y) (hk : ys.length ≤ k) : As (k * (n + a)) (Txt.join g ys) := by
  cases ys with
  | nil =>
    refine As.mono (n := 0) ⟨?_, ?_⟩ (Nat.zero_le _)
    · exact Nat.le_refl 0
    · intro c hc
      simp [Txt.join, Builtin.Str.glued, Str.empty] at hc
  | cons y ys =>
    have := glued_aux hg (ys := ys) (fun z hz => h z (List.mem_cons_of_mem _ hz)) (h y List.mem_cons_self)
    refine As.mono (s := Txt.join g (y :: ys)) this ?_
    have e : (y :: ys).length * (n + a) ≤ k * (n + a) := Nat.mul_le_mul_right _ hk
    rw [List.length_cons, Nat.succ_mul] at e
    omega
theorem join_ok {g : Str} {n k : Nat} {ys : List Str} (hg : g.length = 1) (h : ∀ y ∈ ys, As n y) (hk : ys.length ≤ k) (hb : k * (n + 1) ≤ 16777216) : joinD g ys = some (.str (Txt.join g ys)) := by
  unfold joinD
  rw [if_pos]
  have e : (ys.map (·.length)).sum ≤ ys.length * n := by
    clear hk hb
    induction ys with
    | nil => simp
    | cons y ys ih =>
      have h1 := (h y List.mem_cons_self).1
      have h2 := ih fun z hz => h z (List.mem_cons_of_mem _ hz)
      rw [List.map_cons, List.sum_cons, List.length_cons, Nat.succ_mul]
      omega
  have e2 : ys.length * (n + 1) ≤ k * (n + 1) := Nat.mul_le_mul_right _ hk
  rw [Nat.mul_add] at e2
  rw [hg]
  omega

/-! ### small data -/
structure Sm (m dep : Nat) (d : D) : Prop where
  sh : (toPy d).showable = true
  dp : (toPy d).depth ≤ dep
  ln : (shownD d).length ≤ m
  lay : (toPy d).canLay0 = true
theorem Sm.mono {m m' k k' : Nat} {d : D} (h : Sm m k d) (e1 : m ≤ m') (e2 : k ≤ k') : Sm m' k' d := ⟨h.sh, Nat.le_trans h.dp e2, Nat.le_trans h.ln e1, h.lay⟩
theorem sm_str {n : Nat} {s : Str} (h : As n s) : Sm (4 * n + 2) 0 (.str s) := by
  refine ⟨?_, ?_, ?_, ?_⟩
  · simp [toPy, PyData.showable]
  · simp [toPy, PyData.depth]
  · have := reprText_len h
    simpa [shownD, toPy, PyData.shown] using this
  · simp only [toPy, PyData.canLay0, PyData.strOk]
    rw [Array.all_eq_true_iff_forall_mem]
    intro c hc
    have := h.2 c (by simpa using hc)
    simp
    omega
theorem sm_int {i : Int} (h : i.natAbs.log2 < 1920) : Sm 1921 0 (.int i) := by
  refine ⟨?_, ?_, ?_, ?_⟩
  · simp [toPy, PyData.showable, h]
  · simp [toPy, PyData.depth]
  · simpa [shownD, toPy, PyData.shown] using int_text_len_1921 h
  · simp [toPy, PyData.canLay0]
theorem sjoin_len {g : Str} {n : Nat} : ∀ {ts : List Str}, (∀ t ∈ ts, t.length ≤ n) → (g.join ts).length ≤ ts.length * (n + g.length)
  | [], _ => by simp [Str.join, Str.length, Str.empty]
  | [t], h => by
    have := h t List.mem_cons_self
    simp only [Str.join, List.length_cons, List.length_nil]
    omega
  | t :: u :: ts, h => by
    have h1 := h t List.mem_cons_self
    have h2 := sjoin_len (g := g) (ts := u :: ts) fun z hz => h z (List.mem_cons_of_mem _ hz)
    have e : (g.join (t :: u :: ts)).length = t.length + g.length + (g.join (u :: ts)).length := by
      have e5 : ∀ a b : Str, (a ++ b).length = a.length + b.length := fun a b => Array.size_append
      rw [Str.join, e5, e5]
      exact fun z => by cases z
    rw [e]
    simp only [List.length_cons] at h2 ⊢
    rw [Nat.succ_mul]
    omega
theorem all_lists {ds : List D} {m k : Nat} (h : ∀ d ∈ ds, Sm m k d) : PyData.showableAll (toPys ds) = true ∧ PyData.depthAll (toPys ds) ≤ k ∧ (∀ t ∈ PyData.shownAll (toPys ds), t.length ≤ m) ∧ (PyData.shownAll (toPys ds)).length = ds.length ∧ PyData.canLayAll0 (toPys ds) = true := by
  induction ds with
  | nil => simp [toPys, PyData.showableAll, PyData.depthAll, PyData.shownAll, PyData.canLayAll0]
  | cons d ds ih =>
    obtain ⟨a1, a2, a3, a4, a5⟩ := ih fun z hz => h z (List.mem_cons_of_mem _ hz)
    obtain ⟨b1, b2, b3, b4⟩ := h d List.mem_cons_self
    refine ⟨?_, ?_, ?_, ?_, ?_⟩
    · simp [toPys, PyData.showableAll, a1, b1]
    · simp only [toPys, PyData.depthAll]
      omega
    · intro t ht
      simp only [toPys, PyData.shownAll, List.mem_cons] at ht
      rcases ht with rfl | ht
      · exact b3
      · exact a3 t ht
    · simp [toPys, PyData.shownAll, a4]
    · simp [toPys, PyData.canLayAll0, a5, b4]
theorem sm_tup {ds : List D} {m k l : Nat} (h : ∀ d ∈ ds, Sm m k d) (hl : ds.length ≤ l) : Sm (l * (m + 2) + 4) (k + 1) (.tup ds) := by
  obtain ⟨a1, a2, a3, a4, a5⟩ := all_lists h
  refine ⟨?_, ?_, ?_, ?_⟩
  · simp only [toPy, PyData.showable, a1]
  · simp only [toPy, PyData.depth]
    omega
  · simp only [shownD, toPy, PyData.shown, tupleText]
    have e1 := sjoin_len (g := Str.ofString ", ") a3
    have e2 : (Str.ofString ", ").length = 2 := by decide +kernel
    have e3 : (Str.ofString "(").length = 1 := by decide +kernel
    have e4 : (Str.ofString (if ((PyData.shownAll (toPys ds)).length == 1) = true then ",)" else ")")).length ≤ 2 := by
      split <;> decide +kernel
    have e5 : ∀ a b : Str, (a ++ b).length = a.length + b.length := fun a b => Array.size_append
    rw [e5, e5, e3]
    rw [e2, a4] at e1
    have e6 : ds.length * (m + 2) ≤ l * (m + 2) := Nat.mul_le_mul_right _ hl
    omega
  · simp only [toPy, PyData.canLay0, a5]
theorem canLay_lst {ds : List D} {m k : Nat} (h : ∀ d ∈ ds, Sm m k d) (hk : k < 64) : SeqAt.shaped (toPy (.lst ds)) = true := by
  obtain ⟨a1, a2, a3, a4, a5⟩ := all_lists h
  simp only [SeqAt.shaped, toPy, PyData.canLay0, a5, PyData.depth, Bool.true_and, decide_eq_true_eq]
  omega
theorem Sm.shaped {m k : Nat} {d : D} (h : Sm m k d) (hk : k ≤ 64) : SeqAt.shaped (toPy d) = true := by
  simp only [SeqAt.shaped, h.lay, Bool.true_and, decide_eq_true_eq]
  have := h.dp
  omega
theorem Sm.repr {m k : Nat} {d : D} (h : Sm m k d) (hk : k ≤ 100) (hm : m ≤ sizeLine) : opRepr d = some (.str (shownD d)) := by
  unfold opRepr okShow
  have h1 := h.dp
  have h2 := h.ln
  rw [if_pos]
  simp only [h.sh, Bool.true_and, Bool.and_eq_true, decide_eq_true_eq]
  omega

/-! ### what a reading comes to -/
theorem b1_eq {α β : Type} {m : MM α} {k : α → MM β} {env : List SV} {rd rd1 : Rdr} {a : α} (h : m env rd = some (a, rd1)) : bind1 m k env rd = k a env rd1 := by
  unfold bind1
  rw [h]
  rfl
theorem lcGo_map {A : Type} {f g : A → D} {i : Nat} {env : List SV} {rd : Rdr} {e : MM D} : ∀ {as : List A}, (∀ a ∈ as, e (env.set i (.val (f a))) rd = some (g a, rd)) → lcGo (.nm i) mYes e (as.map f) env rd = some (as.map g, rd)
  | [], _ => rfl
  | a :: as, h => by
    have ih := lcGo_map (f := f) (g := g) (i := i) (env := env) (rd := rd) (e := e) (as := as) fun z hz => h z (List.mem_cons_of_mem _ hz)
    have e1 := h a List.mem_cons_self
    have e2 : mYes (env.set i (.val (f a))) rd = some (true, rd) := rfl
    simp only [List.map_cons, lcGo, setPat, Option.bind_some, e2, if_true, e1, ih, Option.map_some]
theorem lcGo_none {A : Type} {f : A → D} {i : Nat} {env : List SV} {rd : Rdr} {e : MM D} {t : MM Bool} : ∀ {as : List A}, (∀ a ∈ as, t (env.set i (.val (f a))) rd = some (false, rd)) → lcGo (.nm i) t e (as.map f) env rd = some ([], rd)
  | [], _ => rfl
  | a :: as, h => by
    simp only [List.map_cons, lcGo, setPat, Option.bind_some]
    rw [h a List.mem_cons_self]
    simp only [Option.bind_some, Bool.false_eq_true, if_false]
    exact lcGo_none fun z hz => h z (List.mem_cons_of_mem _ hz)
/-- what holds of the answer and of the reader behind -/
def Wp {α : Type} (x : Option (α × Rdr)) (Q : α → Rdr → Prop) : Prop := ∃ a rd, x = some (a, rd) ∧ Q a rd
theorem wp_bind1 {α β : Type} {m : MM α} {k : α → MM β} {env : List SV} {rd : Rdr} {Q : β → Rdr → Prop} : Wp (bind1 m k env rd) Q ↔ Wp (m env rd) fun a rd' => Wp (k a env rd') Q := by
  constructor
  · rintro ⟨b, rd2, h, q⟩
    obtain ⟨a, rd1, h1, h2⟩ := bind1_some h
    exact ⟨a, rd1, h1, b, rd2, h2, q⟩
  · rintro ⟨a, rd1, h1, b, rd2, h2, q⟩
    exact ⟨b, rd2, by rw [b1_eq h1, h2], q⟩
theorem wp_some {α : Type} {a : α} {rd : Rdr} {Q : α → Rdr → Prop} : Wp (some (a, rd)) Q ↔ Q a rd := by
  constructor
  · rintro ⟨b, r, h, q⟩
    cases h
    exact q
  · exact fun q => ⟨a, rd, rfl, q⟩
theorem wp_lift {α : Type} {o : Option α} {env : List SV} {rd : Rdr} {Q : α → Rdr → Prop} : Wp (lift o env rd) Q ↔ ∃ a, o = some a ∧ Q a rd := by
  constructor
  · rintro ⟨b, r, h, q⟩
    obtain ⟨h1, rfl⟩ := lift_some h
    exact ⟨b, h1, q⟩
  · rintro ⟨a, rfl, q⟩
    exact ⟨a, rd, rfl, q⟩
theorem Wp.mono {α : Type} {x : Option (α × Rdr)} {Q R : α → Rdr → Prop} (h : Wp x Q) (f : ∀ a rd, Q a rd → R a rd) : Wp x R := by
  obtain ⟨a, rd, h, q⟩ := h
  exact ⟨a, rd, h, f a rd q⟩
end FW
namespace FW
open PySem PySem.Spec PyProof.Rows L2
section
variable {α β : Type} {env : List SV} {rd : Rdr}
theorem ev_bind1 {m : MM α} {k : α → MM β} : bind1 m k env rd = (m env rd).bind fun q => k q.1 env q.2 := Eq.trans rfl rfl
theorem ev_lift {o : Option α} : lift o env rd = o.map fun x => (x, rd) := Eq.trans rfl rfl
theorem ev_eC {d : D} : eC d env rd = some (d, rd) := Eq.trans rfl rfl
theorem ev_eVar {i : Nat} : eVar i env rd = (match env[i]? with | some (.val d) => some (d, rd) | _ => none) := Eq.trans rfl rfl
theorem ev_eOp {op : D → D → Option D} {a b : MM D} : eOp op a b env rd = (a env rd).bind fun p => (b env p.2).bind fun q => (op p.1 q.1).map fun x => (x, q.2) := Eq.trans rfl rfl
theorem ev_eUn {f : D → Option D} {a : MM D} : eUn f a env rd = (a env rd).bind fun p => (f p.1).map fun x => (x, p.2) := Eq.trans rfl rfl
theorem ev_eT {m : MM D} : eT m env rd = (m env rd).bind fun p => (isBl p.1).map fun x => (x, p.2) := Eq.trans rfl rfl
theorem ite_ap {c : Prop} [Decidable c] {a b : MM α} : (if c then a else b) env rd = if c then a env rd else b env rd := by split <;> rfl
theorem ev_mAnd {a b : MM Bool} : mAnd a b env rd = (a env rd).bind fun p => if p.1 = true then b env p.2 else some (false, p.2) := by
  show ((a env rd).bind fun p => (if p.1 = true then b else fun _ rd => some (false, rd)) env p.2) = _
  congr 1; funext p; rw [ite_ap]
theorem ev_mOr {a b : MM Bool} : mOr a b env rd = (a env rd).bind fun p => if p.1 = true then some (true, p.2) else b env p.2 := by
  show ((a env rd).bind fun p => (if p.1 = true then fun _ rd => some (true, rd) else b) env p.2) = _
  congr 1; funext p; rw [ite_ap]
theorem ev_mNot {a : MM Bool} : mNot a env rd = (a env rd).bind fun p => some (!p.1, p.2) := Eq.trans rfl rfl
theorem ev_eAnd {a b : MM D} : eAnd a b env rd = (eT a env rd).bind fun p => if p.1 = true then b env p.2 else some (.bl false, p.2) := by
  show ((eT a env rd).bind fun p => (if p.1 = true then b else fun _ rd => some (.bl false, rd)) env p.2) = _
  congr 1; funext p; rw [ite_ap]
theorem ev_eIf {t : MM Bool} {a b : MM D} : eIf t a b env rd = (t env rd).bind fun p => if p.1 = true then a env p.2 else b env p.2 := by
  show ((t env rd).bind fun p => (if p.1 = true then a else b) env p.2) = _
  congr 1; funext p; rw [ite_ap]
theorem ev_chain {a b c : MM D} {f g : D → D → Option D} : chainT a b c f g env rd = (a env rd).bind fun p => (b env p.2).bind fun q => (((f p.1 q.1).bind isBl).map fun x => (x, q.2)).bind fun k => if k.1 = true then (c env k.2).bind fun z => (g q.1 z.1).map fun x => (x, z.2) else some (.bl false, k.2) := by
  show ((a env rd).bind fun p => (b env p.2).bind fun q => (((f p.1 q.1).bind isBl).map fun x => (x, q.2)).bind fun k => (if k.1 = true then bind1 c fun z => lift (g q.1 z) else fun x rd => some (.bl false, rd)) env k.2) = _
  congr 1; funext p; congr 1; funext q; congr 1; funext k; rw [ite_ap]; rfl
theorem ev_aNil : aNil env rd = some ([], rd) := Eq.trans rfl rfl
theorem ev_aCons {a : MM D} {r : MM (List D)} : aCons a r env rd = (a env rd).bind fun p => (r env p.2).bind fun q => some (p.1 :: q.1, q.2) := Eq.trans rfl rfl
theorem ev_eTup {a : MM (List D)} : eTup a env rd = (a env rd).bind fun p => if p.1.length ≤ sizeLine then some (.tup p.1, p.2) else none := Eq.trans rfl rfl
theorem ev_eLst {a : MM (List D)} : eLst a env rd = (a env rd).bind fun p => if p.1.length ≤ sizeLine then some (.lst p.1, p.2) else none := Eq.trans rfl rfl
theorem ev_eCall {op : List D → Option D} {a : MM (List D)} : eCall op a env rd = (a env rd).bind fun p => (op p.1).map fun x => (x, p.2) := Eq.trans rfl rfl
theorem ev_eFn {fm : FM} {n : Nat} {a : MM (List D)} : eFn fm n a env rd = (a env rd).bind fun p => if p.1.length = n then fm p.1 p.2 else none := Eq.trans rfl rfl
theorem ev_eFnR {fm : FM} {n i : Nat} {a : MM (List D)} : eFnR fm n i a env rd = (match env[i]? with | some .rdr => (a env rd).bind fun q => if q.1.length = n then fm q.1 q.2 else none | _ => none) := Eq.trans rfl rfl
theorem ev_eIter {m : MM D} : eIter m env rd = (m env rd).bind fun p => (iterD p.1).map fun x => (x, p.2) := Eq.trans rfl rfl
theorem ev_eRange {f : List D → Option (List D)} {m : MM (List D)} : eRange f m env rd = (m env rd).bind fun p => (f p.1).map fun x => (x, p.2) := Eq.trans rfl rfl
theorem ev_eLc {mi : MM (List D)} {p : Pat} {vs : List Nat} {t : MM Bool} {e : MM D} : eLc mi p vs t e env rd = (mi env rd).bind fun q => if q.1.length ≤ sizeLine then (lcGo p t e q.1 (wipeE env vs) q.2).map fun r => (.lst r.1, r.2) else none := Eq.trans rfl rfl
theorem ev_eSl {m : MM D} {a b : MM (Option Int)} : eSl m a b env rd = (m env rd).bind fun p => (a env p.2).bind fun q => (b env q.2).bind fun r => (opSl p.1 q.1 r.1).map fun x => (x, r.2) := Eq.trans rfl rfl
theorem ev_pNone : pNone env rd = some (none, rd) := Eq.trans rfl rfl
theorem ev_pSome {m : MM D} : pSome m env rd = (m env rd).bind fun p => (match p.1 with | .int i => some (some i) | _ => none).map fun x => (x, p.2) := Eq.trans rfl rfl
theorem ev_mFrz {m : MM α} : mFrz m env rd = m (env.map frzSV) rd := Eq.trans rfl rfl
theorem ev_sNx : sNx env rd = some (.nx env, rd) := Eq.trans rfl rfl
theorem ev_sSet {i : Nat} {m : MM D} : sSet i m env rd = (m env rd).bind fun p => some (.nx (env.set i (.val p.1)), p.2) := Eq.trans rfl rfl
theorem ev_sRet {m : MM D} : sRet m env rd = (m env rd).bind fun p => some (.ret p.1, p.2) := Eq.trans rfl rfl
theorem ev_sSeq {a b : MM Fl} : sSeq a b env rd = (a env rd).bind fun q => match q.1 with | .nx env' => b env' q.2 | fl => some (fl, q.2) := Eq.trans rfl rfl
theorem ev_sIf {t : MM Bool} {a b : MM Fl} : sIf t a b env rd = (t env rd).bind fun p => if p.1 = true then a env p.2 else b env p.2 := by
  show ((t env rd).bind fun p => (if p.1 = true then a else b) env p.2) = _
  congr 1; funext p; rw [ite_ap]
theorem ev_sUnp {p : Pat} {m : MM D} : sUnp p m env rd = (m env rd).bind fun q => (setPat p q.1 env).map fun env' => (.nx env', q.2) := Eq.trans rfl rfl
theorem ev_sNew {i : Nat} {m : MM (List D)} : sNew i m env rd = (m env rd).bind fun p => some (.nx (env.set i (.own p.1)), p.2) := Eq.trans rfl rfl
theorem ev_fLst {m : MM (List D)} : fLst m env rd = (m env rd).bind fun p => if p.1.length ≤ sizeLine then some (p.1, p.2) else none := Eq.trans rfl rfl
theorem ev_fCat {a b : MM D} : fCat a b env rd = (a env rd).bind fun p => (b env p.2).bind fun q => (match p.1, q.1 with | .lst xs, .lst ys => if xs.length + ys.length ≤ sizeLine then some (xs ++ ys) else none | _, _ => none).map fun x => (x, q.2) := Eq.trans rfl rfl
theorem ev_sApp {i : Nat} {m : MM D} : sApp i m env rd = (m env rd).bind fun p => match env[i]? with | some (.own ds) => if ds.length < sizeLine then some (.nx (env.set i (.own (ds ++ [p.1]))), p.2) else none | _ => none := Eq.trans rfl rfl
theorem ev_sFrz {i : Nat} {m : MM Fl} : sFrz i m env rd = m (frzAt i env) rd := Eq.trans rfl rfl
theorem ev_sFor {mi : MM (List D)} {p : Pat} {b : MM Fl} : sFor mi p b env rd = (mi env rd).bind fun q => forGo p b q.1 env q.2 := Eq.trans rfl rfl
theorem ev_vNil : vNil env rd = some ([], rd) := Eq.trans rfl rfl
theorem ev_vVal {m : MM D} {r : MM (List SV)} : vVal m r env rd = (m env rd).bind fun p => (r env p.2).bind fun q => some (.val p.1 :: q.1, q.2) := Eq.trans rfl rfl
theorem ev_vOwn {m : MM (List D)} {r : MM (List SV)} : vOwn m r env rd = (m env rd).bind fun p => (r env p.2).bind fun q => some (.own p.1 :: q.1, q.2) := Eq.trans rfl rfl
theorem ev_sTup {is : List Nat} {m : MM (List SV)} : sTup is m env rd = (m env rd).bind fun p => if p.1.length = is.length then some (.nx (setSv is p.1 env), p.2) else none := Eq.trans rfl rfl
theorem ev_eRd {i k : Nat} : eRd i k env rd = (match env[i]? with | some .rdr => (rdItem k rd).map fun d => (d, rd) | _ => none) := Eq.trans rfl rfl
theorem ev_sRd {i k : Nat} {m : MM D} : sRd i k m env rd = (m env rd).bind fun p => match env[i]?, p.1 with | some .rdr, .int x => (rdPut k x p.2).map fun rd' => (.nx env, rd') | _, _ => none := Eq.trans rfl rfl
end
end FW
namespace FW
open PySem PySem.Spec PyProof.Rows L2
theorem eqS {a b : Str} : opEq (.str a) (.str b) = some (.bl (decide (a = b))) := Eq.trans rfl rfl
theorem eqI {a b : Int} : opEq (.int a) (.int b) = some (.bl (decide (a = b))) := Eq.trans rfl rfl
theorem neS {a b : Str} : opNe (.str a) (.str b) = some (.bl (!decide (a = b))) := Eq.trans rfl rfl
theorem neI {a b : Int} : opNe (.int a) (.int b) = some (.bl (!decide (a = b))) := Eq.trans rfl rfl
end FW

set_option Elab.async false
set_option linter.all false
set_option maxRecDepth 100000
set_option maxHeartbeats 1000000
/-! FX1: in over data of any depth; what may raise: values, calls, statements, defs; calls by keywords. -/
namespace FW
open PySem PySem.Spec PyProof.Rows L2
variable {γ : Gm} {W : WX} {g : Bool}
section
variable {X : Cx}
/-! ### in, not in -/
theorem toPys_any (p : PyData → Bool) : ∀ ds : List D, (toPys ds).any p = ds.any fun z => p (toPy z)
  | [] => by simp only [toPys, List.any_nil]
  | d :: ds => by simp only [toPys, List.any_cons, toPys_any p ds]
def deepIn (d : D) (ds : List D) : Bool := ds.any fun z => PyData.eqv (toPy z) (toPy d)
def opInX (neg : Bool) (d e : D) : Option D := match seqOf e with
  | some ds => if flatD d = true ∧ ds.all flatD = true then some (.bl (if neg = true then !inD d ds else inD d ds))
      else if SeqAt.shaped (toPy d) = true ∧ SeqAt.shaped (toPy e) = true then some (.bl (if neg = true then !deepIn d ds else deepIn d ds)) else none
  | none => none
theorem or_inX (neg : Bool) (hu : X.A.units + 65 < cLine) : OpR X (compareOp (if neg = true then .NotIn else .In)) (rD X.K (opInX neg)) := by
  intro pins s σ H x y v u Q I rx ry h
  obtain ⟨F, d, e, z, sf, pd, pe, hz, q⟩ := h
  unfold opInX at hz
  split at hz
  · rename_i ds hs
    by_cases hf : flatD d = true ∧ ds.all flatD = true
    · rw [if_pos hf] at hz
      have hz' : opIn neg d e = some z := by
        unfold opIn
        rw [hs]
        exact (if_pos hf).trans hz
      cases neg with
      | false => exact or_in pins s σ H x y v u Q I rx ry ⟨F, d, e, z, sf, pd, pe, hz', q⟩
      | true => exact or_notin pins s σ H x y v u Q I rx ry ⟨F, d, e, z, sf, pd, pe, hz', q⟩
    · rw [if_neg hf] at hz
      simp only [Option.ite_none_right_eq_some, Option.some.injEq] at hz
      obtain ⟨⟨h1, h2⟩, rfl⟩ := hz
      have fin := q _ F H (Alc.refl sf) rp_bl
      obtain ⟨as, r1⟩ := Dp.reads I _ x v (dp_of sf d x pd) rx
      have hroom : X.A.units + 1 + min (PyData.depthAll (toPys ds)) (toPy d).depth < cLine := room_in_shaped h1 hu
      cases e with
      | lst es =>
        simp only [seqOf, Option.some.injEq] at hs
        subst hs
        obtain ⟨bs, r2⟩ := Dp.reads I _ y u (dp_of sf _ y pe) ry
        simp only [toPy] at r2 h2
        cases neg with
        | false => exact SeqAt.in_list_reads r2 r1 (SeqAt.canLay_of_shaped h2) (SeqAt.canLay_of_shaped h1) hroom ⟨.bl _, H, I, rfl, by rw [toPys_any]; exact fin⟩
        | true => exact SeqAt.notIn_list_reads r2 r1 (SeqAt.canLay_of_shaped h2) (SeqAt.canLay_of_shaped h1) hroom ⟨.bl _, H, I, rfl, by rw [toPys_any]; exact fin⟩
      | tup es =>
        simp only [seqOf, Option.some.injEq] at hs
        subst hs
        obtain ⟨bs, r2⟩ := Dp.reads I _ y u (dp_of sf _ y pe) ry
        simp only [toPy] at r2 h2
        cases neg with
        | false => exact SeqAt.in_tuple_reads r2 r1 (SeqAt.canLay_of_shaped h2) (SeqAt.canLay_of_shaped h1) hroom ⟨.bl _, H, I, rfl, by rw [toPys_any]; exact fin⟩
        | true => exact SeqAt.notIn_tuple_reads r2 r1 (SeqAt.canLay_of_shaped h2) (SeqAt.canLay_of_shaped h1) hroom ⟨.bl _, H, I, rfl, by rw [toPys_any]; exact fin⟩
      | _ => simp [seqOf] at hs
  · cases hz
theorem or_inT (hu : X.A.units + 65 < cLine) : OpR X (compareOp .In) (rD X.K (opInX false)) := or_inX false hu
theorem or_notinT (hu : X.A.units + 65 < cLine) : OpR X (compareOp .NotIn) (rD X.K (opInX true)) := or_inX true hu
/-- t.index(x), texts in a tuple -/
def strIx (z : Str) : List Str → Option Nat
  | [] => none
  | y :: ys => if y = z then some 0 else (strIx z ys).map (· + 1)
theorem strIx_some {z : Str} : ∀ {ys : List Str} {j : Nat}, strIx z ys = some j → ys[j]? = some z ∧ ∀ m, m < j → ys[m]? ≠ some z
  | [], _, h => by cases h
  | y :: ys, j, h => by
    unfold strIx at h
    by_cases hy : y = z
    · rw [if_pos hy] at h
      cases h
      exact ⟨by rw [hy]; rfl, fun m hm => absurd hm (Nat.not_lt_zero m)⟩
    · rw [if_neg hy] at h
      obtain ⟨i, hi, rfl⟩ := Option.map_eq_some_iff.mp h
      obtain ⟨h1, h2⟩ := strIx_some hi
      refine ⟨by simpa using h1, fun m hm => ?_⟩
      cases m with
      | zero => simpa using hy
      | succ m => simpa using h2 m (by omega)
def opIndex (d e : D) : Option D := match d, e with
  | .tup ds, .str z => (strsOf ds).bind fun ys => (strIx z ys).map fun j => .int (j : Nat)
  | _, _ => none
end
/-! ### what may raise -/
inductive Res where | ok (d : D) | exc (c : Str) (fs : List (Str × D))
abbrev MX := List SV → Rdr → Option (Res × Rdr)
abbrev FX := List D → Rdr → Option (Res × Rdr)
def resQ (γ : Gm) (E : XK) (K : PySem.W.Frag) (ro : Ro) (F H : Hp) (rd' : Rdr) (Q : VK) : Res → Prop
  | .ok d => ∀ v F' H', Stp γ.T ro F H F' H' → RdOk ro rd' F' H' → Rp K F' d v → Q v H'
  | .exc c fs => ∀ F' H' cls dd, Stp γ.T ro F H F' H' → RdOk ro rd' F' H' → ExR γ.mg K ro F' H' c fs cls dd → E cls dd H'
def tMX (γ : Gm) (W : WX) (K : PySem.W.Frag) (m : MX) : TE := fun σ H Q => ∃ ro F0 H0 F env rd r rd', SRel γ K ro F0 H0 F env rd σ H ∧ m env rd = some (r, rd') ∧ resQ γ (WE W σ) K ro F H rd' Q r
abbrev PMX (γ : Gm) (W : WX) (X : Cx) (e : Expr) (m : MX) : Prop := PE X e (tMX γ W X.K m)
def xOk (m : MM D) : MX := fun env rd => (m env rd).map fun q => (.ok q.1, q.2)
def xBind (m : MX) (k : List SV → D → Fl) : MM Fl := fun env rd => (m env rd).map fun q => (match q.1 with | .ok d => k env d | .exc c fs => .exc env c fs, q.2)
theorem xBind_some {m : MX} {k : List SV → D → Fl} {env : List SV} {rd rd' : Rdr} {fl : Fl} (h : xBind m k env rd = some (fl, rd')) : ∃ r, m env rd = some (r, rd') ∧ fl = (match r with | .ok d => k env d | .exc c fs => .exc env c fs) := by
  unfold xBind at h
  obtain ⟨⟨r, rd1⟩, m1, e⟩ := Option.map_eq_some_iff.mp h
  cases e
  exact ⟨r, m1, rfl⟩
def sSetX (i : Nat) (m : MX) : MM Fl := xBind m fun env d => .nx (env.set i (.val d))
def sRetX (m : MX) : MM Fl := xBind m fun _ d => .ret d
def sExpX (m : MX) : MM Fl := xBind m fun env _ => .nx env
section
variable {X : Cx}
theorem pmx_ok {e : Expr} {m : MM D} (h : PM γ X e m) : PMX γ W X e (xOk m) := pe_imp h fun σ H Q ⟨ro, F0, H0, F, env, rd, r, rd', hS, hm, q⟩ => by
  unfold xOk at hm
  obtain ⟨⟨d, rd1⟩, m1, e⟩ := Option.map_eq_some_iff.mp hm
  cases e
  exact ⟨ro, F0, H0, F, env, rd, d, _, hS, m1, q⟩
theorem pms_setX {i : Nat} {x : Str} {e : Expr} {m : MX} {pos pos' : Pos} (hN : X.N.Nodup) (hi : X.N[i]? = some x) (hx : Loc X.env.scope x) (he : PMX γ W X e m) (hs : swapsWith e (some (.Name x pos')) pos.line X.env = pure false := by rfl) (hf : X.fn x = true ∨ X.env.scope.names.lookup x = some .local := by first | exact .inl rfl | exact .inr rfl | assumption) :
    PMS γ W X (.Assign [.Name x pos'] e pos) (sSetX i m) := ps_imp (ps_set hN hi hx he hs hf) fun D σ H ⟨ro, F0, H0, F, env, rd, fl, rd', hS, hm, q⟩ => by
  obtain ⟨r, m1, rfl⟩ := xBind_some hm
  refine ⟨ro, F0, H0, F, env, rd, r, _, hS, m1, ?_⟩
  cases r with
  | ok d => exact fun v F' H' a r p => q _ F' H' ((hS.step a r).set p)
  | exc c fs => exact fun F' H' cls dd a r x => q σ F' H' cls dd (hS.step a r) x
theorem pms_retX {e : Expr} {m : MX} {pos : Pos} (he : PMX γ W X e m) : PMS γ W X (.Return (some e) pos) (sRetX m) := ps_imp (ps_ret he) fun D σ H ⟨ro, F0, H0, F, env, rd, fl, rd', hS, hm, q⟩ => by
  obtain ⟨r, m1, rfl⟩ := xBind_some hm
  refine ⟨ro, F0, H0, F, env, rd, r, _, hS, m1, ?_⟩
  cases r with
  | ok d => exact fun v F' H' a r p => q v F' H' (hS.st.trans a) r p
  | exc c fs => exact fun F' H' cls dd a r x => q σ F' H' cls dd (hS.step a r) x
theorem pms_expX {e : Expr} {m : MX} {pos : Pos} (he : PMX γ W X e m) (hs : swapsWith e none pos.line X.env = pure false := by rfl) : PMS γ W X (.Expr e pos) (sExpX m) := ps_imp (ps_expr he hs) fun D σ H ⟨ro, F0, H0, F, env, rd, fl, rd', hS, hm, q⟩ => by
  obtain ⟨r, m1, rfl⟩ := xBind_some hm
  refine ⟨ro, F0, H0, F, env, rd, r, _, hS, m1, ?_⟩
  cases r with
  | ok d => exact fun v F' H' a r p => q σ F' H' (hS.step a r)
  | exc c fs => exact fun F' H' cls dd a r x => q σ F' H' cls dd (hS.step a r) x
end
/-! ### a def that may raise -/
def spX (γ : Gm) (K : PySem.W.Frag) (hasR : Bool) (n : Nat) (fx : FX) : Sp := fun vs H Q E => ∃ ro F ds rd r rd', TabF γ.T F H ∧ Same F H ∧ RdOk ro rd F H ∧ ArgR K hasR ro F ds vs ∧ ds.length = n ∧ fx ds rd = some (r, rd') ∧ resQ γ E K ro F H rd' Q r
def flFinX : Fl × Rdr → Option (Res × Rdr)
  | (.ret d, rd) => some (.ok d, rd)
  | (.nx _, rd) => some (.ok .non, rd)
  | (.own ds, rd) => some (.ok (.lst ds), rd)
  | (.exc _ c fs, rd) => some (.exc c fs, rd)
  | _ => none
def mFnX (n : Nat) (hasR : Bool) (k : Nat) (m : MM Fl) : FX := fun ds rd => if ds.length = n then (m (initE hasR ds k) rd).bind flFinX else none
section
variable {P : Program} {w : World} {K : PySem.W.Frag} {mg : Str → Option Value} {base : Heap}
theorem fnx_of (hlam : γ.lam = none) {x qual : Str} {st : Stmt} {f : Addr} {fd : FuncData} {N ps : List Str} {k n : Nat} {hasR : Bool} {m : MM Fl} (G : Fun K x qual st f fd) (S : FnScope N ps (defScope st)) (hn : ps.length = (if hasR = true then n + 1 else n))
    (hbody : ∀ (cdv : Value) (A : Around) (outer : List Env) (s : Shared) (H : Hp) (E : XK), Room k (A.deeper (envOfC qual (defScope st) s.heap.objs.size f cdv)) → (g = true → A.guards = some []) →
      PMSs γ (fun cls d _ H => E cls d H) (cxOf (L2.CX P w) P w K mg base N qual (defScope st) f cdv A outer s H E) (defBody st) m) :
    FnM g P w K mg base (k + 1) f fd ps (spX γ K hasR n (mFnX n hasR (N.length - ps.length) m)) := by
  have arity : ∀ vs H Q E, spX γ K hasR n (mFnX n hasR (N.length - ps.length) m) vs H Q E → vs.length = ps.length := by
    rintro vs H Q E ⟨ro, F, ds, rd, d, rd', _, _, _, hA, hl, _, _⟩
    rw [hn, arity_of hA hl]
  refine fnm_gen G S arity fun cdv A outer s H vs Q E hr hguard hsp => ⟨_, hbody cdv A outer s H E hr hguard, ?_⟩
  have count := arity _ _ _ _ hsp
  obtain ⟨ro, F, ds, rd, d, rd', htab, sf, hro, hA, hl, hm, q⟩ := hsp
  unfold mFnX at hm
  rw [if_pos hl] at hm
  obtain ⟨⟨fl, rdf⟩, hm, hf⟩ := Option.bind_eq_some_iff.mp hm
  refine ⟨ro, F, H, F, _, rd, fl, rdf, ⟨Stp.refl sf, hro, env_start hA (by rw [count]), ⟨htab, LamOk.off hlam⟩⟩, hm, ?_⟩
  cases fl with
  | nx env =>
    cases hf
    exact fun σ F' H' hS => q .non F' H' hS.st hS.rd rp_non
  | ret z =>
    cases hf
    exact fun v F' H' a r p => q v F' H' a r p
  | own es =>
    cases hf
    exact fun p vs F' H' a r h1 h2 h3 h4 => by
      obtain ⟨a2, p2⟩ := frz_new a h1 h2 h3 h4 r
      exact q _ _ H' a2 (r.alcF a2 h2 fun c z => by
        subst z
        have := hro.2.1
        rw [h1] at this
        cases this) p2
  | exc env c fs =>
    cases hf
    exact fun σ F' H' cls dd hS x => q F' H' cls dd hS.st hS.rd x
  | brk env => cases hf
  | ct env => cases hf
/-- a promise that says less -/
theorem FnM.imp {k : Nat} {f : Addr} {fd : FuncData} {ps : List Str} {sp sp' : Sp} (G : FnM g P w K mg base k f fd ps sp) (h : ∀ vs H Q E, sp' vs H Q E → sp vs H Q E) : FnM g P w K mg base k f fd ps sp' :=
  ⟨fun vs H Q E q => G.len vs H Q E (h _ _ _ _ q), fun A outer s H args us vs Q E hr hg e b v q => G.run A outer s H args us vs Q E hr hg e b v (h _ _ _ _ q)⟩
end
/-! ### calls -/
def pick {α : Type} (d : α) (is : List Nat) (xs : List α) : List α := is.map fun i => xs.getD i d
/-- how a call with keywords alone binds: the names ks as written, the i-th parameter is the is[i]-th of them -/
def KwB (fd : FuncData) (ps ks : List Str) (is : List Nat) : Prop := ∀ (s : Shared) (ws : List Value), ws.length = ks.length → BindsTo s fd ⟨[], ks.zip ws⟩ (ps.zip (pick Value.none is ws))
theorem pick_rps {K : PySem.W.Frag} {F : Hp} {ds : List D} {vs : List V} (h : Rps K F ds vs) : ∀ is : List Nat, Rps K F (pick D.non is ds) (pick V.non is vs)
  | [] => Rps.nil
  | i :: is => by
    refine Rps.cons (?_ : Rp K F (ds.getD i D.non) (vs.getD i V.non)) (pick_rps h is)
    cases e : ds[i]? with
    | some d =>
      obtain ⟨v, h1, h2⟩ := h.get e
      rw [List.getD_eq_getElem?_getD, List.getD_eq_getElem?_getD, e, h1]
      exact h2
    | none =>
      have e2 : vs[i]? = none := by
        rw [List.getElem?_eq_none_iff] at e ⊢
        rw [← h.length]
        exact e
      rw [List.getD_eq_getElem?_getD, List.getD_eq_getElem?_getD, e, e2]
      exact rp_non
theorem pick_vals {vs : List V} {us : List Value} (h : Vals vs us) : ∀ is : List Nat, Vals (pick V.non is vs) (pick Value.none is us)
  | [] => .nil
  | i :: is => by
    refine .cons (?_ : L2.RelV (vs.getD i V.non) (us.getD i Value.none)) (pick_vals h is)
    cases e : vs[i]? with
    | some d =>
      obtain ⟨u, h1, h2⟩ := h.get e
      rw [List.getD_eq_getElem?_getD, List.getD_eq_getElem?_getD, e, h1]
      exact h2
    | none =>
      have e2 := h.none_of e
      rw [List.getD_eq_getElem?_getD, List.getD_eq_getElem?_getD, e, e2]
      rfl
section
variable {X : Cx} {k : Nat} {f : Addr} {fd : FuncData} {ps : List Str} {n : Nat} {fm : FM} {fx : FX} {x : Str} {p pos : Pos} {e : Expr} {es : List Expr} {sp : Sp}
theorem run_any {pins : List (Addr × Obj)} {σ : L2.St} {H : Hp} {s : Shared} {Q : VK} {args : Args} {us : List Value} {vs : List V} {E : XK} (G : FnM g X.prog X.w X.K X.mg X.base k f fd ps sp) (hr : Room k X.A) (hgd : g = true → X.A.guards = some []) (hb : BindsTo s fd args (ps.zip us))
    (hx : PassesAt (L2.CX X.prog X.w) X σ E) (I : Inv X pins σ H s) (r : Vals vs us) (h : sp vs H Q E) : codeAny (model X.prog X.w) X.A (.call (.ref f) args) (fun res s' => match res with | .ok (.ret u) => EP X pins σ Q u s' | .error e => X.xe e s' | _ => False) s := by
  refine codeAny_mono (G.run X.A X.stack s H args us vs Q E hr hgd I.env0 hb r h) ?_
  intro res s' hq
  match res, hq with
  | .error e, hq => exact hx pins H s e s' I hq
  | .ok (.ret u), hq => exact I.after hq
  | .ok .next, hq => exact hq.elim
  | .ok .brk, hq => exact hq.elim
  | .ok .cont, hq => exact hq.elim
def eFnX (fx : FX) (n : Nat) (a : MM (List D)) : MX := fun env rd => (a env rd).bind fun q => if q.1.length = n then fx q.1 q.2 else none
theorem pmx_call {ma : MM (List D)} (tk : Takes X W) (G : FnM g X.prog X.w X.K X.mg X.base k f fd ps (spX γ X.K false n fx)) (hr : Room k X.A) (hgd : g = true → X.A.guards = some []) (hg : Gl X x) (hm : X.mg x = some (.ref f)) (hk : PySem.W.keepIn X.K (.ref f) = true) (hb : Binds X.K fd ps [])
    (ha : PMA γ X (e :: es) ma) (hdb : (x == ("__debug__" : Str)) = false := by decide) (he : starEach (e :: es) X.env = (false, eval e X.env) :: starEach es X.env := by rfl) (hpl : (backTo pos (starEach es X.env)).any (·.1) = false := by rfl) :
    PMX γ W X (.Call (.Name x p) (e :: es) [] pos) (eFnX fx n ma) := by
  refine ⟨fun pins s σ H Q I h => ?_⟩
  obtain ⟨ro, F0, H0, F, env, rd, r, rd', hS, hz, q⟩ := h
  obtain ⟨⟨ds, rd1⟩, m1, hz⟩ := Option.bind_eq_some_iff.mp hz
  simp only [Option.ite_none_right_eq_some] at hz
  obtain ⟨hl, hz⟩ := hz
  refine wpAny_Call_Name_kw (ld_glob I hg hm ?_ hdb)
  have args := ha.run pos pins s σ H (fun vs H1 => spX γ X.K false n fx vs H1 Q (WE W σ)) I ⟨ro, F0, H0, F, env, rd, ds, rd1, hS, m1, fun vs F1 H1 a1 r1 p1 =>
    ⟨ro, F1, ds, rd1, r, rd', (hS.step a1 r1).tab.tf, a1.fh, r1, p1, hl, hz, by
      cases r with
      | ok d => exact fun v F2 H2 a2 r2 p2 => q v F2 H2 (a1.trans a2) r2 p2
      | exc c fs => exact fun F2 H2 cls dd a2 r2 x2 => q F2 H2 cls dd (a1.trans a2) r2 x2⟩⟩
  refine PySem.W.callWith_K (h₀ := X.base) I.ok.mod.kin hk (thn args ?_) he hpl
  rintro us s1 ⟨vs, H1, I1, rv, sp⟩
  refine ⟨I1.kIn, ?_⟩
  have hl' : (us ++ []).length = ps.length := by
    rw [List.append_nil, ← rv.length]
    exact G.len _ _ _ _ sp
  have hb' := hb s1 us I1.kIn hl'
  rw [List.append_nil] at hb'
  refine wpAny_call (codeAny_mono (run_any G hr hgd hb' (passAt tk σ) I1 rv sp) fun res s' hq => ?_)
  match res, hq with
  | .error _, hq => exact hq
  | .ok (.ret u), hq => exact hq
/-- keywords -/
abbrev PMK (γ : Gm) (X : Cx) (kws : List Keyword) (m : MM (List D)) : Prop := PK X kws (tMA γ X.K m)
theorem pk_imp {kws : List Keyword} {t t' : TA} (h : PK X kws t) (f : ∀ σ H Q, t' σ H Q → t σ H Q) : PK X kws t' := ⟨fun pos pins s σ H Q I q => h.run pos pins s σ H Q I (f _ _ _ q)⟩
theorem pmk_nil : PMK γ X [] aNil := pk_imp pk_nil fun σ H Q ⟨ro, F0, H0, F, env, rd, z, rd', hS, hm, q⟩ => by
  cases hm
  exact q [] F H (Stp.refl hS.st.fh) hS.rd Rps.nil
theorem pmk_cons {nm : Option Str} {e : Expr} {kpos : Pos} {kws : List Keyword} {m : MM D} {r : MM (List D)} (ha : PM γ X e m) (hr : PMK γ X kws r) : PMK γ X (⟨nm, e, kpos⟩ :: kws) (aCons m r) :=
  pk_imp (pk_cons ha hr) fun _ _ _ h => tMA_cons h
def eFnXK (fx : FX) (n : Nat) (is : List Nat) (a : MM (List D)) : MX := fun env rd => (a env rd).bind fun q => if (pick D.non is q.1).length = n ∧ q.1.length = n then fx (pick D.non is q.1) q.2 else none
theorem pmx_callK {ma : MM (List D)} {kws : List Keyword} {ks : List Str} {is : List Nat} (tk : Takes X W) (G : FnM g X.prog X.w X.K X.mg X.base k f fd ps (spX γ X.K false n fx)) (hr : Room k X.A) (hgd : g = true → X.A.guards = some []) (hg : Gl X x) (hm : X.mg x = some (.ref f)) (hk : PySem.W.keepIn X.K (.ref f) = true) (hb : KwB fd ps ks is)
    (hks0 : ks.length = n) (ha : PMK γ X kws ma) (hall : (backToKw pos (keywordEach kws X.env)).all (·.1.isSome) = true := by rfl) (hks : (backToKw pos (keywordEach kws X.env)).filterMap (·.1) = ks := by rfl)
    (hdb : (x == ("__debug__" : Str)) = false := by decide) (hpl : ((backTo pos (starEach [] X.env)).any (·.1) || (backToKw pos (keywordEach kws X.env)).any (·.1.isNone)) = false := by rfl) :
    PMX γ W X (.Call (.Name x p) [] kws pos) (eFnXK fx n is ma) := by
  refine ⟨fun pins s σ H Q I h => ?_⟩
  obtain ⟨ro, F0, H0, F, env, rd, r, rd', hS, hz, q⟩ := h
  obtain ⟨⟨ds, rd1⟩, m1, hz⟩ := Option.bind_eq_some_iff.mp hz
  simp only [Option.ite_none_right_eq_some] at hz
  obtain ⟨⟨hl, hl0⟩, hz⟩ := hz
  refine wpAny_Call_Name_kw (ld_glob I hg hm ?_ hdb)
  have args := ha.run pos pins s σ H (fun vs H1 => vs.length = n ∧ spX γ X.K false n fx (pick V.non is vs) H1 Q (WE W σ)) I ⟨ro, F0, H0, F, env, rd, ds, rd1, hS, m1, fun vs F1 H1 a1 r1 p1 =>
    ⟨by rw [← p1.length]; exact hl0, ro, F1, _, rd1, r, rd', (hS.step a1 r1).tab.tf, a1.fh, r1, pick_rps p1 is, hl, hz, by
      cases r with
      | ok d => exact fun v F2 H2 a2 r2 p2 => q v F2 H2 (a1.trans a2) r2 p2
      | exc c fs => exact fun F2 H2 cls dd a2 r2 x2 => q F2 H2 cls dd (a1.trans a2) r2 x2⟩⟩
  refine PySem.W.callWith_KW0 (h₀ := X.base) I.ok.mod.kin hk hall (thn args ?_) hpl
  rintro us s1 ⟨vs, H1, I1, rv, hvl, sp⟩
  refine ⟨I1.kIn, ?_⟩
  rw [hks]
  have hul : us.length = ks.length := by rw [← rv.length, hvl, hks0]
  refine wpAny_call (codeAny_mono (run_any G hr hgd (hb s1 us hul) (passAt tk σ) I1 (pick_vals rv is) sp) fun res s' hq => ?_)
  match res, hq with
  | .error _, hq => exact hq
  | .ok (.ret u), hq => exact hq
end
section
variable {X : Cx} {j k n : Nat} {ps ks : List Str} {is : List Nat} {fx : FX} {x : Str} {p pos : Pos} {e : Expr} {es : List Expr}
/-- where it raises nothing -/
def xGet (m : MX) : MM D := fun env rd => (m env rd).bind fun q => match q.1 with
  | .ok d => some (d, q.2)
  | .exc _ _ => none
theorem pm_getx {m : MX} (h : PMX γ (fun _ _ _ _ => False) X e m) : PM γ X e (xGet m) := pe_imp h fun σ H Q ⟨ro, F0, H0, F, env, rd, d, rd', hS, hm, q⟩ => by
  obtain ⟨⟨r, rd1⟩, m1, hm⟩ := Option.bind_eq_some_iff.mp hm
  cases r with
  | ok z =>
    cases hm
    exact ⟨ro, F0, H0, F, env, rd, .ok d, _, hS, m1, q⟩
  | exc c fs => cases hm
theorem pmx_o {ma : MM (List D)} (tk : Takes X W) (G : Ok g X.prog X.w X.K X.mg X.base x k ps (spX γ X.K false n fx)) (hr : Room j X.A) (hgd : g = true → X.A.guards = some []) (hk : k ≤ j) (hg : Gl X x)
    (ha : PMA γ X (e :: es) ma) (hdb : (x == ("__debug__" : Str)) = false := by decide) (he : starEach (e :: es) X.env = (false, eval e X.env) :: starEach es X.env := by rfl) (hpl : (backTo pos (starEach es X.env)).any (·.1) = false := by rfl) :
    PMX γ W X (.Call (.Name x p) (e :: es) [] pos) (eFnX fx n ma) := by
  obtain ⟨f, fd, G, g, kp, b⟩ := G
  exact pmx_call tk G (hr.mono hk) hgd hg g kp b ha hdb he hpl
/-- a def that is called by keywords -/
def OkK (g : Bool) (P : Program) (w : World) (K : PySem.W.Frag) (mg : Str → Option Value) (base : Heap) (x : Str) (k : Nat) (ps ks : List Str) (is : List Nat) (sp : Sp) : Prop :=
  ∃ (f : Addr) (fd : FuncData), FnM g P w K mg base k f fd ps sp ∧ mg x = some (.ref f) ∧ PySem.W.keepIn K (.ref f) = true ∧ KwB fd ps ks is
theorem pmx_oK {ma : MM (List D)} {kws : List Keyword} (tk : Takes X W) (G : OkK g X.prog X.w X.K X.mg X.base x k ps ks is (spX γ X.K false n fx)) (hr : Room j X.A) (hgd : g = true → X.A.guards = some []) (hk : k ≤ j) (hg : Gl X x)
    (hks0 : ks.length = n) (ha : PMK γ X kws ma) (hall : (backToKw pos (keywordEach kws X.env)).all (·.1.isSome) = true := by rfl) (hks : (backToKw pos (keywordEach kws X.env)).filterMap (·.1) = ks := by rfl)
    (hdb : (x == ("__debug__" : Str)) = false := by decide) (hpl : ((backTo pos (starEach [] X.env)).any (·.1) || (backToKw pos (keywordEach kws X.env)).any (·.1.isNone)) = false := by rfl) :
    PMX γ W X (.Call (.Name x p) [] kws pos) (eFnXK fx n is ma) := by
  obtain ⟨f, fd, G, g, kp, b⟩ := G
  exact pmx_callK tk G (hr.mono hk) hgd hg g kp b hks0 ha hall hks hdb hpl
end
end FW

set_option Elab.async false
set_option linter.all false
set_option maxRecDepth 100000
set_option maxHeartbeats 1000000
/-! FX2: raise C(e, ..), C an own class whose __init__ stores its arguments under its fields' names. -/
namespace FW
open PySem PySem.Spec PyProof.Rows L2
variable {γ : Gm} {W : WX}
/-- __init__ of the class at C, its fields ns -/
def spInit (K : PySem.W.Frag) (C : Addr) (ns : List Str) : Sp := fun vs H Q _ => ∃ (a : Addr) (ws : List V), vs = .ref a :: ws ∧ ws.length = ns.length ∧ OexC K C ∧ (∀ n ∈ ns, PySem.W.findIn K (.ref C) n = some none) ∧ H a = some (exo a C none) ∧
  ∀ (H' : Hp) (d : Addr) (l : List (Str × V)), H d = none → d ≠ a → (∀ b, b ≠ a → b ≠ d → H' b = H b) → H' a = some (exo a C (some d)) → H' d = some (exd d l) → (∀ (i : Nat) (n : Str) (v : V), ns[i]? = some n → ws[i]? = some v → l.lookup n = some v) → Q .non H'
theorem init_len {K : PySem.W.Frag} {C : Addr} {ns : List Str} {vs : List V} {H : Hp} {Q : VK} {E : XK} (h : spInit K C ns vs H Q E) : vs.length = ("self" :: ns : List Str).length := by
  obtain ⟨a, ws, rfl, hl, _⟩ := h
  rw [List.length_cons, List.length_cons, hl]
theorem init_reading1 {K : PySem.W.Frag} {C : Addr} {n1 : Str} {vs : List V} {H : Hp} {Q : VK} {E : XK} (h : spInit K C [n1] vs H Q E) :
    tOst K n1 (tVar 0) (tVar 1) { nx := fun _ H' => Q .non H', rt := Q } (L2.start ["self", n1] vs) H := by
  obtain ⟨a, ws, rfl, hl, T, hno, ha, q⟩ := h
  match ws, hl with
  | [v], _ =>
    refine ⟨v, rfl, .ref a, rfl, a, C, rfl, T, hno _ (by simp), .inl ⟨ha, fun dx hd hne => ?_⟩⟩
    refine q _ dx [(n1, v)] hd hne (fun b h1 h2 => by rw [upd_ne h1, upd_ne h2]) upd_same (by rw [upd_ne hne, upd_same]) fun i n v' e1 e2 => ?_
    match i, e1, e2 with
    | 0, e1, e2 =>
      cases e1
      cases e2
      simp [List.lookup]
theorem init_reading2 {K : PySem.W.Frag} {C : Addr} {n1 n2 : Str} (hn : n1 ≠ n2) {vs : List V} {H : Hp} {Q : VK} {E : XK} (h : spInit K C [n1, n2] vs H Q E) :
    tSeq (tOst K n1 (tVar 0) (tVar 1)) (tOst K n2 (tVar 0) (tVar 2)) { nx := fun _ H' => Q .non H', rt := Q } (L2.start ["self", n1, n2] vs) H := by
  obtain ⟨a, ws, rfl, hl, T, hno, ha, q⟩ := h
  match ws, hl with
  | [v, w], _ =>
    refine ⟨v, rfl, .ref a, rfl, a, C, rfl, T, hno _ (by simp), .inl ⟨ha, fun dx hd hne => ?_⟩⟩
    refine ⟨w, rfl, .ref a, rfl, a, C, rfl, T, hno _ (by simp), .inr ⟨dx, [(n1, v)], upd_same, by rw [upd_ne hne, upd_same], by simp, ?_⟩⟩
    refine q _ dx [(n2, w), (n1, v)] hd hne (fun b h1 h2 => by rw [upd_ne h2, upd_ne h1, upd_ne h2]) (by rw [upd_ne (Ne.symm hne), upd_same]) upd_same fun i n v' e1 e2 => ?_
    have hb : (n1 == n2) = false := by simpa using hn
    match i, e1, e2 with
    | 0, e1, e2 =>
      cases e1
      cases e2
      simp [List.lookup, hb]
    | 1, e1, e2 =>
      cases e1
      cases e2
      simp [List.lookup]
/-- what is known of an own class of errors: its name c, its fields ns -/
structure ClsX (P : Program) (w : World) (K : PySem.W.Frag) (mg : Str → Option Value) (base : Heap) (c : Str) (k : Nat) (ns : List Str) : Prop where
  ex : ∃ (C fI : Addr) (fd : FuncData), mg c = some (.ref C) ∧ OexC K C ∧ PySem.W.findIn K (.ref C) "__init__" = some (some (.ref fI)) ∧ PySem.W.typeIn K (.ref fI) = some (.type "function") ∧
    FnOk P w K mg base (L2.CX P w) k fI fd ("self" :: ns) (spInit K C ns) ∧ Binds K fd ("self" :: ns) [] ∧ ∀ n ∈ ns, PySem.W.findIn K (.ref C) n = some none
def sRaise (c : Str) (ns : List Str) (a : MM (List D)) : MM Fl := bind1 a fun ds env rd => if ds.length = ns.length ∧ ds.length ≤ 1000 then some (.exc env c (ns.zip ds), rd) else none
theorem lookup_zip {n : Str} {z : D} : ∀ {ns : List Str} {ds : List D}, (ns.zip ds).lookup n = some z → ∃ i : Nat, ns[i]? = some n ∧ ds[i]? = some z
  | [], _, h => by simp at h
  | _ :: _, [], h => by simp at h
  | m :: ns, d :: ds, h => by
    rw [List.zip_cons_cons, List.lookup_cons] at h
    by_cases e : n = m
    · subst e
      simp at h
      exact ⟨0, rfl, by rw [h]; rfl⟩
    · have e' : (n == m) = false := by simpa using e
      rw [e'] at h
      obtain ⟨i, h1, h2⟩ := lookup_zip h
      exact ⟨i + 1, by simpa using h1, by simpa using h2⟩
section
variable {X : Cx} {j k : Nat} {c : Str} {ns : List Str} {e : Expr} {es : List Expr} {p pos pos2 : Pos}
theorem pms_raise {ma : MM (List D)} (hγ : γ.mg = X.mg) (hc : X.calm = true) (tk : Takes X W) (T : ClsX X.prog X.w X.K X.mg X.base c k ns) (hr : Room j X.A) (hk : k + 1 ≤ j) (hg : Gl X c) (ha : PMA γ X (e :: es) ma)
    (hdb : (c == ("__debug__" : Str)) = false := by decide) (he : starEach (e :: es) X.env = (false, eval e X.env) :: starEach es X.env := by rfl) (hpl : (backTo pos (starEach es X.env)).any (·.1) = false := by rfl) :
    PMS γ W X (.Raise (some (.Call (.Name c p) (e :: es) [] pos)) none pos2) (sRaise c ns ma) := by
  obtain ⟨C, fI, fd, hm, O, iC, tI, F1, b, hno⟩ := T.ex
  refine ps_imp (ps_raise hc tk (pmk_oex (dvs := []) O iC tI F1 (hr.mono hk) b .nil passL hg hm ha hdb he hpl)) fun D σ H ⟨ro, F0, H0, F, env, rd, fl, rd', hS, hz, q⟩ => ?_
  obtain ⟨ds, rd1, m1, hz⟩ := bind1_some hz
  simp only [Option.ite_none_right_eq_some, Option.some.injEq, Prod.mk.injEq] at hz
  obtain ⟨⟨hl, hl2⟩, rfl, rfl⟩ := hz
  refine ⟨ro, F0, H0, F, env, rd, ds, rd1, hS, m1, fun vs F1' H1 a1 r1 p1 => ⟨by rw [← p1.length]; exact hl2, fun a hna => ?_⟩⟩
  rw [List.append_nil]
  refine ⟨a, vs, rfl, by rw [← p1.length]; exact hl, O, hno, upd_same, fun H2 d l hd hda hfr h2a h2d hlk => ⟨rfl, d, l, h2a, h2d, ?_, ?_⟩⟩
  · rw [upd_ne hda] at hd
    exact hd
  · rw [upd_ne hda] at hd
    have eq : upd (del H2 a) d (.xd l) = upd H1 d (.xd l) := by
      funext b
      by_cases hb : b = d
      · subst hb
        rw [upd_same, upd_same]
      · rw [upd_ne hb, upd_ne hb]
        by_cases hba : b = a
        · subst hba
          rw [del_same, hna]
        · rw [del_ne hba, hfr b hba hb, upd_ne hba]
    rw [eq]
    obtain ⟨n1, n2, n3⟩ := new_own (o := .xd l) a1.fh r1 hd
    have S2 := (hS.step a1 r1).step n1 n2
    refine q σ F1' _ _ _ S2 ⟨C, d, l, by rw [hγ]; exact hm, rfl, rfl, upd_same, fun c' z => ?_, fun n z hz => ?_⟩
    · subst z
      have := r1.2.1
      rw [hd] at this
      cases this
    · obtain ⟨i, i1, i2⟩ := lookup_zip hz
      obtain ⟨v, v1, v2⟩ := p1.get i2
      exact ⟨v, hlk i n v i1 v1, v2⟩
end
end FW

set_option Elab.async false
set_option linter.all false
set_option maxRecDepth 100000
set_option maxHeartbeats 1000000
/-! FX3: try .. except C as e: the suite sees e's class and fields. -/
namespace FW
open PySem PySem.Spec PyProof.Rows L2
variable {γ : Gm} {W : WX}
/-- what the class at C must say, so that its instances can be asked in a suite -/
structure ExcF (K : PySem.W.Frag) (C : Addr) : Prop where
  x : XfC K C
  cl : (PySem.W.clsIn K C).isSome = true
  ha : PySem.W.findIn K (.ref C) "__class__" = some (some (.builtin "object.__class__"))
  hn : PySem.W.specialIn K (.builtin "object.__class__") "__get__" = some (some (.builtin "getset_descriptor.__get__"))
  ht : PySem.W.takesIn K (.builtin "object.__class__") = some true
  hm : PySem.W.mroIn K C (.type "object") = some true
theorem lookup_mem {β : Type} {c : Str} {b : β} : ∀ {l : List (Str × β)}, l.lookup c = some b → (c, b) ∈ l
  | [], h => by simp at h
  | (m, e) :: l, h => by
    rw [List.lookup_cons] at h
    by_cases q : c = m
    · subst q
      simp at h
      rw [h]
      exact List.mem_cons_self
    · have q' : (c == m) = false := by simpa using q
      rw [q'] at h
      exact List.mem_cons_of_mem _ (lookup_mem h)
section
variable {X : Cx} {a : Addr} {oe : Obj} {cls : Value} {d : Option Addr} {pn : List (Addr × Obj)}
/-- isinstance(e, T), isinstance(e, (T, ..)), e caught, with its own dict -/
def rIsEx (K : PySem.W.Frag) (a C : Addr) (d : Option Addr) : List V → Hp → VK → Prop := fun xs H Q => ∃ (dd : Addr) (l : List (Str × V)) (b : Bool), d = some dd ∧ H dd = some (.xd l) ∧ Q (.bl b) H ∧
  ((∃ (c : V) (cv : Value), xs = [.ref a, c] ∧ (∀ u, RelV c u → u = cv) ∧ PySem.W.kitOne K (.ref C) cv = some b) ∨ ∃ (tp : Addr) (cs : List V) (us : List Value), xs = [.ref a, .ref tp] ∧ H tp = some (.tup cs) ∧ Paired ClsV cs us ∧ PySem.W.kitAny K (.ref C) us = some b)
theorem call_isEx {C : Addr} (T : ExcF X.K C) (hz : Zc (.ref C) d oe) (hf : ∃ vs, oe.data = .fields vs) : CallR (X.suite a ((a, oe) :: pn)) (.builtin "isinstance") (rIsEx X.K a C d) := by
  intro pins s σ H xs us Q I r h
  obtain ⟨dd, l, b, rfl, hdd, q, h⟩ := h
  obtain ⟨hget, _⟩ := I.pin (a, oe) (List.mem_append_left _ List.mem_cons_self)
  obtain ⟨vs, hv⟩ := hf
  have hx : ObjOk X.prog X.w H s.heap dd (.xd l) := I.hok dd _ hdd
  obtain ⟨mA, hns, _⟩ := hx
  obtain ⟨od, ho, _⟩ := lookIn_ns hns
  have J : PySem.W.InstAt s.heap a oe C (some od) := ⟨hget, hz.1, by unfold PySem.W.notCls; rw [hv] <;> rfl, by rw [hz.2]; exact ho⟩
  have Z : PySem.W.KitX X.K (.ref a) (.ref C) (fun h => PySem.W.InstAt h a oe C (some od)) := PySem.W.kitx_exc T.cl T.x.ga T.x.gg T.x.exC T.ha T.hn T.ht T.hm
  rcases h with ⟨c, cv, rfl, hcv, e⟩ | ⟨tp, cs, ws, rfl, htp, hcs, e⟩
  · obtain ⟨u1, u2, rfl, r1, r2⟩ := vals2 r
    cases (show u1 = Value.ref a from r1)
    have e2 := hcv _ r2
    subst e2
    exact PySem.W.kia_one Z I.kIn J e (fun z => nomatch z) fun tk => ⟨.bl b, H, I.tok tk, rfl, q⟩
  · obtain ⟨u1, u2, rfl, r1, r2⟩ := vals2 r
    cases (show u1 = Value.ref a from r1)
    cases (show u2 = Value.ref tp from r2)
    obtain ⟨_, its, rv, o, h1, h2, n, h3⟩ := (show ObjOk X.prog X.w H s.heap tp (.tup cs) from I.hok tp _ htp)
    have e3 := ClsV.all hcs rv
    subst e3
    obtain ⟨oc, od', dt, sl⟩ := o
    simp only at h2 h3
    subst h2 h3
    exact PySem.W.kia_tup Z I.kIn J h1 e (fun z => nomatch z) fun tk => ⟨.bl b, H, I.tok tk, rfl, q⟩
def eIsE (i : Nat) (l : List (Str × Bool)) : MM D := fun env rd => match env[i]? with
  | some (.exn c _) => (l.lookup c).map fun b => (.bl b, rd)
  | _ => none
/-- what a class name in a test is worth -/
def KitF (γ : Gm) (K : PySem.W.Frag) (cv : Value) (l : List (Str × Bool)) : Prop := ∀ p ∈ l, ∃ C, γ.mg p.1 = some (.ref C) ∧ ExcF K C ∧ PySem.W.kitOne K (.ref C) cv = some p.2
def KitA (γ : Gm) (K : PySem.W.Frag) (cvs : List Value) (l : List (Str × Bool)) : Prop := ∀ p ∈ l, ∃ C, γ.mg p.1 = some (.ref C) ∧ ExcF K C ∧ PySem.W.kitAny K (.ref C) cvs = some p.2
theorem exn_at {i : Nat} {l : List (Str × Bool)} {env : List SV} {rd rd' : Rdr} {z : D} (hm : eIsE i l env rd = some (z, rd')) : ∃ c fs b, env[i]? = some (.exn c fs) ∧ l.lookup c = some b ∧ z = .bl b ∧ rd = rd' := by
  unfold eIsE at hm
  split at hm
  · rename_i c fs hi
    obtain ⟨b, h1, h2⟩ := Option.map_eq_some_iff.mp hm
    cases h2
    exact ⟨c, fs, b, hi, h1, rfl, rfl⟩
  · cases hm
theorem exn_slot {K : PySem.W.Frag} {ro : Ro} {F0 H0 F : Hp} {env : List SV} {rd : Rdr} {σ : L2.St} {H : Hp} {i : Nat} {c : Str} {fs : List (Str × D)} (hS : SRel γ K ro F0 H0 F env rd σ H) (hx : γ.exn = some (a, cls, d)) (hi : env[i]? = some (.exn c fs)) :
    σ[i]? = some (some (.ref a)) ∧ ExR γ.mg K ro F H c fs cls d := by
  obtain ⟨o, q1, a', cls', d', q2, rfl, q3⟩ := hS.env.ok i _ hi
  rw [hx] at q2
  cases q2
  exact ⟨q1, q3⟩
theorem pm_isE {i : Nat} {l : List (Str × Bool)} {y : Str} {p p1 pos : Pos} {te : Expr} {cv : V} {cvv : Value} (hx : γ.exn = some (a, cls, d)) (hz : Zc cls d oe) (hf : ∃ vs, oe.data = .fields vs) (hg : Gl X "isinstance") (hm : X.mg "isinstance" = none)
    (he : PE (X.suite a ((a, oe) :: pn)) (.Name y p1) (tVar i)) (ht : PE (X.suite a ((a, oe) :: pn)) te (tC cv)) (hcv : ∀ u, RelV cv u → u = cvv) (F : KitF γ X.K cvv l)
    (h1 : starEach [.Name y p1, te] X.env = (false, eval (.Name y p1) X.env) :: starEach [te] X.env := by rfl) (h2 : starEach [te] X.env = (false, eval te X.env) :: starEach [] X.env := by rfl)
    (h3 : (backTo pos (starEach [te] X.env)).any (·.1) = false := by rfl) :
    PM γ (X.suite a ((a, oe) :: pn)) (.Call (.Name "isinstance" p) [.Name y p1, te] [] pos) (eIsE i l) := by
  refine ⟨fun pins s σ H Q I h => ?_⟩
  obtain ⟨ro, F0, H0, F1, env, rd, z, rd', hS, hmm, q⟩ := h
  obtain ⟨c, fs, b, hi, hl, rfl, rfl⟩ := exn_at hmm
  obtain ⟨s1, C, dd, l', m1, m2, m3, m4, _, _⟩ := exn_slot hS hx hi
  obtain ⟨C', n1, n2, n3⟩ := F _ (lookup_mem hl)
  have m1' : γ.mg c = some (.ref C') := n1
  rw [m1] at m1'
  cases m1'
  subst m2
  exact (pe_callB (call_isEx n2 hz hf) hg hm (by decide +kernel) (pa_cons he (pa_cons ht pa_nil h2) h1) (by decide) (by decide) h1 h3).run pins s σ H Q I
    ⟨.ref a, s1, dd, l', b, m3, m4, q _ F1 H (Stp.refl hS.st.fh) hS.rd rp_bl, .inl ⟨cv, cvv, rfl, hcv, n3⟩⟩
theorem pm_isET {i : Nat} {l : List (Str × Bool)} {y : Str} {p p1 pos tpos : Pos} {k : Nat} {tes : List Expr} {cs : List V} {cvs : List Value} {tt : TA} (hx : γ.exn = some (a, cls, d)) (hz : Zc cls d oe) (hf : ∃ vs, oe.data = .fields vs) (hg : Gl X "isinstance") (hm : X.mg "isinstance" = none)
    (he : PE (X.suite a ((a, oe) :: pn)) (.Name y p1) (tVar i)) (ht : PA (X.suite a ((a, oe) :: pn)) tes tt) (htt : ∀ σ H Q, Q cs H → tt σ H Q) (hl : cs.length ≤ 100) (hcv : Paired ClsV cs cvs) (F : KitA γ X.K cvs l)
    (h1 : starEach [.Name y p1, .Tuple tes k tpos] X.env = (false, eval (.Name y p1) X.env) :: starEach [.Tuple tes k tpos] X.env := by rfl) (h2 : starEach [.Tuple tes k tpos] X.env = (false, eval (.Tuple tes k tpos) X.env) :: starEach [] X.env := by rfl)
    (h3 : (backTo pos (starEach [.Tuple tes k tpos] X.env)).any (·.1) = false := by rfl) :
    PM γ (X.suite a ((a, oe) :: pn)) (.Call (.Name "isinstance" p) [.Name y p1, .Tuple tes k tpos] [] pos) (eIsE i l) := by
  refine ⟨fun pins s σ H Q I h => ?_⟩
  obtain ⟨ro, F0, H0, F1, env, rd, z, rd', hS, hmm, q⟩ := h
  obtain ⟨c, fs, b, hi, hlk, rfl, rfl⟩ := exn_at hmm
  obtain ⟨s1, C, dd, l', m1, m2, m3, m4, _, _⟩ := exn_slot hS hx hi
  obtain ⟨C', n1, n2, n3⟩ := F _ (lookup_mem hlk)
  have m1' : γ.mg c = some (.ref C') := n1
  rw [m1] at m1'
  cases m1'
  subst m2
  refine (pe_callB (call_isEx n2 hz hf) hg hm (by decide +kernel) (pa_cons he (pa_cons (pe_tup ht) pa_nil h2) h1) (by decide) (by decide) h1 h3).run pins s σ H Q I
    ⟨.ref a, s1, htt _ _ _ ⟨Nat.le_trans hl (by decide), fun tp htp => ⟨dd, l', b, m3, ?_, ?_, .inr ⟨tp, cs, cvs, rfl, upd_same, hcv, n3⟩⟩⟩⟩
  · rw [upd_ne (ne_of_none m4 htp)]
    exact m4
  · obtain ⟨w1, w2, _⟩ := new_own (o := .tup cs) hS.st.fh hS.rd htp
    exact q _ F1 _ w1 w2 rp_bl
/-- e.n -/
def eFldE (i : Nat) (n : Str) : MM D := fun env rd => match env[i]? with
  | some (.exn _ fs) => (fs.lookup n).map fun z => (z, rd)
  | _ => none
/-- the fields that may be read: of the classes cs -/
def FldF (γ : Gm) (K : PySem.W.Frag) (n : Str) (cs : List Str) : Prop := ∀ c ∈ cs, ∃ C, γ.mg c = some (.ref C) ∧ ExcF K C ∧ PySem.W.findIn K (.ref C) n = some none
def eFldC (i : Nat) (n : Str) (cs : List Str) : MM D := fun env rd => match env[i]? with
  | some (.exn c fs) => if cs.contains c = true then (fs.lookup n).map fun z => (z, rd) else none
  | _ => none
theorem pm_fldE {i : Nat} {n y : Str} {cs : List Str} {p1 pos : Pos} (hx : γ.exn = some (a, cls, d)) (hz : Zc cls d oe) (hf : ∃ vs, oe.data = .fields vs) (he : PE (X.suite a ((a, oe) :: pn)) (.Name y p1) (tVar i)) (F : FldF γ X.K n cs)
    (hb : attributeBase (.Name y p1) n X.env (eval (.Name y p1) X.env) = eval (.Name y p1) X.env := by rfl) : PM γ (X.suite a ((a, oe) :: pn)) (.Attribute (.Name y p1) n pos) (eFldC i n cs) := by
  refine ⟨fun pins s σ H Q I h => ?_⟩
  obtain ⟨ro, F0, H0, F1, env, rd, z, rd', hS, hmm, q⟩ := h
  unfold eFldC at hmm
  split at hmm
  · rename_i c fs hi
    simp only [Option.ite_none_right_eq_some, Option.map_eq_some_iff, Prod.mk.injEq] at hmm
    obtain ⟨hc, z', hz', rfl, rfl⟩ := hmm
    obtain ⟨s1, C, dd, l', m1, m2, m3, m4, _, m6⟩ := exn_slot hS hx hi
    obtain ⟨C', n1, n2, n3⟩ := F c (by simpa using hc)
    rw [m1] at n1
    cases n1
    subst m2
    obtain ⟨v, v1, v2⟩ := m6 n z' hz'
    exact (pe_xf n2.x n3 hz hf he hb).run pins s σ H Q I ⟨.ref a, s1, rfl, rfl, dd, l', v, m3, m4, v1, q _ F1 H (Stp.refl hS.st.fh) hS.rd v2⟩
  · cases hmm
end
end FW

set_option Elab.async false
set_option linter.all false
set_option maxRecDepth 100000
set_option maxHeartbeats 1000000
/-! FX4: try .. except C as e. -/
namespace FW
open PySem PySem.Spec PyProof.Rows L2
variable {γ : Gm} {W : WX}
def noExn : SV → Bool
  | .exn _ _ => false
  | _ => true
def unsetEnv (i : Nat) (env : List SV) : Option (List SV) := if (env.set i .un).all noExn = true then some (env.set i .un) else none
def unsetFl (i : Nat) : Fl → Option Fl
  | .nx env => (unsetEnv i env).map .nx
  | .brk env => (unsetEnv i env).map .brk
  | .ct env => (unsetEnv i env).map .ct
  | .ret d => some (.ret d)
  | .own ds => some (.own ds)
  | .exc _ _ _ => none
def sTry (i : Nat) (l : List (Str × Bool)) (mb ms : MM Fl) : MM Fl := fun env rd => (mb env rd).bind fun q => match q.1 with
  | .exc env1 c fs => (l.lookup c).bind fun b => if b = true then (ms (env1.set i (.exn c fs)) q.2).bind fun r => (unsetFl i r.1).map fun fl => (fl, r.2) else some (.exc env1 c fs, q.2)
  | fl => some (fl, q.2)
abbrev Gm.ex (γ : Gm) (e : Option (Addr × Value × Option Addr)) : Gm := { γ with exn := e }
theorem EnvOk.toEx {K : PySem.W.Frag} {ro : Ro} {H0 F H : Hp} {env : List SV} {σ : L2.St} {e : Option (Addr × Value × Option Addr)} (h : EnvOk γ K ro H0 F H env σ) (hx : γ.exn = none) : EnvOk (γ.ex e) K ro H0 F H env σ := by
  refine ⟨h.len, fun i sv es => ?_, h.sep⟩
  obtain ⟨o, q1, q2⟩ := h.ok i sv es
  refine ⟨o, q1, ?_⟩
  cases sv with
  | exn c fs =>
    obtain ⟨_, _, _, z, _⟩ := q2
    rw [hx] at z
    cases z
  | _ => exact q2
theorem EnvOk.offEx {K : PySem.W.Frag} {ro : Ro} {H0 F H : Hp} {env : List SV} {σ : L2.St} {e : Option (Addr × Value × Option Addr)} (h : EnvOk (γ.ex e) K ro H0 F H env σ) (hn : env.all noExn = true) : EnvOk γ K ro H0 F H env σ := by
  refine ⟨h.len, fun i sv es => ?_, h.sep⟩
  obtain ⟨o, q1, q2⟩ := h.ok i sv es
  refine ⟨o, q1, ?_⟩
  cases sv with
  | exn c fs =>
    have := List.all_eq_true.mp hn _ (List.mem_of_getElem? es)
    cases this
  | _ => exact q2
theorem EnvOk.setE {K : PySem.W.Frag} {ro : Ro} {H0 F H : Hp} {env : List SV} {σ : L2.St} (h : EnvOk γ K ro H0 F H env σ) {i : Nat} {c : Str} {fs : List (Str × D)} {v : V} (q : SlotOk γ K ro H0 F H (.exn c fs) (some v)) : EnvOk γ K ro H0 F H (env.set i (.exn c fs)) (σ.set i (some v)) := by
  refine ⟨by rw [List.length_set, List.length_set, h.len], fun j sv e => ?_, fun j k ds es p hjk e1 e2 s1 => ?_⟩
  · by_cases hij : i = j
    · subst hij
      have hl : i < env.length := by
        have := (List.getElem?_eq_some_iff.mp e).1
        rwa [List.length_set] at this
      rw [List.getElem?_set_self hl] at e
      cases e
      exact ⟨some v, List.getElem?_set_self (by rw [← h.len]; exact hl), q⟩
    · rw [List.getElem?_set_ne hij] at e
      obtain ⟨o, q1, q2⟩ := h.ok j sv e
      exact ⟨o, by rw [List.getElem?_set_ne hij]; exact q1, q2⟩
  · have nj : i ≠ j := fun z => by
      subst z
      rw [List.getElem?_set_self (by have := (List.getElem?_eq_some_iff.mp e1).1; rwa [List.length_set] at this)] at e1
      cases e1
    have nk : i ≠ k := fun z => by
      subst z
      rw [List.getElem?_set_self (by have := (List.getElem?_eq_some_iff.mp e2).1; rwa [List.length_set] at this)] at e2
      cases e2
    rw [List.getElem?_set_ne nj] at e1 s1
    rw [List.getElem?_set_ne nk] at e2 ⊢
    exact h.sep j k ds es p hjk e1 e2 s1
theorem SRel.offEx {K : PySem.W.Frag} {ro : Ro} {F0 H0 F : Hp} {env env' : List SV} {rd : Rdr} {σ : L2.St} {H : Hp} {i : Nat} {e : Option (Addr × Value × Option Addr)} (S : SRel (γ.ex e) K ro F0 H0 F env rd σ H) (hu : unsetEnv i env = some env') : SRel γ K ro F0 H0 F env' rd (σ.set i none) H := by
  unfold unsetEnv at hu
  simp only [Option.ite_none_right_eq_some, Option.some.injEq] at hu
  obtain ⟨hn, rfl⟩ := hu
  exact ⟨S.st, S.rd, (S.env.forget (i := i)).offEx hn, ⟨S.tab.tf, S.tab.l⟩⟩
section
variable {X : Cx} {x n : Str} {ch : Value} {i : Nat} {body suite : List Stmt} {b₀ : Stmt} {np pos pos' : Pos} {mb ms : MM Fl} {l : List (Str × Bool)}
theorem pms_try (hx0 : γ.exn = none) (hs : X.stack = X.env :: X.outer) (hf : X.env.frame = some X.env.locals) (hN : X.N.Nodup) (hi : X.N[i]? = some n) (hln : X.env.kindOf n = some .local) (hc : Names X x ch) (tk : Takes X W)
    (hb : ∀ (W' : WX) (pn : List (Addr × Obj)) (xe : Value → Shared → Prop), Takes (X.tr pn xe) W' → PassesOwn (model X.prog X.w) X.A X.env xe → PMSs γ W' (X.tr pn xe) body mb)
    (hsu : ∀ (a : Addr) (oe : Obj) (cls : Value) (d : Option Addr) (pn : List (Addr × Obj)), Zc cls d oe → (∃ vs, oe.data = .fields vs) → PMSs (γ.ex (some (a, cls, d))) (fun _ _ _ _ => False) (X.suite a ((a, oe) :: pn)) (b₀ :: suite) ms)
    (F : ∀ p ∈ l, ∃ C, γ.mg p.1 = some (.ref C) ∧ PySem.W.exmOne X.K (.ref C) ch = some p.2) :
    PMS γ W X (.Try body [.ExceptHandler (some (.Name x np)) (some n) (b₀ :: suite) pos'] [] [] pos) (sTry i l mb ms) :=
  ps_imp (ps_try_as (tb := fun W' => tMS γ W' X.K mb) (ts := fun a cls d => tMS (γ.ex (some (a, cls, d))) (fun _ _ _ _ => False) X.K ms) hs hf hN hi hln hc tk hb hsu) fun D σ H ⟨ro, F0, H0, F1, env, rd, fl, rd', hS, hm, q⟩ => by
  unfold sTry at hm
  obtain ⟨⟨fl1, rd1⟩, m1, hm⟩ := Option.bind_eq_some_iff.mp hm
  refine ⟨ro, F0, H0, F1, env, rd, fl1, rd1, hS, m1, ?_⟩
  cases fl1 with
  | nx env' =>
    cases hm
    exact q
  | ret d =>
    cases hm
    exact q
  | brk env' =>
    cases hm
    exact q
  | ct env' =>
    cases hm
    exact q
  | own ds =>
    cases hm
    exact q
  | exc env1 c fs =>
    simp only at hm
    obtain ⟨b, hb1, hm⟩ := Option.bind_eq_some_iff.mp hm
    obtain ⟨C, g1, g2⟩ := F _ (lookup_mem hb1)
    intro σ' F' H' cls dd S' ex
    have ex0 := ex
    obtain ⟨C', dd', l', e1, e2, e3, _⟩ := ex
    have g1' : γ.mg c = some (.ref C) := g1
    rw [e1] at g1'
    cases g1'
    subst e2
    refine ⟨b, g2, fun hbt a ha => ?_, fun hbf => ?_⟩
    · subst hbt
      rw [if_pos rfl] at hm
      obtain ⟨⟨fl2, rd2⟩, m2, hm⟩ := Option.bind_eq_some_iff.mp hm
      obtain ⟨fl3, hu, e4⟩ := Option.map_eq_some_iff.mp hm
      cases e4
      have S2 : SRel (γ.ex (some (a, .ref C, dd))) X.K ro F0 H0 F' (env1.set i (.exn c fs)) rd1 (σ'.set i (some (.ref a))) H' :=
        ⟨S'.st, S'.rd, (S'.env.toEx hx0).setE ⟨a, .ref C, dd, rfl, rfl, ex0⟩, ⟨S'.tab.tf, S'.tab.l⟩⟩
      refine ⟨ro, F0, H0, F', _, rd1, fl2, _, S2, m2, ?_⟩
      cases fl2 with
      | nx env2 =>
        obtain ⟨env3, h1, h2⟩ := Option.map_eq_some_iff.mp hu
        subst h2
        exact fun σ2 F2 H2 T2 => q _ F2 H2 (T2.offEx h1)
      | brk env2 =>
        obtain ⟨env3, h1, h2⟩ := Option.map_eq_some_iff.mp hu
        subst h2
        exact fun σ2 F2 H2 T2 => q _ F2 H2 (T2.offEx h1)
      | ct env2 =>
        obtain ⟨env3, h1, h2⟩ := Option.map_eq_some_iff.mp hu
        subst h2
        exact fun σ2 F2 H2 T2 => q _ F2 H2 (T2.offEx h1)
      | ret d =>
        cases hu
        exact q
      | own ds =>
        cases hu
        exact q
      | exc _ _ _ => cases hu
    · subst hbf
      rw [if_neg Bool.false_ne_true] at hm
      cases hm
      exact q σ' F' H' _ dd S' ex0
end
end FW

set_option Elab.async false
set_option linter.all false
set_option maxRecDepth 100000
set_option maxHeartbeats 2000000
/-! FX5: f(lambda: e), f a def that calls what it got. -/
namespace FW
open PySem PySem.Spec PyProof.Rows L2
variable {γ : Gm} {W : WX} {g : Bool}
abbrev lamQ (X : Cx) : Str := X.env.qual ++ "<lambda>"
/-- behind the making of a lambda: nothing new is tracked, or the table has grown by the code object c' -/
def LamStep (H : Hp) (P c' : Addr) (q : Str) (H1 : Hp) : Prop := H1 = H ∨ ∃ (ps more : Array Value), H P = some (.tbl ps) ∧ H c' = none ∧ H1 = upd (upd H P (.tbl (ps ++ more))) c' (LamX.CodeO c' q)
section
variable {X : Cx} {pins : List (Addr × Obj)} {σ : L2.St} {H : Hp} {s : Shared}
theorem lam_make3 {c P : Addr} {params : Arguments} {body : Expr} {scope : Scope} {pos : Pos} {E Q : Value → Shared → Prop} (I : Inv X pins σ H s) (TB : LamX.TabB X.base X.mg c P) (hcode : X.env.code = .ref c)
    (hT : LamX.TabS H P (lamQ X)) (hdef : defaultsOf params X.env = ([], [])) (hfree : ∀ y ∈ scope.names, y.2 = .free → ∃ c, X.env.cells.lookup y.1 = some c)
    (h : ∀ (f c' : Addr) (pm ctv : Value) (H1 : Hp) (s' : Shared), Inv X pins σ H1 s' → LamStep H P c' (lamQ X) H1 → LamX.TabS H1 P (lamQ X) →
      s'.heap.get? f = some (PySem.W.kla_obj "<lambda>" (lamQ X) params body scope (cloFrom X.env.cells scope.names []) pm c' ctv) → H1 f = none → f ∉ frs X.stack → H1 c' = some (LamX.CodeO c' (lamQ X)) → Q (.ref f) s') :
    wpAny (model X.prog X.w) X.A (eval (.Lambda params body scope pos) X.env) Q E s := by
  obtain ⟨ps, hP, htr, ham⟩ := hT
  refine PySem.W.kla_eval hdef ?_
  have bb := TB.bm.keeps I.bk
  have oP : s.heap.get? P = some (PySem.W.tabObj ps) := I.hok P _ hP
  have off : ∀ b, s.heap.objs.size ≤ b → b ∉ frs X.stack := by
    intro b hb hm
    rcases List.mem_cons.mp (I.stkSub _ hm) with e | e
    · exact absurd (e ▸ I.lt) (Nat.not_lt_of_le hb)
    · exact I.nofs hb e
  cases hc : codeAmong pos ps.toList with
  | some cv =>
    obtain ⟨c', rfl, hco⟩ := ham pos cv hc
    refine PySem.W.kla_makeFunctionHit (mg := X.mg) (c := c) (P := P) (ps := ps)
      (closure_ok hfree) I.ok.glob (I.mod.glob.keeps I.bk) hcode (TB.code.keeps I.bk) oP htr hc bb fun ctv h' tk hx hsz => ?_
    refine h h'.objs.size c' _ ctv H _ (I.kept fun b o e => ?_) (.inl rfl) ⟨ps, hP, htr, ham⟩ (Heap.get?_push_size _ rfl) (I.hok.fresh hsz) (off _ hsz) hco
    exact Heap.get?_push_of_some _ (hx b o e)
  | none =>
    refine PySem.W.kla_makeFunction (mg := X.mg) (c := c) (P := P) (ps := ps)
      (closure_ok hfree) I.ok.glob (I.mod.glob.keeps I.bk) hcode (TB.code.keeps I.bk) oP htr hc TB.gP bb fun c' ctv h' tk hx hge hlt hrec htb => ?_
    obtain ⟨_, oc, vs, t, e2, hoc, hd, hv⟩ := hrec
    cases e2
    have nC : H c' = none := I.hok.fresh hge
    have big := Nat.le_trans hge (Nat.le_of_lt hlt)
    have nPc : P ≠ c' := ne_of_none hP nC
    let o' := PySem.W.kla_obj "<lambda>" (lamQ X) params body scope (cloFrom X.env.cells scope.names []) ((X.mg "__name__").getD .none) c' ctv
    let more : Array Value := #[rawInt pos.line, rawInt pos.col, .ref c']
    have J := LamX.inv_table (q := lamQ X) (t' := tk) (more := more) (h' := h'.push o') I hP (fun b o hb e => Heap.get?_push_of_some _ (hx b o hb e)) (Heap.get?_push_of_some _ htb) hge
      ⟨oc, vs, t, Heap.get?_push_of_some _ hoc, hd, hv⟩
    refine h h'.objs.size c' _ ctv _ _ J (.inr ⟨ps, more, hP, nC, rfl⟩) ?_ (Heap.get?_push_size _ rfl) ?_ (off _ big) upd_same
    · have el : (ps ++ more).toList = ps.toList ++ [rawInt pos.line, rawInt pos.col, .ref c'] := by simp [more]
      refine ⟨ps ++ more, by rw [upd_ne nPc, upd_same], ?_, fun p' cv hcv => ?_⟩
      · rw [el]
        exact PySem.TriplesOk_snoc _ _ _ _ htr
      · rw [el] at hcv
        rcases LamX.among_app _ htr hcv with z | z
        · obtain ⟨c0, e1, e3⟩ := ham p' cv z
          refine ⟨c0, e1, ?_⟩
          have n1 : c0 ≠ P := fun y => by
            rw [y, hP] at e3
            exact LamX.codeO_ne _ (Option.some.inj e3).symm
          rw [upd_ne (ne_of_none e3 nC), upd_ne n1]
          exact e3
        · exact ⟨c', z, upd_same⟩
    · have n1 : h'.objs.size ≠ c' := Nat.ne_of_gt hlt
      have n2 : h'.objs.size ≠ P := Nat.ne_of_gt (Nat.lt_of_lt_of_le (Heap.lt_size oP) big)
      rw [upd_ne n1, upd_ne n2]
      exact I.hok.fresh big
/-- the got lambda is called: Y is the context of the def that got it -/
theorem act_run {CXg : CXT} {Eg : XK} {Ng : List Str} {qg : Str} {sg : Scope} {fg f c' : Addr} {cdg pm ctv : Value} {params : Arguments} {body : Expr} {scope : Scope} {k : Nat} {a : Str} {pn : List (Addr × Obj)} {xe : Value → Shared → Prop} {W' : WX} {tE : XK → TE} {p1 p2 : Pos}
    (I : Inv X pins σ H s) (L : LamX.LamS X.env.scope scope) (hf : s.heap.get? f = some (PySem.W.kla_obj "<lambda>" (lamQ X) params body scope (cloFrom X.env.cells scope.names []) pm c' ctv)) (hfn : H f = none) (hfr : f ∉ frs X.stack)
    (hbind : bindArgs (PySem.W.kla_fn "<lambda>" (lamQ X) params body scope (cloFrom X.env.cells scope.names []) pm (.ref c') ctv) ⟨[], []⟩ = pure [])
    (tk : Takes ((cxOf CXg X.prog X.w X.K X.mg X.base Ng qg sg fg cdg X.A X.stack s H Eg).tr pn xe) W') (hr : Room (k + 1) (X.A.deeper (envOfC qg sg s.heap.objs.size fg cdg)))
    (hbody : ∀ (A : Around) (outer : List Env) (s1 : Shared) (HZ : Hp) (E : XK), Room k (A.deeper (LamX.lamEnv X scope s1.heap.objs.size f c')) → PE (LamX.lamCx X A outer s1 HZ E scope f c') body (tE E))
    (hN : Ng[0]? = some a) (hv : Vis sg a) (hd : (a == ("__debug__" : Str)) = false) (hcd : (a == ("__classdict__" : Str)) = false) :
    PE ((cxOf CXg X.prog X.w X.K X.mg X.base Ng qg sg fg cdg X.A X.stack s H Eg).tr pn xe) (.Call (.Name a p1) [] [] p2) (fun σZ HZ Q => σZ[0]? = some (some (.ref f)) ∧ HZ c' = some (LamX.CodeO c' (lamQ X)) ∧ tE (WE W' σZ) σ HZ Q) := by
  refine ⟨fun pz sZ σZ HZ Q IZ h => ?_⟩
  obtain ⟨h1, h2, h3⟩ := h
  have name := pe_var (X := (cxOf CXg X.prog X.w X.K X.mg X.base Ng qg sg fg cdg X.A X.stack s H Eg).tr pn xe) (pos := p1) (i := 0) hN hv hd hcd
  refine wpAny_Call_Name_kw (thn (name.run pz sZ σZ HZ (fun v H1 => v = .ref f ∧ H1 = HZ) IZ ⟨_, h1, rfl, rfl⟩) ?_)
  rintro u s1 ⟨v, H1, I1, r1, rfl, rfl⟩
  obtain rfl : u = Value.ref f := r1
  have no : f ∉ ([] : List Addr) := List.not_mem_nil
  have of1 := I1.base.keep f _ hf hfn hfr no
  refine PySem.W.callWith_F0 ⟨_, _, _, _, of1⟩ ?_
  obtain ⟨⟨oc, vs, t, hoc, hdc, hvc⟩, _, _⟩ := I1.hok c' _ h2
  let En := envOfC qg sg s.heap.objs.size fg cdg
  have main : codeAny (model X.prog X.w) (X.A.deeper En) (.call (.ref f) ⟨[], []⟩) (CR (L2.CX X.prog X.w) (En :: X.stack) X.prog X.w H1 s1 Q (WE W' σZ)) s1 := by
    refine PySem.W.kla_callFunE hr.depth of1 rfl L.co L.gen rfl ⟨c', oc, vs, t, rfl, hoc, hdc, hvc⟩ ?_
    rw [hbind]
    refine wpAny_pure (wpAny_newFunctionEnv (fun y hy => (L.own y hy).2) (fun y hy => (List.not_mem_nil hy).elim) ?_ L.kind)
    intro h₁ hns hsb
    refine ⟨I1.nolimit.fresh _ hsb, ?_⟩
    have kp : ∀ b o, s1.heap.get? b = some o → h₁.get? b = some o := by
      intro b o e
      exact hsb.extBut b o (Nat.ne_of_lt (Heap.lt_size e)) (Heap.get?_push_of_some _ e)
    have J := LamX.lam_start2 (E := WE W' σZ) (A := X.A.deeper En) (outer := En :: X.stack) (f := f) (c' := c') (tk := s1.toks + ([] : List (Str × Value)).length) I L I1.env0 hr.hd I1.base hns kp
    refine PySem.W.kla_codeExpr (wpAny_mono ((hbody _ _ s1 H1 (WE W' σZ) (hr.deeper _)).run [] _ _ H1 Q J h3) ?_ (fun e s' z => z))
    rintro v s' ⟨w', H', J', rv, q⟩
    exact ⟨w', H', J'.os, J'.bare, J'.base, J'.hok, rv, q⟩
  refine wpAny_call (codeAny_mono main fun r s' hq => ?_)
  match r, hq with
  | .error e, hq => exact passAt tk σZ pz H1 s1 e s' I1 hq
  | .ok (.ret u), hq => exact I1.after hq
  | .ok .next, hq => exact hq.elim
  | .ok .brk, hq => exact hq.elim
  | .ok .cont, hq => exact hq.elim
end
end FW

set_option Elab.async false
set_option linter.all false
set_option maxRecDepth 100000
set_option maxHeartbeats 2000000
/-! FX6: f(lambda: e) as a plain function. -/
namespace FW
open PySem PySem.Spec PyProof.Rows L2
variable {γ : Gm} {W : WX} {g : Bool}
abbrev Gm.lm (γ : Gm) (l : Addr × Option (Addr × Addr) × Hp × Hp) : Gm := { γ with lam := some l }
/-- the got lambda, called -/
def xAct (mxc : Rdr → Option (Res × Rdr)) : MX := fun env rd => match env[0]? with
  | some SV.lam => mxc rd
  | _ => none
def eLam (mx : MX) (bo : (Rdr → Option (Res × Rdr)) → MM Fl) (k : Nat) : MM D := fun env rd => (bo (fun r => mx env r) (SV.lam :: List.replicate k SV.un) rd).bind flFin
theorem LamStep.stp {ro : Ro} {rd : Rdr} {F H H1 : Hp} {P c' : Addr} {q : Str} (st : LamStep H P c' q H1) (sf : Same F H) (r : RdOk ro rd F H) (t : TabF γ.T F H) (hm : (P, q) ∈ γ.T) (hu : ∀ p ∈ γ.T, p.1 = P → p.2 = q) (h1 : LamX.TabS H1 P q) : Stp γ.T ro F H F H1 ∧ RdOk ro rd F H1 := by
  rcases st with rfl | ⟨ps, more, hP, hc, rfl⟩
  · exact ⟨Stp.refl sf, r⟩
  · have fP : F P = none := t.2 _ hm
    have fc : F c' = none := sf.free hc
    have keep : ∀ b, b ≠ P → b ≠ c' → upd (upd H P (.tbl (ps ++ more))) c' (LamX.CodeO c' q) b = H b := fun b z1 z2 => by rw [upd_ne z2, upd_ne z1]
    have nP : ∀ b o, H b = some o → (∀ ps, o ≠ .tbl ps) → b ≠ P := fun b o e n z => by
      rw [z, hP] at e
      exact n ps (Option.some.inj e).symm
    refine ⟨⟨Same.refl _, fun b o e => ?_, fun b o e _ n => ?_, fun tb p hp => ?_, fun _ _ z => z, fun b e => ?_, fun _ _ z => z⟩, ?_⟩
    · rw [keep b (ne_of_none e fP) (ne_of_none e fc)]
      exact sf b o e
    · rw [keep b (nP b o e n) (ne_of_none e hc)]
      exact e
    · by_cases hp1 : p.1 = P
      · rw [hu p hp hp1, hp1]
        exact h1
      · obtain ⟨ps2, e1, e2, e3⟩ := tb p hp
        refine ⟨ps2, by rw [keep _ hp1 (ne_of_none e1 hc)]; exact e1, e2, fun pos cv z => ?_⟩
        obtain ⟨c0, z1, z2⟩ := e3 pos cv z
        exact ⟨c0, z1, by rw [keep _ (nP _ _ z2 fun xs => LamX.codeO_ne xs) (ne_of_none z2 hc)]; exact z2⟩
    · by_cases h2 : b = c'
      · rw [h2]
        exact hc
      · by_cases h3 : b = P
        · rw [h3, upd_ne (ne_of_none hP hc), upd_same] at e
          cases e
        · rw [keep b h3 h2] at e
          exact e
    · cases ro with
      | none => trivial
      | some rc =>
        obtain ⟨r0, c0⟩ := rc
        refine ⟨r.1, ?_, r.2.2⟩
        rw [keep r0 (nP _ _ r.2.1 (fun _ z => by cases z)) (ne_of_none r.2.1 hc)]
        exact r.2.1
/-- a step over the narrower ground is one over the wider -/
theorem Stp.widen {ro : Ro} {rd : Rdr} {Fm F H F3 H3 : Hp} {T : List (Addr × Str)} (a : Stp T ro Fm H F3 H3) (s : Same Fm F) (sf : Same F H) (nt : ∀ b ps, F b = some (.tbl ps) → Fm b = some (.tbl ps)) (hr : ∀ r c, ro = some (r, c) → F r = none) (r3 : RdOk ro rd F3 H3) :
    ∃ F4, Stp T ro F H F4 H3 ∧ RdOk ro rd F4 H3 ∧ Same F3 F4 := by
  let F4 : Hp := fun b => match F3 b with
    | some o => some o
    | none => F b
  have q1 : ∀ b o, F3 b = some o → F4 b = some o := fun b o e => by
    show (match F3 b with | some o => some o | none => F b) = _
    rw [e]
  have q2 : ∀ b, F3 b = none → F4 b = F b := fun b e => by
    show (match F3 b with | some o => some o | none => F b) = _
    rw [e]
  have live : ∀ b o, F b = some o → H3 b = some o ∧ (F3 b = none ∨ F3 b = some o) := fun b o e => by
    by_cases ht : ∃ ps, o = .tbl ps
    · obtain ⟨ps, rfl⟩ := ht
      have e3 := a.ff b _ (nt b ps e)
      exact ⟨a.fh b _ e3, .inr e3⟩
    · have h3 : H3 b = some o := a.hh b o (sf b o e) (fun c z => by
        rw [hr b c z] at e
        cases e) (fun ps z => ht ⟨ps, z⟩)
      refine ⟨h3, ?_⟩
      cases hb : F3 b with
      | none => exact .inl rfl
      | some o' =>
        have := a.fh b o' hb
        rw [h3] at this
        exact .inr this.symm
  refine ⟨F4, ⟨fun b o e => ?_, fun b o e => ?_, a.hh, a.tb, fun b ps e => ?_, a.hn, fun b e1 e2 => ?_⟩, ?_, q1⟩
  · rcases (live b o e).2 with z | z
    · rw [q2 b z]
      exact e
    · exact q1 b o z
  · cases hb : F3 b with
    | some o' =>
      rw [q1 b o' hb] at e
      cases e
      exact a.fh b o hb
    | none =>
      rw [q2 b hb] at e
      exact (live b o e).1
  · cases hb : F3 b with
    | some o' =>
      rw [q1 b o' hb] at e
      cases e
      exact s b _ (a.nt b ps hb)
    | none =>
      rw [q2 b hb] at e
      exact e
  · have e3 : Fm b = none := s.free e2
    rw [q2 b (a.fz b e1 e3)]
    exact e2
  · cases ro with
    | none => trivial
    | some rc =>
      obtain ⟨r0, c0⟩ := rc
      exact ⟨by rw [q2 r0 r3.1]; exact hr r0 c0 rfl, r3.2.1, q1 _ _ r3.2.2⟩
section
variable {X : Cx} {j k : Nat} {x a : Str} {fg c P : Addr} {pg : Arguments} {bg : List Stmt} {sg : Scope} {dV kV doc pm cdv ct oc : Value} {an od : Option Addr} {osl : Array (Option Value)} {Ng : List Str} {params : Arguments} {body : Expr} {scope : Scope} {mx : MX} {bo : (Rdr → Option (Res × Rdr)) → MM Fl} {p lpos pos : Pos}
/-- x(lambda: body) -/
theorem pm_lam (hex : γ.exn = none) (hg : Gl X x) (hm : X.mg x = some (.ref fg)) (hk : PySem.W.keepIn X.K (.ref fg) = true)
    (lk : X.K.lookup fg = some ⟨oc, od, .func (PySem.W.fnOf x x pg bg sg .none kV doc pm an cdv ct), osl⟩) (hcg : PySem.W.codeIn X.K cdv x = true) (hb : L2.Binds X.K (PySem.W.fnOf x x pg bg sg .none kV doc pm an cdv ct) [a] []) (Sg : FnScope Ng [a] sg)
    (hNg : Ng[0]? = some a) (hva : Vis sg a) (TB : LamX.TabB X.base X.mg c P) (hcode : X.env.code = .ref c) (hmT : (P, lamQ X) ∈ γ.T) (hu : ∀ p ∈ γ.T, p.1 = P → p.2 = lamQ X) (hr : Room j X.A) (hj : k + 2 ≤ j)
    (L : LamX.LamS X.env.scope scope) (hdef : defaultsOf params X.env = ([], []))
    (hbind : ∀ (q : Str) (cl : List (Str × Addr)) (pm cv ctv : Value), bindArgs (PySem.W.kla_fn "<lambda>" q params body scope cl pm cv ctv) ⟨[], []⟩ = pure [])
    (hbody : ∀ (A : Around) (outer : List Env) (s : Shared) (H : Hp) (E : XK) (f c' : Addr), Room k (A.deeper (LamX.lamEnv X scope s.heap.objs.size f c')) → PMX γ (fun cls d _ H => E cls d H) (LamX.lamCx X A outer s H E scope f c') body mx)
    (hG : ∀ (s : Shared) (H : Hp) (l : Addr × Option (Addr × Addr) × Hp × Hp) (mxc : Rdr → Option (Res × Rdr)), Room (k + 1) (X.A.deeper (envOfC x sg s.heap.objs.size fg cdv)) →
      (∀ (W' : WX) (pn : List (Addr × Obj)) (xe : Value → Shared → Prop) (p1 p2 : Pos), Takes ((cxOf (L2.CX X.prog X.w) X.prog X.w X.K X.mg X.base Ng x sg fg cdv X.A X.stack s H L2.E0).tr pn xe) W' →
        PMX (γ.lm l) W' ((cxOf (L2.CX X.prog X.w) X.prog X.w X.K X.mg X.base Ng x sg fg cdv X.A X.stack s H L2.E0).tr pn xe) (.Call (.Name a p1) [] [] p2) (xAct mxc)) →
      PMSs (γ.lm l) (fun _ _ _ _ => False) (cxOf (L2.CX X.prog X.w) X.prog X.w X.K X.mg X.base Ng x sg fg cdv X.A X.stack s H L2.E0).nox bg (bo mxc))
    (hdb : (x == ("__debug__" : Str)) = false := by decide) (hd : (a == ("__debug__" : Str)) = false := by decide) (hcd : (a == ("__classdict__" : Str)) = false := by decide) :
    PM γ X (.Call (.Name x p) [.Lambda params body scope lpos] [] pos) (eLam mx bo (Ng.length - 1)) := by
  refine ⟨fun pins s σ H Q I h => ?_⟩
  obtain ⟨ro, F0, H0, F, env, rd, z, rd', hS, hm2, q⟩ := h
  unfold eLam at hm2
  obtain ⟨⟨fl, rdf⟩, hb1, hf1⟩ := Option.bind_eq_some_iff.mp hm2
  refine wpAny_Call_Name_kw (ld_glob I hg hm ?_ hdb)
  refine PySem.W.callWith_K (h₀ := X.base) I.ok.mod.kin hk ?_ (by rfl) (by rfl)
  show wpAny _ _ (spliced ((false, eval (.Lambda params body scope lpos) X.env) :: backTo pos (starEach [] X.env))) _ _ s
  refine Calls.spliced_cons (lam_make3 I TB hcode (hS.tab.tf.1 _ hmT) hdef (L.has I.ok) ?_)
  intro f c' pm' ctv H1 s' I1 st1 hT1 hf hfn hfr hco
  obtain ⟨a1, r1⟩ := st1.stp hS.st.fh hS.rd hS.tab.tf hmT hu hT1
  have S1 := hS.step a1 r1
  refine Calls.spliced_nil ⟨I1.kIn, ?_⟩
  have bnd := hb s' [.ref f] I1.kIn rfl
  have main : codeAny (model X.prog X.w) X.A (.call (.ref fg) ⟨[.ref f], []⟩) (CR (L2.CX X.prog X.w) X.stack X.prog X.w H1 s' Q L2.E0) s' := by
    refine LamX.run_ofS (N := Ng) (ps := [a]) (us := [.ref f]) (vs := [.ref f]) lk hcg Sg (hr.mono hj) I1.env0 bnd (.cons rfl .nil) rfl fun hr' => ?_
    refine ⟨_, (hG s' H1 (f, ro, F, H1) (fun r => mx env r) hr' fun W' pn xe p1 p2 tk => ?_).nox, ?_⟩
    · -- the lambda is called: its maker's ground is still there
      have act := act_run (tE := fun E => tMX γ (fun cls d _ H => E cls d H) X.K mx) (p1 := p1) (p2 := p2) I1 L hf hfn hfr (hbind _ _ _ _ _) tk hr' (fun A outer s1 HZ E h2 => hbody A outer s1 HZ E f c' h2) hNg hva hd hcd
      refine pe_imp act fun σZ HZ QZ hz => ?_
      obtain ⟨rz, F0z, H0z, Fz, envz, rdz, r, rdz', SZ, hmz, qz⟩ := hz
      unfold xAct at hmz
      split at hmz
      · rename_i hi
        obtain ⟨o, o1, f', rest, o2, o3⟩ := SZ.env.ok 0 _ hi
        cases o2
        obtain ⟨e1, e2, e3, e4⟩ := SZ.tab.l f ro F H1 rfl
        subst e1
        subst o3
        have hco' := e3.hh c' _ hco (fun c0 z => ?_) (fun ps => LamX.codeO_ne ps)
        · refine ⟨o1, hco', ?_⟩
          have rz' : RdOk rz rdz F HZ := by
            cases rz with
            | none => trivial
            | some rc =>
              obtain ⟨r0, c0⟩ := rc
              obtain ⟨z1, z2, z3⟩ := SZ.rd
              have w1 : F c0 = _ := hS.rd.2.2
              have w2 := e2 _ _ w1
              rw [z3] at w2
              refine ⟨e2.free z1, z2, ?_⟩
              rw [w1]
              exact w2.symm
          refine ⟨rz, F0, H0, F, env, rdz, r, rdz', S1.step e3 rz', hmz, ?_⟩
          have hrr : ∀ r c, rz = some (r, c) → Fz r = none := fun r0 c0 z => by
            subst z
            exact SZ.rd.1
          cases r with
          | ok d =>
            intro v F3 H3 a3 r3 p3
            obtain ⟨F4, b1, b2, b3⟩ := a3.widen e2 SZ.st.fh e4 hrr r3
            exact qz v F4 H3 b1 b2 (Rp.mono b3 d v p3)
          | exc ec fs =>
            intro F3 H3 cls dd a3 r3 x3
            obtain ⟨F4, b1, b2, b3⟩ := a3.widen e2 SZ.st.fh e4 hrr r3
            exact qz F4 H3 cls dd b1 b2 (x3.frame b3)
        · subst z
          have := r1.2.1
          rw [hco] at this
          have z := Option.some.inj this
          unfold LamX.CodeO at z
          cases z
      · cases hmz
    · -- the start
      refine ⟨ro, F, H1, F, SV.lam :: List.replicate (Ng.length - 1) SV.un, rd, fl, rdf, ⟨Stp.refl S1.st.fh, r1, ⟨?_, fun i sv e => ?_, fun i i2 ds es p _ e1 _ _ => ?_⟩, ⟨S1.tab.tf, fun f' rm Fm Hm e => ?_⟩⟩, hb1, ?_⟩
      · simp [L2.start]
      · cases i with
        | zero =>
          have e' : some SV.lam = some sv := by simpa using e
          cases e'
          exact ⟨some (.ref f), by simp [L2.start], f, _, rfl, rfl⟩
        | succ i =>
          have e' : (List.replicate (Ng.length - 1) SV.un)[i]? = some sv := by simpa using e
          have hi : i < Ng.length - 1 := by
            have := (List.getElem?_eq_some_iff.mp e').1
            simpa using this
          rw [List.getElem?_replicate, if_pos hi] at e'
          cases e'
          exact ⟨none, by simp [L2.start, List.getElem?_replicate, hi], trivial⟩
      · have := List.mem_of_getElem? e1
        rcases List.mem_cons.mp this with z | z
        · cases z
        · have := List.eq_of_mem_replicate z
          cases this
      · cases e
        exact ⟨rfl, Same.refl _, Stp.refl S1.st.fh, fun _ _ z => z⟩
      · cases fl with
        | nx env' =>
          cases hf1
          exact fun σ' F' H' T => q .non F' H' (a1.trans T.st) T.rd rp_non
        | ret d =>
          cases hf1
          exact fun v F' H' b1 b2 b3 => q v F' H' (a1.trans b1) b2 b3
        | own es =>
          cases hf1
          exact fun p vs F' H' b1 b2 h1 h2 h3 h4 => by
            obtain ⟨b3, p2⟩ := frz_new b1 h1 h2 h3 h4 b2
            exact q _ _ H' (a1.trans b3) (b2.alcF b3 h2 fun c0 z => by
              subst z
              have := r1.2.1
              rw [h1] at this
              cases this) p2
        | exc _ _ _ => cases hf1
        | brk _ => cases hf1
        | ct _ => cases hf1
  refine wpAny_call (codeAny_mono main fun res s2 hq => ?_)
  match res, hq with
  | .error e, hq => exact passL pins σ H1 s' e s2 I1 hq
  | .ok (.ret u), hq => exact I1.after hq
  | .ok .next, hq => exact hq.elim
  | .ok .brk, hq => exact hq.elim
  | .ok .cont, hq => exact hq.elim
end
end FW

set_option Elab.async false
set_option linter.all false
set_option maxRecDepth 100000
set_option maxHeartbeats 1000000
/-! FZ1: zip over any two things that are drawn from. -/
namespace FW
open PySem PySem.Spec PyProof.Rows L2
section
variable {prog : Program} {w : World} {A : Around} {s : Shared}
/-- the zip's objects are none of those that its sources rest on -/
structure ZA (z ti tO j1 j2 : Addr) (f1 f2 : List Addr) : Prop where
  zi : ti ≠ z
  zo : tO ≠ z
  z1 : j1 ≠ z
  z2 : j2 ≠ z
  io : ti ≠ tO
  i1 : ti ≠ j1
  i2 : ti ≠ j2
  o1 : tO ≠ j1
  o2 : tO ≠ j2
  n1 : z ∉ f1
  n2 : z ∉ f2
  m1 : tO ∉ f1
  m2 : tO ∉ f2
  c1 : j2 ∉ f1
  c2 : j1 ∉ f2
theorem keep_fp {h h' : Heap} {x : Addr} {f : List Addr} (b : Heap.SameBut x h h') (n : x ∉ f) : ∀ c ∈ f, ∀ o, h.get? c = some o → h'.get? c = some o := fun c hc o q => b.extBut c o (fun e => n (e ▸ hc)) q
theorem keep_fpE {h h' : Heap} {x : Addr} {f : List Addr} (b : Heap.ExtBut x h h') (n : x ∉ f) : ∀ c ∈ f, ∀ o, h.get? c = some o → h'.get? c = some o := fun c hc o q => b c o (fun e => n (e ▸ hc)) q
variable {z ti tO j1 j2 : Addr} {f1 f2 : List Addr} {n1 n2 k : Nat} {P1 P2 : Nat → Value → Prop} {S1 S2 : Nat → Heap → Prop} {a b : Value}
theorem zg_item {Q : Value → Shared → Prop} {E : Value → Shared → Prop} (D1 : Draws prog w A j1 f1 n1 P1 S1) (D2 : Draws prog w A j2 f2 n2 P2 S2) (D : ZA z ti tO j1 j2 f1 f2)
    (gz : IsZip s.heap z ti tO .none) (gi : IsPair s.heap ti (.ref j1) (.ref j2)) (go : IsPair s.heap tO a b) (g1 : S1 k s.heap) (g2 : S2 k s.heap) (l1 : k < n1) (l2 : k < n2)
    (hQ : ∀ (x y : Value) (h' : Heap) (tk : Nat), P1 k x → P2 k y → IsZip h' z ti tO (rawInt s.heap.objs.size) → IsPair h' tO x y → S1 (k + 1) h' → S2 (k + 1) h' → IsPair h' s.heap.objs.size x y → h'.objs.size = s.heap.objs.size + 1 →
      (∀ c o, c ≠ z → c ≠ tO → c ≠ j1 → c ≠ j2 → s.heap.get? c = some o → h'.get? c = some o) → Q (.ref s.heap.objs.size) { s with heap := h', toks := tk }) :
    wpAny (model prog w) A (Builtin.«zip.__next__» ⟨[.ref z], []⟩) (fun r s' => ∃ v, r = .done (.ret v) ∧ Q v s') E s := by
  show wpAny _ _ (field (.ref z) 2 >>= _) _ _ _
  refine wpAny_bind (wpAny_field gz rfl (x := .bool false) rfl ?_)
  show wpAny _ _ (field (.ref z) 3 >>= _) _ _ _
  refine wpAny_bind (wpAny_field gz rfl (x := .ref ti) rfl ?_)
  refine wpAny_bind (wpAny_seqItems gi rfl ?_)
  show wpAny _ _ (Builtin.SmallTypes.ownedTupleIsFree (.ref z) >>= _) _ _ _
  refine wpAny_bind ?_
  unfold Builtin.SmallTypes.ownedTupleIsFree
  refine wpAny_bind (wpAny_field gz rfl (x := .none) rfl (wpAny_pure ?_))
  simp only [if_true]
  refine wpAny_bind (wpAny_rule ?_)
  refine wpAny_bind (wpAny_field gz rfl (x := .ref tO) rfl ?_)
  refine wpAny_bind (wpAny_setField_rec gz (by simp) fun ha gza ba => ?_)
  replace gza : IsZip ha z ti tO .ellipsis := gza
  refine wpAny_bind ?_
  simp only [List.zipIdx_cons, List.zipIdx_nil, List.forIn_cons, List.forIn_nil]
  -- the first one's item
  refine wpAny_bind (wpAny_bind (wpAny_onRaise ?_))
  show wpAny _ _ (Builtin.SmallTypes.nextOf (.ref j1) >>= _) _ _ _
  refine wpAny_bind (D1.item k _ _ _ l1 (D1.frame k _ _ g1 (keep_fp ba D.n1)) fun x hb tb px g1b bb => wpAny_pure ?_)
  have gob : IsPair hb tO a b := bb.extBut _ _ D.o1 (ba.extBut _ _ D.zo go)
  refine wpAny_bind (wpAny_seqItems gob rfl ?_)
  refine wpAny_bind (wpAny_updateSeq_pair gob fun hc goc bc => ?_)
  replace goc : IsPair hc tO x b := goc
  refine wpAny_bind (wpAny_letGo (wpAny_pure ?_))
  -- the second one's
  refine wpAny_bind (wpAny_bind (wpAny_onRaise ?_))
  show wpAny _ _ (Builtin.SmallTypes.nextOf (.ref j2) >>= _) _ _ _
  have g2c : S2 k hc := D2.frame k _ _ (D2.frame k _ _ (D2.frame k _ _ g2 (keep_fp ba D.n2)) (keep_fp bb D.c2)) (keep_fp bc D.m2)
  refine wpAny_bind (D2.item k _ _ _ l2 g2c fun y hd td py g2d bd => wpAny_pure ?_)
  have god : IsPair hd tO x b := bd.extBut _ _ D.o2 goc
  refine wpAny_bind (wpAny_seqItems god rfl ?_)
  refine wpAny_bind (wpAny_updateSeq_pair god fun he goe be => ?_)
  replace goe : IsPair he tO x y := goe
  refine wpAny_bind (wpAny_letGo (wpAny_pure (wpAny_pure ?_)))
  -- the pair
  refine wpAny_bind (wpAny_seqItems goe rfl ?_)
  refine wpAny_bind (wpAny_newTuple ?_)
  have sz : he.objs.size = s.heap.objs.size := by rw [be.1, bd.1, bc.1, bb.1, ba.1]
  have kz : ∀ c o, c ≠ tO → c ≠ j1 → c ≠ j2 → ha.get? c = some o → he.get? c = some o := fun c o q2 q3 q4 e => be.extBut _ _ q2 (bd.extBut _ _ q4 (bc.extBut _ _ q2 (bb.extBut _ _ q3 e)))
  have gze : IsZip he z ti tO .ellipsis := kz _ _ D.zo.symm D.z1.symm D.z2.symm gza
  have g1e : S1 (k + 1) he := D1.frame _ _ _ (D1.frame _ _ _ (D1.frame _ _ _ g1b (keep_fp bc D.m1)) (keep_fp bd D.c1)) (keep_fp be D.m1)
  have g2e : S2 (k + 1) he := D2.frame _ _ _ g2d (keep_fp be D.m2)
  have zl : z < he.objs.size := Heap.lt_size gze
  show wpAny _ _ (Builtin.SmallTypes.ownedTupleHandOut (.ref z) (.ref he.objs.size) >>= _) _ _ _
  refine wpAny_bind ?_
  unfold Builtin.SmallTypes.ownedTupleHandOut
  have gzf : IsZip (he.push { cls := .type "tuple", data := .seq #[x, y] }) z ti tO .ellipsis := Heap.get?_push_of_some _ gze
  refine wpAny_bind (wpAny_setField_rec gzf (by simp) fun hg gzg bg => ?_)
  replace gzg : IsZip hg z ti tO (rawInt he.objs.size) := gzg
  refine wpAny_setField_rec gzg (by simp) fun hl gzl bl => ?_
  replace gzl : IsZip hl z ti tO (rawInt he.objs.size) := gzl
  have up : ∀ c o, c ≠ z → he.get? c = some o → hl.get? c = some o := fun c o q e => bl.extBut _ _ q (bg.extBut _ _ q (Heap.get?_push_of_some _ e))
  have gT : IsPair hl he.objs.size x y := bl.extBut _ _ (Nat.ne_of_gt zl) (bg.extBut _ _ (Nat.ne_of_gt zl) (Heap.get?_push_size _ rfl))
  have szl : hl.objs.size = he.objs.size + 1 := by rw [bl.1, bg.1, Heap.size_push]
  rw [sz] at gzl gT szl
  refine wpAny_pure ⟨_, rfl, ?_⟩
  show Q (.ref he.objs.size) _
  rw [sz]
  exact hQ x y hl td px py gzl (up _ _ D.zo goe) (D1.frame _ _ _ g1e fun c hc o e => up c o (fun q => D.n1 (q ▸ hc)) e) (D2.frame _ _ _ g2e fun c hc o e => up c o (fun q => D.n2 (q ▸ hc)) e) gT szl
    fun c o q1 q2 q3 q4 e => up c o q1 (kz c o q2 q3 q4 (ba.extBut _ _ q1 e))
theorem zg_end {Q : Fin → Shared → Prop} {E : Value → Shared → Prop} (D1 : Draws prog w A j1 f1 n1 P1 S1) (D2 : Draws prog w A j2 f2 n2 P2 S2) (D : ZA z ti tO j1 j2 f1 f2)
    (gz : IsZip s.heap z ti tO .none) (gi : IsPair s.heap ti (.ref j1) (.ref j2)) (go : IsPair s.heap tO a b) (g1 : S1 k s.heap) (g2 : S2 k s.heap) (l : k = n1 ∨ (k < n1 ∧ k = n2))
    (hE : ∀ (h' : Heap) (tk : Nat) (e : Addr), (∀ c o, c ≠ z → c ≠ tO → c ≠ j1 → c ≠ j2 → s.heap.get? c = some o → h'.get? c = some o) → (∃ o, h'.get? e = some o ∧ o.cls = .type "StopIteration") → E (.ref e) { s with heap := h', toks := tk }) :
    wpAny (model prog w) A (Builtin.«zip.__next__» ⟨[.ref z], []⟩) Q E s := by
  show wpAny _ _ (field (.ref z) 2 >>= _) _ _ _
  refine wpAny_bind (wpAny_field gz rfl (x := .bool false) rfl ?_)
  show wpAny _ _ (field (.ref z) 3 >>= _) _ _ _
  refine wpAny_bind (wpAny_field gz rfl (x := .ref ti) rfl ?_)
  refine wpAny_bind (wpAny_seqItems gi rfl ?_)
  show wpAny _ _ (Builtin.SmallTypes.ownedTupleIsFree (.ref z) >>= _) _ _ _
  refine wpAny_bind ?_
  unfold Builtin.SmallTypes.ownedTupleIsFree
  refine wpAny_bind (wpAny_field gz rfl (x := .none) rfl (wpAny_pure ?_))
  simp only [if_true]
  refine wpAny_bind (wpAny_rule ?_)
  refine wpAny_bind (wpAny_field gz rfl (x := .ref tO) rfl ?_)
  refine wpAny_bind (wpAny_setField_rec gz (by simp) fun ha gza ba => ?_)
  replace gza : IsZip ha z ti tO .ellipsis := gza
  refine wpAny_bind ?_
  simp only [List.zipIdx_cons, List.zipIdx_nil, List.forIn_cons, List.forIn_nil]
  refine wpAny_bind (wpAny_bind (wpAny_onRaise ?_))
  show wpAny _ _ (Builtin.SmallTypes.nextOf (.ref j1) >>= _) _ _ _
  have g1a : S1 k ha := D1.frame k _ _ g1 (keep_fp ba D.n1)
  rcases l with l | ⟨l, l2⟩
  · subst l
    refine wpAny_bind (D1.done _ _ _ g1a fun hb e bb ge => ?_)
    obtain ⟨oe, ge, ce⟩ := ge
    have gzb : IsZip hb z ti tO .ellipsis := bb _ _ D.z1.symm gza
    have ez : e ≠ z := fun q => by
      subst q
      rw [gzb] at ge
      cases ge
      simp at ce
    refine wpAny_setField_rec gzb (by simp) fun hc _ bc => hE hc s.toks e (fun c o q1 _ q3 _ q => bc.extBut _ _ q1 (bb _ _ q3 (ba.extBut _ _ q1 q))) ⟨oe, bc.extBut _ _ ez ge, ce⟩
  · subst l2
    refine wpAny_bind (D1.item k _ _ _ l g1a fun x hb tb px g1b bb => wpAny_pure ?_)
    have gob : IsPair hb tO a b := bb.extBut _ _ D.o1 (ba.extBut _ _ D.zo go)
    refine wpAny_bind (wpAny_seqItems gob rfl ?_)
    refine wpAny_bind (wpAny_updateSeq_pair gob fun hc goc bc => ?_)
    refine wpAny_bind (wpAny_letGo (wpAny_pure ?_))
    refine wpAny_bind (wpAny_bind (wpAny_onRaise ?_))
    show wpAny _ _ (Builtin.SmallTypes.nextOf (.ref j2) >>= _) _ _ _
    have g2c : S2 k hc := D2.frame k _ _ (D2.frame k _ _ (D2.frame k _ _ g2 (keep_fp ba D.n2)) (keep_fp bb D.c2)) (keep_fp bc D.m2)
    refine wpAny_bind (D2.done _ _ _ g2c fun hd e bd ge => ?_)
    obtain ⟨oe, ge, ce⟩ := ge
    have gzd : IsZip hd z ti tO .ellipsis := bd _ _ D.z2.symm (bc.extBut _ _ D.zo.symm (bb.extBut _ _ D.z1.symm gza))
    have ez : e ≠ z := fun q => by
      subst q
      rw [gzd] at ge
      cases ge
      simp at ce
    refine wpAny_setField_rec gzd (by simp) fun hl _ bl => hE hl tb e (fun c o q1 q2 q3 q4 q => bl.extBut _ _ q1 (bd _ _ q4 (bc.extBut _ _ q2 (bb.extBut _ _ q3 (ba.extBut _ _ q1 q))))) ⟨oe, bl.extBut _ _ ez ge, ce⟩
theorem zg_nextI {Q : Option Value → Shared → Prop} {E : Value → Shared → Prop} (D1 : Draws prog w A.in1 j1 f1 n1 P1 S1) (D2 : Draws prog w A.in1 j2 f2 n2 P2 S2) (D : ZA z ti tO j1 j2 f1 f2)
    (gz : IsZip s.heap z ti tO .none) (gi : IsPair s.heap ti (.ref j1) (.ref j2)) (go : IsPair s.heap tO a b) (g1 : S1 k s.heap) (g2 : S2 k s.heap) (l1 : k < n1) (l2 : k < n2)
    (hQ : ∀ (x y : Value) (h' : Heap) (tk : Nat), P1 k x → P2 k y → IsZip h' z ti tO (rawInt s.heap.objs.size) → IsPair h' tO x y → S1 (k + 1) h' → S2 (k + 1) h' → IsPair h' s.heap.objs.size x y → h'.objs.size = s.heap.objs.size + 1 →
      (∀ c o, c ≠ z → c ≠ tO → c ≠ j1 → c ≠ j2 → s.heap.get? c = some o → h'.get? c = some o) → Q (some (.ref s.heap.objs.size)) { s with heap := h', toks := tk }) :
    wpAny (model prog w) A (pyNext (.ref z)) Q E s := by
  have ty : s.TypeIs (.ref z) "zip" := ⟨_, gz, rfl⟩
  unfold pyNext
  refine wpAny_bind (wpAny_attempt (wpAny_callSpecial?_slot (name := Str.ofString "__next__") ty F.slot_zip_next (wpAny_call_entry F.slot_zip_next ty F.entry_zip_next ?_ (F.args_zip_next_1 _))))
  exact zg_item D1 D2 D gz gi go g1 g2 l1 l2 fun x y h' tk q1 q2 q3 q4 q5 q6 q7 q8 q9 => wpAny_pure (hQ x y h' tk q1 q2 q3 q4 q5 q6 q7 q8 q9)
theorem zg_nextE {Q : Option Value → Shared → Prop} {E : Value → Shared → Prop} (D1 : Draws prog w A.in1 j1 f1 n1 P1 S1) (D2 : Draws prog w A.in1 j2 f2 n2 P2 S2) (D : ZA z ti tO j1 j2 f1 f2)
    (gz : IsZip s.heap z ti tO .none) (gi : IsPair s.heap ti (.ref j1) (.ref j2)) (go : IsPair s.heap tO a b) (g1 : S1 k s.heap) (g2 : S2 k s.heap) (l : k = n1 ∨ (k < n1 ∧ k = n2))
    (hQ : ∀ (h' : Heap) (tk : Nat), (∀ c o, c ≠ z → c ≠ tO → c ≠ j1 → c ≠ j2 → s.heap.get? c = some o → h'.get? c = some o) → Q none { s with heap := h', toks := tk }) :
    wpAny (model prog w) A (pyNext (.ref z)) Q E s := by
  have ty : s.TypeIs (.ref z) "zip" := ⟨_, gz, rfl⟩
  unfold pyNext
  refine wpAny_bind (wpAny_attempt (wpAny_callSpecial?_slot (name := Str.ofString "__next__") ty F.slot_zip_next (wpAny_call_entry F.slot_zip_next ty F.entry_zip_next ?_ (F.args_zip_next_1 _))))
  refine zg_end D1 D2 D gz gi go g1 g2 l fun h' tk e q ⟨o, he, hc⟩ => ?_
  refine wpAny_bind (wpAny_isInstance (T := "StopIteration") (b := true) ⟨o, he, hc⟩ isSubtype_stop ?_)
  exact wpAny_pure (hQ h' tk q)
end
end FW

set_option Elab.async false
set_option linter.all false
set_option maxRecDepth 100000
set_option maxHeartbeats 1000000
/-! FZ2: zip(a, b) in a loop or a comprehension, each a list or a tuple. -/
namespace FW
open PySem PySem.Spec PyProof.Rows L2
variable {γ : Gm} {W : WX}
def SqB (K : PySem.W.Frag) : Bool → Hp → Addr → List V → Prop
  | true => SqT K
  | false => SqL K
def ItB : Bool → Heap → Addr → Addr → Nat → Prop
  | true => fun h it a i => h.IsTupleIter it a i
  | false => fun h it a i => h.IsListIter it a i
def IsB : Bool → Heap → Addr → Array Value → Prop
  | true => fun h a v => h.IsTuple a v
  | false => fun h a v => h.IsList a v
def itO : Bool → Addr → Obj
  | true => fun a => { cls := .type "tuple_iterator", data := .fields #[.ref a, .int 0 0] }
  | false => fun a => { cls := .type "list_iterator", data := .fields #[.ref a, .int 0 0] }
theorem itB_new {k : Bool} {h : Heap} {it a : Addr} (e : h.get? it = some (itO k a)) : ItB k h it a 0 := by
  cases k with
  | true => exact ⟨_, e, rfl, rfl⟩
  | false => exact ⟨_, e, rfl, rfl⟩
theorem itB_at {k : Bool} {h h' : Heap} {it a : Addr} {i : Nat} (x : ItB k h it a i) (e : ∀ o, h.get? it = some o → h'.get? it = some o) : ItB k h' it a i := by
  cases k with
  | true => exact Heap.IsTupleIter.at x e
  | false => exact Heap.IsListIter.at x e
theorem itB_lt {k : Bool} {h : Heap} {it a : Addr} {i : Nat} (x : ItB k h it a i) : ∃ o, h.get? it = some o ∧ ∀ v, o.data ≠ .cell v := by
  cases k with
  | true =>
    obtain ⟨o, e, _, d⟩ := x
    exact ⟨o, e, fun v q => by rw [d] at q; cases q⟩
  | false =>
    obtain ⟨o, e, _, d⟩ := x
    exact ⟨o, e, fun v q => by rw [d] at q; cases q⟩
theorem isB_lt {k : Bool} {h : Heap} {a : Addr} {v : Array Value} (x : IsB k h a v) : a < h.objs.size := by
  cases k with
  | true =>
    obtain ⟨o, e, _⟩ := x
    exact Heap.lt_size e
  | false =>
    obtain ⟨o, e, _⟩ := x
    exact Heap.lt_size e
theorem beginsB (k : Bool) (a : Addr) (v : Array Value) : Begins (.ref a) (itO k a) fun h => IsB k h a v := by
  cases k with
  | true => exact begins_tuple a v
  | false => exact begins_list a v
theorem drB {prog : Program} {w : World} {A : Around} (hh : A.handled = none) (k : Bool) (it a : Addr) (ne : a ≠ it) (v : Array Value) :
    Draws prog w A it [it, a] v.size (fun i x => v[i]? = some x) (fun i h => ItB k h it a i ∧ IsB k h a v) := by
  cases k with
  | true => exact Draws.tuple hh it a ne v
  | false => exact Draws.list hh it a ne v
theorem srcB {X : Cx} {pins : List (Addr × Obj)} {σ : L2.St} {H : Hp} {s : Shared} {k : Bool} {a : Addr} {xs : List V} (I : Inv X pins σ H s) (h : SqB X.K k H a xs) : ∃ its : List Value, Vals xs its ∧ IsB k s.heap a its.toArray := by
  cases k with
  | true =>
    obtain ⟨its, rv, p, _⟩ := Inv.tuple I h
    exact ⟨its, rv, p⟩
  | false =>
    obtain ⟨its, rv, p, _⟩ := Inv.list I h
    exact ⟨its, rv, p.isList⟩
theorem meetsZ {v u : Value} {o p : Obj} {H G : Heap → Prop} (B : Begins v o H) (C : Begins u p G) : Meets (Builtin.«zip.__new__» ⟨[.type "zip", v, u], []⟩) fun _ R s => H s.heap ∧ G s.heap ∧
    R (.ok (.ret (.ref (s.heap.objs.size + 4)))) { s with heap := ((((s.heap.push o).push p).push { cls := .type "tuple", data := .seq #[.ref s.heap.objs.size, .ref (s.heap.objs.size + 1)] }).push { cls := .type "tuple", data := .seq #[.none, .none] }).push { cls := .type "zip", data := .fields #[.none, .bool false, .bool false, .ref (s.heap.objs.size + 2), .ref (s.heap.objs.size + 3)] } } :=
  .of_wp fun prog w A R s h => by
    obtain ⟨h1, h2, h3⟩ := h
    have q1 : (s.heap.push o).objs.size = s.heap.objs.size + 1 := Heap.size_push ..
    have q2 : ((s.heap.push o).push p).objs.size = s.heap.objs.size + 2 := by rw [Heap.size_push, q1]
    have q3 : (((s.heap.push o).push p).push { cls := .type "tuple", data := .seq #[.ref s.heap.objs.size, .ref (s.heap.objs.size + 1)] }).objs.size = s.heap.objs.size + 3 := by rw [Heap.size_push, q2]
    have q4 : ((((s.heap.push o).push p).push { cls := .type "tuple", data := .seq #[.ref s.heap.objs.size, .ref (s.heap.objs.size + 1)] }).push { cls := .type "tuple", data := .seq #[.none, .none] }).objs.size = s.heap.objs.size + 4 := by rw [Heap.size_push, q3]
    have sub := sub_zip
    have b1 : ∀ {A : Around} {E : Value → Shared → Prop} {Q : Value → Shared → Prop}, Q (.ref s.heap.objs.size) { s with heap := s.heap.push o } → wpAny (model prog w) A (pyIter v) Q E s := fun q => B.iter _ _ _ _ _ _ h1 q
    have b2 : ∀ {A : Around} {E : Value → Shared → Prop} {Q : Value → Shared → Prop}, Q (.ref (s.heap.push o).objs.size) { s with heap := (s.heap.push o).push p } → wpAny (model prog w) A (pyIter u) Q E { s with heap := s.heap.push o } :=
      fun q => C.iter _ _ _ _ _ _ (C.keeps _ _ h2 fun b o' e => Heap.get?_push_of_some _ e) q
    wp_walk using b1, b2
    rw [q1, q2]
    refine ⟨_, rfl, ?_⟩
    erw [q3, q4]
    exact h3
end FW

set_option Elab.async false
set_option linter.all false
set_option maxRecDepth 100000
set_option maxHeartbeats 1000000
namespace FW
open PySem PySem.Spec PyProof.Rows L2
variable {γ : Gm} {W : WX}
theorem call_zipB {prog : Program} {w : World} {A : Around} {E : Value → Shared → Prop} {s : Shared} {v u : Value} {o p : Obj} {H G : Heap → Prop} {Q : Value → Shared → Prop} (B : Begins v o H) (C : Begins u p G) (h1 : H s.heap) (h2 : G s.heap)
    (h : ∀ h' : Heap, IsZip h' (s.heap.objs.size + 4) (s.heap.objs.size + 2) (s.heap.objs.size + 3) .none → IsPair h' (s.heap.objs.size + 2) (.ref s.heap.objs.size) (.ref (s.heap.objs.size + 1)) → IsPair h' (s.heap.objs.size + 3) .none .none →
      h'.get? s.heap.objs.size = some o → h'.get? (s.heap.objs.size + 1) = some p → (∀ c x, s.heap.get? c = some x → h'.get? c = some x) → Q (.ref (s.heap.objs.size + 4)) { s with heap := h' }) :
    wpAny (model prog w) A (call (.type "zip") [v, u]) Q E s := by
  refine callType_new F.called_zip (by decide) (F.typeCall_zip_2 _ _) (F.newCall_zip_2 _ _) (fun ob => F.args_object_init_3 ob _ _) F.entry_zip_new (meetsZ B C) ⟨h1, h2, ?_⟩
  have q1 : (s.heap.push o).objs.size = s.heap.objs.size + 1 := Heap.size_push ..
  have q2 : ((s.heap.push o).push p).objs.size = s.heap.objs.size + 2 := by rw [Heap.size_push, q1]
  generalize ha : ((s.heap.push o).push p).push { cls := .type "tuple", data := .seq #[.ref s.heap.objs.size, .ref (s.heap.objs.size + 1)] } = ha'
  have q3 : ha'.objs.size = s.heap.objs.size + 3 := by rw [← ha, Heap.size_push, q2]
  generalize hb : ha'.push { cls := .type "tuple", data := .seq #[.none, .none] } = hb'
  have q4 : hb'.objs.size = s.heap.objs.size + 4 := by rw [← hb, Heap.size_push, q3]
  have r0 : (s.heap.push o).get? s.heap.objs.size = some o := Heap.get?_push_size _ B.free
  have r1 : ((s.heap.push o).push p).get? (s.heap.objs.size + 1) = some p := by
    rw [← q1]
    exact Heap.get?_push_size _ C.free
  have r2 : IsPair ha' (s.heap.objs.size + 2) (.ref s.heap.objs.size) (.ref (s.heap.objs.size + 1)) := by
    rw [← ha, ← q2]
    exact Heap.get?_push_size _ rfl
  have r3 : IsPair hb' (s.heap.objs.size + 3) .none .none := by
    rw [← hb, ← q3]
    exact Heap.get?_push_size _ rfl
  have up1 : ∀ c x, ((s.heap.push o).push p).get? c = some x → ha'.get? c = some x := fun c x e => ha ▸ Heap.get?_push_of_some _ e
  have up2 : ∀ c x, ha'.get? c = some x → hb'.get? c = some x := fun c x e => hb ▸ Heap.get?_push_of_some _ e
  show _ ∧ _
  refine ⟨⟨_, by rw [← q4]; exact Heap.get?_push_size _ rfl, rfl⟩, h _ (by rw [← q4]; exact Heap.get?_push_size _ rfl) ?_ ?_ ?_ ?_ fun c x e => ?_⟩
  · exact Heap.get?_push_of_some _ (up2 _ _ r2)
  · exact Heap.get?_push_of_some _ r3
  · exact Heap.get?_push_of_some _ (up2 _ _ (up1 _ _ (Heap.get?_push_of_some _ r0)))
  · exact Heap.get?_push_of_some _ (up2 _ _ (up1 _ _ r1))
  · exact Heap.get?_push_of_some _ (up2 _ _ (up1 _ _ (Heap.get?_push_of_some _ (Heap.get?_push_of_some _ e))))

theorem it_ne {k : Bool} {h : Heap} {j a : Addr} {i : Nat} {v : Array Value} (t : ItB k h j a i) (p : IsB k h a v) : a ≠ j := fun q => by
  subst q
  cases k with
  | true =>
    obtain ⟨o1, q1, q2, _⟩ := p
    obtain ⟨o2, r1, r2, _⟩ := t
    rw [q1] at r1
    cases r1
    rw [q2] at r2
    exact absurd r2 (by decide)
  | false =>
    obtain ⟨o1, q1, q2, _⟩ := p
    obtain ⟨o2, r1, r2, _⟩ := t
    rw [q1] at r1
    cases r1
    rw [q2] at r2
    exact absurd r2 (by decide)
theorem za_new {n a b : Nat} (la : a < n) (lb : b < n) : ZA (n + 4) (n + 2) (n + 3) n (n + 1) [n, a] [n + 1, b] := by
  refine ⟨?_, ?_, ?_, ?_, ?_, ?_, ?_, ?_, ?_, ?_, ?_, ?_, ?_, ?_, ?_⟩ <;> intro e
  all_goals first
    | (have e' : @Eq Nat _ _ := e; omega)
    | (simp only [List.mem_cons, List.not_mem_nil, or_false] at e; rcases e with e | e <;> (have e' : @Eq Nat _ _ := e; omega))
/-- the pairs of two things, as far as both reach -/
def ItZ (K : PySem.W.Frag) (k1 : Bool) (a : Addr) (xs : List V) (k2 : Bool) (b : Addr) (ys : List V) : It :=
  { go := fun i H => SqB K k1 H a xs ∧ SqB K k2 H b ys ∧ i < xs.length ∧ i < ys.length,
    yld := fun i H v H' => ∃ T x y, v = V.ref T ∧ H T = none ∧ H' = upd H T (.tup [x, y]) ∧ xs[i]? = some x ∧ ys[i]? = some y,
    stop := fun i H => SqB K k1 H a xs ∧ SqB K k2 H b ys ∧ (i = xs.length ∨ (i < xs.length ∧ i = ys.length)) }
def ZSt (k1 : Bool) (a : Addr) (k2 : Bool) (b z ti tO j1 j2 : Addr) (i : Nat) (h : Heap) : Prop := IsZip h z ti tO .none ∧ IsPair h ti (.ref j1) (.ref j2) ∧ (∃ x y, IsPair h tO x y) ∧ ItB k1 h j1 a i ∧ ItB k2 h j2 b i
theorem turn_zipG {P : Program} {w : World} {K : PySem.W.Frag} {elts : List Expr} {kk : Nat} {tpos : Pos} {xs ys : List V} {k1 k2 : Bool} {a b z ti tO j1 j2 : Addr} (D : ZA z ti tO j1 j2 [j1, a] [j2, b]) :
    Turn P w K (Expr.Tuple elts kk tpos) (ItZ K k1 a xs k2 b ys) [z, ti, tO, j1, j2] z (ZSt k1 a k2 b z ti tO j1 j2) where
  mem := by simp
  obj := by
    rintro i h ⟨gz, gi, ⟨x, y, go⟩, t1, t2⟩ c hc
    obtain ⟨o1, e1, d1⟩ := itB_lt t1
    obtain ⟨o2, e2, d2⟩ := itB_lt t2
    simp only [List.mem_cons, List.not_mem_nil, or_false] at hc
    rcases hc with rfl | rfl | rfl | rfl | rfl
    · exact ⟨_, gz, fun v q => by cases q⟩
    · exact ⟨_, gi, fun v q => by cases q⟩
    · exact ⟨_, go, fun v q => by cases q⟩
    · exact ⟨o1, e1, d1⟩
    · exact ⟨o2, e2, d2⟩
  keep := by
    rintro i h h' ⟨gz, gi, ⟨x, y, go⟩, t1, t2⟩ k
    exact ⟨k z (by simp) _ gz, k ti (by simp) _ gi, ⟨x, y, k tO (by simp) _ go⟩, itB_at t1 fun o q => k j1 (by simp) o q, itB_at t2 fun o q => k j2 (by simp) o q⟩
  item := by
    rintro X rfl rfl rfl hc i pins s σ H E I hf ⟨gz, gi, ⟨x0, y0, go⟩, t1, t2⟩ ⟨hx, hy, lx, ly⟩
    obtain ⟨its, rv, p⟩ := srcB I hx
    obtain ⟨its2, rv2, p2⟩ := srcB I hy
    have e1 : xs[i]? = some xs[i] := List.getElem?_eq_getElem lx
    have e2 : ys[i]? = some ys[i] := List.getElem?_eq_getElem ly
    obtain ⟨u1, hu1, ru1⟩ := Vals.get rv e1
    obtain ⟨u2, hu2, ru2⟩ := Vals.get rv2 e2
    have n1 := Vals.length rv
    have n2 := Vals.length rv2
    have zl : z < s.heap.objs.size := Heap.lt_size gz
    have D1 := drB (prog := X.prog) (w := X.w) (A := X.A.in1) (I.ok.hd hc) k1 j1 a (it_ne t1 p) its.toArray
    have D2 := drB (prog := X.prog) (w := X.w) (A := X.A.in1) (I.ok.hd hc) k2 j2 b (it_ne t2 p2) its2.toArray
    refine zg_nextI D1 D2 D gz gi go ⟨t1, p⟩ ⟨t2, p2⟩ (by simp; omega) (by simp; omega) ?_
    intro x y h' tk px py gz' go' s1 s2 gT sz kp
    have xu : x = u1 := by
      have q : its[i]? = some x := by simpa using px
      rw [hu1] at q
      exact (Option.some.inj q).symm
    have yu : y = u2 := by
      have q : its2[i]? = some y := by simpa using py
      rw [hu2] at q
      exact (Option.some.inj q).symm
    subst xu yu
    refine ⟨.ref s.heap.objs.size, rfl, wpAny_letOwnedTupleGo_zip (s := { s with heap := h', toks := tk }) gz' fun h'' gz'' sb => ?_⟩
    have gT2 : h''.get? s.heap.objs.size = some { cls := .type "tuple", data := .seq #[x, y] } := (sb.right _ (Nat.ne_of_gt zl)).trans gT
    have I1 := Inv.turnedNew I (t' := tk) (ob := HO.tup [xs[i], ys[i]]) (ch := [z, ti, tO, j1, j2]) (fun c o hb q => (sb.right c fun e => hb (by simp [e])).trans (kp c o (fun e => hb (by simp [e])) (fun e => hb (by simp [e])) (fun e => hb (by simp [e])) (fun e => hb (by simp [e])) q)) hf (Nat.le_refl s.heap.objs.size)
      ⟨(show (2 : Nat) ≤ sizeLine by decide), [x, y], Paired.cons ru1 (Paired.cons ru2 Paired.nil), ⟨_, gT2, rfl, 0, rfl⟩⟩
    refine ⟨V.ref s.heap.objs.size, upd H s.heap.objs.size (.tup [xs[i], ys[i]]), I1, rfl, ⟨s.heap.objs.size, xs[i], ys[i], rfl, HOk.fresh I.hok (Nat.le_refl _), rfl, e1, e2⟩, ⟨gz'', ?_, ⟨x, y, ?_⟩, ?_, ?_⟩, fun c hcm => ?_⟩
    · exact (sb.right _ D.zi).trans (kp _ _ D.zi D.io D.i1 D.i2 gi)
    · exact (sb.right _ D.zo).trans go'
    · exact itB_at s1.1 fun o q => (sb.right _ D.z1).trans q
    · exact itB_at s2.1 fun o q => (sb.right _ D.z2).trans q
    · obtain ⟨o1, w1, _⟩ := itB_lt t1
      obtain ⟨o2, w2, _⟩ := itB_lt t2
      have lt : c < s.heap.objs.size := by
        have hcm' := hcm
        simp only [List.mem_cons, List.not_mem_nil, or_false] at hcm'
        rcases hcm' with rfl | rfl | rfl | rfl | rfl
        · exact zl
        · exact Heap.lt_size gi
        · exact Heap.lt_size go
        · exact Heap.lt_size w1
        · exact Heap.lt_size w2
      rw [upd_ne (Nat.ne_of_lt lt)]
      exact (hf c hcm).1
  done := by
    rintro X rfl rfl rfl hc i pins s σ H E I hf ⟨gz, gi, ⟨x0, y0, go⟩, t1, t2⟩ ⟨hx, hy, l⟩
    obtain ⟨its, rv, p⟩ := srcB I hx
    obtain ⟨its2, rv2, p2⟩ := srcB I hy
    have n1 := Vals.length rv
    have n2 := Vals.length rv2
    have D1 := drB (prog := X.prog) (w := X.w) (A := X.A.in1) (I.ok.hd hc) k1 j1 a (it_ne t1 p) its.toArray
    have D2 := drB (prog := X.prog) (w := X.w) (A := X.A.in1) (I.ok.hd hc) k2 j2 b (it_ne t2 p2) its2.toArray
    refine zg_nextE D1 D2 D gz gi go ⟨t1, p⟩ ⟨t2, p2⟩ (by simp; omega) fun h' tk kp => ⟨rfl, ?_⟩
    exact I.turnedL (t' := tk) (ch := [z, ti, tO, j1, j2]) (fun c o hb q => kp c o (fun e => hb (by simp [e])) (fun e => hb (by simp [e])) (fun e => hb (by simp [e])) (fun e => hb (by simp [e])) q) hf
  self := fun A i s Q E st h => wpAny_pyIter_zip st.1 h
def iZipG (K : PySem.W.Frag) (ta : TA) : TI := fun σ H R => ta σ H fun vs H1 => ∃ k1 a xs k2 b ys, vs = [V.ref a, V.ref b] ∧ SqB K k1 H1 a xs ∧ SqB K k2 H1 b ys ∧ R (ItZ K k1 a xs k2 b ys) H1
theorem pi_zipG {X : Cx} {e e2 : Expr} {ta : TA} {p pos tpos : Pos} {elts : List Expr} {kk : Nat} (hg : Gl X "zip") (hm : X.mg "zip" = none) (ha : PA X [e, e2] ta)
    (hs : starEach [e, e2] X.env = (false, eval e X.env) :: starEach [e2] X.env := by rfl) (hpl : (backTo pos (starEach [e2] X.env)).any (·.1) = false := by rfl) :
    PI X (.Tuple elts kk tpos) (.Call (.Name "zip" p) [e, e2] [] pos) (iZipG X.K ta) := by
  refine ⟨fun pins s σ H R I h => ?_⟩
  refine Call_ (ld_blt I hg hm PyProof.Rows.boot_zip (PyProof.Rows.callWith_type1 (thn (ha.run pos pins s σ H _ I h) ?_) hs hpl))
  rintro us s1 ⟨vs, H1, I1, r1, k1, a, xs, k2, b, ys, rfl, hx, hy, q⟩
  cases r1 with
  | cons r rr =>
    cases rr with
    | cons r' rr =>
      cases rr
      cases r
      cases r'
      obtain ⟨its, rv, p1⟩ := srcB I1 hx
      obtain ⟨its2, rv2, p2⟩ := srcB I1 hy
      have la := isB_lt p1
      have lb := isB_lt p2
      refine call_zipB (beginsB k1 a its.toArray) (beginsB k2 b its2.toArray) p1 p2 fun h' gz gi go o1 o2 kp => ?_
      refine wpAny_pyIter_zip gz ?_
      have I2 := Inv.kept (t' := s1.toks) I1 kp
      have D := za_new la lb
      refine ⟨s1.heap.objs.size + 4, [s1.heap.objs.size + 4, s1.heap.objs.size + 2, s1.heap.objs.size + 3, s1.heap.objs.size, s1.heap.objs.size + 1], _, ItZ X.K k1 a xs k2 b ys, H1, rfl, I2, turn_zipG D, ⟨gz, gi, ⟨_, _, go⟩, itB_new o1, itB_new o2⟩, fun c hcm => ?_, q⟩
      have le : s1.heap.objs.size ≤ c := by
        simp only [List.mem_cons, List.not_mem_nil, or_false] at hcm
        rcases hcm with rfl | rfl | rfl | rfl | rfl
        · exact Nat.le_add_right _ _
        · exact Nat.le_add_right _ _
        · exact Nat.le_add_right _ _
        · exact Nat.le_refl _
        · exact Nat.le_add_right _ _
      exact I1.fpOk le (I1.hok.fresh le)
end FW

set_option Elab.async false
set_option linter.all false
set_option maxRecDepth 100000
set_option maxHeartbeats 1000000
/-! FZ4: zip, max, min, a chain of three, extend, an own list + a list: for the layer. -/
namespace FW
open PySem PySem.Spec PyProof.Rows L2
variable {γ : Gm} {W : WX}
section
variable {X : Cx}
def zipD (ds es : List D) : List D := (ds.zip es).map fun p => .tup [p.1, p.2]
theorem zipD_len {ds es : List D} : (zipD ds es).length = min ds.length es.length := by simp [zipD]
theorem zipD_get {ds es : List D} {i : Nat} {d e : D} (h : ds[i]? = some d) (k : es[i]? = some e) : (zipD ds es)[i]? = some (.tup [d, e]) := by
  unfold zipD
  rw [List.getElem?_map, List.getElem?_zip_eq_some (z := (d, e)) |>.mpr ⟨h, k⟩]
  rfl
theorem sqB_of {K : PySem.W.Frag} {F H : Hp} {k : Bool} {a : Addr} {vs : List V} (e : Same F H) (h : (k = true ∧ SqT K F a vs) ∨ (k = false ∧ F a = some (.lst vs))) : SqB K k H a vs := by
  rcases h with ⟨rfl, h⟩ | ⟨rfl, h⟩
  · exact sqT_mono e h
  · exact sqL_of (e _ _ h)
theorem wk_zip {K : PySem.W.Frag} {F : Hp} {k1 k2 : Bool} {a b : Addr} {xs ys : List V} {ds es : List D} (h1 : (k1 = true ∧ SqT K F a xs) ∨ (k1 = false ∧ F a = some (.lst xs))) (h2 : (k2 = true ∧ SqT K F b ys) ∨ (k2 = false ∧ F b = some (.lst ys)))
    (r1 : Rps K F ds xs) (r2 : Rps K F es ys) : Wk K F (ItZ K k1 a xs k2 b ys) (zipD ds es) := by
  have l1 := r1.length
  have l2 := r2.length
  refine ⟨fun i H hi e => ?_, fun H e => ?_, fun i H x H' F2 hi e e2 y => ?_⟩
  · rw [zipD_len] at hi
    exact ⟨sqB_of e h1, sqB_of e h2, by omega, by omega⟩
  · refine ⟨sqB_of e h1, sqB_of e h2, ?_⟩
    rw [zipD_len]
    omega
  · obtain ⟨T, u, v, rfl, hT, rfl, hu, hv⟩ := y
    obtain ⟨d, d1, d2⟩ := r1.get' hu
    obtain ⟨e0, e1, e3⟩ := r2.get' hv
    have p1 : Rps K F2 [d, e0] [u, v] := Rps.cons (Rp.mono e _ _ d2) (Rps.cons (Rp.mono e _ _ e3) Rps.nil)
    obtain ⟨q1, q2⟩ := new_tup e2 hT p1
    exact ⟨_, q1, _, zipD_get d1 e1, q2⟩
def zipI : List D → Option (List D)
  | [x, y] => (seqOf x).bind fun ds => (seqOf y).map fun es => zipD ds es
  | _ => none
theorem seq_side {K : PySem.W.Frag} {F : Hp} {x : D} {ds : List D} {v : V} (h : seqOf x = some ds) (r : Rp K F x v) : ∃ k a vs, v = .ref a ∧ ((k = true ∧ SqT K F a vs) ∨ (k = false ∧ F a = some (.lst vs))) ∧ Rps K F ds vs := by
  cases x with
  | tup es =>
    cases h
    simp only [Rp] at r
    obtain ⟨a, vs, rfl, h2, h3⟩ := r
    exact ⟨true, a, vs, rfl, .inl ⟨rfl, h2⟩, h3⟩
  | lst es =>
    cases h
    simp only [Rp] at r
    obtain ⟨a, vs, rfl, h2, h3⟩ := r
    exact ⟨false, a, vs, rfl, .inr ⟨rfl, h2⟩, h3⟩
  | _ => cases h
theorem pmi_zip {elts : List Expr} {kk : Nat} {tpos p pos : Pos} {e e2 : Expr} {m : MM (List D)} (hg : Gl X "zip") (hm : X.mg "zip" = none) (ha : PMA γ X [e, e2] m)
    (hs : starEach [e, e2] X.env = (false, eval e X.env) :: starEach [e2] X.env := by rfl) (hpl : (backTo pos (starEach [e2] X.env)).any (·.1) = false := by rfl) :
    PMI γ X (.Tuple elts kk tpos) (.Call (.Name "zip" p) [e, e2] [] pos) (eRange zipI m) := by
  refine ⟨fun pins s σ H R I h => ?_⟩
  obtain ⟨ro, F0, H0, F, env, rd, ds, rd', hS, hm1, q⟩ := h
  obtain ⟨as, rd1, m1, hm2⟩ := bind1_some hm1
  obtain ⟨m2, e2⟩ := lift_some hm2
  subst e2
  match as, m2 with
  | [x, y], m2 =>
    simp only [zipI] at m2
    obtain ⟨xs, x1, m2⟩ := Option.bind_eq_some_iff.mp m2
    obtain ⟨ys, y1, m2⟩ := Option.map_eq_some_iff.mp m2
    subst m2
    refine (pi_zipG hg hm ha hs hpl).run pins s σ H R I ⟨ro, F0, H0, F, env, rd, _, _, hS, m1, fun vs F' H' a r p => ?_⟩
    simp only [Rps] at p
    obtain ⟨v, r', rfl, pv, v2, r2, rfl, pv2, rfl⟩ := p
    obtain ⟨k1, b1, ws1, rfl, s1, t1⟩ := seq_side x1 pv
    obtain ⟨k2, b2, ws2, rfl, s2, t2⟩ := seq_side y1 pv2
    exact ⟨k1, b1, ws1, k2, b2, ws2, rfl, sqB_of a.fh s1, sqB_of a.fh s2, q _ F' H' a r (wk_zip s1 s2 t1 t2)⟩

/-! ### max, min of two ints -/
def opMax2 : List D → Option D
  | [.int i, .int j] => some (.int (if j > i then j else i))
  | _ => none
def opMin2 : List D → Option D
  | [.int i, .int j] => some (.int (if j < i then j else i))
  | _ => none
theorem cr_max2 (hc : X.calm = true) : CallR X (.builtin "max") (rCD X.K opMax2) := by
  intro pins s σ H vs us Q I rv h
  obtain ⟨F, ds, z, sf, p, hz, q⟩ := h
  match ds, hz with
  | [.int i, .int j], hz =>
    cases hz
    simp only [Rps, Rp] at p
    obtain ⟨v, r, rfl, rfl, v2, r2, rfl, rfl, rfl⟩ := p
    exact call_max2 hc pins s σ H _ us Q I rv ⟨i, j, rfl, q _ F H (Alc.refl sf) rp_int⟩
theorem cr_min2 (hc : X.calm = true) : CallR X (.builtin "min") (rCD X.K opMin2) := by
  intro pins s σ H vs us Q I rv h
  obtain ⟨F, ds, z, sf, p, hz, q⟩ := h
  match ds, hz with
  | [.int i, .int j], hz =>
    cases hz
    simp only [Rps, Rp] at p
    obtain ⟨v, r, rfl, rfl, v2, r2, rfl, rfl, rfl⟩ := p
    exact call_min2 hc pins s σ H _ us Q I rv ⟨i, j, rfl, q _ F H (Alc.refl sf) rp_int⟩

/-! ### a op b op c op d -/
def tChain3 (r1 r2 r3 : R2) (ta tb tc td : TE) : TE := fun σ H Q => ta σ H fun x H1 => tb σ H1 fun y H2 => r1 x y H2 fun z H3 => ∃ k, z = .bl k ∧
  (if k = true then tc σ H3 fun w H4 => r2 y w H4 fun z H5 => ∃ j, z = .bl j ∧ (if j = true then td σ H5 fun u H6 => r3 w u H6 Q else Q (.bl false) H5) else Q (.bl false) H3)
section
variable {o1 o2 o3 : CmpOp} {r1 r2 r3 : R2} {a b c d : Expr} {ta tb tc td : TE} {pos : Pos}
theorem pt_chain3 (h1 : OpR X (compareOp o1) r1) (h2 : OpR X (compareOp o2) r2) (h3 : OpR X (compareOp o3) r3) (ha : PE X a ta) (hb : PE X b tb) (hc : PE X c tc) (hd : PE X d td) (hm : lastMarks [o1, o2, o3] [b, c, d] = false) :
    PT X (.Compare a [o1, o2, o3] [b, c, d] pos) (tTest (tChain3 r1 r2 r3 ta tb tc td)) := by
  refine ⟨fun pins s σ H Q I h => ?_⟩
  refine isTrue_chain (thn (ha.run pins s σ H _ I h) fun v s1 ⟨x, H1, I1, q1, p1⟩ => test_link (thn (hb.run pins s1 σ H1 _ I1 p1) fun u s2 ⟨y, H2, I2, q2, p2⟩ => thn (h1 pins s2 σ H2 x y v u _ I2 q1 q2 p2) fun e s3 ⟨z, H3, I3, q3, k, ez, p3⟩ => ?_)) hm
  subst ez
  cases q3
  refine wpAny_truthy_bool ?_
  cases k with
  | false =>
    obtain ⟨j, ej, p4⟩ := p3
    cases ej
    exact ite_ff ⟨H3, I3, p4⟩
  | true =>
    refine ite_tt (test_link (thn (hc.run pins s3 σ H3 _ I3 p3) fun v2 s4 ⟨w, H4, I4, q4, p4⟩ => thn (h2 pins s4 σ H4 y w u v2 _ I4 q2 q4 p4) fun e2 s5 ⟨z2, H5, I5, q5, k2, ez2, p5⟩ => ?_))
    subst ez2
    cases q5
    refine wpAny_truthy_bool ?_
    cases k2 with
    | false =>
      obtain ⟨j, ej, p6⟩ := p5
      cases ej
      exact ite_ff ⟨H5, I5, p6⟩
    | true =>
      refine ite_tt (test_last (thn (hd.run pins s5 σ H5 _ I5 p5) fun v3 s6 ⟨z3, H6, I6, q6, p6⟩ => thn (h3 pins s6 σ H6 w z3 v2 v3 _ I6 q4 q6 p6) fun e3 s7 ⟨z4, H7, I7, q7, j, ej, p7⟩ => ?_))
      subst ej
      cases q7
      exact wpAny_truthy_bool ⟨H7, I7, p7⟩
end
def chain3T (a b c d : MM D) (f g h : D → D → Option D) : MM D := bind1 a fun x => bind1 b fun y => bind1 (lift ((f x y).bind isBl)) fun k => if k = true then bind1 c fun z => bind1 (lift ((g y z).bind isBl)) fun j => if j = true then bind1 d fun u => lift (h z u) else fun _ rd => some (.bl false, rd) else fun _ rd => some (.bl false, rd)
theorem tM_chain3 {K : PySem.W.Frag} {f g h : D → D → Option D} {a b c d : MM D} {σ : L2.St} {H : Hp} {Q : VK} (hh : tM γ K (chain3T a b c d f g h) σ H Q) : tChain3 (rD K f) (rD K g) (rD K h) (tM γ K a) (tM γ K b) (tM γ K c) (tM γ K d) σ H Q := by
  obtain ⟨ro, F0, H0, F, env, rd, z, rd', hS, hm, q⟩ := hh
  obtain ⟨da, rd1, m1, hm⟩ := bind1_some hm
  obtain ⟨e, rd2, m2, hm⟩ := bind1_some hm
  obtain ⟨k, rd3, m3, hm'⟩ := bind1_some hm
  obtain ⟨m3', e0⟩ := lift_some m3
  obtain ⟨w, m3, e3⟩ := Option.bind_eq_some_iff.mp m3'
  have e4 := isBl_some e3
  subst e0 e4
  refine ⟨ro, F0, H0, F, env, rd, da, rd1, hS, m1, fun x F1 H1 a1 r1 p1 => ?_⟩
  refine ⟨ro, F0, H0, F1, env, rd1, e, rd3, hS.step a1 r1, m2, fun y F2 H2 a2 r2 p2 => ?_⟩
  refine ⟨F2, da, e, _, a2.fh, Rp.mono a2.ff da x p1, p2, m3, fun v F3 H3 a3 p3 => ?_⟩
  simp only [Rp] at p3
  refine ⟨k, p3, ?_⟩
  have st3 := (a1.trans a2).trans (a3.stp (ro := ro))
  have r3 := r2.alc a3
  cases k with
  | true =>
    obtain ⟨u, rd4, m4, hm2⟩ := bind1_some (show bind1 c (fun z => bind1 (lift ((g e z).bind isBl)) fun j => if j = true then bind1 d fun u => lift (h z u) else fun _ rd => some (.bl false, rd)) env _ = _ from hm')
    obtain ⟨j, rd5, m5, hm3⟩ := bind1_some hm2
    obtain ⟨m5', e5⟩ := lift_some m5
    obtain ⟨w2, m6, e6⟩ := Option.bind_eq_some_iff.mp m5'
    have e7 := isBl_some e6
    subst e5 e7
    refine iteT ⟨ro, F0, H0, F3, env, _, u, _, hS.step st3 r3, m4, fun wv F4 H4 a4 r4 p4 => ?_⟩
    refine ⟨F4, e, u, _, a4.fh, Rp.mono (a3.ff.trans a4.ff) e y p2, p4, m6, fun v5 F5 H5 a5 p5 => ?_⟩
    simp only [Rp] at p5
    refine ⟨j, p5, ?_⟩
    have st5 := (st3.trans a4).trans (a5.stp (ro := ro))
    have r5 := r4.alc a5
    cases j with
    | true =>
      obtain ⟨t, rd6, m7, hm4⟩ := bind1_some (show bind1 d (fun t => lift (h u t)) env _ = _ from hm3)
      obtain ⟨m8, e8⟩ := lift_some hm4
      subst e8
      refine iteT ⟨ro, F0, H0, F5, env, _, t, _, hS.step st5 r5, m7, fun tv F6 H6 a6 r6 p6 => ?_⟩
      refine ⟨F6, u, t, z, a6.fh, Rp.mono (a5.ff.trans a6.ff) u wv p4, p6, m8, fun v7 F7 H7 a7 p7 => ?_⟩
      exact q v7 F7 H7 ((st5.trans a6).trans a7.stp) (r6.alc a7) p7
    | false =>
      cases hm3
      exact iteF (q _ F5 H5 st5 r5 rp_bl)
  | false =>
    cases hm'
    exact iteF (q _ F3 H3 st3 r3 rp_bl)
theorem pmt_chain3 {o1 o2 o3 : CmpOp} {f g h : D → D → Option D} {a b c d : Expr} {ma mb mc md : MM D} {pos : Pos} (h1 : OpR X (compareOp o1) (rD X.K f)) (h2 : OpR X (compareOp o2) (rD X.K g)) (h3 : OpR X (compareOp o3) (rD X.K h)) (ha : PM γ X a ma) (hb : PM γ X b mb) (hc : PM γ X c mc) (hd : PM γ X d md)
    (hm : lastMarks [o1, o2, o3] [b, c, d] = false := by rfl) : PMT γ X (.Compare a [o1, o2, o3] [b, c, d] pos) (eT (chain3T ma mb mc md f g h)) := pt_imp (pt_chain3 h1 h2 h3 ha hb hc hd hm) fun _ _ _ h => tM_chain3 (tMT_of h)

/-! ### x.extend(e), x + e -/
def sExt (i : Nat) (m : MM D) : MM Fl := bind1 m fun d env rd => match env[i]?, d with
  | some (.own ds), .lst es => if ds.length + es.length ≤ sizeLine then some (.nx (env.set i (.own (ds ++ es))), rd) else none
  | _, _ => none
theorem pms_ext {i : Nat} {x : Str} {p0 : Pos} {e : Expr} {m : MM D} {apos cpos pos : Pos} (hv : PE X (.Name x p0) (tVar i)) (he : PM γ X e m)
    (hbase : attributeBase (.Name x p0) "extend" X.env (eval (.Name x p0) X.env) = eval (.Name x p0) X.env := by rfl)
    (hfew : ((backTo cpos (starEach [e] X.env)).all (fun x => !x.1) && (backToKw cpos (keywordEach [] X.env)).all (fun x => x.1.isSome) && decide ([e].length + ([] : List Keyword).length + (if ([] : List Keyword).isEmpty then 0 else 1) < 30)) = true := by rfl)
    (hline : (apos.endLine == cpos.line) = true := by rfl) (hs : starEach [e] X.env = (false, eval e X.env) :: starEach [] X.env := by rfl) (hplain : (backTo cpos (starEach [] X.env)).any (·.1) = false := by rfl)
    (hsw : swapsWith (.Call (.Attribute (.Name x p0) "extend" apos) [e] [] cpos) none pos.line X.env = pure false := by rfl) : PMS γ W X (.Expr (.Call (.Attribute (.Name x p0) "extend" apos) [e] [] cpos) pos) (sExt i m) :=
  ps_imp (ps_expr (pe_bm PySem.F.plainAttrs_list PySem.F.slot_list_extend PySem.F.type_list_extend mt_extend hv (pa_cons he pa_nil hs) hbase hfew hline hs hplain) hsw) fun D σ H h => by
  obtain ⟨ro, F0, H0, F, env, rd, fl, rd', hS, hm, q⟩ := h
  obtain ⟨d, rd1, m1, hm⟩ := bind1_some hm
  split at hm
  · rename_i ds es hi
    simp only [Option.ite_none_right_eq_some, Option.some.injEq, Prod.mk.injEq] at hm
    obtain ⟨hl, rfl, rfl⟩ := hm
    obtain ⟨o, s1, p, vs, rfl, fp, hp, pv, h0p, hro, hln⟩ := hS.env.ok i _ hi
    refine ⟨.ref p, s1, .inl ⟨rfl, vs, sqL_of hp⟩, ro, F0, H0, F, env, rd, _, rd1, hS, m1, fun v F' H' a r pd => ?_⟩
    have hp' := a.hh p _ hp hro (fun _ z => by cases z)
    have fp' : F' p = none := a.fz p (by rw [hp]; exact fun z => by cases z) fp
    simp only [Rp] at pd
    obtain ⟨b, ws, rfl, tb, rb⟩ := pd
    refine ⟨p, b, vs, ws, rfl, rfl, hp', a.fh _ _ tb, by rw [← pv.length, ← rb.length]; exact hl, ?_⟩
    have S1 := hS.step a r
    have same' : Same F' (upd H' p (.lst (vs ++ ws))) := fun b o hb => by
      rw [upd_ne (fun z => by subst z; rw [fp'] at hb; cases hb)]
      exact a.fh b o hb
    refine q σ F' (upd H' p (.lst (vs ++ ws))) ⟨?_, ?_, S1.env.grow hi s1 fp' ((Rps.mono a.ff _ _ pv).append rb), S1.tab.app hp' fp' hln⟩
    · refine ⟨S1.st.ff, same', fun b o hb n t => ?_, fun h => tabs_lst (S1.st.tb h) (.inr ⟨_, hp'⟩), S1.st.nt, fun b hb => ?_, S1.st.fz⟩
      · rw [upd_ne (fun z => by subst z; rw [h0p] at hb; cases hb)]
        exact S1.st.hh b o hb n t
      · by_cases hbp : b = p
        · rw [hbp]
          exact h0p
        · rw [upd_ne hbp] at hb
          exact S1.st.hn b hb
    · cases ro with
      | none => trivial
      | some rc =>
        obtain ⟨r0, c⟩ := rc
        refine ⟨r.1, ?_, r.2.2⟩
        rw [upd_ne (fun z => hro c (by rw [z]))]
        exact r.2.1
  · cases hm
def eOwnAdd (i : Nat) (m : MM D) : MM D := bind1 m fun d env rd => match env[i]?, d with
  | some (.own ds), .lst es => if ds.length + es.length ≤ sizeLine then some (.lst (ds ++ es), rd) else none
  | _, _ => none
theorem pm_ownAdd {i : Nat} {x : Str} {p0 : Pos} {e : Expr} {m : MM D} {pos : Pos} (hv : PE X (.Name x p0) (tVar i)) (he : PM γ X e m) : PM γ X (.BinOp (.Name x p0) .Add e pos) (eOwnAdd i m) := pe_imp (pe_op op_cat hv he) fun σ H Q h => by
  obtain ⟨ro, F0, H0, F, env, rd, z, rd', hS, hm, q⟩ := h
  obtain ⟨d, rd1, m1, hm⟩ := bind1_some hm
  split at hm
  · rename_i ds es hi
    simp only [Option.ite_none_right_eq_some, Option.some.injEq, Prod.mk.injEq] at hm
    obtain ⟨hl, rfl, rfl⟩ := hm
    obtain ⟨o, s1, p, vs, rfl, fp, hp, pv, h0p, hro, hln⟩ := hS.env.ok i _ hi
    refine ⟨.ref p, s1, ro, F0, H0, F, env, rd, _, rd1, hS, m1, fun v F' H' a r pd => ?_⟩
    have hp' := a.hh p _ hp hro (fun _ z => by cases z)
    simp only [Rp] at pd
    obtain ⟨b, ws, rfl, tb, rb⟩ := pd
    refine ⟨p, b, vs, ws, rfl, rfl, hp', a.fh _ _ tb, by rw [← pv.length, ← rb.length]; exact hl, fun x hx => ?_⟩
    obtain ⟨q1, q2⟩ := new_lst a.fh hx ((Rps.mono a.ff _ _ pv).append rb)
    exact q _ _ _ (a.trans q1.stp) (r.alc q1) q2
  · cases hm
end
end FW

set_option Elab.async false
set_option linter.all false
set_option maxRecDepth 100000
set_option maxHeartbeats 1000000
/-! FZ5: comprehensions over lists of one's own; two `for`s in a comprehension. -/
namespace FW
open PySem PySem.Spec PyProof.Rows L2
variable {γ : Gm} {W : WX}
section
variable {X : Cx}
/-- what is walked, while nothing that stood is written -/
structure WkS (T : List (Addr × Str)) (K : PySem.W.Frag) (ro : Ro) (F1 H1 : Hp) (J : It) (ds : List D) : Prop where
  go : ∀ i F H, i < ds.length → Stp T ro F1 H1 F H → J.go i H
  stop : ∀ F H, Stp T ro F1 H1 F H → J.stop ds.length H
  yld : ∀ i F H x H', i < ds.length → Stp T ro F1 H1 F H → J.yld i H x H' → ∃ F3, Alc F H F3 H' ∧ ∃ d, ds[i]? = some d ∧ Rp K F3 d x
theorem Wk.s {T : List (Addr × Str)} {K : PySem.W.Frag} {ro : Ro} {F1 H1 : Hp} {J : It} {ds : List D} (w : Wk K F1 J ds) : WkS T K ro F1 H1 J ds :=
  ⟨fun i F H hi a => w.go i H hi (a.ff.trans a.fh), fun F H a => w.stop H (a.ff.trans a.fh), fun i F H x H' hi a y => w.yld i H x H' F hi a.ff a.fh y⟩
def tMIL (γ : Gm) (K : PySem.W.Frag) (m : MM (List D)) : TI := fun σ H R => ∃ ro F0 H0 F env rd ds rd', SRel γ K ro F0 H0 F env rd σ H ∧ m env rd = some (ds, rd') ∧
  ∀ J F' H', Stp γ.T ro F H F' H' → RdOk ro rd' F' H' → WkS γ.T K ro F' H' J ds → R J H'
abbrev PMIL (γ : Gm) (X : Cx) (tg iter : Expr) (m : MM (List D)) : Prop := PI X tg iter (tMIL γ X.K m)
theorem PMIL.of {tg iter : Expr} {m : MM (List D)} (h : PMI γ X tg iter m) : PMIL γ X tg iter m := ⟨fun pins s σ H R I ⟨ro, F0, H0, F, env, rd, ds, rd', hS, hm, q⟩ =>
  PI.run h pins s σ H R I ⟨ro, F0, H0, F, env, rd, ds, rd', hS, hm, fun J F' H' a r w => q J F' H' a r w.s⟩⟩
/-- the list of one's own that a name holds -/
def lOwn (i : Nat) : MM (List D) := fun env rd => match env[i]? with
  | some (.own ds) => some (ds, rd)
  | _ => none
theorem pmil_own {tg : Expr} {i : Nat} {x : Str} {p0 : Pos} (hv : PE X (.Name x p0) (tVar i)) : PMIL γ X tg (.Name x p0) (lOwn i) := by
  refine ⟨fun pins s σ H R I h => ?_⟩
  obtain ⟨ro, F0, H0, F, env, rd, ds, rd', hS, hm, q⟩ := h
  unfold lOwn at hm
  split at hm
  · rename_i es hi
    cases hm
    obtain ⟨o, s1, p, vs, rfl, fp, hp, pv, h0p, hro, hln⟩ := hS.env.ok i _ hi
    refine (pi_list hv).run pins s σ H R I ⟨.ref p, s1, p, rfl, ⟨vs, sqL_of hp⟩, q _ F H (Stp.refl hS.st.fh) hS.rd ⟨fun j F2 H2 hj a => ?_, fun F2 H2 a => ?_, fun j F2 H2 x H' hj a y => ?_⟩⟩
    · rw [pv.length] at hj
      exact ⟨vs, vs[j], sqL_of (a.hh p _ hp hro (fun _ z => by cases z)), List.getElem?_eq_getElem hj⟩
    · exact ⟨vs, sqL_of (a.hh p _ hp hro (fun _ z => by cases z)), by rw [pv.length]; exact Nat.le_refl _⟩
    · obtain ⟨rfl, y⟩ := y
      obtain ⟨d, h1, h2⟩ := pv.get' (y vs (sqL_of (a.hh p _ hp hro (fun _ z => by cases z))))
      exact ⟨F2, Alc.refl a.fh, d, h1, Rp.mono a.ff d x h2⟩
  · cases hm
/-- a list that came later is longer by one -/
theorem stp_app {T : List (Addr × Str)} {ro : Ro} {rd : Rdr} {F1 H1 F5 H5 : Hp} {L : Addr} {acc ys : List V} (st : Stp T ro F1 H1 F5 H5) (r : RdOk ro rd F5 H5) (hL : H1 L = none) (fL : F5 L = none) (h5 : H5 L = some (.lst acc)) (nr : ∀ c, ro ≠ some (L, c)) :
    Stp T ro F1 H1 F5 (upd H5 L (.lst ys)) ∧ RdOk ro rd F5 (upd H5 L (.lst ys)) := by
  refine ⟨⟨st.ff, fun b o hb => ?_, fun b o hb hn ht => ?_, fun h => tabs_lst (st.tb h) (.inr ⟨_, h5⟩), st.nt, fun b hb => ?_, st.fz⟩, ?_⟩
  · rw [upd_ne (fun z => by
      subst z
      rw [fL] at hb
      cases hb)]
    exact st.fh b o hb
  · rw [upd_ne (ne_of_none hb hL)]
    exact st.hh b o hb hn ht
  · by_cases nb : b = L
    · rw [nb]
      exact hL
    · rw [upd_ne nb] at hb
      exact st.hn b hb
  · cases ro with
    | none => trivial
    | some rc =>
      obtain ⟨r0, c⟩ := rc
      refine ⟨r.1, ?_, r.2.2⟩
      rw [upd_ne (fun z => nr c (by rw [z]))]
      exact r.2.1
/-- .. and is laid down for good -/
theorem stp_lay {K : PySem.W.Frag} {T : List (Addr × Str)} {ro : Ro} {rd : Rdr} {F1 H1 Fi Hi : Hp} {L : Addr} {acc : List V} {ds : List D} (st : Stp T ro F1 H1 Fi Hi) (r : RdOk ro rd Fi Hi) (hL : H1 L = none) (fL : Fi L = none) (hi : Hi L = some (.lst acc)) (nr : ∀ c, ro ≠ some (L, c)) (p : Rps K Fi ds acc) :
    Stp T ro F1 H1 (upd Fi L (.lst acc)) Hi ∧ RdOk ro rd (upd Fi L (.lst acc)) Hi ∧ Rp K (upd Fi L (.lst acc)) (.lst ds) (.ref L) := by
  have sf : Same Fi (upd Fi L (.lst acc)) := same_new fL
  refine ⟨⟨st.ff.trans sf, fun b o hb => ?_, st.hh, st.tb, fun b ps q => ?_, st.hn, fun b hb hf => ?_⟩, ?_, Rps.lst upd_same (Rps.mono sf _ _ p)⟩
  · by_cases nb : b = L
    · subst nb
      rw [upd_same] at hb
      rw [← hb]
      exact hi
    · rw [upd_ne nb] at hb
      exact st.fh b o hb
  · by_cases nb : b = L
    · subst nb
      rw [upd_same] at q
      cases q
    · rw [upd_ne nb] at q
      exact st.nt b ps q
  · rw [upd_ne (fun z => hb (by rw [z, hL]))]
    exact st.fz b hb hf
  · cases ro with
    | none => trivial
    | some rc =>
      obtain ⟨r0, c⟩ := rc
      refine ⟨?_, r.2.1, sf _ _ r.2.2⟩
      rw [upd_ne (fun z => nr c (by rw [z]))]
      exact r.1
theorem lc_first {T : List (Addr × Str)} {ro : Ro} {rd : Rdr} {F1 H1 : Hp} {L : Addr} (sf : Same F1 H1) (r1 : RdOk ro rd F1 H1) (hL : H1 L = none) : (∀ c, ro ≠ some (L, c)) ∧ Stp T ro F1 H1 F1 (upd H1 L (.lst [])) ∧ RdOk ro rd F1 (upd H1 L (.lst [])) := by
  refine ⟨fun c z => ?_, ⟨Same.refl _, sf.trans (same_new hL), fun b o hb _ _ => (same_new hL) b o hb, fun h => h.ext (same_new hL), fun _ _ q => q, fun b hb => (same_new hL).free hb, fun _ _ z => z⟩, ?_⟩
  · subst z
    rw [r1.2.1] at hL
    cases hL
  · cases ro with
    | none => trivial
    | some rc =>
      obtain ⟨r, c⟩ := rc
      exact ⟨r1.1, (same_new hL) _ _ r1.2.1, r1.2.2⟩
theorem gAll_okF {K : PySem.W.Frag} {ro : Ro} {H0 F H : Hp} {Q : L2.St → Hp → Prop} : ∀ {is : List Nat} {ds : List D} {vs : List V} {env : List SV} {σ : L2.St}, EnvOk γ K ro H0 F H env σ → Rps K F ds vs → ds.length = is.length →
    (∀ σ', EnvOk γ K ro H0 F H (setAll is ds env) σ' → (∀ ws : List Nat, (∀ i ∈ is, i ∈ ws) → wipe σ' ws = wipe σ ws) → (∀ F' H', Same F F' → EnvOk γ K ro H0 F' H' env σ → EnvOk γ K ro H0 F' H' (setAll is ds env) σ') → Q σ' H) → gAll is vs σ H Q
  | [], [], vs, env, σ, hE, hR, _, q => by
    simp only [Rps] at hR
    exact ⟨hR, q σ hE (fun _ _ => rfl) fun _ _ _ h => h⟩
  | i :: is, d :: ds, vs, env, σ, hE, hR, hl, q => by
    simp only [Rps] at hR
    obtain ⟨v, r, rfl, p1, p2⟩ := hR
    refine ⟨v, r, rfl, ?_⟩
    show gAll is r (σ.set i (some v)) H Q
    refine gAll_okF (hE.set p1) p2 (by simpa using hl) fun σ' e1 e2 e3 => q σ' e1 (fun ws hw => ?_) fun F' H' sf h => e3 F' H' sf (h.set (Rp.mono sf _ _ p1))
    rw [e2 ws fun j hj => hw j (List.mem_cons_of_mem _ hj), wipe_set (hw i List.mem_cons_self)]
  | [], _ :: _, _, _, _, _, _, hl, _ => by simp at hl
  | _ :: _, [], _, _, _, _, _, hl, _ => by simp at hl
theorem gOf_okF {K : PySem.W.Frag} {ro : Ro} {H0 F H : Hp} {Q : L2.St → Hp → Prop} {p : Pat} {d : D} {v : V} {env env' : List SV} {σ : L2.St} (hE : EnvOk γ K ro H0 F H env σ) (sf : Same F H) (hR : Rp K F d v) (hs : setPat p d env = some env')
    (q : ∀ σ', EnvOk γ K ro H0 F H env' σ' → (∀ ws : List Nat, (∀ i ∈ p.slots, i ∈ ws) → wipe σ' ws = wipe σ ws) → (∀ F' H', Same F F' → EnvOk γ K ro H0 F' H' env σ → EnvOk γ K ro H0 F' H' env' σ') → Q σ' H) : gOf K p v σ H Q := by
  cases p with
  | nm i =>
    simp only [setPat, Option.some.injEq] at hs
    subst hs
    exact q _ (hE.set hR) (fun ws hw => wipe_set (hw i (by simp [Pat.slots]))) fun F' H' sf h => h.set (Rp.mono sf _ _ hR)
  | tp is =>
    cases d with
    | tup ds =>
      simp only [setPat, Option.ite_none_right_eq_some, Option.some.injEq] at hs
      obtain ⟨hl, rfl⟩ := hs
      simp only [Rp] at hR
      obtain ⟨a, vs, rfl, h2, h3⟩ := hR
      exact ⟨a, vs, rfl, sqT_mono sf h2, by rw [← h3.length, hl], gAll_okF hE h3 hl q⟩
    | _ => simp [setPat] at hs

/-! ### one `for`, over anything -/
theorem tM_lcL {K : PySem.W.Frag} {mi : MM (List D)} {p : Pat} {vs : List Nat} {t : MM Bool} {e : MM D} {σ : L2.St} {H : Hp} {Q : VK} (hp : ∀ i ∈ p.slots, i ∈ vs) (h : tM γ K (eLc mi p vs t e) σ H Q) :
    tLc (tMIL γ K mi) (gOf K p) (tMT γ K t) (tM γ K e) vs σ H Q := by
  obtain ⟨ro, F0, H0, F, env, rd, z, rdE, hS, hm, q⟩ := h
  obtain ⟨ds, rd1, m1, hm⟩ := bind1_some hm
  simp only [Option.ite_none_right_eq_some, Option.map_eq_some_iff, Prod.mk.injEq] at hm
  obtain ⟨hsz, ⟨out, rdE'⟩, hgo, rfl, rfl⟩ := hm
  refine ⟨ro, F0, H0, F, env, rd, ds, rd1, hS, m1, fun J F1 H1 a1 r1 w => fun L hL => ?_⟩
  have S1 := hS.step a1 r1
  have fL : F1 L = none := a1.fh.free hL
  obtain ⟨roL, st0, rd0⟩ := lc_first (T := γ.T) a1.fh r1 hL
  refine ⟨fun i m H => m = ds.length - i ∧ i ≤ ds.length ∧ LcI (γ := γ) K ro F1 H1 L p t e ds (wipeE env vs) out rdE' i H, ⟨ds.length, by simp, Nat.zero_le _, F1, rd1, [], out, [], st0, rd0, fL, upd_same, Rps.nil, Nat.le_refl _, hgo, rfl⟩, ?_⟩
  rintro i m Hi ⟨rfl, hi, Fi, rdi, done, rest, acc, sti, roi, fLi, hLi, pi, hdl, gi, ei⟩
  by_cases hlt : i < ds.length
  · have e1 : ds.drop i = ds[i] :: ds.drop (i + 1) := List.drop_eq_getElem_cons hlt
    rw [e1] at gi
    simp only [lcGo] at gi
    obtain ⟨env1, g1, gi⟩ := Option.bind_eq_some_iff.mp gi
    obtain ⟨⟨b, rdb⟩, g2, gi⟩ := Option.bind_eq_some_iff.mp gi
    refine .inr ⟨w.go i Fi Hi hlt sti, LcI (γ := γ) K ro F1 H1 L p t e ds (wipeE env vs) out rdE' (i + 1), fun H' h' => ⟨ds.length - (i + 1), by omega, rfl, hlt, h'⟩, fun x Hx hy => ?_⟩
    obtain ⟨F3, al, d', hd', px⟩ := w.yld i Fi Hi x Hx hlt sti hy
    rw [List.getElem?_eq_getElem hlt] at hd'
    cases hd'
    have S3 : SRel γ K ro F0 H0 F3 env rdi σ Hx := S1.step (sti.trans al.stp) (roi.alc al)
    refine gOf_ok (S3.env.wipe vs) al.fh px g1 fun σ2 e2 e3 => ⟨?_, ?_⟩
    · rw [e3 vs hp, wipe_idem]
    · have S4 : SRel γ K ro F0 H0 F3 env1 rdi σ2 Hx := ⟨S3.st, S3.rd, e2, S3.tab⟩
      refine ⟨ro, F0, H0, F3, env1, rdi, b, rdb, S4, g2, fun F4 H4 a4 r4 => ?_⟩
      have st4 : Stp γ.T ro F1 H1 F4 H4 := (sti.trans al.stp).trans a4
      have hL3 : Hx L = some (.lst acc) := al.hh _ _ hLi
      have hL4 : H4 L = some (.lst acc) := a4.hh _ _ hL3 roL (fun _ z => by cases z)
      have fL3 : F3 L = none := al.fz L (by rw [hLi]; exact fun z => by cases z) fLi
      have fL4 : F4 L = none := a4.fz L (by rw [hL3]; exact fun z => by cases z) fL3
      cases b with
      | false =>
        simp only [Bool.false_eq_true, if_false] at gi ⊢
        exact ⟨F4, rdb, done, rest, acc, st4, r4, fL4, hL4, Rps.mono (al.ff.trans a4.ff) _ _ pi, by omega, gi, ei⟩
      | true =>
        simp only [if_true] at gi ⊢
        obtain ⟨⟨y, rdy⟩, g3, gi⟩ := Option.bind_eq_some_iff.mp gi
        simp only [Option.map_eq_some_iff, Prod.mk.injEq] at gi
        obtain ⟨⟨rest', rdE2⟩, g4, rfl, rfl⟩ := gi
        refine ⟨ro, F0, H0, F4, env1, rdb, y, rdy, S4.step a4 r4, g3, fun yv F5 H5 a5 r5 p5 => ?_⟩
        have hL5 : H5 L = some (.lst acc) := a5.hh _ _ hL4 roL (fun _ z => by cases z)
        have fL5 : F5 L = none := a5.fz L (by rw [hL4]; exact fun z => by cases z) fL4
        obtain ⟨st6, r6⟩ := stp_app (ys := acc ++ [yv]) (st4.trans a5) r5 hL fL5 hL5 roL
        refine ⟨acc, hL5, by rw [← pi.length]; omega, F5, rdy, done ++ [y], rest', acc ++ [yv], st6, r6, fL5, upd_same, (Rps.mono ((al.ff.trans a4.ff).trans a5.ff) _ _ pi).append (Rps.cons p5 Rps.nil), ?_, g4, by rw [List.append_assoc]; exact ei⟩
        rw [List.length_append]
        simp only [List.length_cons, List.length_nil]
        omega
  · have ie : i = ds.length := by omega
    subst ie
    rw [List.drop_length] at gi
    simp only [lcGo, Option.some.injEq, Prod.mk.injEq] at gi
    obtain ⟨rfl, rfl⟩ := gi
    rw [List.append_nil] at ei
    subst ei
    obtain ⟨st6, r6, p6⟩ := stp_lay sti roi hL fLi hLi roL pi
    exact .inl ⟨w.stop Fi Hi sti, q (.ref L) _ Hi (a1.trans st6) r6 p6⟩
theorem pm_lcL {elt tg iter : Expr} {ifs : List Expr} {scope : Scope} {own : List (Str × Nat)} {vs : List Nat} {pos : Pos} {mi : MM (List D)} {p : Pat} {t : MM Bool} {e : MM D} (hc : X.calm = true) (hN : X.N.Nodup) (hi : PMIL γ X tg iter mi) (ok : BlkOk X.N X.env.scope scope own)
    (hv : own.map (·.2) = vs) (hp : ∀ i ∈ p.slots, i ∈ vs)
    (hg : ∀ (s : Shared) (H : Hp) (C : Addr) (cl : List (Str × Addr)) (fp : List Addr), PG (X.blk s H scope (compEnvC scope cl C X.env) fp) tg (gOf X.K p)) (ht : ∀ (s : Shared) (H : Hp) (C : Addr) (cl : List (Str × Addr)) (fp : List Addr), PMTs γ (X.blk s H scope (compEnvC scope cl C X.env) fp) ifs t)
    (he : ∀ (s : Shared) (H : Hp) (C : Addr) (cl : List (Str × Addr)) (fp : List Addr), PM γ (X.blk s H scope (compEnvC scope cl C X.env) fp) elt e) (hs : ∀ x, foldedSetIterable iter X.env x = pure x := by intro _; rfl) :
    PM γ X (.ListComp elt [⟨tg, iter, ifs, 0⟩] scope pos) (eLc mi p vs t e) := by
  subst hv
  exact pe_imp (pe_lc hc hN hi ok hg ht he hs) fun _ _ _ h => tM_lcL hp h
theorem pms_setLcL {i : Nat} {y : Str} {py : Pos} {elt tg iter : Expr} {ifs : List Expr} {scope : Scope} {own : List (Str × Nat)} {vs : List Nat} {pos spos : Pos} {mi : MM (List D)} {p : Pat} {t : MM Bool} {e : MM D} (hc : X.calm = true) (hN : X.N.Nodup) (hy : X.N[i]? = some y) (hyl : X.env.scope.names.lookup y = some .local)
    (hsw : swapsWith (.ListComp elt [⟨tg, iter, ifs, 0⟩] scope pos) (some (.Name y py)) spos.line X.env = pure true) (hi : PMIL γ X tg iter mi) (ok : BlkOk X.N X.env.scope scope own) (hv : own.map (·.2) = vs) (hp : ∀ i ∈ p.slots, i ∈ vs)
    (hg : ∀ (s : Shared) (H : Hp) (C : Addr) (cl : List (Str × Addr)) (fp : List Addr), PG (X.blk s H scope (compEnvC scope cl C X.env) fp) tg (gOf X.K p)) (ht : ∀ (s : Shared) (H : Hp) (C : Addr) (cl : List (Str × Addr)) (fp : List Addr), PMTs γ (X.blk s H scope (compEnvC scope cl C X.env) fp) ifs t)
    (he : ∀ (s : Shared) (H : Hp) (C : Addr) (cl : List (Str × Addr)) (fp : List Addr), PM γ (X.blk s H scope (compEnvC scope cl C X.env) fp) elt e) (hs : ∀ x, foldedSetIterable iter X.env x = pure x := by intro _; rfl) :
    PMS γ W X (.Assign [.Name y py] (.ListComp elt [⟨tg, iter, ifs, 0⟩] scope pos) spos) (sSet i (eLc mi p vs t e)) := by
  subst hv
  exact ps_imp (ps_setLc hc hN hy hyl hsw hi ok hg ht he hs) fun D σ H h => tMS_set (fun _ _ _ q => tM_lcL hp q) h

/-! ### two `for`s -/
def lcGo2 (p : Pat) (t : MM Bool) (mi1 : MM (List D)) (p1 : Pat) (vs1 : List Nat) (t1 : MM Bool) (e : MM D) : List D → List SV → Rdr → Option (List D × Rdr)
  | [], _, rd => some ([], rd)
  | d :: ds, env, rd => (setPat p d env).bind fun env1 => (t env1 rd).bind fun b => if b.1 = true then (mi1 env1 b.2).bind fun y => (lcGo p1 t1 e y.1 (wipeE env1 vs1) y.2).bind fun r => (lcGo2 p t mi1 p1 vs1 t1 e ds env r.2).map fun q => (r.1 ++ q.1, q.2)
    else lcGo2 p t mi1 p1 vs1 t1 e ds env b.2
def eLc2 (mi : MM (List D)) (p : Pat) (vs : List Nat) (t : MM Bool) (mi1 : MM (List D)) (p1 : Pat) (vs1 : List Nat) (t1 : MM Bool) (e : MM D) : MM D := bind1 mi fun ds env rd => (lcGo2 p t mi1 p1 vs1 t1 e ds (wipeE env vs) rd).bind fun r => if r.1.length ≤ sizeLine then some (.lst r.1, r.2) else none
def Lc2O (γ : Gm) (K : PySem.W.Frag) (ro : Ro) (F1 H1 : Hp) (L : Addr) (go : List D → Rdr → Option (List D × Rdr)) (ds : List D) (out : List D) (rdE : Rdr) (i : Nat) (H : Hp) : Prop :=
  ∃ F rd done rest acc, Stp γ.T ro F1 H1 F H ∧ RdOk ro rd F H ∧ F L = none ∧ H L = some (.lst acc) ∧ Rps K F done acc ∧ go (ds.drop i) rd = some (rest, rdE) ∧ done ++ rest = out
def Lc2I (γ : Gm) (K : PySem.W.Frag) (ro : Ro) (F1 H1 F4 : Hp) (L : Addr) (go : List D → Rdr → Option (List D × Rdr)) (ds restO : List D) (out : List D) (rdE : Rdr) (i : Nat) (H : Hp) : Prop :=
  ∃ F rd done rest acc, Stp γ.T ro F1 H1 F H ∧ Same F4 F ∧ RdOk ro rd F H ∧ F L = none ∧ H L = some (.lst acc) ∧ Rps K F done acc ∧ go (ds.drop i) rd = some (rest, rdE) ∧ done ++ (rest ++ restO) = out
theorem tM_lc2 {K : PySem.W.Frag} {mi mi1 : MM (List D)} {p p1 : Pat} {vs vs1 : List Nat} {t t1 : MM Bool} {e : MM D} {σ : L2.St} {H : Hp} {Q : VK} (hp : ∀ i ∈ p.slots, i ∈ vs) (hp1 : ∀ i ∈ p1.slots, i ∈ vs1) (h : tM γ K (eLc2 mi p vs t mi1 p1 vs1 t1 e) σ H Q) :
    tLc2 (tMIL γ K mi) (gOf K p) (tMT γ K t) (tMI γ K mi1) (gOf K p1) (tMT γ K t1) (tM γ K e) vs vs1 σ H Q := by
  obtain ⟨ro, F0, H0, F, env, rd, z, rdE, hS, hm, q⟩ := h
  obtain ⟨ds, rd1, m1, hm⟩ := bind1_some hm
  obtain ⟨⟨out, rdE'⟩, hgo, hm⟩ := Option.bind_eq_some_iff.mp hm
  simp only [Option.ite_none_right_eq_some, Option.some.injEq, Prod.mk.injEq] at hm
  obtain ⟨hsz, rfl, rfl⟩ := hm
  refine ⟨ro, F0, H0, F, env, rd, ds, rd1, hS, m1, fun J F1 H1 a1 r1 w => fun L hL => ?_⟩
  have S1 := hS.step a1 r1
  have fL : F1 L = none := a1.fh.free hL
  obtain ⟨roL, st0, rd0⟩ := lc_first (T := γ.T) a1.fh r1 hL
  generalize hgg : (fun (ds : List D) (rd : Rdr) => lcGo2 p t mi1 p1 vs1 t1 e ds (wipeE env vs) rd) = go2
  have hgo' : go2 ds rd1 = some (out, rdE') := by
    rw [← hgg]
    exact hgo
  refine ⟨fun i m H => m = ds.length - i ∧ i ≤ ds.length ∧ Lc2O γ K ro F1 H1 L go2 ds out rdE' i H, ⟨ds.length, by simp, Nat.zero_le _, F1, rd1, [], out, [], st0, rd0, fL, upd_same, Rps.nil, hgo', rfl⟩, ?_⟩
  rintro i m Hi ⟨rfl, hi, Fi, rdi, done, rest, acc, sti, roi, fLi, hLi, pi, gi, ei⟩
  by_cases hlt : i < ds.length
  · have e1 : ds.drop i = ds[i] :: ds.drop (i + 1) := List.drop_eq_getElem_cons hlt
    rw [e1, ← hgg] at gi
    simp only [lcGo2] at gi
    obtain ⟨env1, g1, gi⟩ := Option.bind_eq_some_iff.mp gi
    obtain ⟨⟨b, rdb⟩, g2, gi⟩ := Option.bind_eq_some_iff.mp gi
    refine .inr ⟨w.go i Fi Hi hlt sti, Lc2O γ K ro F1 H1 L go2 ds out rdE' (i + 1), fun H' h' => ⟨ds.length - (i + 1), by omega, rfl, hlt, h'⟩, fun x Hx hy => ?_⟩
    obtain ⟨F3, al, d', hd', px⟩ := w.yld i Fi Hi x Hx hlt sti hy
    rw [List.getElem?_eq_getElem hlt] at hd'
    cases hd'
    have S3 : SRel γ K ro F0 H0 F3 env rdi σ Hx := S1.step (sti.trans al.stp) (roi.alc al)
    refine gOf_okF (S3.env.wipe vs) al.fh px g1 fun σ2 e2 e3 e4 => ⟨?_, ?_⟩
    · rw [e3 vs hp, wipe_idem]
    · have S4 : SRel γ K ro F0 H0 F3 env1 rdi σ2 Hx := ⟨S3.st, S3.rd, e2, S3.tab⟩
      refine ⟨ro, F0, H0, F3, env1, rdi, b, rdb, S4, g2, fun F4 H4 a4 r4 => ?_⟩
      have st4 : Stp γ.T ro F1 H1 F4 H4 := (sti.trans al.stp).trans a4
      have hL3 : Hx L = some (.lst acc) := al.hh _ _ hLi
      have hL4 : H4 L = some (.lst acc) := a4.hh _ _ hL3 roL (fun _ z => by cases z)
      have fL3 : F3 L = none := al.fz L (by rw [hLi]; exact fun z => by cases z) fLi
      have fL4 : F4 L = none := a4.fz L (by rw [hL3]; exact fun z => by cases z) fL3
      cases b with
      | false =>
        simp only [Bool.false_eq_true, if_false] at gi ⊢
        exact ⟨F4, rdb, done, rest, acc, st4, r4, fL4, hL4, Rps.mono (al.ff.trans a4.ff) _ _ pi, by rw [← hgg]; exact gi, ei⟩
      | true =>
        simp only [if_true] at gi ⊢
        obtain ⟨⟨ds1, rdc⟩, g3, gi⟩ := Option.bind_eq_some_iff.mp gi
        obtain ⟨⟨out1, rdI⟩, g4, gi⟩ := Option.bind_eq_some_iff.mp gi
        simp only [Option.map_eq_some_iff, Prod.mk.injEq] at gi
        obtain ⟨⟨restO, rdO⟩, g5, rfl, rfl⟩ := gi
        refine ⟨ro, F0, H0, F4, env1, rdb, ds1, rdc, S4.step a4 r4, g3, fun J1 F5 H5 a5 r5 w1 => ?_⟩
        have st5 : Stp γ.T ro F1 H1 F5 H5 := st4.trans a5
        have hL5 : H5 L = some (.lst acc) := a5.hh _ _ hL4 roL (fun _ z => by cases z)
        have fL5 : F5 L = none := a5.fz L (by rw [hL4]; exact fun z => by cases z) fL4
        have pi5 : Rps K F5 done acc := Rps.mono ((al.ff.trans a4.ff).trans a5.ff) _ _ pi
        generalize hg1 : (fun (ds : List D) (rd : Rdr) => lcGo p1 t1 e ds (wipeE env1 vs1) rd) = go1
        have g4' : go1 ds1 rdc = some (out1, rdI) := by
          rw [← hg1]
          exact g4
        refine ⟨fun j m H => m = ds1.length - j ∧ j ≤ ds1.length ∧ Lc2I γ K ro F1 H1 F5 L go1 ds1 restO out rdI j H, ⟨ds1.length, by simp, Nat.zero_le _, F5, rdc, done, out1, acc, st5, Same.refl _, r5, fL5, hL5, pi5, g4', ei⟩, ?_⟩
        rintro j m Hj ⟨rfl, hj, Fj, rdj, doneJ, restJ, accJ, stj, sfj, roj, fLj, hLj, pj, gj, ej⟩
        by_cases hlt1 : j < ds1.length
        · have e1 : ds1.drop j = ds1[j] :: ds1.drop (j + 1) := List.drop_eq_getElem_cons hlt1
          rw [e1, ← hg1] at gj
          simp only [lcGo] at gj
          obtain ⟨env2, k1, gj⟩ := Option.bind_eq_some_iff.mp gj
          obtain ⟨⟨b2, rdb2⟩, k2, gj⟩ := Option.bind_eq_some_iff.mp gj
          refine .inr ⟨w1.go j Hj hlt1 (sfj.trans stj.fh), Lc2I γ K ro F1 H1 F5 L go1 ds1 restO out rdI (j + 1), fun H' h' => ⟨ds1.length - (j + 1), by omega, rfl, hlt1, h'⟩, fun x1 Hx1 hy1 => ?_⟩
          obtain ⟨F6, al6, d6, hd6, px6⟩ := w1.yld j Hj x1 Hx1 Fj hlt1 sfj stj.fh hy1
          rw [List.getElem?_eq_getElem hlt1] at hd6
          cases hd6
          have S6 : SRel γ K ro F0 H0 F6 env rdj σ Hx1 := S1.step (stj.trans al6.stp) (roj.alc al6)
          have s36 : Same F3 F6 := (((a4.ff.trans a5.ff).trans sfj).trans al6.ff)
          have E6 : EnvOk γ K ro H0 F6 Hx1 env1 σ2 := e4 F6 Hx1 s36 (S6.env.wipe vs)
          refine gOf_ok (E6.wipe vs1) al6.fh px6 k1 fun σ3 e5 e6 => ⟨?_, ?_⟩
          · rw [e6 vs1 hp1, wipe_idem]
          · have S7 : SRel γ K ro F0 H0 F6 env2 rdj σ3 Hx1 := ⟨S6.st, S6.rd, e5, S6.tab⟩
            refine ⟨ro, F0, H0, F6, env2, rdj, b2, rdb2, S7, k2, fun F7 H7 a7 r7 => ?_⟩
            have st7 : Stp γ.T ro F1 H1 F7 H7 := (stj.trans al6.stp).trans a7
            have hL6 : Hx1 L = some (.lst accJ) := al6.hh _ _ hLj
            have hL7 : H7 L = some (.lst accJ) := a7.hh _ _ hL6 roL (fun _ z => by cases z)
            have fL6 : F6 L = none := al6.fz L (by rw [hLj]; exact fun z => by cases z) fLj
            have fL7 : F7 L = none := a7.fz L (by rw [hL6]; exact fun z => by cases z) fL6
            have sf7 : Same F5 F7 := (sfj.trans al6.ff).trans a7.ff
            cases b2 with
            | false =>
              simp only [Bool.false_eq_true, if_false] at gj ⊢
              exact ⟨F7, rdb2, doneJ, restJ, accJ, st7, sf7, r7, fL7, hL7, Rps.mono (al6.ff.trans a7.ff) _ _ pj, by rw [← hg1]; exact gj, ej⟩
            | true =>
              simp only [if_true] at gj ⊢
              obtain ⟨⟨y, rdy⟩, k3, gj⟩ := Option.bind_eq_some_iff.mp gj
              simp only [Option.map_eq_some_iff, Prod.mk.injEq] at gj
              obtain ⟨⟨rest', rdE2⟩, k4, rfl, rfl⟩ := gj
              refine ⟨ro, F0, H0, F7, env2, rdb2, y, rdy, S7.step a7 r7, k3, fun yv F8 H8 a8 r8 p8 => ?_⟩
              have hL8 : H8 L = some (.lst accJ) := a8.hh _ _ hL7 roL (fun _ z => by cases z)
              have fL8 : F8 L = none := a8.fz L (by rw [hL7]; exact fun z => by cases z) fL7
              obtain ⟨st9, r9⟩ := stp_app (ys := accJ ++ [yv]) (st7.trans a8) r8 hL fL8 hL8 roL
              refine ⟨accJ, hL8, ?_, F8, rdy, doneJ ++ [y], rest', accJ ++ [yv], st9, sf7.trans a8.ff, r9, fL8, upd_same, (Rps.mono ((al6.ff.trans a7.ff).trans a8.ff) _ _ pj).append (Rps.cons p8 Rps.nil), by rw [← hg1]; exact k4, by rw [List.append_assoc]; exact ej⟩
              rw [← pj.length]
              have hlen := congrArg List.length ej
              simp only [List.length_append, List.length_cons] at hlen
              omega
        · have ie : j = ds1.length := by omega
          subst ie
          rw [List.drop_length, ← hg1] at gj
          simp only [lcGo, Option.some.injEq, Prod.mk.injEq] at gj
          obtain ⟨rfl, rfl⟩ := gj
          refine .inl ⟨w1.stop Hj (sfj.trans stj.fh), Fj, rdj, doneJ, restO, accJ, stj, roj, fLj, hLj, pj, by rw [← hgg]; exact g5, by simpa using ej⟩
  · have ie : i = ds.length := by omega
    subst ie
    rw [List.drop_length, ← hgg] at gi
    simp only [lcGo2, Option.some.injEq, Prod.mk.injEq] at gi
    obtain ⟨rfl, rfl⟩ := gi
    rw [List.append_nil] at ei
    subst ei
    obtain ⟨st6, r6, p6⟩ := stp_lay sti roi hL fLi hLi roL pi
    exact .inl ⟨w.stop Fi Hi sti, q (.ref L) _ Hi (a1.trans st6) r6 p6⟩
theorem pm_lc2 {elt tg iter tg1 iter1 : Expr} {ifs ifs1 : List Expr} {scope : Scope} {own : List (Str × Nat)} {vs vs1 : List Nat} {pos : Pos} {mi mi1 : MM (List D)} {p p1 : Pat} {t t1 : MM Bool} {e : MM D} (hc : X.calm = true) (hN : X.N.Nodup) (hi : PMIL γ X tg iter mi) (ok : BlkOk X.N X.env.scope scope own)
    (hv : own.map (·.2) = vs) (hv1 : ∀ i ∈ vs1, i ∈ vs) (hp : ∀ i ∈ p.slots, i ∈ vs) (hp1 : ∀ i ∈ p1.slots, i ∈ vs1)
    (hg : ∀ (s : Shared) (H : Hp) (C : Addr) (cl : List (Str × Addr)) (fp : List Addr), PG (X.blk s H scope (compEnvC scope cl C X.env) fp) tg (gOf X.K p)) (ht : ∀ (s : Shared) (H : Hp) (C : Addr) (cl : List (Str × Addr)) (fp : List Addr), PMTs γ (X.blk s H scope (compEnvC scope cl C X.env) fp) ifs t)
    (hi1 : ∀ (s : Shared) (H : Hp) (C : Addr) (cl : List (Str × Addr)) (fp : List Addr), PMI γ (X.blk s H scope (compEnvC scope cl C X.env) fp) tg1 iter1 mi1)
    (hg1 : ∀ (s : Shared) (H : Hp) (C : Addr) (cl : List (Str × Addr)) (fp : List Addr), PG (X.blk s H scope (compEnvC scope cl C X.env) fp) tg1 (gOf X.K p1)) (ht1 : ∀ (s : Shared) (H : Hp) (C : Addr) (cl : List (Str × Addr)) (fp : List Addr), PMTs γ (X.blk s H scope (compEnvC scope cl C X.env) fp) ifs1 t1)
    (he : ∀ (s : Shared) (H : Hp) (C : Addr) (cl : List (Str × Addr)) (fp : List Addr), PM γ (X.blk s H scope (compEnvC scope cl C X.env) fp) elt e) (hs : ∀ x, foldedSetIterable iter X.env x = pure x := by intro _; rfl) (hs1 : ∀ env x, foldedSetIterable iter1 env x = pure x := by intro _ _; rfl) :
    PM γ X (.ListComp elt [⟨tg, iter, ifs, 0⟩, ⟨tg1, iter1, ifs1, 0⟩] scope pos) (eLc2 mi p vs t mi1 p1 vs1 t1 e) := by
  subst hv
  exact pe_imp (pe_lc2 hc hN hi ok hv1 hg ht hi1 hg1 ht1 he hs hs1) fun _ _ _ h => tM_lc2 hp hp1 h
end
end FW

set_option Elab.async false
set_option linter.all false
set_option maxRecDepth 100000
set_option maxHeartbeats 1000000
/-! FZ6: a def's fresh tuple, and its .index; the reader over list(..). -/
namespace FW
open PySem PySem.Spec PyProof.Rows L2
variable {γ : Gm} {W : WX} {g : Bool}
/-- a tuple whose object is known -/
def NoDc (v : V) (H : Hp) : Prop := ∃ p o vs, v = .ref p ∧ H p = some (.frz o (.tup vs)) ∧ o.cls = .type "tuple" ∧ o.dict = none
section
variable {X : Cx}
def rTupF (K : PySem.W.Frag) : List V → Hp → VK → Prop := fun xs H Q => ∃ p ys, xs = [.ref p] ∧ SqL K H p ys ∧ ∀ l o, H l = none → o.cls = .type "tuple" → o.dict = none → Q (.ref l) (upd H l (.frz o (.tup ys)))
theorem call_tupF : CallR X (.type "tuple") (rTupF X.K) := by
  intro pins s σ H xs us Q I r h
  obtain ⟨p, ys, rfl, hq, q⟩ := h
  obtain ⟨u, rfl, rx⟩ := vals1 r
  cases rx
  obtain ⟨its, rv, pl, hz⟩ := I.list hq
  have hlen := rv.length
  refine call_tuple_list pl.isList (fun h' kp => ?_) (by simp only [List.size_toArray] <;> omega)
  have I1 := Inv.kept (t' := s.toks) I kp
  let ob : Obj := { cls := .type "tuple", data := .seq its.toArray }
  have I2 := Inv.laid (t' := s.toks) (o := HO.frz ob (.tup ys)) I1 (fun b o e => Heap.get?_push_of_some ob e) (Nat.le_refl _) ⟨Heap.get?_push_size _ rfl, hz, its, rv, IsTup.new _ _⟩
  exact ⟨.ref h'.objs.size, _, I2, rfl, q _ ob (I1.hok.fresh (Nat.le_refl _)) rfl rfl⟩
theorem new_tupF {K : PySem.W.Frag} {F H : Hp} {ds : List D} {vs : List V} {p : Addr} {o : Obj} (s : Same F H) (hp : H p = none) (h : Rps K F ds vs) : Alc F H (upd F p (.frz o (.tup vs))) (upd H p (.frz o (.tup vs))) ∧ Rp K (upd F p (.frz o (.tup vs))) (.tup ds) (.ref p) :=
  ⟨Alc.new s hp (fun _ z => by cases z), Rps.tup (.inl (.inr ⟨o, upd_same⟩)) (Rps.mono (same_new (s.free hp)) ds vs h)⟩
theorem noDc_is {pins : List (Addr × Obj)} {σ : L2.St} {H : Hp} {s : Shared} {x : V} {v : Value} (I : Inv X pins σ H s) (r : RelV x v) (ty : NoDc x H) : s.TypeIs v "tuple" ∧ ∀ a, v = .ref a → ∃ ob, s.heap.get? a = some ob ∧ ob.dict = none := by
  obtain ⟨p, o, vs, rfl, hp, hc, hd⟩ := ty
  cases (show v = Value.ref p from r)
  have e : s.heap.get? p = some o := (I.hok p _ hp).1
  exact ⟨⟨o, e, hc⟩, fun a z => by
    cases z
    exact ⟨o, e, hd⟩⟩
def tMN (r : V → List V → Hp → VK → Prop) (to : TE) (t : TA) : TE := fun σ H Q => to σ H fun x H1 => NoDc x H1 ∧ t σ H1 fun xs H2 => r x xs H2 Q
theorem pe_mN {o e : Expr} {to : TE} {t : TA} {r : V → List V → Hp → VK → Prop} {name : Str} {id : String} {apos cpos : Pos} (slot : Slot "tuple" name id) (hty : typeOf (.builtin id) = pure (.type "method_descriptor")) (hm : MtR X id r) (ho : PE X o to) (ha : PA X [e] t)
    (hbase : attributeBase o name X.env (eval o X.env) = eval o X.env := by rfl)
    (hfew : ((backTo cpos (starEach [e] X.env)).all (fun x => !x.1) && (backToKw cpos (keywordEach [] X.env)).all (fun x => x.1.isSome) && decide ([e].length + ([] : List Keyword).length + (if ([] : List Keyword).isEmpty then 0 else 1) < 30)) = true := by rfl)
    (hline : (apos.endLine == cpos.line) = true := by rfl) (hs : starEach [e] X.env = (false, eval e X.env) :: starEach [] X.env := by rfl) (hplain : (backTo cpos (starEach [] X.env)).any (·.1) = false := by rfl) :
    PE X (.Call (.Attribute o name apos) [e] [] cpos) (tMN r to t) := by
  refine ⟨fun pins s σ H Q I h => ?_⟩
  refine wpAny_Call_method_late hbase hfew hline rfl (thn (ho.run pins s σ H _ I h) fun v s1 ⟨x, H1, I1, r1, ty, q1⟩ => ?_)
  obtain ⟨h1, h2⟩ := noDc_is I1 r1 ty
  refine ⟨"tuple", id, PySem.F.plainAttrs_tuple, slot, hty, h1, h2, ?_⟩
  have hA := ha.run cpos pins s1 σ H1 _ I1 q1
  rw [hs] at hA ⊢
  refine Calls.callWith_builtin (by show (false || (backTo cpos (starEach [] X.env)).any (·.1)) = false; rw [hplain] <;> rfl) (Calls.evalArgs_plain ?_)
  exact thn hA fun us s2 ⟨vs, H2, I2, r2, q2⟩ => hm pins s2 σ H2 x vs v us Q I2 r1 r2 q2

/-! ### a def that ends in tuple(list) -/
def spN (γ : Gm) (K : PySem.W.Frag) (n : Nat) (fm : FM) : Sp := fun vs H Q _ => ∃ ro F ds rd d rd', TabF γ.T F H ∧ Same F H ∧ RdOk ro rd F H ∧ ArgR K false ro F ds vs ∧ ds.length = n ∧ fm ds rd = some (d, rd') ∧
  ∀ v F' H', Stp γ.T ro F H F' H' → RdOk ro rd' F' H' → Rp K F' d v → NoDc v H' → Q v H'
theorem spN_of {γ : Gm} {K : PySem.W.Frag} {n : Nat} {fm : FM} {vs : List V} {H : Hp} {Q : VK} {E : XK} (h : spM γ K false n fm vs H Q E) : spN γ K n fm vs H Q E := by
  obtain ⟨ro, F, ds, rd, d, rd', h1, h2, h3, h4, h5, h6, q⟩ := h
  exact ⟨ro, F, ds, rd, d, rd', h1, h2, h3, h4, h5, h6, fun v F' H' a r p _ => q v F' H' a r p⟩
def opTupL : D → Option D
  | .lst ds => some (.tup ds)
  | _ => none
end
section
variable {P : Program} {w : World} {K : PySem.W.Frag} {mg : Str → Option Value} {base : Heap}
theorem fnn_of (hlam : γ.lam = none) {x qual : Str} {st : Stmt} {f : Addr} {fd : FuncData} {N ps : List Str} {k n : Nat} {a : MM (List D)} (G : Fun K x qual st f fd) (S : FnScope N ps (defScope st)) (hn : ps.length = n)
    (hbody : ∀ (cdv : Value) (A : Around) (outer : List Env) (s : Shared) (H : Hp) (E : XK), Room k (A.deeper (envOfC qual (defScope st) s.heap.objs.size f cdv)) → (g = true → A.guards = some []) →
      PSs (cxOf (L2.CX P w) P w K mg base N qual (defScope st) f cdv A outer s H E).nox (defBody st) (tRet (tCB (rTupF K) (tMA γ K a)))) :
    FnM g P w K mg base (k + 1) f fd ps (spN γ K n (mFn n false (N.length - ps.length) (sRet (eCall (op1 opTupL) a)))) := by
  have arity : ∀ vs H Q E, spN γ K n (mFn n false (N.length - ps.length) (sRet (eCall (op1 opTupL) a))) vs H Q E → vs.length = ps.length := by
    rintro vs H Q E ⟨ro, F, ds, rd, d, rd', _, _, _, hA, hl, _, _⟩
    rw [hn, arity_of hA hl]
    rfl
  refine fnm_gen G S arity fun cdv A outer s H vs Q E hr hguard hsp => ⟨_, (hbody cdv A outer s H E hr hguard).nox, ?_⟩
  have count := arity _ _ _ _ hsp
  obtain ⟨ro, F, ds, rd, d, rd', htab, sf, hro, hA, hl, hm, q⟩ := hsp
  unfold mFn at hm
  rw [if_pos hl] at hm
  obtain ⟨⟨fl, rdf⟩, hm, hf⟩ := Option.bind_eq_some_iff.mp hm
  obtain ⟨d1, rd1, m1, hm⟩ := bind1_some hm
  cases hm
  cases hf
  obtain ⟨as, rd2, m2, hm⟩ := bind1_some m1
  obtain ⟨m3, e3⟩ := lift_some hm
  subst e3
  obtain ⟨d0, rfl, m3⟩ := op1_some m3
  cases d0 with
  | lst es =>
    cases m3
    refine ⟨ro, F, H, F, _, rd, _, _, ⟨Stp.refl sf, hro, env_start hA (by rw [count]), ⟨htab, LamOk.off hlam⟩⟩, m2, fun vs2 F1 H1 a1 r1 p1 => ?_⟩
    simp only [Rps, Rp] at p1
    obtain ⟨v, r', rfl, ⟨b, ws, rfl, tb, rb⟩, rfl⟩ := p1
    refine ⟨b, ws, rfl, sqL_of (a1.fh _ _ tb), fun l o hl ho hd => ?_⟩
    obtain ⟨q1, q2⟩ := new_tupF (o := o) a1.fh hl rb
    exact q _ _ _ (a1.trans q1.stp) (r1.alc q1) q2 ⟨l, o, ws, rfl, upd_same, ho, hd⟩
  | _ => cases m3
end
section
variable {X : Cx} {j k n : Nat} {ps : List Str} {x : Str} {p pos apos cpos : Pos} {e z : Expr} {es : List Expr} {fm : FM}
theorem pm_index {ma : MM (List D)} {mz : MM D} (G : Ok g X.prog X.w X.K X.mg X.base x k ps (spN γ X.K n fm)) (hr : Room j X.A) (hgd : g = true → X.A.guards = some []) (hk : k ≤ j) (hg : Gl X x) (ha : PMA γ X (e :: es) ma) (hz : PM γ X z mz)
    (hdb : (x == ("__debug__" : Str)) = false := by decide) (he : starEach (e :: es) X.env = (false, eval e X.env) :: starEach es X.env := by rfl) (hpl : (backTo pos (starEach es X.env)).any (·.1) = false := by rfl)
    (hbase : attributeBase (.Call (.Name x p) (e :: es) [] pos) "index" X.env (eval (.Call (.Name x p) (e :: es) [] pos) X.env) = eval (.Call (.Name x p) (e :: es) [] pos) X.env := by rfl)
    (hfew : ((backTo cpos (starEach [z] X.env)).all (fun x => !x.1) && (backToKw cpos (keywordEach [] X.env)).all (fun x => x.1.isSome) && decide ([z].length + ([] : List Keyword).length + (if ([] : List Keyword).isEmpty then 0 else 1) < 30)) = true := by rfl)
    (hline : (apos.endLine == cpos.line) = true := by rfl) (hs : starEach [z] X.env = (false, eval z X.env) :: starEach [] X.env := by rfl) (hplain : (backTo cpos (starEach [] X.env)).any (·.1) = false := by rfl) :
    PM γ X (.Call (.Attribute (.Call (.Name x p) (e :: es) [] pos) "index" apos) [z] [] cpos) (eOp opIndex (eFn fm n ma) mz) := by
  obtain ⟨f, fd, G, g, kp, b⟩ := G
  refine pe_imp (pe_mN PySem.F.slot_tuple_index PySem.F.type_tuple_index mt_tup_index (pe_callM G (hr.mono hk) hgd hg g kp b ha hdb he hpl) (pa_cons hz pa_nil hs) hbase hfew hline hs hplain) fun σ H Q h => ?_
  obtain ⟨ro, F0, H0, F, env, rd, r, rd', hS, hm, q⟩ := h
  obtain ⟨d, rd1, m1, hm⟩ := bind1_some hm
  obtain ⟨u, rd2, m2, hm⟩ := bind1_some hm
  obtain ⟨m3, e3⟩ := lift_some hm
  subst e3
  obtain ⟨ds, rd3, m4, m1⟩ := bind1_some m1
  simp only [Option.ite_none_right_eq_some] at m1
  obtain ⟨hl, m1⟩ := m1
  refine ⟨ro, F0, H0, F, env, rd, ds, rd3, hS, m4, fun vs F1 H1 a1 r1 p1 => ?_⟩
  show spN γ X.K n fm (vs ++ []) H1 _ L2.E0
  rw [List.append_nil]
  refine ⟨ro, F1, ds, rd3, d, rd1, (hS.step a1 r1).tab.tf, a1.fh, r1, p1, hl, m1, fun v F2 H2 a2 r2 p2 nd => ⟨nd, ?_⟩⟩
  refine ⟨ro, F0, H0, F2, env, rd1, u, _, hS.step (a1.trans a2) r2, m2, fun y F3 H3 a3 r3 p3 => ?_⟩
  cases d with
  | tup es' => cases u with
    | str s =>
      simp only [opIndex] at m3
      obtain ⟨ys, y1, m3⟩ := Option.bind_eq_some_iff.mp m3
      obtain ⟨i, i1, rfl⟩ := Option.map_eq_some_iff.mp m3
      obtain rfl := strsOf_some y1
      obtain ⟨i2, i3⟩ := strIx_some i1
      simp only [Rp] at p2 p3
      obtain ⟨b', ws, rfl, t2, rb⟩ := p2
      obtain rfl := Rps.strs rb
      subst p3
      exact ⟨b', ys, s, i, rfl, rfl, sqT_mono (a3.ff.trans a3.fh) t2, i2, i3, q _ F3 H3 ((a1.trans a2).trans a3) r3 rp_int⟩
    | _ => simp [opIndex] at m3
  | _ => simp [opIndex] at m3
end
/-! ### [list(script[:63]), 0, 0, 0] -/
theorem reading_readerL {K : PySem.W.Frag} {H : Hp} {vs : List V} {Q : VK} {E : XK} {N : List Str} {D : Ends} (h : spReader K vs H Q E) (hD : D.rt = Q) :
    tRet (tLst (tCons (tCB (fun xs H Q => ∃ p ys, xs = [.ref p] ∧ (SqL K H p ys ∨ SqT K H p ys) ∧ ∀ l, H l = none → Q (.ref l) (upd H l (.lst ys))) (tCons (tSl (rSlL K) (tVar 0) tNoPart (tPart (tC (.int 63)))) tNil)) (tCons (tC (.int 0)) (tCons (tC (.int 0)) (tCons (tC (.int 0)) tNil))))) D (L2.start N vs) H := by
  obtain ⟨a, ns, rfl, hS, hl, q⟩ := h
  refine ⟨.ref a, rfl, 63, rfl, a, _, rfl, hS, fun c0 hc0 => ?_⟩
  refine ⟨c0, _, rfl, .inl (sqL_of upd_same), fun c hc => ?_⟩
  refine ⟨(by decide : (4 : Nat) ≤ sizeLine), fun r hr => ?_⟩
  rw [hD]
  have hrc : r ≠ c := fun z => by
    subst z
    rw [upd_same] at hr
    cases hr
  refine q r c _ (((same_new hc0).trans (same_new hc)).trans (same_new hr)) hrc upd_same ?_
  rw [upd_ne (Ne.symm hrc), upd_same, cut63 hl]
end FW

set_option Elab.async false
set_option linter.all false
set_option maxRecDepth 100000
set_option maxHeartbeats 1000000
/-! FZ7: who takes what is raised; a tuple whose last part may raise; a def that makes lambdas, a def that gets one. -/
namespace FW
open PySem PySem.Spec PyProof.Rows L2
variable {γ : Gm} {W : WX} {g : Bool}
theorem tk0 {X : Cx} : Takes X (fun _ _ _ _ => False) := fun _ _ x => by
  obtain ⟨_, _, _, _, _, _, _, _, _, _, _, _, _, _, _, _, z⟩ := x
  exact z.elim
theorem tkC {P : Program} {w : World} {K : PySem.W.Frag} {mg : Str → Option Value} {base : Heap} {N : List Str} {qual : Str} {sc : Scope} {f : Addr} {cdv : Value} {A : Around} {outer : List Env} {s : Shared} {H : Hp} {E : XK} :
    Takes (cxOf (L2.CX P w) P w K mg base N qual sc f cdv A outer s H E) (fun cls d _ H => E cls d H) := takes_of rfl rfl rfl rfl
theorem tkL {X : Cx} {A : Around} {outer : List Env} {s : Shared} {H : Hp} {E : XK} {scope : Scope} {f c' : Addr} : Takes (LamX.lamCx X A outer s H E scope f c') (fun cls d _ H => E cls d H) := takes_of rfl rfl rfl rfl
section
variable {X : Cx}
/-- (e, f): f may raise -/
def xTup2 (m : MM D) (n : MX) : MX := fun env rd => (m env rd).bind fun q => (n env q.2).map fun r => (match r.1 with
  | .ok d => .ok (.tup [q.1, d])
  | .exc c fs => .exc c fs, r.2)
theorem pmx_tup2 {e f : Expr} {k : Nat} {pos : Pos} {m : MM D} {n : MX} (he : PM γ X e m) (hf : PMX γ W X f n) (h1 : starEach [e, f] X.env = (false, eval e X.env) :: starEach [f] X.env := by rfl) (h2 : starEach [f] X.env = (false, eval f X.env) :: starEach [] X.env := by rfl) :
    PMX γ W X (.Tuple [e, f] k pos) (xTup2 m n) := pe_imp (pe_tup (pa_cons he (pa_cons hf pa_nil h2) h1)) fun σ H Q ⟨ro, F0, H0, F, env, rd, r, rd', hS, hm, q⟩ => by
  unfold xTup2 at hm
  obtain ⟨⟨d, rd1⟩, m1, hm⟩ := Option.bind_eq_some_iff.mp hm
  obtain ⟨⟨r2, rd2⟩, m2, hm⟩ := Option.map_eq_some_iff.mp hm
  refine ⟨ro, F0, H0, F, env, rd, d, rd1, hS, m1, fun v F1 H1 a1 r1 p1 => ?_⟩
  refine ⟨ro, F0, H0, F1, env, rd1, r2, rd2, hS.step a1 r1, m2, ?_⟩
  cases r2 with
  | ok u =>
    cases hm
    intro y F2 H2 a2 r2 p2
    refine ⟨(by decide : (2 : Nat) ≤ sizeLine), fun x hx => ?_⟩
    obtain ⟨q1, q2⟩ := new_tup a2.fh hx (Rps.cons (Rp.mono a2.ff d v p1) (Rps.cons p2 Rps.nil))
    exact q _ _ _ ((a1.trans a2).trans q1.stp) (r2.alc q1) q2
  | exc c fs =>
    cases hm
    exact fun F2 H2 cls dd a2 r2 x2 => q F2 H2 cls dd (a1.trans a2) r2 x2
end
section
variable {P : Program} {w : World} {K : PySem.W.Frag} {mg : Str → Option Value} {base : Heap}
/-- fnm_of, the def's code told -/
theorem fnm_ofC (hlam : γ.lam = none) {x qual : Str} {st : Stmt} {f : Addr} {fd : FuncData} {N ps : List Str} {k n : Nat} {hasR : Bool} {m : MM Fl} (G : Fun K x qual st f fd) (S : FnScope N ps (defScope st)) (hn : ps.length = (if hasR = true then n + 1 else n))
    (hbody : ∀ (cdv : Value) (A : Around) (outer : List Env) (s : Shared) (H : Hp) (E : XK), fd.code = cdv → Room k (A.deeper (envOfC qual (defScope st) s.heap.objs.size f cdv)) → (g = true → A.guards = some []) →
      PMSs γ (fun _ _ _ _ => False) (cxOf (L2.CX P w) P w K mg base N qual (defScope st) f cdv A outer s H E).nox (defBody st) m) :
    FnM g P w K mg base (k + 1) f fd ps (spM γ K hasR n (mFn n hasR (N.length - ps.length) m)) := by
  have arity : ∀ vs H Q E, spM γ K hasR n (mFn n hasR (N.length - ps.length) m) vs H Q E → vs.length = ps.length := by
    rintro vs H Q E ⟨ro, F, ds, rd, d, rd', _, _, _, hA, hl, _, _⟩
    rw [hn, arity_of hA hl]
  have ex0 := G.ex
  obtain ⟨oc, od, kV, doc, pm, an, cdv0, ct, osl, e0, lk0, hcd0⟩ := ex0
  -- the def's own code alone
  refine ⟨arity, ?_⟩
  intro A outer s H args us vs Q E hroom hguard env0 bind vals hsp
  have one : ∀ (cdv : Value), fd.code = cdv → ∀ (A : Around) (outer : List Env) (s : Shared) (H : Hp) (E : XK), Room k (A.deeper (envOfC qual (defScope st) s.heap.objs.size f cdv)) → (g = true → A.guards = some []) →
      PMSs γ (fun _ _ _ _ => False) (cxOf (L2.CX P w) P w K mg base N qual (defScope st) f cdv A outer s H E).nox (defBody st) m := fun cdv h A outer s H E => hbody cdv A outer s H E h
  have count := arity _ _ _ _ hsp
  have inK : K.In s.heap := env0.mod.kin.keeps fun b o e => (env0.bs b o e).1
  have kinds : ∀ y ∈ ps.zip us, (defScope st).names.lookup y.1 = some .local ∨ ((defScope st).names.lookup y.1 = some .cell ∧ ((cellsFrom (s.heap.objs.size + 1) (defScope st).names []).lookup y.1).isSome = true) := by
    rintro ⟨a, b⟩ hy
    cases S.par a (List.of_mem_zip hy).1 with
    | inl q => exact .inl q
    | inr q => exact .inr ⟨q, PySem.W.cellsFrom_some _ _ _ (.inl q)⟩
  subst e0
  refine codeAny_call_function hroom.depth (inK _ _ lk0) rfl S.co S.gen rfl (PySem.W.codeRec_of inK hcd0) ?_
  refine bind _ _ _ _ ?_
  refine wpAny_newFunctionEnv_cells S.kind kinds ?_
  intro env henv s1 entered
  subst henv
  refine ⟨(env0.mod.nolimit.keeps fun b o e => (env0.bs b o e).1).keeps entered.toInCall.keep, codeAny_func ?_⟩
  have body := (one cdv0 rfl A outer s H E (hroom.deeper _) hguard).nox
  obtain ⟨ro, F, ds, rd, d, rd', htab, sf, hro, hA, hl, hm, q⟩ := hsp
  unfold mFn at hm
  rw [if_pos hl] at hm
  obtain ⟨⟨fl, rdf⟩, hm, hf⟩ := Option.bind_eq_some_iff.mp hm
  have hq : tMS γ (fun _ _ _ _ => False) K m { nx := fun _ H' => Q .non H', rt := Q } (L2.start N vs) H := by
    refine ⟨ro, F, H, F, _, rd, fl, rdf, ⟨Stp.refl sf, hro, env_start hA (by rw [count]), ⟨htab, LamOk.off hlam⟩⟩, hm, ?_⟩
    cases fl with
    | nx env =>
      cases hf
      exact fun σ F' H' hS => q .non F' H' hS.st hS.rd rp_non
    | ret z =>
      cases hf
      exact fun v F' H' a r p => q v F' H' a r p
    | own es =>
      cases hf
      exact fun p vs F' H' a r h1 h2 h3 h4 => by
        obtain ⟨a2, p2⟩ := frz_new a h1 h2 h3 h4 r
        exact q _ _ H' a2 (r.alcF a2 h2 fun c z => by
          subst z
          have := hro.2.1
          rw [h1] at this
          cases this) p2
    | brk env => cases hf
    | ct env => cases hf
    | exc env c fs => cases hf
  have I : Inv (cxOf (L2.CX P w) P w K mg base N qual (defScope st) f cdv0 A outer s H E) [] (L2.start N vs) H s1 := inv_start S hroom.hd env0 count vals entered
  refine wpAny_mono (body.run [] s1 (L2.start N vs) H _ I hq) (fun out s' hs => ?_) (fun e s' hs => hs)
  have close : ∀ {σ' : L2.St} {H' : Hp} {v : V} {u : Value}, Inv (cxOf (L2.CX P w) P w K mg base N qual (defScope st) f cdv0 A outer s H E) [] σ' H' s' → RelV v u → Q v H' → CE outer P w H s Q u s' :=
    fun J rv qv => ⟨_, _, J.os, J.bare, J.base, J.hok, rv, qv⟩
  cases out with
  | ret u =>
    obtain ⟨v, σ', H', J, rv, qv⟩ := hs
    exact close J rv qv
  | next =>
    obtain ⟨σ', H', J, qv⟩ := hs
    exact close (v := V.non) (u := Value.none) J rfl qv
  | brk =>
    obtain ⟨_, _, _, no⟩ := hs
    exact no.elim
  | cont =>
    obtain ⟨_, _, _, no⟩ := hs
    exact no.elim
end
/-- a def that gets a lambda: what its body makes of the lambda's answer -/
def LamBody (γ : Gm) (P : Program) (w : World) (K : PySem.W.Frag) (mg : Str → Option Value) (base : Heap) (x : Str) (st : Stmt) (N : List Str) (a : Str) (k : Nat) (bo : (Rdr → Option (Res × Rdr)) → MM Fl) : Prop :=
  ∀ (fg : Addr) (cdv : Value) (A : Around) (outer : List Env) (s : Shared) (H : Hp) (l : Addr × Option (Addr × Addr) × Hp × Hp) (mxc : Rdr → Option (Res × Rdr)), Room k (A.deeper (envOfC x (defScope st) s.heap.objs.size fg cdv)) →
    (∀ (W' : WX) (pn : List (Addr × Obj)) (xe : Value → Shared → Prop) (p1 p2 : Pos), Takes ((cxOf (L2.CX P w) P w K mg base N x (defScope st) fg cdv A outer s H L2.E0).tr pn xe) W' →
      PMX (γ.lm l) W' ((cxOf (L2.CX P w) P w K mg base N x (defScope st) fg cdv A outer s H L2.E0).tr pn xe) (.Call (.Name a p1) [] [] p2) (xAct mxc)) →
    PMSs (γ.lm l) (fun _ _ _ _ => False) (cxOf (L2.CX P w) P w K mg base N x (defScope st) fg cdv A outer s H L2.E0).nox (defBody st) (bo mxc)
section
variable {X : Cx} {j k : Nat} {x a : Str} {fg c Pt : Addr} {fdg : FuncData} {st : Stmt} {Ng : List Str} {params : Arguments} {body : Expr} {scope : Scope} {mx : MX} {bo : (Rdr → Option (Res × Rdr)) → MM Fl} {p lpos pos : Pos}
theorem pm_lamO (hex : γ.exn = none) (G : Fun X.K x x st fg fdg) (hm : X.mg x = some (.ref fg)) (hb : L2.Binds X.K fdg [a] []) (Sg : FnScope Ng [a] (defScope st)) (B : LamBody γ X.prog X.w X.K X.mg X.base x st Ng a (k + 1) bo)
    (hg : Gl X x) (hNg : Ng[0]? = some a) (hva : Vis (defScope st) a) (TB : LamX.TabB X.base X.mg c Pt) (hcode : X.env.code = .ref c) (hmT : (Pt, lamQ X) ∈ γ.T) (hu : ∀ p ∈ γ.T, p.1 = Pt → p.2 = lamQ X) (hr : Room j X.A) (hj : k + 2 ≤ j)
    (L : LamX.LamS X.env.scope scope) (hdef : defaultsOf params X.env = ([], []))
    (hbind : ∀ (q : Str) (cl : List (Str × Addr)) (pm cv ctv : Value), bindArgs (PySem.W.kla_fn "<lambda>" q params body scope cl pm cv ctv) ⟨[], []⟩ = pure [])
    (hbody : ∀ (A : Around) (outer : List Env) (s : Shared) (H : Hp) (E : XK) (f c' : Addr), Room k (A.deeper (LamX.lamEnv X scope s.heap.objs.size f c')) → PMX γ (fun cls d _ H => E cls d H) (LamX.lamCx X A outer s H E scope f c') body mx)
    (hdb : (x == ("__debug__" : Str)) = false := by decide) (hd : (a == ("__debug__" : Str)) = false := by decide) (hcd : (a == ("__classdict__" : Str)) = false := by decide) :
    PM γ X (.Call (.Name x p) [.Lambda params body scope lpos] [] pos) (eLam mx bo (Ng.length - 1)) := by
  obtain ⟨oc, od, kV, doc, pm, an, cdv, ct, osl, rfl, lk, hcd⟩ := G.ex
  exact pm_lam hex hg hm G.kp lk hcd hb Sg hNg hva TB hcode hmT hu hr hj L hdef hbind hbody (fun s H l mxc hr' act => B fg cdv X.A X.stack s H l mxc hr' act) hdb hd (by assumption)
end
section
variable {X : Cx}
/-- a, b, c = x, y, z by names that are no cells -/
theorem pms_par3 {i j l : Nat} {x y z : Str} {a b c : Expr} {p1 p2 p3 tpos tp2 pos : Pos} {k1 k2 : Nat} {m : MM (List SV)} (hc : X.calm = true) (hN : X.N.Nodup) (hi : X.N[i]? = some x) (hj : X.N[j]? = some y) (hl : X.N[l]? = some z) (hij : i ≠ j) (hil : i ≠ l) (hjl : j ≠ l)
    (hx : X.env.scope.names.lookup x = some .local) (hy : X.env.scope.names.lookup y = some .local) (hz : X.env.scope.names.lookup z = some .local) (ha : PMV γ X [a, b, c] m)
    (hw : swappedStores [.Tuple [.Name x p1, .Name y p2, .Name z p3] k1 tpos] (.Tuple [a, b, c] k2 tp2) X.env = pure (some [x, y, z]))
    (hs : swapsWithSole [.Tuple [.Name x p1, .Name y p2, .Name z p3] k1 tpos] (.Tuple [a, b, c] k2 tp2) pos.line X.env = pure false := by rfl) :
    PMS γ W X (.Assign [.Tuple [.Name x p1, .Name y p2, .Name z p3] k1 tpos] (.Tuple [a, b, c] k2 tp2) pos) (sTup [i, j, l] m) := ps_imp (ps_par3 hc hN hi hj hl hij hil hjl hx hy hz ha hw hs) fun D σ H q => tMV_mono (fun vs H1 q => by
  obtain ⟨hl, g, _⟩ := q
  match vs, hl, g with
  | [v, w, u], _, g =>
    obtain ⟨v', r, e1, g⟩ := g
    cases e1
    obtain ⟨w', r', e2, g⟩ := g
    cases e2
    obtain ⟨u', r2, e3, g⟩ := g
    cases e3
    exact ⟨v, w, u, rfl, g.2⟩) (sTup_run q)
end
end FW

set_option Elab.async false
set_option linter.all false
set_option maxRecDepth 100000
set_option maxHeartbeats 1000000
/-! FZ8: the facts of the written part: classes of errors, calls by keywords, the table of a def that makes lambdas. -/
namespace FW
open PySem PySem.Spec PyProof.Rows L2
variable {γ : Gm} {K : PySem.W.Frag} {h : Heap} {mg : Str → Option Value}
/-- the classes whose exceptions may reach a suite -/
def ExAll (mg : Str → Option Value) (K : PySem.W.Frag) (cs : List Str) : Prop := ∀ c ∈ cs, ∃ C, mg c = some (.ref C) ∧ ExcF K C
theorem ExAll.nil : ExAll mg K [] := fun _ h => by cases h
theorem ExAll.cons {c : Str} {cs : List Str} {C : Addr} (a : mg c = some (.ref C)) (e : ExcF K C) (t : ExAll mg K cs) : ExAll mg K (c :: cs) := fun x hx => by
  rcases List.mem_cons.mp hx with rfl | hx
  · exact ⟨C, a, e⟩
  · exact t x hx
def KitR (mg : Str → Option Value) (K : PySem.W.Frag) (cv : Value) (l : List (Str × Bool)) : Prop := ∀ p ∈ l, ∃ C, mg p.1 = some (.ref C) ∧ PySem.W.kitOne K (.ref C) cv = some p.2
theorem KitR.nil {cv : Value} : KitR mg K cv [] := fun _ h => by cases h
theorem KitR.cons {cv : Value} {c : Str} {b : Bool} {l : List (Str × Bool)} {C : Addr} (a : mg c = some (.ref C)) (k : PySem.W.kitOne K (.ref C) cv = some b) (t : KitR mg K cv l) : KitR mg K cv ((c, b) :: l) := fun x hx => by
  rcases List.mem_cons.mp hx with rfl | hx
  · exact ⟨C, a, k⟩
  · exact t x hx
def KitRA (mg : Str → Option Value) (K : PySem.W.Frag) (cvs : List Value) (l : List (Str × Bool)) : Prop := ∀ p ∈ l, ∃ C, mg p.1 = some (.ref C) ∧ PySem.W.kitAny K (.ref C) cvs = some p.2
theorem KitRA.nil {cvs : List Value} : KitRA mg K cvs [] := fun _ h => by cases h
theorem KitRA.cons {cvs : List Value} {c : Str} {b : Bool} {l : List (Str × Bool)} {C : Addr} (a : mg c = some (.ref C)) (k : PySem.W.kitAny K (.ref C) cvs = some b) (t : KitRA mg K cvs l) : KitRA mg K cvs ((c, b) :: l) := fun x hx => by
  rcases List.mem_cons.mp hx with rfl | hx
  · exact ⟨C, a, k⟩
  · exact t x hx
def ExmR (mg : Str → Option Value) (K : PySem.W.Frag) (ch : Value) (l : List (Str × Bool)) : Prop := ∀ p ∈ l, ∃ C, mg p.1 = some (.ref C) ∧ PySem.W.exmOne K (.ref C) ch = some p.2
theorem ExmR.nil {ch : Value} : ExmR mg K ch [] := fun _ h => by cases h
theorem ExmR.cons {ch : Value} {c : Str} {b : Bool} {l : List (Str × Bool)} {C : Addr} (a : mg c = some (.ref C)) (k : PySem.W.exmOne K (.ref C) ch = some b) (t : ExmR mg K ch l) : ExmR mg K ch ((c, b) :: l) := fun x hx => by
  rcases List.mem_cons.mp hx with rfl | hx
  · exact ⟨C, a, k⟩
  · exact t x hx
def FldR (mg : Str → Option Value) (K : PySem.W.Frag) (n : Str) (cs : List Str) : Prop := ∀ c ∈ cs, ∃ C, mg c = some (.ref C) ∧ PySem.W.findIn K (.ref C) n = some none
theorem FldR.nil {n : Str} : FldR mg K n [] := fun _ h => by cases h
theorem FldR.cons {n c : Str} {l : List Str} {C : Addr} (a : mg c = some (.ref C)) (k : PySem.W.findIn K (.ref C) n = some none) (t : FldR mg K n l) : FldR mg K n (c :: l) := fun x hx => by
  rcases List.mem_cons.mp hx with rfl | hx
  · exact ⟨C, a, k⟩
  · exact t x hx
theorem same_ref {c : Str} {C D : Addr} (a : mg c = some (.ref C)) (b : mg c = some (.ref D)) : C = D := by
  rw [a] at b
  exact Value.ref.inj (Option.some.inj b)
theorem kitF_of {cv : Value} {l : List (Str × Bool)} {cs : List Str} (E : ExAll γ.mg K cs) (hl : l.map (·.1) = cs) (R : KitR γ.mg K cv l) : KitF γ K cv l := fun p hp => by
  obtain ⟨C, h1, h2⟩ := R p hp
  obtain ⟨D, d1, d2⟩ := E p.1 (by rw [← hl]; exact List.mem_map.mpr ⟨p, hp, rfl⟩)
  obtain rfl := same_ref h1 d1
  exact ⟨C, h1, d2, h2⟩
theorem kitA_of {cvs : List Value} {l : List (Str × Bool)} {cs : List Str} (E : ExAll γ.mg K cs) (hl : l.map (·.1) = cs) (R : KitRA γ.mg K cvs l) : KitA γ K cvs l := fun p hp => by
  obtain ⟨C, h1, h2⟩ := R p hp
  obtain ⟨D, d1, d2⟩ := E p.1 (by rw [← hl]; exact List.mem_map.mpr ⟨p, hp, rfl⟩)
  obtain rfl := same_ref h1 d1
  exact ⟨C, h1, d2, h2⟩
theorem fldF_of {n : Str} {l cs : List Str} (E : ExAll γ.mg K cs) (hl : ∀ c ∈ l, c ∈ cs) (R : FldR γ.mg K n l) : FldF γ K n l := fun c hc => by
  obtain ⟨C, h1, h2⟩ := R c hc
  obtain ⟨D, d1, d2⟩ := E c (hl c hc)
  obtain rfl := same_ref h1 d1
  exact ⟨C, h1, d2, h2⟩
/-- a class whose __init__ is written out -/
theorem mk_x {c q : Str} {ns : List Str} {st : Stmt} {C fI : Addr} {oc : Value} {od an : Option Addr} {sl : Array (Option Value)} {kV doc pm cdv ct : Value} (X : K.In h) (G : h.Ns mainGlobals mg)
    (a : PySem.W.nsIn K mainGlobals c = some (some (.ref C))) (O : OexC K C) (i : PySem.W.findIn K (.ref C) "__init__" = some (some (.ref fI))) (t : PySem.W.typeIn K (.ref fI) = some (.type "function"))
    (l : K.lookup fI = some ⟨oc, od, .func (PySem.W.fnOf "__init__" q (defArgs st) (defBody st) (defScope st) .none kV doc pm an cdv ct), sl⟩) (cd : PySem.W.codeIn K cdv q = true) (kp : PySem.W.keepIn K (.ref fI) = true)
    (hb : ∀ (kV doc pm : Value) (an : Option Addr) (cdv ct : Value) (us : List Value), us.length = ("self" :: ns : List Str).length → bindArgs (PySem.W.fnOf "__init__" q (defArgs st) (defBody st) (defScope st) .none kV doc pm an cdv ct) ⟨us, []⟩ = pure (("self" :: ns : List Str).zip us))
    (no : ∀ n ∈ ns, PySem.W.findIn K (.ref C) n = some none) :
    ∃ (C fI : Addr) (fd : FuncData), mg c = some (.ref C) ∧ OexC K C ∧ PySem.W.findIn K (.ref C) "__init__" = some (some (.ref fI)) ∧ PySem.W.typeIn K (.ref fI) = some (.type "function") ∧ Fun K "__init__" q st fI fd ∧ Binds K fd ("self" :: ns) [] ∧ ∀ n ∈ ns, PySem.W.findIn K (.ref C) n = some none := by
  have F := fun_mk (st := st) l cd kp
  exact ⟨C, fI, _, PySem.W.mg_of X G a, O, i, t, F, F.binds hb, no⟩
theorem all1 {p : Str → Prop} {a : Str} (h : p a) : ∀ n ∈ [a], p n := fun n hn => by
  rw [List.mem_singleton.mp hn]
  exact h
theorem all2 {p : Str → Prop} {a b : Str} (h : p a) (k : p b) : ∀ n ∈ [a, b], p n := fun n hn => by
  rcases List.mem_cons.mp hn with rfl | hn
  · exact h
  · rw [List.mem_singleton.mp hn]
    exact k
/-- a def that is called by keywords, too -/
theorem mk_fk {x : Str} {st : Stmt} {ps ks : List Str} {is : List Nat} {f : Addr} {oc : Value} {od an : Option Addr} {sl : Array (Option Value)} {kV doc pm cdv ct : Value} (X : K.In h) (G : h.Ns mainGlobals mg)
    (a : PySem.W.nsIn K mainGlobals x = some (some (.ref f))) (l : K.lookup f = some ⟨oc, od, .func (PySem.W.fnOf x x (defArgs st) (defBody st) (defScope st) .none kV doc pm an cdv ct), sl⟩) (c : PySem.W.codeIn K cdv x = true) (k : PySem.W.keepIn K (.ref f) = true)
    (hb : ∀ (kV doc pm : Value) (an : Option Addr) (cdv ct : Value) (us : List Value), us.length = ps.length → bindArgs (PySem.W.fnOf x x (defArgs st) (defBody st) (defScope st) .none kV doc pm an cdv ct) ⟨us, []⟩ = pure (ps.zip us))
    (hk : ∀ (kV doc pm : Value) (an : Option Addr) (cdv ct : Value) (ws : List Value), ws.length = ks.length → bindArgs (PySem.W.fnOf x x (defArgs st) (defBody st) (defScope st) .none kV doc pm an cdv ct) ⟨[], ks.zip ws⟩ = pure (ps.zip (pick Value.none is ws))) :
    ∃ (f : Addr) (fd : FuncData), Fun K x x st f fd ∧ mg x = some (.ref f) ∧ Binds K fd ps [] ∧ KwB fd ps ks is := by
  have F := fun_mk (st := st) l c k
  exact ⟨f, _, F, PySem.W.mg_of X G a, F.binds hb, fun s ws hl => .of_eq (hk kV doc pm an cdv ct ws hl)⟩
/-- the code of a def with a table -/
theorem code_of {x : Str} {st : Stmt} {c P : Addr} (X : K.In h) (G : h.Ns mainGlobals mg) (t : PySem.W.tabIn K x = some (c, P)) : ∀ (f : Addr) (fd : FuncData), Fun K x x st f fd → mg x = some (.ref f) → fd.code = .ref c := by
  intro f fd F hm
  unfold PySem.W.tabIn at t
  split at t
  · rename_i f0 e0
    have e1 := PySem.W.mg_of X G e0
    obtain rfl := same_ref e1 hm
    obtain ⟨oc, od, kV, doc, pm, an, cdv, ct, osl, e2, lk, hcd⟩ := F.ex
    rw [lk] at t
    simp only at t
    split at t
    · rename_i c0 e3
      split at t
      · split at t
        · cases t
          exact e3
        · cases t
      · cases t
    · cases t
  · cases t
theorem mk_i {D : Str} {l : List (Str × Bool)} {C : Addr} (a : mg D = some (.ref C)) (r : KitR mg K (.ref C) l) : ∃ C : Addr, mg D = some (.ref C) ∧ KitR mg K (.ref C) l := ⟨C, a, r⟩
theorem mk_t {D : Str} {l : List (Str × Bool)} {C : Addr} (a : mg D = some (.ref C)) (r : ExmR mg K (.ref C) l) : ∃ C : Addr, mg D = some (.ref C) ∧ ExmR mg K (.ref C) l := ⟨C, a, r⟩
theorem mk_a2 {D E : Str} {l : List (Str × Bool)} {C1 C2 : Addr} (a : mg D = some (.ref C1)) (b : mg E = some (.ref C2)) (r : KitRA mg K [.ref C1, .ref C2] l) : ∃ C1 C2 : Addr, mg D = some (.ref C1) ∧ mg E = some (.ref C2) ∧ KitRA mg K [.ref C1, .ref C2] l := ⟨C1, C2, a, b, r⟩
theorem mk_a3 {D E F : Str} {l : List (Str × Bool)} {C1 C2 C3 : Addr} (a : mg D = some (.ref C1)) (b : mg E = some (.ref C2)) (c : mg F = some (.ref C3)) (r : KitRA mg K [.ref C1, .ref C2, .ref C3] l) :
    ∃ C1 C2 C3 : Addr, mg D = some (.ref C1) ∧ mg E = some (.ref C2) ∧ mg F = some (.ref C3) ∧ KitRA mg K [.ref C1, .ref C2, .ref C3] l := ⟨C1, C2, C3, a, b, c, r⟩
theorem mk_oex {C : Addr} {o : Obj} (l : K.lookup C = some o) (e : ∃ nm q N bs bm sn sub ab col dd k0 k1 k2 k3 k5, o = excClassObj nm q C N bs bm true sn sub ab col dd k0 k1 k2 k3 k5 "ValueError.__new__" ∧ PySem.HandSPX.refsVE bm = true)
    (sa : PySem.W.findIn K (.ref C) "__setattr__" = some (some (.builtin "object.__setattr__"))) (ex : PySem.W.subIn K (.ref C) (.type "BaseException") = some true) (ty : PySem.W.typeIn K (.ref C) = some (.type "type")) (kc : PySem.W.keepIn K (.ref C) = true) : OexC K C := by
  obtain ⟨_, _, _, _, _, _, _, _, _, _, _, _, _, _, _, rfl, rv⟩ := e
  exact ⟨⟨_, _, _, _, _, _, _, _, _, _, _, _, _, _, _, l, rv⟩, sa, ex, ty, kc⟩
theorem mk_exc {C : Addr} {cd : ClassData} (x : XfC K C) (c : PySem.W.clsIn K C = some cd) (ha : PySem.W.findIn K (.ref C) "__class__" = some (some (.builtin "object.__class__"))) (hn : PySem.W.specialIn K (.builtin "object.__class__") "__get__" = some (some (.builtin "getset_descriptor.__get__")))
    (ht : PySem.W.takesIn K (.builtin "object.__class__") = some true) (hm : PySem.W.mroIn K C (.type "object") = some true) : ExcF K C := ⟨x, by rw [c]; rfl, ha, hn, ht, hm⟩
theorem mk_exm {C D : Addr} {cd : ClassData} {b : Bool} (s : PySem.W.subIn K (.ref D) (.type "BaseException") = some true) (c : PySem.W.clsIn K D = some cd) (t : PySem.W.typeIn K (.ref D) = some (.type "type")) (k : PySem.W.subIn K (.ref C) (.ref D) = some b) : PySem.W.exmOne K (.ref C) (.ref D) = some b := by
  unfold PySem.W.exmOne
  rw [s, if_pos (by decide)]
  unfold PySem.W.kitCls
  simp only [c, t, k]
  rfl
theorem mk_tab {x : Str} {f c P : Addr} {fd : FuncData} {oc oc2 : Value} {od od2 : Option Addr} {sl sl2 : Array (Option Value)} {vs : Array Value} (a : PySem.W.nsIn K mainGlobals x = some (some (.ref f))) (l : K.lookup f = some ⟨oc, od, .func fd, sl⟩) (e : fd.code = .ref c)
    (l2 : K.lookup c = some ⟨oc2, od2, .fields vs, sl2⟩) (v : (vs[11]? : Option Value) = some (.ref P)) : PySem.W.tabIn K x = some (c, P) := by
  unfold PySem.W.tabIn
  rw [a]
  simp only [l, e, l2, v]
theorem cts_one {c P : Addr} {q : Str} {PR : Program} {x : Str} (t : PySem.W.tabIn K x = some (c, P)) (n : K.lookup P = none) (f : ∃ e, (recsOf PR).find? (fun e => e.name == x) = some e)
    (co : ∀ (y : Str) (c P : Addr), PySem.W.tabIn K y = some (c, P) → (∃ e, (recsOf PR).find? (fun e => e.name == y) = some e) → PySem.W.CodeHd h c P ∧ h.get? P = some (PySem.W.tabObj #[])) : CtsOk K h [(c, P, q)] := by
  obtain ⟨h1, h2⟩ := co x c P t f
  refine ⟨fun p hp => ?_, fun p hp => ?_, fun p hp => ?_⟩ <;> (cases List.mem_singleton.mp hp)
  · exact h1
  · exact h2
  · exact n
theorem cts_nil : CtsOk K h [] := ⟨(fun _ z => by cases z), (fun _ z => by cases z), (fun _ z => by cases z)⟩
end FW

set_option Elab.async false
set_option linter.all false
set_option maxRecDepth 100000
set_option maxHeartbeats 4000000
namespace My
open PySem PySem.Spec PyProof.Rows L2 FW
def topS (i : Nat) : Stmt := PySem.Challenge.pw_latecharge_k20_paid_sums_told.main.body.getD i (.Pass ⟨0, 0, 0, 0⟩)
def clsBody : Stmt → List Stmt
  | .ClassDef _ _ _ b _ _ _ _ _ _ _ => b
  | _ => []
def initS (i : Nat) : Stmt := (clsBody (topS i)).getD 0 (.Pass ⟨0, 0, 0, 0⟩)
abbrev gm (mg : Str → Option Value) (T : List (Addr × Str)) : Gm := ⟨mg, T, none, none⟩
theorem nog {p : Prop} : false = true → p := fun z => by cases z
theorem room65 {j : Nat} {A : Around} (hr : Room j A) : A.units + 65 < cLine := by have := room200 hr; omega
theorem memT {T : List (Addr × Str)} {P : Addr} {q q' : Str} (e : q' = q) (h : (P, q) ∈ T) : (P, q') ∈ T := e ▸ h
theorem oneT {T : List (Addr × Str)} {P : Addr} {q q' : Str} (e : q' = q) (h : ∀ p ∈ T, p.1 = P → p.2 = q) : ∀ p ∈ T, p.1 = P → p.2 = q' := e ▸ h
abbrev q__law_odd_right : Str := "_law_odd_right.<locals>.<lambda>"
structure Tx (K : PySem.W.Frag) (mg : Str → Option Value) : Prop where
  f__law_feed : ∃ (f : Addr) (fd : FuncData), Fun K "_law_feed" "_law_feed" (topS 29) f fd ∧ mg "_law_feed" = some (.ref f) ∧ Binds K fd ["_law_script"] []
  f__law_draw : ∃ (f : Addr) (fd : FuncData), Fun K "_law_draw" "_law_draw" (topS 30) f fd ∧ mg "_law_draw" = some (.ref f) ∧ Binds K fd ["_law_feed_here", "_law_limit"] []
  f__law_choice : ∃ (f : Addr) (fd : FuncData), Fun K "_law_choice" "_law_choice" (topS 31) f fd ∧ mg "_law_choice" = some (.ref f) ∧ Binds K fd ["_law_feed_here", "_law_some"] []
  f__law_purses : ∃ (f : Addr) (fd : FuncData), Fun K "_law_purses" "_law_purses" (topS 40) f fd ∧ mg "_law_purses" = some (.ref f) ∧ Binds K fd ["_law_feed_here"] []
  f__law_meet : ∃ (f : Addr) (fd : FuncData), Fun K "_law_meet" "_law_meet" (topS 35) f fd ∧ mg "_law_meet" = some (.ref f) ∧ Binds K fd ["_law_one_now", "_law_two"] []
  f__law_inside : ∃ (f : Addr) (fd : FuncData), Fun K "_law_inside" "_law_inside" (topS 34) f fd ∧ mg "_law_inside" = some (.ref f) ∧ Binds K fd ["_law_one_now", "_law_two"] []
  f__law_bounds : ∃ (f : Addr) (fd : FuncData), Fun K "_law_bounds" "_law_bounds" (topS 41) f fd ∧ mg "_law_bounds" = some (.ref f) ∧ Binds K fd ["_law_feed_here", "_law_folk"] []
  f__law_day_sort : ∃ (f : Addr) (fd : FuncData), Fun K "_law_day_sort" "_law_day_sort" (topS 42) f fd ∧ mg "_law_day_sort" = some (.ref f) ∧ Binds K fd ["_law_feed_here"] []
  f__law_may : ∃ (f : Addr) (fd : FuncData), Fun K "_law_may" "_law_may" (topS 32) f fd ∧ mg "_law_may" = some (.ref f) ∧ Binds K fd ["_law_purse_now", "_law_day", "_law_sort_now"] []
  f__law_has : ∃ (f : Addr) (fd : FuncData), Fun K "_law_has" "_law_has" (topS 33) f fd ∧ mg "_law_has" = some (.ref f) ∧ Binds K fd ["_law_bound", "_law_purse_now", "_law_day"] []
  f__law_spent : ∃ (f : Addr) (fd : FuncData), Fun K "_law_spent" "_law_spent" (topS 36) f fd ∧ mg "_law_spent" = some (.ref f) ∧ Binds K fd ["_law_folk", "_law_bound", "_law_day", "_law_shares_now"] []
  f__law_left : ∃ (f : Addr) (fd : FuncData), Fun K "_law_left" "_law_left" (topS 37) f fd ∧ mg "_law_left" = some (.ref f) ∧ Binds K fd ["_law_ledger", "_law_bound"] []
  f__law_book_now : ∃ (f : Addr) (fd : FuncData), Fun K "_law_book_now" "_law_book_now" (topS 43) f fd ∧ mg "_law_book_now" = some (.ref f) ∧ Binds K fd ["_law_feed_here"] []
  f__law_splits : ∃ (f : Addr) (fd : FuncData), Fun K "_law_splits" "_law_splits" (topS 39) f fd ∧ mg "_law_splits" = some (.ref f) ∧ Binds K fd ["_law_ledger", "_law_row"] []
  f__law_open : ∃ (f : Addr) (fd : FuncData), Fun K "_law_open" "_law_open" (topS 38) f fd ∧ mg "_law_open" = some (.ref f) ∧ Binds K fd ["_law_ledger"] []
  f_is_integer : ∃ (f : Addr) (fd : FuncData), Fun K "is_integer" "is_integer" (topS 12) f fd ∧ mg "is_integer" = some (.ref f) ∧ Binds K fd ["thing"] []
  f_is_number : ∃ (f : Addr) (fd : FuncData), Fun K "is_number" "is_number" (topS 13) f fd ∧ mg "is_number" = some (.ref f) ∧ Binds K fd ["thing"] []
  f_is_index : ∃ (f : Addr) (fd : FuncData), Fun K "is_index" "is_index" (topS 14) f fd ∧ mg "is_index" = some (.ref f) ∧ Binds K fd ["thing", "many"] []
  f_check_limit : ∃ (f : Addr) (fd : FuncData), Fun K "check_limit" "check_limit" (topS 22) f fd ∧ mg "check_limit" = some (.ref f) ∧ Binds K fd ["book", "k"] []
  f_has_slot : ∃ (f : Addr) (fd : FuncData), Fun K "has_slot" "has_slot" (topS 16) f fd ∧ mg "has_slot" = some (.ref f) ∧ Binds K fd ["limit", "purse", "day"] []
  f_paid_inside : ∃ (f : Addr) (fd : FuncData), Fun K "paid_inside" "paid_inside" (topS 17) f fd ∧ mg "paid_inside" = some (.ref f) ∧ Binds K fd ["limit", "purses", "payments"] []
  f_payments_of : ∃ (f : Addr) (fd : FuncData), Fun K "payments_of" "payments_of" (topS 20) f fd ∧ mg "payments_of" = some (.ref f) ∧ Binds K fd ["rows"] []
  f_open_rows : ∃ (f : Addr) (fd : FuncData), Fun K "open_rows" "open_rows" (topS 23) f fd ∧ mg "open_rows" = some (.ref f) ∧ Binds K fd ["book"] []
  f_payments_with : ∃ (f : Addr) (fd : FuncData), Fun K "payments_with" "payments_with" (topS 25) f fd ∧ mg "payments_with" = some (.ref f) ∧ Binds K fd ["book", "charging"] []
  f_paid_in : ∃ (f : Addr) (fd : FuncData), Fun K "paid_in" "paid_in" (topS 26) f fd ∧ mg "paid_in" = some (.ref f) ∧ Binds K fd ["book", "charging", "k"] [] ∧ KwB fd ["book", "charging", "k"] ["k", "charging", "book"] [2, 1, 0]
  f_names_of : ∃ (f : Addr) (fd : FuncData), Fun K "names_of" "names_of" (topS 19) f fd ∧ mg "names_of" = some (.ref f) ∧ Binds K fd ["purses"] []
  f_check_purse : ∃ (f : Addr) (fd : FuncData), Fun K "check_purse" "check_purse" (topS 21) f fd ∧ mg "check_purse" = some (.ref f) ∧ Binds K fd ["book", "purse"] []
  f_paid_from : ∃ (f : Addr) (fd : FuncData), Fun K "paid_from" "paid_from" (topS 27) f fd ∧ mg "paid_from" = some (.ref f) ∧ Binds K fd ["book", "charging", "purse"] [] ∧ KwB fd ["book", "charging", "purse"] ["purse", "charging", "book"] [2, 1, 0]
  f__law_sums_right : ∃ (f : Addr) (fd : FuncData), Fun K "_law_sums_right" "_law_sums_right" (topS 45) f fd ∧ mg "_law_sums_right" = some (.ref f) ∧ Binds K fd ["_law_ledger", "_law_rows_now"] []
  f__law_outcome : ∃ (f : Addr) (fd : FuncData), Fun K "_law_outcome" "_law_outcome" (topS 44) f fd ∧ mg "_law_outcome" = some (.ref f) ∧ Binds K fd ["_law_ask_now"] []
  f__law_odd_right : ∃ (f : Addr) (fd : FuncData), Fun K "_law_odd_right" "_law_odd_right" (topS 46) f fd ∧ mg "_law_odd_right" = some (.ref f) ∧ Binds K fd ["_law_ledger", "_law_rows_now"] []
  f_law : ∃ (f : Addr) (fd : FuncData), Fun K "law" "law" (topS 47) f fd ∧ mg "law" = some (.ref f) ∧ Binds K fd ["_law_script"] []
  x_NotUsable : ∃ (C fI : Addr) (fd : FuncData), mg "NotUsable" = some (.ref C) ∧ OexC K C ∧ PySem.W.findIn K (.ref C) "__init__" = some (some (.ref fI)) ∧ PySem.W.typeIn K (.ref fI) = some (.type "function") ∧ Fun K "__init__" "NotUsable.__init__" (initS 10) fI fd ∧ Binds K fd ["self", "word", "at"] [] ∧ ∀ n ∈ (["word", "at"] : List Str), PySem.W.findIn K (.ref C) n = some none
  x_UnknownPurse : ∃ (C fI : Addr) (fd : FuncData), mg "UnknownPurse" = some (.ref C) ∧ OexC K C ∧ PySem.W.findIn K (.ref C) "__init__" = some (some (.ref fI)) ∧ PySem.W.typeIn K (.ref fI) = some (.type "function") ∧ Fun K "__init__" "UnknownPurse.__init__" (initS 8) fI fd ∧ Binds K fd ["self", "purse"] [] ∧ ∀ n ∈ (["purse"] : List Str), PySem.W.findIn K (.ref C) n = some none
  ex : ExAll mg K ["NotUsable", "UnknownPurse"]
  i_InvalidPaper : ∃ C : Addr, mg "InvalidPaper" = some (.ref C) ∧ KitR mg K (.ref C) [("NotUsable", false), ("UnknownPurse", false)]
  i_NoCharging : ∃ C : Addr, mg "NoCharging" = some (.ref C) ∧ KitR mg K (.ref C) [("NotUsable", false), ("UnknownPurse", false)]
  i_NotUsable : ∃ C : Addr, mg "NotUsable" = some (.ref C) ∧ KitR mg K (.ref C) [("NotUsable", true), ("UnknownPurse", false)]
  i_UnknownPurse : ∃ C : Addr, mg "UnknownPurse" = some (.ref C) ∧ KitR mg K (.ref C) [("NotUsable", false), ("UnknownPurse", true)]
  i_PaperError : ∃ C : Addr, mg "PaperError" = some (.ref C) ∧ KitR mg K (.ref C) [("NotUsable", false), ("UnknownPurse", false)]
  i_BookError : ∃ C : Addr, mg "BookError" = some (.ref C) ∧ KitR mg K (.ref C) [("NotUsable", true), ("UnknownPurse", true)]
  b_ValueError : KitR mg K (.type "ValueError") [("NotUsable", true), ("UnknownPurse", true)]
  a_EventError_TextError_UnknownSponsor : ∃ C_EventError C_TextError C_UnknownSponsor : Addr, mg "EventError" = some (.ref C_EventError) ∧ mg "TextError" = some (.ref C_TextError) ∧ mg "UnknownSponsor" = some (.ref C_UnknownSponsor) ∧ KitRA mg K [Value.ref C_EventError, Value.ref C_TextError, Value.ref C_UnknownSponsor] [("NotUsable", false), ("UnknownPurse", false)]
  t_CardError : ∃ C : Addr, mg "CardError" = some (.ref C) ∧ ExmR mg K (.ref C) [("NotUsable", true), ("UnknownPurse", true)]
  q_word : FldR mg K "word" ["NotUsable"]
  q_at : FldR mg K "at" ["NotUsable"]
  q_lack : FldR mg K "lack" []
  q_purse : FldR mg K "purse" ["UnknownPurse"]
  z_ValueError : mg "ValueError" = none
  z_bool : mg "bool" = none
  z_enumerate : mg "enumerate" = none
  z_int : mg "int" = none
  z_isinstance : mg "isinstance" = none
  z_len : mg "len" = none
  z_list : mg "list" = none
  z_max : mg "max" = none
  z_min : mg "min" = none
  z_range : mg "range" = none
  z_repr : mg "repr" = none
  z_sum : mg "sum" = none
  z_tuple : mg "tuple" = none
  z_zip : mg "zip" = none
section
variable {P : Program} {w : World} {K : PySem.W.Frag} {mg : Str → Option Value} {base : Heap} {T : List (Addr × Str)} {c__law_odd_right P__law_odd_right : Addr}
theorem sc_init_NotUsable : FnScope ["self", "word", "at"] ["self", "word", "at"] (defScope (initS 10)) := ⟨rfl, rfl, rfl, by decide +kernel, rfl, by decide +kernel, by decide +kernel⟩
theorem x_NotUsable (Z : Tx K mg) : ClsX P w K mg base "NotUsable" 1 ["word", "at"] := by
  obtain ⟨C, fI, fd, m, O, iC, tI, F, b, no⟩ := Z.x_NotUsable
  refine ⟨C, fI, fd, m, O, iC, tI, F.okX sc_init_NotUsable (fun vs H Q E h => init_len h) fun cdv A outer s H vs Q E hr h => ?_, b, no⟩
  exact ⟨_, pss_cons (ps_ost (pv 0) (pv 1)) (pss_one (ps_ost (pv 0) (pv 2))), init_reading2 (by decide) h⟩
theorem sc_init_UnknownPurse : FnScope ["self", "purse"] ["self", "purse"] (defScope (initS 8)) := ⟨rfl, rfl, rfl, by decide +kernel, rfl, by decide +kernel, by decide +kernel⟩
theorem x_UnknownPurse (Z : Tx K mg) : ClsX P w K mg base "UnknownPurse" 1 ["purse"] := by
  obtain ⟨C, fI, fd, m, O, iC, tI, F, b, no⟩ := Z.x_UnknownPurse
  refine ⟨C, fI, fd, m, O, iC, tI, F.okX sc_init_UnknownPurse (fun vs H Q E h => init_len h) fun cdv A outer s H vs Q E hr h => ?_, b, no⟩
  exact ⟨_, pss_one (ps_ost (pv 0) (pv 1)), init_reading1 h⟩
abbrev n__law_feed : List Str := ["_law_script"]
theorem sc__law_feed : FnScope n__law_feed ["_law_script"] (defScope (topS 29)) := ⟨rfl, rfl, rfl, by decide +kernel, rfl, by decide +kernel, by decide +kernel⟩
theorem ok__law_feed (Z : Tx K mg) : Ok false P w K mg base "_law_feed" 1 ["_law_script"] (spReader K) := by
  obtain ⟨f, fd, F, g, b⟩ := Z.f__law_feed
  refine ⟨f, fd, FnM.of (F.okX sc__law_feed (fun vs H Q E h => ?_) fun cdv A outer s H vs Q E hr h => ?_), g, F.kp, b⟩
  · obtain ⟨a, ns, rfl, _⟩ := h
    rfl
  · exact ⟨_, pss_one (ps_ret (pe_lst (pa_cons (pe_callTy call_list_of (by rfl) Z.z_list (by decide +kernel) (pa_cons (pe_slice sl_list (pv 0) po_none (po_some pe_int)) pa_nil)) (pa_cons pe_int (pa_cons pe_int (pa_cons pe_int pa_nil)))))), reading_readerL h rfl⟩
abbrev n__law_draw : List Str := ["_law_feed_here", "_law_limit", "_law_digit_now", "_law_cell", "_law_mixed"]
theorem sc__law_draw : FnScope n__law_draw ["_law_feed_here", "_law_limit"] (defScope (topS 30)) := ⟨rfl, rfl, rfl, by decide +kernel, rfl, by decide +kernel, by decide +kernel⟩
def b__law_draw : MM Fl := (sSeq (sRd 0 3 (eOp opAdd (eRd 0 3) (eC (.int 1))))
  (sSeq (sIf (eT (eOp opGt (eRd 0 2) (eC (.int 0)))) (sSeq (sSet 2 (eOp opMod (eCall (op1 opInt) (aCons (eRd 0 2) aNil)) (eVar 1)))
  (sSeq (sRd 0 2 (eOp opDiv (eRd 0 2) (eVar 1)))
  (sRet (eVar 2)))) sNx)
  (sSeq (sSet 3 (eIf (eT (eOp opNe (eRd 0 0) (eLst aNil))) (eOp opIx (eRd 0 0) (eOp opMod (eCall (op1 opInt) (aCons (eRd 0 1) aNil)) (eCall (op1 opLen) (aCons (eRd 0 0) aNil)))) (eC (.int 71))))
  (sSeq (sRd 0 1 (eOp opAdd (eRd 0 1) (eC (.int 1))))
  (sSeq (sIf (mAnd (eT (eOp opGe (eVar 3) (eOp opPow (eC (.int 10)) (eC (.int 18))))) (eT (eOp opLe (eRd 0 1) (eCall (op1 opLen) (aCons (eRd 0 0) aNil))))) (sSeq (sRd 0 2 (eOp opDiv (eVar 3) (eVar 1)))
  (sRet (eOp opMod (eCall (op1 opInt) (aCons (eVar 3) aNil)) (eVar 1)))) sNx)
  (sSeq (sSet 4 (eCall (op1 opInt) (aCons (eOp opPow (eOp opAdd (eOp opAdd (eOp opMod (eCall (op1 opInt) (aCons (eVar 3) aNil)) (eC (.int 1000009433))) (eOp opMul (eOp opMul (eC (.int 191)) (eRd 0 3)) (eOp opAdd (eRd 0 3) (eC (.int 13))))) (eC (.int 59))) (eC (.int 5))) aNil)))
  (sSeq (sSet 4 (eCall (op1 opInt) (aCons (eOp opPow (eOp opAdd (eOp opMul (eOp opMod (eCall (op1 opInt) (aCons (eVar 4) aNil)) (eC (.int 2147483249))) (eOp opAdd (eOp opMul (eC (.int 2)) (eRd 0 3)) (eC (.int 23)))) (eOp opMul (eC (.int 50231)) (eRd 0 3))) (eC (.int 3))) aNil)))
  (sRet (eOp opMod (eCall (op1 opInt) (aCons (eOp opDiv (eOp opMod (eCall (op1 opInt) (aCons (eVar 4) aNil)) (eC (.int 2147483171))) (eC (.int 64))) aNil)) (eVar 1))))))))))
abbrev mf__law_draw : FM := mFn 1 true 3 b__law_draw
theorem ok__law_draw (Z : Tx K mg) : Ok false P w K mg base "_law_draw" 1 ["_law_feed_here", "_law_limit"] (spM (gm mg T) K true 1 mf__law_draw) := by
  obtain ⟨f, fd, F, g, b⟩ := Z.f__law_draw
  have nd := sc__law_draw.nd
  have G : FnM false P w K mg base 1 f fd ["_law_feed_here", "_law_limit"] (spM (gm mg T) K true 1 mf__law_draw) := fnm_of (γ := gm mg T) rfl F sc__law_draw rfl fun cdv A outer s H E hr hgd => by
    exact (pmss_cons (pms_rd (i := 0) (k := 3) (pm_op or_add (pm_rd (i := 0) (k := 3) (pv 0)) pm_int) (pg_sub (pv 0) pe_int set_list))
    (pmss_cons (pms_if (pmt_cmp or_gt (pm_rd (i := 0) (k := 2) (pv 0)) pm_int (nomark _)) (pmss_cons (pms_set (i := 2) nd rfl (by first | exact Or.inl rfl | exact Or.inr rfl) (pm_op or_mod (pm_callTy cr_int (by rfl) Z.z_int (by decide +kernel) (pma_cons (pm_rd (i := 0) (k := 2) (pv 0)) pma_nil)) (pmv 1)))
    (pmss_cons (pms_rd (i := 0) (k := 2) (pm_op or_div (pm_rd (i := 0) (k := 2) (pv 0)) (pmv 1)) (pg_sub (pv 0) pe_int set_list))
    (pmss_one (pms_ret (pmv 2))))) pmss_nil)
    (pmss_cons (pms_set (i := 3) nd rfl (by first | exact Or.inl rfl | exact Or.inr rfl) (pm_if (pmt_cmp (or_ne hr.units) (pm_rd (i := 0) (k := 0) (pv 0)) (pm_lst pma_nil) (nomark _)) (pm_ix (pm_rd (i := 0) (k := 0) (pv 0)) (pm_op or_mod (pm_callTy cr_int (by rfl) Z.z_int (by decide +kernel) (pma_cons (pm_rd (i := 0) (k := 1) (pv 0)) pma_nil)) (pm_callB cr_len (by rfl) Z.z_len (by decide +kernel) (pma_cons (pm_rd (i := 0) (k := 0) (pv 0)) pma_nil)))) pm_int))
    (pmss_cons (pms_rd (i := 0) (k := 1) (pm_op or_add (pm_rd (i := 0) (k := 1) (pv 0)) pm_int) (pg_sub (pv 0) pe_int set_list))
    (pmss_cons (pms_if (PW.pt (pmw_and (pmt_cmp or_ge (pmv 3) (pm_op or_pow pm_int pm_int) (nomark _)) (pmw_and1 (pmt_cmp or_le (pm_rd (i := 0) (k := 1) (pv 0)) (pm_callB cr_len (by rfl) Z.z_len (by decide +kernel) (pma_cons (pm_rd (i := 0) (k := 0) (pv 0)) pma_nil)) (nomark _))))) (pmss_cons (pms_rd (i := 0) (k := 2) (pm_op or_div (pmv 3) (pmv 1)) (pg_sub (pv 0) pe_int set_list))
    (pmss_one (pms_ret (pm_op or_mod (pm_callTy cr_int (by rfl) Z.z_int (by decide +kernel) (pma_cons (pmv 3) pma_nil)) (pmv 1))))) pmss_nil)
    (pmss_cons (pms_set (i := 4) nd rfl (by first | exact Or.inl rfl | exact Or.inr rfl) (pm_callTy cr_int (by rfl) Z.z_int (by decide +kernel) (pma_cons (pm_op or_pow (pm_op or_add (pm_op or_add (pm_op or_mod (pm_callTy cr_int (by rfl) Z.z_int (by decide +kernel) (pma_cons (pmv 3) pma_nil)) pm_int) (pm_op or_mul (pm_op or_mul pm_int (pm_rd (i := 0) (k := 3) (pv 0))) (pm_op or_add (pm_rd (i := 0) (k := 3) (pv 0)) pm_int))) pm_int) pm_int) pma_nil)))
    (pmss_cons (pms_set (i := 4) nd rfl (by first | exact Or.inl rfl | exact Or.inr rfl) (pm_callTy cr_int (by rfl) Z.z_int (by decide +kernel) (pma_cons (pm_op or_pow (pm_op or_add (pm_op or_mul (pm_op or_mod (pm_callTy cr_int (by rfl) Z.z_int (by decide +kernel) (pma_cons (pmv 4) pma_nil)) pm_int) (pm_op or_add (pm_op or_mul pm_int (pm_rd (i := 0) (k := 3) (pv 0))) pm_int)) (pm_op or_mul pm_int (pm_rd (i := 0) (k := 3) (pv 0)))) pm_int) pma_nil)))
    (pmss_one (pms_ret (pm_op or_mod (pm_callTy cr_int (by rfl) Z.z_int (by decide +kernel) (pma_cons (pm_op or_div (pm_op or_mod (pm_callTy cr_int (by rfl) Z.z_int (by decide +kernel) (pma_cons (pmv 4) pma_nil)) pm_int) pm_int) pma_nil)) (pmv 1)))))))))))
  exact ⟨f, fd, G, g, F.kp, b⟩
abbrev n__law_choice : List Str := ["_law_feed_here", "_law_some"]
theorem sc__law_choice : FnScope n__law_choice ["_law_feed_here", "_law_some"] (defScope (topS 31)) := ⟨rfl, rfl, rfl, by decide +kernel, rfl, by decide +kernel, by decide +kernel⟩
def b__law_choice : MM Fl := (sRet (eOp opIx (eVar 1) (eFnR mf__law_draw 1 0 (aCons (eCall (op1 opLen) (aCons (eVar 1) aNil)) aNil))))
abbrev mf__law_choice : FM := mFn 1 true 0 b__law_choice
theorem ok__law_choice (Z : Tx K mg) (g__law_draw : Ok false P w K mg base "_law_draw" 1 ["_law_feed_here", "_law_limit"] (spM (gm mg T) K true 1 mf__law_draw)) : Ok false P w K mg base "_law_choice" 2 ["_law_feed_here", "_law_some"] (spM (gm mg T) K true 1 mf__law_choice) := by
  obtain ⟨f, fd, F, g, b⟩ := Z.f__law_choice
  have nd := sc__law_choice.nd
  have G : FnM false P w K mg base 2 f fd ["_law_feed_here", "_law_some"] (spM (gm mg T) K true 1 mf__law_choice) := fnm_of (γ := gm mg T) rfl F sc__law_choice rfl fun cdv A outer s H E hr hgd => by
    exact (pmss_one (pms_ret (pm_ix (pmv 1) (pm_oR g__law_draw hr nog (by decide) (by rfl) (pv 0) (pma_cons (pm_callB cr_len (by rfl) Z.z_len (by decide +kernel) (pma_cons (pmv 1) pma_nil)) pma_nil)))))
  exact ⟨f, fd, G, g, F.kp, b⟩
abbrev n__law_purses : List Str := ["_law_feed_here", "_law_found", "_law_label", "_law_kinds_now", "_law_first"]
theorem sc__law_purses : FnScope n__law_purses ["_law_feed_here"] (defScope (topS 40)) := ⟨rfl, rfl, rfl, by decide +kernel, rfl, by decide +kernel, by decide +kernel⟩
def b__law_purses : MM Fl := (sSeq (sNew 1 (fLst aNil))
  (sSeq (sFor (eIter (eSl (eTup (aCons (eC (.str ("gift" : Str))) (aCons (eC (.str ("home" : Str))) (aCons (eC (.str ("meal" : Str))) (aCons (eC (.str ("trip" : Str))) aNil))))) pNone (pSome (eOp opAdd (eC (.int 2)) (eFnR mf__law_draw 1 0 (aCons (eC (.int 3)) aNil)))))) (.nm 2) (sSeq (sSet 3 (eFnR mf__law_choice 1 0 (aCons (eLst (aCons (eTup (aCons (eC (.str ("food" : Str))) aNil)) (aCons (eTup (aCons (eC (.str ("toy" : Str))) aNil)) (aCons (eTup (aCons (eC (.str ("food" : Str))) (aCons (eC (.str ("toy" : Str))) aNil))) (aCons (eTup (aCons (eC (.str ("food" : Str))) (aCons (eC (.str ("rent" : Str))) aNil))) (aCons (eTup (aCons (eC (.str ("food" : Str))) (aCons (eC (.str ("rent" : Str))) (aCons (eC (.str ("toy" : Str))) aNil)))) aNil)))))) aNil)))
  (sSeq (sSet 4 (eFnR mf__law_draw 1 0 (aCons (eC (.int 2)) aNil)))
  (sApp 1 (eTup (aCons (eVar 2) (aCons (eFnR mf__law_choice 1 0 (aCons (eLst (aCons (eC (.str ("aunt" : Str))) (aCons (eC (.str ("firm" : Str))) (aCons (eC (.str ("firm" : Str))) aNil)))) aNil)) (aCons (eVar 3) (aCons (eVar 4) (aCons (eOp opAdd (eVar 4) (eFnR mf__law_draw 1 0 (aCons (eC (.int 3)) aNil))) aNil))))))))))
  (sFrz 1 (sRet (eCall (op1 opTuple) (aCons (eVar 1) aNil))))))
abbrev mf__law_purses : FM := mFn 0 true 4 b__law_purses
theorem ok__law_purses (Z : Tx K mg) (g__law_draw : Ok false P w K mg base "_law_draw" 1 ["_law_feed_here", "_law_limit"] (spM (gm mg T) K true 1 mf__law_draw)) (g__law_choice : Ok false P w K mg base "_law_choice" 2 ["_law_feed_here", "_law_some"] (spM (gm mg T) K true 1 mf__law_choice)) : Ok false P w K mg base "_law_purses" 3 ["_law_feed_here"] (spM (gm mg T) K true 0 mf__law_purses) := by
  obtain ⟨f, fd, F, g, b⟩ := Z.f__law_purses
  have nd := sc__law_purses.nd
  have G : FnM false P w K mg base 3 f fd ["_law_feed_here"] (spM (gm mg T) K true 0 mf__law_purses) := fnm_of (γ := gm mg T) rfl F sc__law_purses rfl fun cdv A outer s H E hr hgd => by
    exact (pmss_cons (pms_new (i := 1) nd rfl (by first | exact Or.inl rfl | exact Or.inr rfl) (pmf_lst pma_nil))
    (pmss_cons (pms_for (p := (.nm 2)) PassesOwn.never rfl (pmi_seq (pm_slice (pm_tup (pma_cons pm_str (pma_cons pm_str (pma_cons pm_str (pma_cons pm_str pma_nil))))) pmo_none (pmo_some (pm_op or_add pm_int (pm_oR g__law_draw hr nog (by decide) (by rfl) (pv 0) (pma_cons pm_int pma_nil)))))) (pg_name (i := 2) nd rfl (by first | exact Or.inl rfl | exact Or.inr rfl)) (pmss_cons (pms_set (i := 3) nd rfl (by first | exact Or.inl rfl | exact Or.inr rfl) (pm_oR g__law_choice hr nog (by decide) (by rfl) (pv 0) (pma_cons (pm_lst (pma_cons (pm_tup (pma_cons pm_str pma_nil)) (pma_cons (pm_tup (pma_cons pm_str pma_nil)) (pma_cons (pm_tup (pma_cons pm_str (pma_cons pm_str pma_nil))) (pma_cons (pm_tup (pma_cons pm_str (pma_cons pm_str pma_nil))) (pma_cons (pm_tup (pma_cons pm_str (pma_cons pm_str (pma_cons pm_str pma_nil)))) pma_nil)))))) pma_nil)))
    (pmss_cons (pms_set (i := 4) nd rfl (by first | exact Or.inl rfl | exact Or.inr rfl) (pm_oR g__law_draw hr nog (by decide) (by rfl) (pv 0) (pma_cons pm_int pma_nil)))
    (pmss_one (pms_app (i := 1) (pv 1) (pm_tup (pma_cons (pmv 2) (pma_cons (pm_oR g__law_choice hr nog (by decide) (by rfl) (pv 0) (pma_cons (pm_lst (pma_cons pm_str (pma_cons pm_str (pma_cons pm_str pma_nil)))) pma_nil)) (pma_cons (pmv 3) (pma_cons (pmv 4) (pma_cons (pm_op or_add (pmv 4) (pm_oR g__law_draw hr nog (by decide) (by rfl) (pv 0) (pma_cons pm_int pma_nil))) pma_nil)))))))))))
    (pmss_one (pms_frz (i := 1) (pms_ret (pm_callTy cr_tuple (by rfl) Z.z_tuple (by decide +kernel) (pma_cons (pmv 1) pma_nil)))))))
  exact ⟨f, fd, G, g, F.kp, b⟩
abbrev n__law_meet : List Str := ["_law_one_now", "_law_two", "_law_label"]
theorem sc__law_meet : FnScope n__law_meet ["_law_one_now", "_law_two"] (defScope (topS 35)) := ⟨rfl, rfl, rfl, by decide +kernel, rfl, by decide +kernel, by decide +kernel⟩
def b__law_meet : MM Fl := (sSeq (sIf (eT (eOp opGt (eCall opMax2 (aCons (eOp opIx (eVar 0) (eC (.int 1))) (aCons (eOp opIx (eVar 1) (eC (.int 1))) aNil))) (eCall opMin2 (aCons (eOp opIx (eVar 0) (eC (.int 2))) (aCons (eOp opIx (eVar 1) (eC (.int 2))) aNil))))) (sRet (eC (.bl false))) sNx)
  (sRet (eOp opNe (eLc (eIter (eOp opIx (eVar 0) (eC (.int 0)))) (.nm 2) [2] (eT (eOp (opInX false) (eVar 2) (eOp opIx (eVar 1) (eC (.int 0))))) (eVar 2)) (eLst aNil))))
abbrev mf__law_meet : FM := mFn 2 false 1 b__law_meet
theorem ok__law_meet (Z : Tx K mg) : Ok false P w K mg base "_law_meet" 1 ["_law_one_now", "_law_two"] (spM (gm mg T) K false 2 mf__law_meet) := by
  obtain ⟨f, fd, F, g, b⟩ := Z.f__law_meet
  have nd := sc__law_meet.nd
  have G : FnM false P w K mg base 1 f fd ["_law_one_now", "_law_two"] (spM (gm mg T) K false 2 mf__law_meet) := fnm_of (γ := gm mg T) rfl F sc__law_meet rfl fun cdv A outer s H E hr hgd => by
    exact (pmss_cons (pms_if (pmt_cmp or_gt (pm_callB (cr_max2 rfl) (by rfl) Z.z_max (by decide +kernel) (pma_cons (pm_ix (pmv 0) pm_int) (pma_cons (pm_ix (pmv 1) pm_int) pma_nil))) (pm_callB (cr_min2 rfl) (by rfl) Z.z_min (by decide +kernel) (pma_cons (pm_ix (pmv 0) pm_int) (pma_cons (pm_ix (pmv 1) pm_int) pma_nil))) (nomark _)) (pmss_one (pms_ret pm_bl)) pmss_nil)
    (pmss_one (pms_ret (pm_cmp (or_ne hr.units) (pm_lcL rfl nd (PMIL.of (pmi_seq (pm_ix (pmv 0) pm_int))) (blkOk_by (own := [("_law_label", 2)]) (N := n__law_meet) (sc := defScope (topS 35)) (by decide +kernel)) rfl (by decide) (fun _ _ _ _ _ => (pg_name (i := 2) nd rfl (by first | exact Or.inl rfl | exact Or.inr rfl))) (fun _ _ _ _ _ => (pmts_one (pmt_cmp (or_inT (room65 hr)) (pmv 2) (pm_ix (pmv 1) pm_int) (by rfl)))) (fun _ _ _ _ _ => (pmv 2))) (pm_lst pma_nil) (nomark _)))))
  exact ⟨f, fd, G, g, F.kp, b⟩
abbrev n__law_inside : List Str := ["_law_one_now", "_law_two", "_law_label"]
theorem sc__law_inside : FnScope n__law_inside ["_law_one_now", "_law_two"] (defScope (topS 34)) := ⟨rfl, rfl, rfl, by decide +kernel, rfl, by decide +kernel, by decide +kernel⟩
def b__law_inside : MM Fl := (sSeq (sIf (mNot (eT (chain3T (eOp opIx (eVar 1) (eC (.int 1))) (eOp opIx (eVar 0) (eC (.int 1))) (eOp opIx (eVar 0) (eC (.int 2))) (eOp opIx (eVar 1) (eC (.int 2))) opLe opLe opLe))) (sRet (eC (.bl false))) sNx)
  (sRet (eOp opEq (eLc (eIter (eOp opIx (eVar 0) (eC (.int 0)))) (.nm 2) [2] (eT (eOp (opInX true) (eVar 2) (eOp opIx (eVar 1) (eC (.int 0))))) (eVar 2)) (eLst aNil))))
abbrev mf__law_inside : FM := mFn 2 false 1 b__law_inside
theorem ok__law_inside (Z : Tx K mg) : Ok false P w K mg base "_law_inside" 1 ["_law_one_now", "_law_two"] (spM (gm mg T) K false 2 mf__law_inside) := by
  obtain ⟨f, fd, F, g, b⟩ := Z.f__law_inside
  have nd := sc__law_inside.nd
  have G : FnM false P w K mg base 1 f fd ["_law_one_now", "_law_two"] (spM (gm mg T) K false 2 mf__law_inside) := fnm_of (γ := gm mg T) rfl F sc__law_inside rfl fun cdv A outer s H E hr hgd => by
    exact (pmss_cons (pms_if (pmt_not (pmt_chain3 or_le or_le or_le (pm_ix (pmv 1) pm_int) (pm_ix (pmv 0) pm_int) (pm_ix (pmv 0) pm_int) (pm_ix (pmv 1) pm_int))) (pmss_one (pms_ret pm_bl)) pmss_nil)
    (pmss_one (pms_ret (pm_cmp (or_eq hr.units) (pm_lcL rfl nd (PMIL.of (pmi_seq (pm_ix (pmv 0) pm_int))) (blkOk_by (own := [("_law_label", 2)]) (N := n__law_inside) (sc := defScope (topS 34)) (by decide +kernel)) rfl (by decide) (fun _ _ _ _ _ => (pg_name (i := 2) nd rfl (by first | exact Or.inl rfl | exact Or.inr rfl))) (fun _ _ _ _ _ => (pmts_one (pmt_cmp (or_notinT (room65 hr)) (pmv 2) (pm_ix (pmv 1) pm_int) (by rfl)))) (fun _ _ _ _ _ => (pmv 2))) (pm_lst pma_nil) (nomark _)))))
  exact ⟨f, fd, G, g, F.kp, b⟩
abbrev n__law_bounds : List Str := ["_law_feed_here", "_law_folk", "_law_found", "_law_lap", "_law_whose", "_law_own", "_law_labels", "_law_first", "_law_many", "_law_near", "_law_bound"]
theorem sc__law_bounds : FnScope n__law_bounds ["_law_feed_here", "_law_folk"] (defScope (topS 41)) := ⟨rfl, rfl, rfl, by decide +kernel, rfl, by decide +kernel, by decide +kernel⟩
def b__law_bounds : MM Fl := (sSeq (sNew 2 (fLst aNil))
  (sSeq (sFor (eRange range1 (aCons (eFnR mf__law_draw 1 0 (aCons (eC (.int 6)) aNil)) aNil)) (.nm 3) (sSeq (sSet 4 (eOp opIx (eFnR mf__law_choice 1 0 (aCons (eVar 1) aNil)) (eC (.int 1))))
  (sSeq (sSet 6 (eLc (eIter (eVar 1)) (.nm 5) [5] (mAnd (eT (eOp opEq (eOp opIx (eVar 5) (eC (.int 1))) (eVar 4))) (eT (eOp opGt (eFnR mf__law_draw 1 0 (aCons (eC (.int 3)) aNil)) (eC (.int 0))))) (eOp opIx (eVar 5) (eC (.int 0)))))
  (sSeq (sTup [7, 8] (vVal (eFnR mf__law_draw 1 0 (aCons (eC (.int 2)) aNil)) (vVal (eFnR mf__law_draw 1 0 (aCons (eC (.int 3)) aNil)) vNil)))
  (sSeq (sSet 5 (eTup (aCons (eCall (op1 opTuple) (aCons (eVar 6) aNil)) (aCons (eVar 7) (aCons (eOp opAdd (eVar 7) (eVar 8)) (aCons (eFnR mf__law_choice 1 0 (aCons (eLst (aCons (eC (.int 2)) (aCons (eC (.int 3)) (aCons (eC (.int 4)) (aCons (eC (.int 1)) (aCons (eC (.int 5)) (aCons (eC (.int 0)) (aCons (eC (.int 6)) (aCons (eC (.int 8)) aNil))))))))) aNil)) aNil))))))
  (sIf (eT (eOp opNe (eVar 6) (eLst aNil))) (sSeq (sSet 9 (eLc (lOwn 2) (.nm 10) [10] (mAnd (eT (eFn mf__law_meet 2 (aCons (eVar 10) (aCons (eVar 5) aNil)))) (mNot (eT (eFn mf__law_inside 2 (aCons (eVar 10) (aCons (eVar 5) aNil)))))) (eVar 10)))
  (sSeq (sSet 9 (eLc (eIter (eVar 9)) (.nm 10) [10] (mNot (eT (eFn mf__law_inside 2 (aCons (eVar 5) (aCons (eVar 10) aNil))))) (eVar 10)))
  (sIf (mFrz (mAnd (eT (eOp opEq (eVar 9) (eLst aNil))) (eT (eOp opEq (eLc (eIter (eVar 2)) (.nm 10) [10] (eT (eOp opEq (eSl (eVar 10) pNone (pSome (eC (.int 3)))) (eSl (eVar 5) pNone (pSome (eC (.int 3)))))) (eVar 10)) (eLst aNil))))) (sApp 2 (eVar 5)) sNx))) sNx))))))
  (sFrz 2 (sRet (eCall (op1 opTuple) (aCons (eVar 2) aNil))))))
abbrev mf__law_bounds : FM := mFn 1 true 9 b__law_bounds
theorem ok__law_bounds (Z : Tx K mg) (g__law_draw : Ok false P w K mg base "_law_draw" 1 ["_law_feed_here", "_law_limit"] (spM (gm mg T) K true 1 mf__law_draw)) (g__law_choice : Ok false P w K mg base "_law_choice" 2 ["_law_feed_here", "_law_some"] (spM (gm mg T) K true 1 mf__law_choice)) (g__law_inside : Ok false P w K mg base "_law_inside" 1 ["_law_one_now", "_law_two"] (spM (gm mg T) K false 2 mf__law_inside)) (g__law_meet : Ok false P w K mg base "_law_meet" 1 ["_law_one_now", "_law_two"] (spM (gm mg T) K false 2 mf__law_meet)) : Ok false P w K mg base "_law_bounds" 3 ["_law_feed_here", "_law_folk"] (spM (gm mg T) K true 1 mf__law_bounds) := by
  obtain ⟨f, fd, F, g, b⟩ := Z.f__law_bounds
  have nd := sc__law_bounds.nd
  have G : FnM false P w K mg base 3 f fd ["_law_feed_here", "_law_folk"] (spM (gm mg T) K true 1 mf__law_bounds) := fnm_of (γ := gm mg T) rfl F sc__law_bounds rfl fun cdv A outer s H E hr hgd => by
    exact (pmss_cons (pms_new (i := 2) nd rfl (by first | exact Or.inl rfl | exact Or.inr rfl) (pmf_lst pma_nil))
    (pmss_cons (pms_for (p := (.nm 3)) PassesOwn.never rfl (pmi_range1 (by rfl) Z.z_range (pma_cons (pm_oR g__law_draw hr nog (by decide) (by rfl) (pv 0) (pma_cons pm_int pma_nil)) pma_nil)) (pg_name (i := 3) nd rfl (by first | exact Or.inl rfl | exact Or.inr rfl)) (pmss_cons (pms_set (i := 4) nd rfl (by first | exact Or.inl rfl | exact Or.inr rfl) (pm_ix (pm_oR g__law_choice hr nog (by decide) (by rfl) (pv 0) (pma_cons (pmv 1) pma_nil)) pm_int))
    (pmss_cons (pms_setLcL (i := 6) rfl nd rfl rfl (sw_true rfl rfl rfl (by decide +kernel)) (PMIL.of (pmi_seq (pmv 1))) (blkOk_by (own := [("_law_own", 5)]) (N := n__law_bounds) (sc := defScope (topS 41)) (by decide +kernel)) rfl (by decide) (fun _ _ _ _ _ => (pg_name (i := 5) nd rfl (by first | exact Or.inl rfl | exact Or.inr rfl))) (fun _ _ _ _ _ => (pmts_one (PW.pt (pmw_and (pmt_cmp (or_eq hr.units) (pm_ix (pmv 5) pm_int) (pmv 4) (nomark _)) (pmw_and1 (pmt_cmp or_gt (pm_oR g__law_draw hr nog (by decide) (by rfl) (pv 0) (pma_cons pm_int pma_nil)) pm_int (nomark _))))))) (fun _ _ _ _ _ => (pm_ix (pmv 5) pm_int)))
    (pmss_cons (pms_par (i := 7) (j := 8) (fun ha => ps_par (by rfl) nd rfl rfl (by decide) rfl rfl ha (by rfl)) (pmv_val (pm_oR g__law_draw hr nog (by decide) (by rfl) (pv 0) (pma_cons pm_int pma_nil)) (pmv_val (pm_oR g__law_draw hr nog (by decide) (by rfl) (pv 0) (pma_cons pm_int pma_nil)) pmv_nil)))
    (pmss_cons (pms_set (i := 5) nd rfl (by first | exact Or.inl rfl | exact Or.inr rfl) (pm_tup (pma_cons (pm_callTy cr_tuple (by rfl) Z.z_tuple (by decide +kernel) (pma_cons (pmv 6) pma_nil)) (pma_cons (pmv 7) (pma_cons (pm_op or_add (pmv 7) (pmv 8)) (pma_cons (pm_oR g__law_choice hr nog (by decide) (by rfl) (pv 0) (pma_cons (pm_lst (pma_cons pm_int (pma_cons pm_int (pma_cons pm_int (pma_cons pm_int (pma_cons pm_int (pma_cons pm_int (pma_cons pm_int (pma_cons pm_int pma_nil))))))))) pma_nil)) pma_nil))))))
    (pmss_one (pms_if (pmt_cmp (or_ne hr.units) (pmv 6) (pm_lst pma_nil) (nomark _)) (pmss_cons (pms_setLcL (i := 9) rfl nd rfl rfl (sw_true rfl rfl rfl (by decide +kernel)) (pmil_own (i := 2) (pv 2)) (blkOk_by (own := [("_law_bound", 10)]) (N := n__law_bounds) (sc := defScope (topS 41)) (by decide +kernel)) rfl (by decide) (fun _ _ _ _ _ => (pg_name (i := 10) nd rfl (by first | exact Or.inl rfl | exact Or.inr rfl))) (fun _ _ _ _ _ => (pmts_one (PW.pt (pmw_and (pmt_val (pm_o g__law_meet hr nog (by decide) (by rfl) (pma_cons (pmv 10) (pma_cons (pmv 5) pma_nil)))) (pmw_and1 (pmt_not (pmt_val (pm_o g__law_inside hr nog (by decide) (by rfl) (pma_cons (pmv 10) (pma_cons (pmv 5) pma_nil)))))))))) (fun _ _ _ _ _ => (pmv 10)))
    (pmss_cons (pms_setLcL (i := 9) rfl nd rfl rfl (sw_true rfl rfl rfl (by decide +kernel)) (PMIL.of (pmi_seq (pmv 9))) (blkOk_by (own := [("_law_bound", 10)]) (N := n__law_bounds) (sc := defScope (topS 41)) (by decide +kernel)) rfl (by decide) (fun _ _ _ _ _ => (pg_name (i := 10) nd rfl (by first | exact Or.inl rfl | exact Or.inr rfl))) (fun _ _ _ _ _ => (pmts_one (pmt_not (pmt_val (pm_o g__law_inside hr nog (by decide) (by rfl) (pma_cons (pmv 5) (pma_cons (pmv 10) pma_nil))))))) (fun _ _ _ _ _ => (pmv 10)))
    (pmss_one (pms_if (pmt_frz (PW.pt (pmw_and (pmt_cmp (or_eq hr.units) (pmv 9) (pm_lst pma_nil) (nomark _)) (pmw_and1 (pmt_cmp (or_eq hr.units) (pm_lcL rfl nd (PMIL.of (pmi_seq (pmv 2))) (blkOk_by (own := [("_law_bound", 10)]) (N := n__law_bounds) (sc := defScope (topS 41)) (by decide +kernel)) rfl (by decide) (fun _ _ _ _ _ => (pg_name (i := 10) nd rfl (by first | exact Or.inl rfl | exact Or.inr rfl))) (fun _ _ _ _ _ => (pmts_one (pmt_cmp (or_eq hr.units) (pm_slice (pmv 10) pmo_none (pmo_some pm_int)) (pm_slice (pmv 5) pmo_none (pmo_some pm_int)) (nomark _)))) (fun _ _ _ _ _ => (pmv 10))) (pm_lst pma_nil) (nomark _)))))) (pmss_one (pms_app (i := 2) (pv 2) (pmv 5))) pmss_nil)))) pmss_nil)))))))
    (pmss_one (pms_frz (i := 2) (pms_ret (pm_callTy cr_tuple (by rfl) Z.z_tuple (by decide +kernel) (pma_cons (pmv 2) pma_nil)))))))
  exact ⟨f, fd, G, g, F.kp, b⟩
abbrev n__law_day_sort : List Str := ["_law_feed_here"]
theorem sc__law_day_sort : FnScope n__law_day_sort ["_law_feed_here"] (defScope (topS 42)) := ⟨rfl, rfl, rfl, by decide +kernel, rfl, by decide +kernel, by decide +kernel⟩
def b__law_day_sort : MM Fl := (sRet (eTup (aCons (eFnR mf__law_draw 1 0 (aCons (eC (.int 3)) aNil)) (aCons (eFnR mf__law_choice 1 0 (aCons (eLst (aCons (eC (.str ("food" : Str))) (aCons (eC (.str ("toy" : Str))) (aCons (eC (.str ("food" : Str))) (aCons (eC (.str ("rent" : Str))) aNil))))) aNil)) aNil))))
abbrev mf__law_day_sort : FM := mFn 0 true 0 b__law_day_sort
theorem ok__law_day_sort (Z : Tx K mg) (g__law_draw : Ok false P w K mg base "_law_draw" 1 ["_law_feed_here", "_law_limit"] (spM (gm mg T) K true 1 mf__law_draw)) (g__law_choice : Ok false P w K mg base "_law_choice" 2 ["_law_feed_here", "_law_some"] (spM (gm mg T) K true 1 mf__law_choice)) : Ok false P w K mg base "_law_day_sort" 3 ["_law_feed_here"] (spM (gm mg T) K true 0 mf__law_day_sort) := by
  obtain ⟨f, fd, F, g, b⟩ := Z.f__law_day_sort
  have nd := sc__law_day_sort.nd
  have G : FnM false P w K mg base 3 f fd ["_law_feed_here"] (spM (gm mg T) K true 0 mf__law_day_sort) := fnm_of (γ := gm mg T) rfl F sc__law_day_sort rfl fun cdv A outer s H E hr hgd => by
    exact (pmss_one (pms_ret (pm_tup (pma_cons (pm_oR g__law_draw hr nog (by decide) (by rfl) (pv 0) (pma_cons pm_int pma_nil)) (pma_cons (pm_oR g__law_choice hr nog (by decide) (by rfl) (pv 0) (pma_cons (pm_lst (pma_cons pm_str (pma_cons pm_str (pma_cons pm_str (pma_cons pm_str pma_nil))))) pma_nil)) pma_nil)))))
  exact ⟨f, fd, G, g, F.kp, b⟩
abbrev n__law_may : List Str := ["_law_purse_now", "_law_day", "_law_sort_now"]
theorem sc__law_may : FnScope n__law_may ["_law_purse_now", "_law_day", "_law_sort_now"] (defScope (topS 32)) := ⟨rfl, rfl, rfl, by decide +kernel, rfl, by decide +kernel, by decide +kernel⟩
def b__law_may : MM Fl := (sRet (eAnd (eOp (opInX false) (eVar 2) (eOp opIx (eVar 0) (eC (.int 2)))) (chainT (eOp opIx (eVar 0) (eC (.int 3))) (eVar 1) (eOp opIx (eVar 0) (eC (.int 4))) opLe opLe)))
abbrev mf__law_may : FM := mFn 3 false 0 b__law_may
theorem ok__law_may (Z : Tx K mg) : Ok false P w K mg base "_law_may" 1 ["_law_purse_now", "_law_day", "_law_sort_now"] (spM (gm mg T) K false 3 mf__law_may) := by
  obtain ⟨f, fd, F, g, b⟩ := Z.f__law_may
  have nd := sc__law_may.nd
  have G : FnM false P w K mg base 1 f fd ["_law_purse_now", "_law_day", "_law_sort_now"] (spM (gm mg T) K false 3 mf__law_may) := fnm_of (γ := gm mg T) rfl F sc__law_may rfl fun cdv A outer s H E hr hgd => by
    exact (pmss_one (pms_ret (pm_and (pm_cmp (or_inT (room65 hr)) (pmv 2) (pm_ix (pmv 0) pm_int) (by rfl)) (pm_one (pm_chain or_le or_le (pm_ix (pmv 0) pm_int) (pmv 1) (pm_ix (pmv 0) pm_int))))))
  exact ⟨f, fd, G, g, F.kp, b⟩
abbrev n__law_has : List Str := ["_law_bound", "_law_purse_now", "_law_day"]
theorem sc__law_has : FnScope n__law_has ["_law_bound", "_law_purse_now", "_law_day"] (defScope (topS 33)) := ⟨rfl, rfl, rfl, by decide +kernel, rfl, by decide +kernel, by decide +kernel⟩
def b__law_has : MM Fl := (sRet (eAnd (eOp (opInX false) (eOp opIx (eVar 1) (eC (.int 0))) (eOp opIx (eVar 0) (eC (.int 0)))) (chainT (eOp opIx (eVar 0) (eC (.int 1))) (eVar 2) (eOp opIx (eVar 0) (eC (.int 2))) opLe opLe)))
abbrev mf__law_has : FM := mFn 3 false 0 b__law_has
theorem ok__law_has (Z : Tx K mg) : Ok false P w K mg base "_law_has" 1 ["_law_bound", "_law_purse_now", "_law_day"] (spM (gm mg T) K false 3 mf__law_has) := by
  obtain ⟨f, fd, F, g, b⟩ := Z.f__law_has
  have nd := sc__law_has.nd
  have G : FnM false P w K mg base 1 f fd ["_law_bound", "_law_purse_now", "_law_day"] (spM (gm mg T) K false 3 mf__law_has) := fnm_of (γ := gm mg T) rfl F sc__law_has rfl fun cdv A outer s H E hr hgd => by
    exact (pmss_one (pms_ret (pm_and (pm_cmp (or_inT (room65 hr)) (pm_ix (pmv 1) pm_int) (pm_ix (pmv 0) pm_int) (by rfl)) (pm_one (pm_chain or_le or_le (pm_ix (pmv 0) pm_int) (pmv 2) (pm_ix (pmv 0) pm_int))))))
  exact ⟨f, fd, G, g, F.kp, b⟩
abbrev n__law_spent : List Str := ["_law_folk", "_law_bound", "_law_day", "_law_shares_now", "_law_n", "_law_own"]
theorem sc__law_spent : FnScope n__law_spent ["_law_folk", "_law_bound", "_law_day", "_law_shares_now"] (defScope (topS 36)) := ⟨rfl, rfl, rfl, by decide +kernel, rfl, by decide +kernel, by decide +kernel⟩
def b__law_spent : MM Fl := (sRet (eCall (op1 opSum) (aCons (eLc (eRange zipI (aCons (eVar 3) (aCons (eVar 0) aNil))) (.tp [4, 5]) [4, 5] (eT (eFn mf__law_has 3 (aCons (eVar 1) (aCons (eVar 5) (aCons (eVar 2) aNil))))) (eVar 4)) aNil)))
abbrev mf__law_spent : FM := mFn 4 false 2 b__law_spent
theorem ok__law_spent (Z : Tx K mg) (g__law_has : Ok false P w K mg base "_law_has" 1 ["_law_bound", "_law_purse_now", "_law_day"] (spM (gm mg T) K false 3 mf__law_has)) : Ok false P w K mg base "_law_spent" 2 ["_law_folk", "_law_bound", "_law_day", "_law_shares_now"] (spM (gm mg T) K false 4 mf__law_spent) := by
  obtain ⟨f, fd, F, g, b⟩ := Z.f__law_spent
  have nd := sc__law_spent.nd
  have G : FnM false P w K mg base 2 f fd ["_law_folk", "_law_bound", "_law_day", "_law_shares_now"] (spM (gm mg T) K false 4 mf__law_spent) := fnm_of (γ := gm mg T) rfl F sc__law_spent rfl fun cdv A outer s H E hr hgd => by
    exact (pmss_one (pms_ret (pm_callB (cr_sumD rfl) (by rfl) Z.z_sum (by decide +kernel) (pma_cons (pm_lcL rfl nd (PMIL.of (pmi_zip (by rfl) Z.z_zip (pma_cons (pmv 3) (pma_cons (pmv 0) pma_nil)))) (blkOk_by (own := [("_law_n", 4), ("_law_own", 5)]) (N := n__law_spent) (sc := defScope (topS 36)) (by decide +kernel)) rfl (by decide) (fun _ _ _ _ _ => (pg_tup rfl (pgs_cons (pg_name (i := 4) nd rfl (by first | exact Or.inl rfl | exact Or.inr rfl)) (pgs_cons (pg_name (i := 5) nd rfl (by first | exact Or.inl rfl | exact Or.inr rfl)) pgs_nil)))) (fun _ _ _ _ _ => (pmts_one (pmt_val (pm_o g__law_has hr nog (by decide) (by rfl) (pma_cons (pmv 1) (pma_cons (pmv 5) (pma_cons (pmv 2) pma_nil))))))) (fun _ _ _ _ _ => (pmv 4))) pma_nil))))
  exact ⟨f, fd, G, g, F.kp, b⟩
abbrev n__law_left : List Str := ["_law_ledger", "_law_bound", "_law_row"]
theorem sc__law_left : FnScope n__law_left ["_law_ledger", "_law_bound"] (defScope (topS 37)) := ⟨rfl, rfl, rfl, by decide +kernel, rfl, by decide +kernel, by decide +kernel⟩
def b__law_left : MM Fl := (sRet (eOp opSub (eOp opIx (eVar 1) (eC (.int 3))) (eCall (op1 opSum) (aCons (eLc (eIter (eOp opIx (eVar 0) (eC (.int 2)))) (.nm 2) [2] (eT (eOp opEq (eOp opIx (eVar 2) (eC (.int 0))) (eC (.str ("paid" : Str))))) (eFn mf__law_spent 4 (aCons (eOp opIx (eVar 0) (eC (.int 0))) (aCons (eVar 1) (aCons (eOp opIx (eVar 2) (eC (.int 1))) (aCons (eOp opIx (eVar 2) (eC (.int 3))) aNil)))))) aNil))))
abbrev mf__law_left : FM := mFn 2 false 1 b__law_left
theorem ok__law_left (Z : Tx K mg) (g__law_spent : Ok false P w K mg base "_law_spent" 2 ["_law_folk", "_law_bound", "_law_day", "_law_shares_now"] (spM (gm mg T) K false 4 mf__law_spent)) : Ok false P w K mg base "_law_left" 3 ["_law_ledger", "_law_bound"] (spM (gm mg T) K false 2 mf__law_left) := by
  obtain ⟨f, fd, F, g, b⟩ := Z.f__law_left
  have nd := sc__law_left.nd
  have G : FnM false P w K mg base 3 f fd ["_law_ledger", "_law_bound"] (spM (gm mg T) K false 2 mf__law_left) := fnm_of (γ := gm mg T) rfl F sc__law_left rfl fun cdv A outer s H E hr hgd => by
    exact (pmss_one (pms_ret (pm_op or_sub (pm_ix (pmv 1) pm_int) (pm_callB (cr_sumD rfl) (by rfl) Z.z_sum (by decide +kernel) (pma_cons (pm_lcL rfl nd (PMIL.of (pmi_seq (pm_ix (pmv 0) pm_int))) (blkOk_by (own := [("_law_row", 2)]) (N := n__law_left) (sc := defScope (topS 37)) (by decide +kernel)) rfl (by decide) (fun _ _ _ _ _ => (pg_name (i := 2) nd rfl (by first | exact Or.inl rfl | exact Or.inr rfl))) (fun _ _ _ _ _ => (pmts_one (pmt_cmp (or_eq hr.units) (pm_ix (pmv 2) pm_int) pm_str (nomark _)))) (fun _ _ _ _ _ => (pm_o g__law_spent hr nog (by decide) (by rfl) (pma_cons (pm_ix (pmv 0) pm_int) (pma_cons (pmv 1) (pma_cons (pm_ix (pmv 2) pm_int) (pma_cons (pm_ix (pmv 2) pm_int) pma_nil))))))) pma_nil)))))
  exact ⟨f, fd, G, g, F.kp, b⟩
abbrev n__law_book_now : List Str := ["_law_feed_here", "_law_folk", "_law_bounds_here", "_law_rows", "_law_many", "_law_lap", "_law_day", "_law_sort_now", "_law_shares_now", "_law_late", "_law_paid", "_law_own"]
theorem sc__law_book_now : FnScope n__law_book_now ["_law_feed_here"] (defScope (topS 43)) := ⟨rfl, rfl, rfl, by decide +kernel, rfl, by decide +kernel, by decide +kernel⟩
def b__law_book_now : MM Fl := (sSeq (sSet 1 (eFnR mf__law_purses 0 0 aNil))
  (sSeq (sTup [2, 3, 4] (vVal (eFnR mf__law_bounds 1 0 (aCons (eVar 1) aNil)) (vOwn (fLst aNil) (vVal (eC (.int 0)) vNil))))
  (sSeq (sFor (eRange range1 (aCons (eFnR mf__law_draw 1 0 (aCons (eC (.int 6)) aNil)) aNil)) (.nm 5) (sSeq (sUnp (.tp [6, 7]) (eFnR mf__law_day_sort 0 0 aNil))
  (sIf (eT (eOp opEq (eFnR mf__law_draw 1 0 (aCons (eC (.int 3)) aNil)) (eC (.int 0)))) (sSeq (sSet 8 (eCall (op1 opTuple) (aCons (eLc (eIter (eVar 1)) (.nm 11) [11] mYes (eOp opMul (eFnR mf__law_draw 1 0 (aCons (eC (.int 3)) aNil)) (eCall (op1 opInt) (aCons (eFn mf__law_may 3 (aCons (eVar 11) (aCons (eVar 6) (aCons (eVar 7) aNil)))) aNil)))) aNil)))
  (sSeq (sSet 9 (eTup (aCons (eVar 1) (aCons (eVar 2) (aCons (eOwnAdd 3 (eLst (aCons (eTup (aCons (eC (.str ("paid" : Str))) (aCons (eVar 6) (aCons (eVar 7) (aCons (eVar 8) aNil))))) aNil))) aNil)))))
  (sSeq (sSet 10 (mFrz (flatDOk (eOp opSub (eCall (op1 opLen) (aCons (eVar 3) aNil)) (eVar 4)))))
  (sIf (mAnd (eT (eOp opLt (eVar 10) (eC (.int 2)))) (eT (eOp opEq (eLc (eIter (eVar 2)) (.nm 11) [11] (eT (eOp opLt (eFn mf__law_left 2 (aCons (eVar 9) (aCons (eVar 11) aNil))) (eC (.int 0)))) (eVar 11)) (eLst aNil)))) (sNew 3 (fList (aCons (eOp opIx (eVar 9) (eC (.int 2))) aNil))) sNx)))) (sIf (eT (eOp opLt (eVar 4) (eC (.int 3)))) (sSeq (sApp 3 (eTup (aCons (eC (.str ("buy" : Str))) (aCons (eVar 6) (aCons (eVar 7) (aCons (eFnR mf__law_draw 1 0 (aCons (eIf (eT (eOp opLt (eCall (op1 opLen) (aCons (eVar 1) aNil)) (eC (.int 4)))) (eC (.int 5)) (eC (.int 3))) aNil)) aNil))))))
  (sSet 4 (eOp opAdd (eVar 4) (eC (.int 1))))) sNx))))
  (sFrz 3 (sRet (eTup (aCons (eVar 1) (aCons (eVar 2) (aCons (eCall (op1 opTuple) (aCons (eVar 3) aNil)) aNil)))))))))
abbrev mf__law_book_now : FM := mFn 0 true 11 b__law_book_now
theorem ok__law_book_now (Z : Tx K mg) (g__law_purses : Ok false P w K mg base "_law_purses" 3 ["_law_feed_here"] (spM (gm mg T) K true 0 mf__law_purses)) (g__law_bounds : Ok false P w K mg base "_law_bounds" 3 ["_law_feed_here", "_law_folk"] (spM (gm mg T) K true 1 mf__law_bounds)) (g__law_draw : Ok false P w K mg base "_law_draw" 1 ["_law_feed_here", "_law_limit"] (spM (gm mg T) K true 1 mf__law_draw)) (g__law_day_sort : Ok false P w K mg base "_law_day_sort" 3 ["_law_feed_here"] (spM (gm mg T) K true 0 mf__law_day_sort)) (g__law_may : Ok false P w K mg base "_law_may" 1 ["_law_purse_now", "_law_day", "_law_sort_now"] (spM (gm mg T) K false 3 mf__law_may)) (g__law_left : Ok false P w K mg base "_law_left" 3 ["_law_ledger", "_law_bound"] (spM (gm mg T) K false 2 mf__law_left)) : Ok false P w K mg base "_law_book_now" 4 ["_law_feed_here"] (spM (gm mg T) K true 0 mf__law_book_now) := by
  obtain ⟨f, fd, F, g, b⟩ := Z.f__law_book_now
  have nd := sc__law_book_now.nd
  have G : FnM false P w K mg base 4 f fd ["_law_feed_here"] (spM (gm mg T) K true 0 mf__law_book_now) := fnm_of (γ := gm mg T) rfl F sc__law_book_now rfl fun cdv A outer s H E hr hgd => by
    exact (pmss_cons (pms_set (i := 1) nd rfl (by first | exact Or.inl rfl | exact Or.inr rfl) (pm_oR g__law_purses hr nog (by decide) (by rfl) (pv 0) pma_nil))
    (pmss_cons (pms_par3 (i := 2) (j := 3) (l := 4) rfl nd rfl rfl rfl (by decide) (by decide) (by decide) rfl rfl rfl (pmv_val (pm_oR g__law_bounds hr nog (by decide) (by rfl) (pv 0) (pma_cons (pmv 1) pma_nil)) (pmv_own (pmf_lst pma_nil) (pmv_val pm_int pmv_nil))) (by rfl))
    (pmss_cons (pms_for (p := (.nm 5)) PassesOwn.never rfl (pmi_range1 (by rfl) Z.z_range (pma_cons (pm_oR g__law_draw hr nog (by decide) (by rfl) (pv 0) (pma_cons pm_int pma_nil)) pma_nil)) (pg_name (i := 5) nd rfl (by first | exact Or.inl rfl | exact Or.inr rfl)) (pmss_cons (pms_unp (p := (.tp [6, 7])) (pm_oR g__law_day_sort hr nog (by decide) (by rfl) (pv 0) pma_nil) (pg_tup rfl (pgs_cons (pg_name (i := 6) nd rfl (by first | exact Or.inl rfl | exact Or.inr rfl)) (pgs_cons (pg_name (i := 7) nd rfl (by first | exact Or.inl rfl | exact Or.inr rfl)) pgs_nil))))
    (pmss_one (pms_if (pmt_cmp (or_eq hr.units) (pm_oR g__law_draw hr nog (by decide) (by rfl) (pv 0) (pma_cons pm_int pma_nil)) pm_int (nomark _)) (pmss_cons (pms_set (i := 8) nd rfl (by first | exact Or.inl rfl | exact Or.inr rfl) (pm_callTy cr_tuple (by rfl) Z.z_tuple (by decide +kernel) (pma_cons (pm_lcL rfl nd (PMIL.of (pmi_seq (pmv 1))) (blkOk_by (own := [("_law_own", 11)]) (N := n__law_book_now) (sc := defScope (topS 43)) (by decide +kernel)) rfl (by decide) (fun _ _ _ _ _ => (pg_name (i := 11) nd rfl (by first | exact Or.inl rfl | exact Or.inr rfl))) (fun _ _ _ _ _ => pmts_nil) (fun _ _ _ _ _ => (pm_op or_mul (pm_oR g__law_draw hr nog (by decide) (by rfl) (pv 0) (pma_cons pm_int pma_nil)) (pm_callTy cr_int (by rfl) Z.z_int (by decide +kernel) (pma_cons (pm_o g__law_may hr nog (by decide) (by rfl) (pma_cons (pmv 11) (pma_cons (pmv 6) (pma_cons (pmv 7) pma_nil)))) pma_nil))))) pma_nil)))
    (pmss_cons (pms_set (i := 9) nd rfl (by first | exact Or.inl rfl | exact Or.inr rfl) (pm_tup (pma_cons (pmv 1) (pma_cons (pmv 2) (pma_cons (pm_ownAdd (i := 3) (pv 3) (pm_lst (pma_cons (pm_tup (pma_cons pm_str (pma_cons (pmv 6) (pma_cons (pmv 7) (pma_cons (pmv 8) pma_nil))))) pma_nil))) pma_nil)))))
    (pmss_cons (pms_set (i := 10) nd rfl (by first | exact Or.inl rfl | exact Or.inr rfl) (pm_frz (pm_op or_sub (pm_callB cr_len (by rfl) Z.z_len (by decide +kernel) (pma_cons (pmv 3) pma_nil)) (pmv 4))))
    (pmss_one (pms_if (PW.pt (pmw_and (pmt_cmp or_lt (pmv 10) pm_int (nomark _)) (pmw_and1 (pmt_cmp (or_eq hr.units) (pm_lcL rfl nd (PMIL.of (pmi_seq (pmv 2))) (blkOk_by (own := [("_law_own", 11)]) (N := n__law_book_now) (sc := defScope (topS 43)) (by decide +kernel)) rfl (by decide) (fun _ _ _ _ _ => (pg_name (i := 11) nd rfl (by first | exact Or.inl rfl | exact Or.inr rfl))) (fun _ _ _ _ _ => (pmts_one (pmt_cmp or_lt (pm_o g__law_left hr nog (by decide) (by rfl) (pma_cons (pmv 9) (pma_cons (pmv 11) pma_nil))) pm_int (nomark _)))) (fun _ _ _ _ _ => (pmv 11))) (pm_lst pma_nil) (nomark _))))) (pmss_one (pms_new (i := 3) nd rfl (by first | exact Or.inl rfl | exact Or.inr rfl) (pmf_list (by rfl) Z.z_list (by decide +kernel) (pma_cons (pm_ix (pmv 9) pm_int) pma_nil)))) pmss_nil))))) (pmss_one (pms_if (pmt_cmp or_lt (pmv 4) pm_int (nomark _)) (pmss_cons (pms_app (i := 3) (pv 3) (pm_tup (pma_cons pm_str (pma_cons (pmv 6) (pma_cons (pmv 7) (pma_cons (pm_oR g__law_draw hr nog (by decide) (by rfl) (pv 0) (pma_cons (pm_if (pmt_cmp or_lt (pm_callB cr_len (by rfl) Z.z_len (by decide +kernel) (pma_cons (pmv 1) pma_nil)) pm_int (nomark _)) pm_int pm_int) pma_nil)) pma_nil))))))
    (pmss_one (pms_set (i := 4) nd rfl (by first | exact Or.inl rfl | exact Or.inr rfl) (pm_op or_add (pmv 4) pm_int)))) pmss_nil))))))
    (pmss_one (pms_frz (i := 3) (pms_ret (pm_tup (pma_cons (pmv 1) (pma_cons (pmv 2) (pma_cons (pm_callTy cr_tuple (by rfl) Z.z_tuple (by decide +kernel) (pma_cons (pmv 3) pma_nil)) pma_nil))))))))))
  exact ⟨f, fd, G, g, F.kp, b⟩
abbrev n__law_splits : List Str := ["_law_ledger", "_law_row", "_law_found", "_law_own", "_law_longer", "_law_shares_now", "_law_rest", "_law_most", "_law_n"]
theorem sc__law_splits : FnScope n__law_splits ["_law_ledger", "_law_row"] (defScope (topS 39)) := ⟨rfl, rfl, rfl, by decide +kernel, rfl, by decide +kernel, by decide +kernel⟩
def b__law_splits : MM Fl := (sSeq (sSet 2 (eLst (aCons (eTup (aCons (eTup aNil) (aCons (eOp opIx (eVar 1) (eC (.int 3))) aNil))) aNil)))
  (sSeq (sFor (eIter (eOp opIx (eVar 0) (eC (.int 0)))) (.nm 3) (sSeq (sNew 4 (fLst aNil))
  (sSeq (sFor (eIter (eVar 2)) (.tp [5, 6]) (sSeq (sSet 7 (eIf (eT (eFn mf__law_may 3 (aCons (eVar 3) (aCons (eOp opIx (eVar 1) (eC (.int 1))) (aCons (eOp opIx (eVar 1) (eC (.int 2))) aNil))))) (eVar 6) (eC (.int 0))))
  (sExt 4 (eLc (eRange range1 (aCons (eOp opAdd (eVar 7) (eC (.int 1))) aNil)) (.nm 8) [8] mYes (eTup (aCons (eOp opAdd (eVar 5) (eTup (aCons (eVar 8) aNil))) (aCons (eOp opSub (eVar 6) (eVar 8)) aNil)))))))
  (sFrz 4 (sSet 2 (eCall (op1 opList) (aCons (eVar 4) aNil)))))))
  (sRet (eLc (eIter (eVar 2)) (.tp [5, 6]) [5, 6] (eT (eOp opEq (eVar 6) (eC (.int 0)))) (eVar 5)))))
abbrev mf__law_splits : FM := mFn 2 false 7 b__law_splits
theorem ok__law_splits (Z : Tx K mg) (g__law_may : Ok false P w K mg base "_law_may" 1 ["_law_purse_now", "_law_day", "_law_sort_now"] (spM (gm mg T) K false 3 mf__law_may)) : Ok false P w K mg base "_law_splits" 2 ["_law_ledger", "_law_row"] (spM (gm mg T) K false 2 mf__law_splits) := by
  obtain ⟨f, fd, F, g, b⟩ := Z.f__law_splits
  have nd := sc__law_splits.nd
  have G : FnM false P w K mg base 2 f fd ["_law_ledger", "_law_row"] (spM (gm mg T) K false 2 mf__law_splits) := fnm_of (γ := gm mg T) rfl F sc__law_splits rfl fun cdv A outer s H E hr hgd => by
    exact (pmss_cons (pms_set (i := 2) nd rfl (by first | exact Or.inl rfl | exact Or.inr rfl) (pm_lst (pma_cons (pm_tup (pma_cons (pm_tup pma_nil) (pma_cons (pm_ix (pmv 1) pm_int) pma_nil))) pma_nil)))
    (pmss_cons (pms_for (p := (.nm 3)) PassesOwn.never rfl (pmi_seq (pm_ix (pmv 0) pm_int)) (pg_name (i := 3) nd rfl (by first | exact Or.inl rfl | exact Or.inr rfl)) (pmss_cons (pms_new (i := 4) nd rfl (by first | exact Or.inl rfl | exact Or.inr rfl) (pmf_lst pma_nil))
    (pmss_cons (pms_for (p := (.tp [5, 6])) PassesOwn.never rfl (pmi_seq (pmv 2)) (pg_tup rfl (pgs_cons (pg_name (i := 5) nd rfl (by first | exact Or.inl rfl | exact Or.inr rfl)) (pgs_cons (pg_name (i := 6) nd rfl (by first | exact Or.inl rfl | exact Or.inr rfl)) pgs_nil))) (pmss_cons (pms_set (i := 7) nd rfl (by first | exact Or.inl rfl | exact Or.inr rfl) (pm_if (pmt_val (pm_o g__law_may hr nog (by decide) (by rfl) (pma_cons (pmv 3) (pma_cons (pm_ix (pmv 1) pm_int) (pma_cons (pm_ix (pmv 1) pm_int) pma_nil))))) (pmv 6) pm_int))
    (pmss_one (pms_ext (i := 4) (pv 4) (pm_lcL rfl nd (PMIL.of (pmi_range1 (by rfl) Z.z_range (pma_cons (pm_op or_add (pmv 7) pm_int) pma_nil))) (blkOk_by (own := [("_law_n", 8)]) (N := n__law_splits) (sc := defScope (topS 39)) (by decide +kernel)) rfl (by decide) (fun _ _ _ _ _ => (pg_name (i := 8) nd rfl (by first | exact Or.inl rfl | exact Or.inr rfl))) (fun _ _ _ _ _ => pmts_nil) (fun _ _ _ _ _ => (pm_tup (pma_cons (pm_op or_add (pmv 5) (pm_tup (pma_cons (pmv 8) pma_nil))) (pma_cons (pm_op or_sub (pmv 6) (pmv 8)) pma_nil)))))))))
    (pmss_one (pms_frz (i := 4) (pms_set (i := 2) nd rfl (by first | exact Or.inl rfl | exact Or.inr rfl) (pm_callTy cr_list (by rfl) Z.z_list (by decide +kernel) (pma_cons (pmv 4) pma_nil))))))))
    (pmss_one (pms_ret (pm_lcL rfl nd (PMIL.of (pmi_seq (pmv 2))) (blkOk_by (own := [("_law_shares_now", 5), ("_law_rest", 6)]) (N := n__law_splits) (sc := defScope (topS 39)) (by decide +kernel)) rfl (by decide) (fun _ _ _ _ _ => (pg_tup rfl (pgs_cons (pg_name (i := 5) nd rfl (by first | exact Or.inl rfl | exact Or.inr rfl)) (pgs_cons (pg_name (i := 6) nd rfl (by first | exact Or.inl rfl | exact Or.inr rfl)) pgs_nil)))) (fun _ _ _ _ _ => (pmts_one (pmt_cmp (or_eq hr.units) (pmv 6) pm_int (nomark _)))) (fun _ _ _ _ _ => (pmv 5)))))))
  exact ⟨f, fd, G, g, F.kp, b⟩
abbrev n__law_open : List Str := ["_law_ledger", "_law_row"]
theorem sc__law_open : FnScope n__law_open ["_law_ledger"] (defScope (topS 38)) := ⟨rfl, rfl, rfl, by decide +kernel, rfl, by decide +kernel, by decide +kernel⟩
def b__law_open : MM Fl := (sRet (eLc (eIter (eOp opIx (eVar 0) (eC (.int 2)))) (.nm 1) [1] (eT (eOp opEq (eOp opIx (eVar 1) (eC (.int 0))) (eC (.str ("buy" : Str))))) (eVar 1)))
abbrev mf__law_open : FM := mFn 1 false 1 b__law_open
theorem ok__law_open (Z : Tx K mg) : Ok false P w K mg base "_law_open" 1 ["_law_ledger"] (spM (gm mg T) K false 1 mf__law_open) := by
  obtain ⟨f, fd, F, g, b⟩ := Z.f__law_open
  have nd := sc__law_open.nd
  have G : FnM false P w K mg base 1 f fd ["_law_ledger"] (spM (gm mg T) K false 1 mf__law_open) := fnm_of (γ := gm mg T) rfl F sc__law_open rfl fun cdv A outer s H E hr hgd => by
    exact (pmss_one (pms_ret (pm_lcL rfl nd (PMIL.of (pmi_seq (pm_ix (pmv 0) pm_int))) (blkOk_by (own := [("_law_row", 1)]) (N := n__law_open) (sc := defScope (topS 38)) (by decide +kernel)) rfl (by decide) (fun _ _ _ _ _ => (pg_name (i := 1) nd rfl (by first | exact Or.inl rfl | exact Or.inr rfl))) (fun _ _ _ _ _ => (pmts_one (pmt_cmp (or_eq hr.units) (pm_ix (pmv 1) pm_int) pm_str (nomark _)))) (fun _ _ _ _ _ => (pmv 1)))))
  exact ⟨f, fd, G, g, F.kp, b⟩
abbrev n_is_integer : List Str := ["thing"]
theorem sc_is_integer : FnScope n_is_integer ["thing"] (defScope (topS 12)) := ⟨rfl, rfl, rfl, by decide +kernel, rfl, by decide +kernel, by decide +kernel⟩
def b_is_integer : MM Fl := (sRet (eAnd (eUn (opIs "int") (eVar 0)) (eNot (eUn (opIs "bool") (eVar 0)))))
abbrev mf_is_integer : FM := mFn 1 false 0 b_is_integer
theorem ok_is_integer (Z : Tx K mg) : Ok false P w K mg base "is_integer" 1 ["thing"] (spM (gm mg T) K false 1 mf_is_integer) := by
  obtain ⟨f, fd, F, g, b⟩ := Z.f_is_integer
  have nd := sc_is_integer.nd
  have G : FnM false P w K mg base 1 f fd ["thing"] (spM (gm mg T) K false 1 mf_is_integer) := fnm_of (γ := gm mg T) rfl F sc_is_integer rfl fun cdv A outer s H E hr hgd => by
    exact (pmss_one (pms_ret (pm_and (pm_isi (x := "isinstance") (by rfl) Z.z_isinstance (by rfl) Z.z_int (by decide +kernel) (pmv 0)) (pm_one (pm_not (pm_isi (x := "isinstance") (by rfl) Z.z_isinstance (by rfl) Z.z_bool (by decide +kernel) (pmv 0)))))))
  exact ⟨f, fd, G, g, F.kp, b⟩
abbrev n_is_number : List Str := ["thing"]
theorem sc_is_number : FnScope n_is_number ["thing"] (defScope (topS 13)) := ⟨rfl, rfl, rfl, by decide +kernel, rfl, by decide +kernel, by decide +kernel⟩
def b_is_number : MM Fl := (sRet (eAnd (eFn mf_is_integer 1 (aCons (eVar 0) aNil)) (eOp opGe (eVar 0) (eC (.int 0)))))
abbrev mf_is_number : FM := mFn 1 false 0 b_is_number
theorem ok_is_number (Z : Tx K mg) (g_is_integer : Ok false P w K mg base "is_integer" 1 ["thing"] (spM (gm mg T) K false 1 mf_is_integer)) : Ok false P w K mg base "is_number" 2 ["thing"] (spM (gm mg T) K false 1 mf_is_number) := by
  obtain ⟨f, fd, F, g, b⟩ := Z.f_is_number
  have nd := sc_is_number.nd
  have G : FnM false P w K mg base 2 f fd ["thing"] (spM (gm mg T) K false 1 mf_is_number) := fnm_of (γ := gm mg T) rfl F sc_is_number rfl fun cdv A outer s H E hr hgd => by
    exact (pmss_one (pms_ret (pm_and (pm_o g_is_integer hr nog (by decide) (by rfl) (pma_cons (pmv 0) pma_nil)) (pm_one (pm_cmp or_ge (pmv 0) pm_int (nomark _))))))
  exact ⟨f, fd, G, g, F.kp, b⟩
abbrev n_is_index : List Str := ["thing", "many"]
theorem sc_is_index : FnScope n_is_index ["thing", "many"] (defScope (topS 14)) := ⟨rfl, rfl, rfl, by decide +kernel, rfl, by decide +kernel, by decide +kernel⟩
def b_is_index : MM Fl := (sRet (eAnd (eFn mf_is_number 1 (aCons (eVar 0) aNil)) (eOp opLt (eVar 0) (eVar 1))))
abbrev mf_is_index : FM := mFn 2 false 0 b_is_index
theorem ok_is_index (Z : Tx K mg) (g_is_number : Ok false P w K mg base "is_number" 2 ["thing"] (spM (gm mg T) K false 1 mf_is_number)) : Ok false P w K mg base "is_index" 3 ["thing", "many"] (spM (gm mg T) K false 2 mf_is_index) := by
  obtain ⟨f, fd, F, g, b⟩ := Z.f_is_index
  have nd := sc_is_index.nd
  have G : FnM false P w K mg base 3 f fd ["thing", "many"] (spM (gm mg T) K false 2 mf_is_index) := fnm_of (γ := gm mg T) rfl F sc_is_index rfl fun cdv A outer s H E hr hgd => by
    exact (pmss_one (pms_ret (pm_and (pm_o g_is_number hr nog (by decide) (by rfl) (pma_cons (pmv 0) pma_nil)) (pm_one (pm_cmp or_lt (pmv 0) (pmv 1) (nomark _))))))
  exact ⟨f, fd, G, g, F.kp, b⟩
abbrev n_check_limit : List Str := ["book", "k"]
theorem sc_check_limit : FnScope n_check_limit ["book", "k"] (defScope (topS 22)) := ⟨rfl, rfl, rfl, by decide +kernel, rfl, by decide +kernel, by decide +kernel⟩
def b_check_limit : MM Fl := (sIf (mNot (eT (eFn mf_is_index 2 (aCons (eVar 1) (aCons (eCall (op1 opLen) (aCons (eOp opIx (eVar 0) (eC (.int 1))) aNil)) aNil))))) (sRaise "NotUsable" ["word", "at"] (aCons (eC (.str ("limit" : Str))) (aCons (eUn opNeg (eC (.int 1))) aNil))) sNx)
abbrev mf_check_limit : FX := mFnX 2 false 0 b_check_limit
theorem ok_check_limit (Z : Tx K mg) (g_is_index : Ok false P w K mg base "is_index" 3 ["thing", "many"] (spM (gm mg T) K false 2 mf_is_index)) (x_NotUsable : ClsX P w K mg base "NotUsable" 1 ["word", "at"]) : Ok false P w K mg base "check_limit" 4 ["book", "k"] (spX (gm mg T) K false 2 mf_check_limit) := by
  obtain ⟨f, fd, F, g, b⟩ := Z.f_check_limit
  have nd := sc_check_limit.nd
  have G : FnM false P w K mg base 4 f fd ["book", "k"] (spX (gm mg T) K false 2 mf_check_limit) := fnx_of (γ := gm mg T) rfl F sc_check_limit rfl fun cdv A outer s H E hr hgd => by
    exact (pmss_one (pms_if (pmt_not (pmt_val (pm_o g_is_index hr nog (by decide) (by rfl) (pma_cons (pmv 1) (pma_cons (pm_callB cr_len (by rfl) Z.z_len (by decide +kernel) (pma_cons (pm_ix (pmv 0) pm_int) pma_nil)) pma_nil))))) (pmss_one (pms_raise rfl rfl tkC x_NotUsable hr (by decide) (by rfl) (pma_cons pm_str (pma_cons (pm_neg pm_int) pma_nil)))) pmss_nil))
  exact ⟨f, fd, G, g, F.kp, b⟩
abbrev n_has_slot : List Str := ["limit", "purse", "day", "purses", "first", "last", "_"]
theorem sc_has_slot : FnScope n_has_slot ["limit", "purse", "day"] (defScope (topS 16)) := ⟨rfl, rfl, rfl, by decide +kernel, rfl, by decide +kernel, by decide +kernel⟩
def b_has_slot : MM Fl := (sSeq (sUnp (.tp [3, 4, 5, 6]) (eVar 0))
  (sRet (eAnd (eOp (opInX false) (eVar 1) (eVar 3)) (chainT (eVar 4) (eVar 2) (eVar 5) opLe opLe))))
abbrev mf_has_slot : FM := mFn 3 false 4 b_has_slot
theorem ok_has_slot (Z : Tx K mg) : Ok false P w K mg base "has_slot" 1 ["limit", "purse", "day"] (spM (gm mg T) K false 3 mf_has_slot) := by
  obtain ⟨f, fd, F, g, b⟩ := Z.f_has_slot
  have nd := sc_has_slot.nd
  have G : FnM false P w K mg base 1 f fd ["limit", "purse", "day"] (spM (gm mg T) K false 3 mf_has_slot) := fnm_of (γ := gm mg T) rfl F sc_has_slot rfl fun cdv A outer s H E hr hgd => by
    exact (pmss_cons (pms_unp (p := (.tp [3, 4, 5, 6])) (pmv 0) (pg_tup rfl (pgs_cons (pg_name (i := 3) nd rfl (by first | exact Or.inl rfl | exact Or.inr rfl)) (pgs_cons (pg_name (i := 4) nd rfl (by first | exact Or.inl rfl | exact Or.inr rfl)) (pgs_cons (pg_name (i := 5) nd rfl (by first | exact Or.inl rfl | exact Or.inr rfl)) (pgs_cons (pg_name (i := 6) nd rfl (by first | exact Or.inl rfl | exact Or.inr rfl)) pgs_nil))))))
    (pmss_one (pms_ret (pm_and (pm_cmp (or_inT (room65 hr)) (pmv 1) (pmv 3) (by rfl)) (pm_one (pm_chain or_le or_le (pmv 4) (pmv 2) (pmv 5)))))))
  exact ⟨f, fd, G, g, F.kp, b⟩
abbrev n_paid_inside : List Str := ["limit", "purses", "payments", "day", "shares", "purse", "share"]
theorem sc_paid_inside : FnScope n_paid_inside ["limit", "purses", "payments"] (defScope (topS 17)) := ⟨rfl, rfl, rfl, by decide +kernel, rfl, by decide +kernel, by decide +kernel⟩
def b_paid_inside : MM Fl := (sRet (eCall (op1 opSum) (aCons (eLc2 (eIter (eVar 2)) (.tp [3, 4]) [3, 4, 5, 6] mYes (eRange zipI (aCons (eVar 1) (aCons (eVar 4) aNil))) (.tp [5, 6]) [5, 6] (eT (eFn mf_has_slot 3 (aCons (eVar 0) (aCons (eOp opIx (eVar 5) (eC (.int 0))) (aCons (eVar 3) aNil))))) (eVar 6)) aNil)))
abbrev mf_paid_inside : FM := mFn 3 false 4 b_paid_inside
theorem ok_paid_inside (Z : Tx K mg) (g_has_slot : Ok false P w K mg base "has_slot" 1 ["limit", "purse", "day"] (spM (gm mg T) K false 3 mf_has_slot)) : Ok false P w K mg base "paid_inside" 2 ["limit", "purses", "payments"] (spM (gm mg T) K false 3 mf_paid_inside) := by
  obtain ⟨f, fd, F, g, b⟩ := Z.f_paid_inside
  have nd := sc_paid_inside.nd
  have G : FnM false P w K mg base 2 f fd ["limit", "purses", "payments"] (spM (gm mg T) K false 3 mf_paid_inside) := fnm_of (γ := gm mg T) rfl F sc_paid_inside rfl fun cdv A outer s H E hr hgd => by
    exact (pmss_one (pms_ret (pm_callB (cr_sumD rfl) (by rfl) Z.z_sum (by decide +kernel) (pma_cons (pm_lc2 (vs1 := [5, 6]) rfl nd (PMIL.of (pmi_seq (pmv 2))) (blkOk_by (own := [("day", 3), ("shares", 4), ("purse", 5), ("share", 6)]) (N := n_paid_inside) (sc := defScope (topS 17)) (by decide +kernel)) rfl (by decide) (by decide) (by decide) (fun _ _ _ _ _ => (pg_tup rfl (pgs_cons (pg_name (i := 3) nd rfl (by first | exact Or.inl rfl | exact Or.inr rfl)) (pgs_cons (pg_name (i := 4) nd rfl (by first | exact Or.inl rfl | exact Or.inr rfl)) pgs_nil)))) (fun _ _ _ _ _ => pmts_nil) (fun _ _ _ _ _ => (pmi_zip (by rfl) Z.z_zip (pma_cons (pmv 1) (pma_cons (pmv 4) pma_nil)))) (fun _ _ _ _ _ => (pg_tup rfl (pgs_cons (pg_name (i := 5) nd rfl (by first | exact Or.inl rfl | exact Or.inr rfl)) (pgs_cons (pg_name (i := 6) nd rfl (by first | exact Or.inl rfl | exact Or.inr rfl)) pgs_nil)))) (fun _ _ _ _ _ => (pmts_one (pmt_val (pm_o g_has_slot hr nog (by decide) (by rfl) (pma_cons (pmv 0) (pma_cons (pm_ix (pmv 5) pm_int) (pma_cons (pmv 3) pma_nil))))))) (fun _ _ _ _ _ => (pmv 6))) pma_nil))))
  exact ⟨f, fd, G, g, F.kp, b⟩
abbrev n_payments_of : List Str := ["rows", "row"]
theorem sc_payments_of : FnScope n_payments_of ["rows"] (defScope (topS 20)) := ⟨rfl, rfl, rfl, by decide +kernel, rfl, by decide +kernel, by decide +kernel⟩
def b_payments_of : MM Fl := (sRet (eLc (eIter (eVar 0)) (.nm 1) [1] (eT (eOp opEq (eOp opIx (eVar 1) (eC (.int 0))) (eC (.str ("paid" : Str))))) (eTup (aCons (eOp opIx (eVar 1) (eC (.int 1))) (aCons (eOp opIx (eVar 1) (eC (.int 3))) aNil)))))
abbrev mf_payments_of : FM := mFn 1 false 1 b_payments_of
theorem ok_payments_of (Z : Tx K mg) : Ok false P w K mg base "payments_of" 1 ["rows"] (spM (gm mg T) K false 1 mf_payments_of) := by
  obtain ⟨f, fd, F, g, b⟩ := Z.f_payments_of
  have nd := sc_payments_of.nd
  have G : FnM false P w K mg base 1 f fd ["rows"] (spM (gm mg T) K false 1 mf_payments_of) := fnm_of (γ := gm mg T) rfl F sc_payments_of rfl fun cdv A outer s H E hr hgd => by
    exact (pmss_one (pms_ret (pm_lcL rfl nd (PMIL.of (pmi_seq (pmv 0))) (blkOk_by (own := [("row", 1)]) (N := n_payments_of) (sc := defScope (topS 20)) (by decide +kernel)) rfl (by decide) (fun _ _ _ _ _ => (pg_name (i := 1) nd rfl (by first | exact Or.inl rfl | exact Or.inr rfl))) (fun _ _ _ _ _ => (pmts_one (pmt_cmp (or_eq hr.units) (pm_ix (pmv 1) pm_int) pm_str (nomark _)))) (fun _ _ _ _ _ => (pm_tup (pma_cons (pm_ix (pmv 1) pm_int) (pma_cons (pm_ix (pmv 1) pm_int) pma_nil)))))))
  exact ⟨f, fd, G, g, F.kp, b⟩
abbrev n_open_rows : List Str := ["book", "t", "row"]
theorem sc_open_rows : FnScope n_open_rows ["book"] (defScope (topS 23)) := ⟨rfl, rfl, rfl, by decide +kernel, rfl, by decide +kernel, by decide +kernel⟩
def b_open_rows : MM Fl := (sRet (eCall (op1 opTuple) (aCons (eLc (eRange enumI (aCons (eOp opIx (eVar 0) (eC (.int 2))) aNil)) (.tp [1, 2]) [1, 2] (eT (eOp opEq (eOp opIx (eVar 2) (eC (.int 0))) (eC (.str ("buy" : Str))))) (eVar 1)) aNil)))
abbrev mf_open_rows : FM := mFn 1 false 2 b_open_rows
theorem ok_open_rows (Z : Tx K mg) : Ok false P w K mg base "open_rows" 1 ["book"] (spM (gm mg T) K false 1 mf_open_rows) := by
  obtain ⟨f, fd, F, g, b⟩ := Z.f_open_rows
  have nd := sc_open_rows.nd
  have G : FnM false P w K mg base 1 f fd ["book"] (spM (gm mg T) K false 1 mf_open_rows) := fnm_of (γ := gm mg T) rfl F sc_open_rows rfl fun cdv A outer s H E hr hgd => by
    exact (pmss_one (pms_ret (pm_callTy cr_tuple (by rfl) Z.z_tuple (by decide +kernel) (pma_cons (pm_lcL rfl nd (PMIL.of (pmi_enum (by rfl) Z.z_enumerate (pma_cons (pm_ix (pmv 0) pm_int) pma_nil))) (blkOk_by (own := [("t", 1), ("row", 2)]) (N := n_open_rows) (sc := defScope (topS 23)) (by decide +kernel)) rfl (by decide) (fun _ _ _ _ _ => (pg_tup rfl (pgs_cons (pg_name (i := 1) nd rfl (by first | exact Or.inl rfl | exact Or.inr rfl)) (pgs_cons (pg_name (i := 2) nd rfl (by first | exact Or.inl rfl | exact Or.inr rfl)) pgs_nil)))) (fun _ _ _ _ _ => (pmts_one (pmt_cmp (or_eq hr.units) (pm_ix (pmv 2) pm_int) pm_str (nomark _)))) (fun _ _ _ _ _ => (pmv 1))) pma_nil))))
  exact ⟨f, fd, G, g, F.kp, b⟩
abbrev n_payments_with : List Str := ["book", "charging", "rows", "t", "shares"]
theorem sc_payments_with : FnScope n_payments_with ["book", "charging"] (defScope (topS 25)) := ⟨rfl, rfl, rfl, by decide +kernel, rfl, by decide +kernel, by decide +kernel⟩
def b_payments_with : MM Fl := (sSeq (sSet 2 (eOp opIx (eVar 0) (eC (.int 2))))
  (sRet (eOp opAdd (eFn mf_payments_of 1 (aCons (eVar 2) aNil)) (eLc (eRange zipI (aCons (eFn mf_open_rows 1 (aCons (eVar 0) aNil)) (aCons (eVar 1) aNil))) (.tp [3, 4]) [3, 4] mYes (eTup (aCons (eOp opIx (eOp opIx (eVar 2) (eVar 3)) (eC (.int 1))) (aCons (eVar 4) aNil)))))))
abbrev mf_payments_with : FM := mFn 2 false 3 b_payments_with
theorem ok_payments_with (Z : Tx K mg) (g_payments_of : Ok false P w K mg base "payments_of" 1 ["rows"] (spM (gm mg T) K false 1 mf_payments_of)) (g_open_rows : Ok false P w K mg base "open_rows" 1 ["book"] (spM (gm mg T) K false 1 mf_open_rows)) : Ok false P w K mg base "payments_with" 2 ["book", "charging"] (spM (gm mg T) K false 2 mf_payments_with) := by
  obtain ⟨f, fd, F, g, b⟩ := Z.f_payments_with
  have nd := sc_payments_with.nd
  have G : FnM false P w K mg base 2 f fd ["book", "charging"] (spM (gm mg T) K false 2 mf_payments_with) := fnm_of (γ := gm mg T) rfl F sc_payments_with rfl fun cdv A outer s H E hr hgd => by
    exact (pmss_cons (pms_set (i := 2) nd rfl (by first | exact Or.inl rfl | exact Or.inr rfl) (pm_ix (pmv 0) pm_int))
    (pmss_one (pms_ret (pm_op or_add (pm_o g_payments_of hr nog (by decide) (by rfl) (pma_cons (pmv 2) pma_nil)) (pm_lcL rfl nd (PMIL.of (pmi_zip (by rfl) Z.z_zip (pma_cons (pm_o g_open_rows hr nog (by decide) (by rfl) (pma_cons (pmv 0) pma_nil)) (pma_cons (pmv 1) pma_nil)))) (blkOk_by (own := [("t", 3), ("shares", 4)]) (N := n_payments_with) (sc := defScope (topS 25)) (by decide +kernel)) rfl (by decide) (fun _ _ _ _ _ => (pg_tup rfl (pgs_cons (pg_name (i := 3) nd rfl (by first | exact Or.inl rfl | exact Or.inr rfl)) (pgs_cons (pg_name (i := 4) nd rfl (by first | exact Or.inl rfl | exact Or.inr rfl)) pgs_nil)))) (fun _ _ _ _ _ => pmts_nil) (fun _ _ _ _ _ => (pm_tup (pma_cons (pm_ix (pm_ix (pmv 2) (pmv 3)) pm_int) (pma_cons (pmv 4) pma_nil)))))))))
  exact ⟨f, fd, G, g, F.kp, b⟩
abbrev n_paid_in : List Str := ["book", "charging", "k"]
theorem sc_paid_in : FnScope n_paid_in ["book", "charging", "k"] (defScope (topS 26)) := ⟨rfl, rfl, rfl, by decide +kernel, rfl, by decide +kernel, by decide +kernel⟩
def b_paid_in : MM Fl := (sSeq (sExpX (eFnX mf_check_limit 2 (aCons (eVar 0) (aCons (eVar 2) aNil))))
  (sRet (eFn mf_paid_inside 3 (aCons (eOp opIx (eOp opIx (eVar 0) (eC (.int 1))) (eVar 2)) (aCons (eOp opIx (eVar 0) (eC (.int 0))) (aCons (eFn mf_payments_with 2 (aCons (eVar 0) (aCons (eVar 1) aNil))) aNil))))))
abbrev mf_paid_in : FX := mFnX 3 false 0 b_paid_in
theorem ok_paid_in (Z : Tx K mg) (g_check_limit : Ok false P w K mg base "check_limit" 4 ["book", "k"] (spX (gm mg T) K false 2 mf_check_limit)) (g_paid_inside : Ok false P w K mg base "paid_inside" 2 ["limit", "purses", "payments"] (spM (gm mg T) K false 3 mf_paid_inside)) (g_payments_with : Ok false P w K mg base "payments_with" 2 ["book", "charging"] (spM (gm mg T) K false 2 mf_payments_with)) : Ok false P w K mg base "paid_in" 5 ["book", "charging", "k"] (spX (gm mg T) K false 3 mf_paid_in) ∧ OkK false P w K mg base "paid_in" 5 ["book", "charging", "k"] ["k", "charging", "book"] [2, 1, 0] (spX (gm mg T) K false 3 mf_paid_in) := by
  obtain ⟨f, fd, F, g, b, kb0⟩ := Z.f_paid_in
  have nd := sc_paid_in.nd
  have G : FnM false P w K mg base 5 f fd ["book", "charging", "k"] (spX (gm mg T) K false 3 mf_paid_in) := fnx_of (γ := gm mg T) rfl F sc_paid_in rfl fun cdv A outer s H E hr hgd => by
    exact (pmss_cons (pms_expX (pmx_o tkC g_check_limit hr nog (by decide) (by rfl) (pma_cons (pmv 0) (pma_cons (pmv 2) pma_nil))))
    (pmss_one (pms_ret (pm_o g_paid_inside hr nog (by decide) (by rfl) (pma_cons (pm_ix (pm_ix (pmv 0) pm_int) (pmv 2)) (pma_cons (pm_ix (pmv 0) pm_int) (pma_cons (pm_o g_payments_with hr nog (by decide) (by rfl) (pma_cons (pmv 0) (pma_cons (pmv 1) pma_nil))) pma_nil)))))))
  exact ⟨⟨f, fd, G, g, F.kp, b⟩, ⟨f, fd, G, g, F.kp, kb0⟩⟩
abbrev n_names_of : List Str := ["purses", "purse"]
theorem sc_names_of : FnScope n_names_of ["purses"] (defScope (topS 19)) := ⟨rfl, rfl, rfl, by decide +kernel, rfl, by decide +kernel, by decide +kernel⟩
def b_names_of : MM Fl := (sRet (eCall (op1 opTupL) (aCons (eLc (eIter (eVar 0)) (.nm 1) [1] mYes (eOp opIx (eVar 1) (eC (.int 0)))) aNil)))
abbrev mf_names_of : FM := mFn 1 false 1 b_names_of
theorem ok_names_of (Z : Tx K mg) : Ok false P w K mg base "names_of" 1 ["purses"] (spM (gm mg T) K false 1 mf_names_of) ∧ Ok false P w K mg base "names_of" 1 ["purses"] (spN (gm mg T) K 1 mf_names_of) := by
  obtain ⟨f, fd, F, g, b⟩ := Z.f_names_of
  have nd := sc_names_of.nd
  have G : FnM false P w K mg base 1 f fd ["purses"] (spN (gm mg T) K 1 mf_names_of) := fnn_of (γ := gm mg T) rfl F sc_names_of rfl fun cdv A outer s H E hr hgd => by
    exact (pss_one (ps_ret (pe_callTy call_tupF (by rfl) Z.z_tuple (by decide +kernel) (pma_cons (pm_lcL rfl nd (PMIL.of (pmi_seq (pmv 0))) (blkOk_by (own := [("purse", 1)]) (N := n_names_of) (sc := defScope (topS 19)) (by decide +kernel)) rfl (by decide) (fun _ _ _ _ _ => (pg_name (i := 1) nd rfl (by first | exact Or.inl rfl | exact Or.inr rfl))) (fun _ _ _ _ _ => pmts_nil) (fun _ _ _ _ _ => (pm_ix (pmv 1) pm_int))) pma_nil))))
  exact ⟨⟨f, fd, G.imp fun _ _ _ _ h => spN_of h, g, F.kp, b⟩, ⟨f, fd, G, g, F.kp, b⟩⟩
abbrev n_check_purse : List Str := ["book", "purse"]
theorem sc_check_purse : FnScope n_check_purse ["book", "purse"] (defScope (topS 21)) := ⟨rfl, rfl, rfl, by decide +kernel, rfl, by decide +kernel, by decide +kernel⟩
def b_check_purse : MM Fl := (sIf (eT (eOp (opInX true) (eVar 1) (eFn mf_names_of 1 (aCons (eOp opIx (eVar 0) (eC (.int 0))) aNil)))) (sRaise "UnknownPurse" ["purse"] (aCons (eVar 1) aNil)) sNx)
abbrev mf_check_purse : FX := mFnX 2 false 0 b_check_purse
theorem ok_check_purse (Z : Tx K mg) (g_names_of : Ok false P w K mg base "names_of" 1 ["purses"] (spM (gm mg T) K false 1 mf_names_of)) (x_UnknownPurse : ClsX P w K mg base "UnknownPurse" 1 ["purse"]) : Ok false P w K mg base "check_purse" 3 ["book", "purse"] (spX (gm mg T) K false 2 mf_check_purse) := by
  obtain ⟨f, fd, F, g, b⟩ := Z.f_check_purse
  have nd := sc_check_purse.nd
  have G : FnM false P w K mg base 3 f fd ["book", "purse"] (spX (gm mg T) K false 2 mf_check_purse) := fnx_of (γ := gm mg T) rfl F sc_check_purse rfl fun cdv A outer s H E hr hgd => by
    exact (pmss_one (pms_if (pmt_cmp (or_notinT (room65 hr)) (pmv 1) (pm_o g_names_of hr nog (by decide) (by rfl) (pma_cons (pm_ix (pmv 0) pm_int) pma_nil)) (by rfl)) (pmss_one (pms_raise rfl rfl tkC x_UnknownPurse hr (by decide) (by rfl) (pma_cons (pmv 1) pma_nil))) pmss_nil))
  exact ⟨f, fd, G, g, F.kp, b⟩
abbrev n_paid_from : List Str := ["book", "charging", "purse", "place", "_", "shares"]
theorem sc_paid_from : FnScope n_paid_from ["book", "charging", "purse"] (defScope (topS 27)) := ⟨rfl, rfl, rfl, by decide +kernel, rfl, by decide +kernel, by decide +kernel⟩
def b_paid_from : MM Fl := (sSeq (sExpX (eFnX mf_check_purse 2 (aCons (eVar 0) (aCons (eVar 2) aNil))))
  (sSeq (sSet 3 (eOp opIndex (eFn mf_names_of 1 (aCons (eOp opIx (eVar 0) (eC (.int 0))) aNil)) (eVar 2)))
  (sRet (eCall (op1 opSum) (aCons (eLc (eIter (eFn mf_payments_with 2 (aCons (eVar 0) (aCons (eVar 1) aNil)))) (.tp [4, 5]) [4, 5] mYes (eOp opIx (eVar 5) (eVar 3))) aNil)))))
abbrev mf_paid_from : FX := mFnX 3 false 3 b_paid_from
theorem ok_paid_from (Z : Tx K mg) (g_check_purse : Ok false P w K mg base "check_purse" 3 ["book", "purse"] (spX (gm mg T) K false 2 mf_check_purse)) (w_names_of : Ok false P w K mg base "names_of" 1 ["purses"] (spN (gm mg T) K 1 mf_names_of)) (g_payments_with : Ok false P w K mg base "payments_with" 2 ["book", "charging"] (spM (gm mg T) K false 2 mf_payments_with)) : Ok false P w K mg base "paid_from" 4 ["book", "charging", "purse"] (spX (gm mg T) K false 3 mf_paid_from) ∧ OkK false P w K mg base "paid_from" 4 ["book", "charging", "purse"] ["purse", "charging", "book"] [2, 1, 0] (spX (gm mg T) K false 3 mf_paid_from) := by
  obtain ⟨f, fd, F, g, b, kb0⟩ := Z.f_paid_from
  have nd := sc_paid_from.nd
  have G : FnM false P w K mg base 4 f fd ["book", "charging", "purse"] (spX (gm mg T) K false 3 mf_paid_from) := fnx_of (γ := gm mg T) rfl F sc_paid_from rfl fun cdv A outer s H E hr hgd => by
    exact (pmss_cons (pms_expX (pmx_o tkC g_check_purse hr nog (by decide) (by rfl) (pma_cons (pmv 0) (pma_cons (pmv 2) pma_nil))))
    (pmss_cons (pms_set (i := 3) nd rfl (by first | exact Or.inl rfl | exact Or.inr rfl) (pm_index w_names_of hr nog (by decide) (by rfl) (pma_cons (pm_ix (pmv 0) pm_int) pma_nil) (pmv 2)))
    (pmss_one (pms_ret (pm_callB (cr_sumD rfl) (by rfl) Z.z_sum (by decide +kernel) (pma_cons (pm_lcL rfl nd (PMIL.of (pmi_seq (pm_o g_payments_with hr nog (by decide) (by rfl) (pma_cons (pmv 0) (pma_cons (pmv 1) pma_nil))))) (blkOk_by (own := [("_", 4), ("shares", 5)]) (N := n_paid_from) (sc := defScope (topS 27)) (by decide +kernel)) rfl (by decide) (fun _ _ _ _ _ => (pg_tup rfl (pgs_cons (pg_name (i := 4) nd rfl (by first | exact Or.inl rfl | exact Or.inr rfl)) (pgs_cons (pg_name (i := 5) nd rfl (by first | exact Or.inl rfl | exact Or.inr rfl)) pgs_nil)))) (fun _ _ _ _ _ => pmts_nil) (fun _ _ _ _ _ => (pm_ix (pmv 5) (pmv 3)))) pma_nil))))))
  exact ⟨⟨f, fd, G, g, F.kp, b⟩, ⟨f, fd, G, g, F.kp, kb0⟩⟩
abbrev n__law_sums_right : List Str := ["_law_ledger", "_law_rows_now", "_law_folk", "_law_rows", "_law_place", "_law_bound", "_law_due", "_law_told", "_law_j", "_law_own", "_law_shares_now", "_law_row"]
theorem sc__law_sums_right : FnScope n__law_sums_right ["_law_ledger", "_law_rows_now"] (defScope (topS 45)) := ⟨rfl, rfl, rfl, by decide +kernel, rfl, by decide +kernel, by decide +kernel⟩
def b__law_sums_right : MM Fl := (sSeq (sTup [2, 3] (vVal (eOp opIx (eVar 0) (eC (.int 0))) (vVal (eFn mf__law_open 1 (aCons (eVar 0) aNil)) vNil)))
  (sSeq (sFor (eRange enumI (aCons (eOp opIx (eVar 0) (eC (.int 1))) aNil)) (.tp [4, 5]) (sSeq (sSet 6 (eOp opSub (eOp opIx (eVar 5) (eC (.int 3))) (eFn mf__law_left 2 (aCons (eVar 0) (aCons (eVar 5) aNil)))))
  (sSeq (sSet 6 (eOp opAdd (eVar 6) (eCall (op1 opSum) (aCons (eLc (eRange zipI (aCons (eVar 3) (aCons (eVar 1) aNil))) (.tp [11, 10]) [11, 10] mYes (eFn mf__law_spent 4 (aCons (eVar 2) (aCons (eVar 5) (aCons (eOp opIx (eVar 11) (eC (.int 1))) (aCons (eVar 10) aNil)))))) aNil))))
  (sSeq (sSet 7 (eLst (aCons (xGet (eFnX mf_paid_in 3 (aCons (eVar 0) (aCons (eVar 1) (aCons (eVar 4) aNil))))) (aCons (xGet (eFnXK mf_paid_in 3 [2, 1, 0] (aCons (eVar 4) (aCons (eVar 1) (aCons (eVar 0) aNil))))) aNil))))
  (sIf (eT (eOp opNe (eCall (op1 opRepr) (aCons (eVar 7) aNil)) (eCall (op1 opRepr) (aCons (eLst (aCons (eVar 6) (aCons (eVar 6) aNil))) aNil)))) (sRet (eC (.bl false))) sNx)))))
  (sSeq (sFor (eRange enumI (aCons (eVar 2) aNil)) (.tp [8, 9]) (sSeq (sSet 6 (eCall (op1 opSum) (aCons (eLc (eIter (eVar 1)) (.nm 10) [10] mYes (eOp opIx (eVar 10) (eVar 8))) aNil)))
  (sSeq (sSet 6 (eOp opAdd (eVar 6) (eCall (op1 opSum) (aCons (eLc (eIter (eOp opIx (eVar 0) (eC (.int 2)))) (.nm 11) [11] (eT (eOp opEq (eOp opIx (eVar 11) (eC (.int 0))) (eC (.str ("paid" : Str))))) (eOp opIx (eOp opIx (eVar 11) (eC (.int 3))) (eVar 8))) aNil))))
  (sSeq (sSet 7 (eLst (aCons (xGet (eFnX mf_paid_from 3 (aCons (eVar 0) (aCons (eVar 1) (aCons (eOp opIx (eVar 9) (eC (.int 0))) aNil))))) (aCons (xGet (eFnXK mf_paid_from 3 [2, 1, 0] (aCons (eOp opIx (eVar 9) (eC (.int 0))) (aCons (eVar 1) (aCons (eVar 0) aNil))))) aNil))))
  (sIf (eT (eOp opNe (eCall (op1 opRepr) (aCons (eVar 7) aNil)) (eCall (op1 opRepr) (aCons (eLst (aCons (eVar 6) (aCons (eVar 6) aNil))) aNil)))) (sRet (eC (.bl false))) sNx)))))
  (sRet (eC (.bl true))))))
abbrev mf__law_sums_right : FM := mFn 2 false 10 b__law_sums_right
theorem ok__law_sums_right (Z : Tx K mg) (g__law_open : Ok false P w K mg base "_law_open" 1 ["_law_ledger"] (spM (gm mg T) K false 1 mf__law_open)) (g__law_left : Ok false P w K mg base "_law_left" 3 ["_law_ledger", "_law_bound"] (spM (gm mg T) K false 2 mf__law_left)) (g__law_spent : Ok false P w K mg base "_law_spent" 2 ["_law_folk", "_law_bound", "_law_day", "_law_shares_now"] (spM (gm mg T) K false 4 mf__law_spent)) (g_paid_in : Ok false P w K mg base "paid_in" 5 ["book", "charging", "k"] (spX (gm mg T) K false 3 mf_paid_in)) (k0_paid_in : OkK false P w K mg base "paid_in" 5 ["book", "charging", "k"] ["k", "charging", "book"] [2, 1, 0] (spX (gm mg T) K false 3 mf_paid_in)) (g_paid_from : Ok false P w K mg base "paid_from" 4 ["book", "charging", "purse"] (spX (gm mg T) K false 3 mf_paid_from)) (k0_paid_from : OkK false P w K mg base "paid_from" 4 ["book", "charging", "purse"] ["purse", "charging", "book"] [2, 1, 0] (spX (gm mg T) K false 3 mf_paid_from)) : Ok true P w K mg base "_law_sums_right" 6 ["_law_ledger", "_law_rows_now"] (spM (gm mg T) K false 2 mf__law_sums_right) := by
  obtain ⟨f, fd, F, g, b⟩ := Z.f__law_sums_right
  have nd := sc__law_sums_right.nd
  have G : FnM true P w K mg base 6 f fd ["_law_ledger", "_law_rows_now"] (spM (gm mg T) K false 2 mf__law_sums_right) := fnm_of (γ := gm mg T) rfl F sc__law_sums_right rfl fun cdv A outer s H E hr hgd => by
    exact (pmss_cons (pms_tupA (is := [2, 3]) (pmv_val (pm_ix (pmv 0) pm_int) (pmv_val (pm_o g__law_open hr nog (by decide) (by rfl) (pma_cons (pmv 0) pma_nil)) pmv_nil)) (by decide) (pg_tup rfl (pgs_cons (pg_name (i := 2) nd rfl (by first | exact Or.inl rfl | exact Or.inr rfl)) (pgs_cons (pg_name (i := 3) nd rfl (by first | exact Or.inl rfl | exact Or.inr rfl)) pgs_nil))))
    (pmss_cons (pms_for (p := (.tp [4, 5])) PassesOwn.never rfl (pmi_enum (by rfl) Z.z_enumerate (pma_cons (pm_ix (pmv 0) pm_int) pma_nil)) (pg_tup rfl (pgs_cons (pg_name (i := 4) nd rfl (by first | exact Or.inl rfl | exact Or.inr rfl)) (pgs_cons (pg_name (i := 5) nd rfl (by first | exact Or.inl rfl | exact Or.inr rfl)) pgs_nil))) (pmss_cons (pms_set (i := 6) nd rfl (by first | exact Or.inl rfl | exact Or.inr rfl) (pm_op or_sub (pm_ix (pmv 5) pm_int) (pm_o g__law_left hr nog (by decide) (by rfl) (pma_cons (pmv 0) (pma_cons (pmv 5) pma_nil)))))
    (pmss_cons (pms_set (i := 6) nd rfl (by first | exact Or.inl rfl | exact Or.inr rfl) (pm_op or_add (pmv 6) (pm_callB (cr_sumD rfl) (by rfl) Z.z_sum (by decide +kernel) (pma_cons (pm_lcL rfl nd (PMIL.of (pmi_zip (by rfl) Z.z_zip (pma_cons (pmv 3) (pma_cons (pmv 1) pma_nil)))) (blkOk_by (own := [("_law_row", 11), ("_law_shares_now", 10)]) (N := n__law_sums_right) (sc := defScope (topS 45)) (by decide +kernel)) rfl (by decide) (fun _ _ _ _ _ => (pg_tup rfl (pgs_cons (pg_name (i := 11) nd rfl (by first | exact Or.inl rfl | exact Or.inr rfl)) (pgs_cons (pg_name (i := 10) nd rfl (by first | exact Or.inl rfl | exact Or.inr rfl)) pgs_nil)))) (fun _ _ _ _ _ => pmts_nil) (fun _ _ _ _ _ => (pm_o g__law_spent hr nog (by decide) (by rfl) (pma_cons (pmv 2) (pma_cons (pmv 5) (pma_cons (pm_ix (pmv 11) pm_int) (pma_cons (pmv 10) pma_nil))))))) pma_nil))))
    (pmss_cons (pms_set (i := 7) nd rfl (by first | exact Or.inl rfl | exact Or.inr rfl) (pm_lst (pma_cons (pm_getx (pmx_o tk0 g_paid_in hr nog (by decide) (by rfl) (pma_cons (pmv 0) (pma_cons (pmv 1) (pma_cons (pmv 4) pma_nil))))) (pma_cons (pm_getx (pmx_oK tk0 k0_paid_in hr nog (by decide) (by rfl) rfl (pmk_cons (pmv 4) (pmk_cons (pmv 1) (pmk_cons (pmv 0) pmk_nil))))) pma_nil))))
    (pmss_one (pms_if (pmt_cmp (or_ne hr.units) (pm_callB (cr_repr (hgd rfl) (room200 hr)) (by rfl) Z.z_repr (by decide +kernel) (pma_cons (pmv 7) pma_nil)) (pm_callB (cr_repr (hgd rfl) (room200 hr)) (by rfl) Z.z_repr (by decide +kernel) (pma_cons (pm_lst (pma_cons (pmv 6) (pma_cons (pmv 6) pma_nil))) pma_nil)) (nomark _)) (pmss_one (pms_ret pm_bl)) pmss_nil))))))
    (pmss_cons (pms_for (p := (.tp [8, 9])) PassesOwn.never rfl (pmi_enum (by rfl) Z.z_enumerate (pma_cons (pmv 2) pma_nil)) (pg_tup rfl (pgs_cons (pg_name (i := 8) nd rfl (by first | exact Or.inl rfl | exact Or.inr rfl)) (pgs_cons (pg_name (i := 9) nd rfl (by first | exact Or.inl rfl | exact Or.inr rfl)) pgs_nil))) (pmss_cons (pms_set (i := 6) nd rfl (by first | exact Or.inl rfl | exact Or.inr rfl) (pm_callB (cr_sumD rfl) (by rfl) Z.z_sum (by decide +kernel) (pma_cons (pm_lcL rfl nd (PMIL.of (pmi_seq (pmv 1))) (blkOk_by (own := [("_law_shares_now", 10)]) (N := n__law_sums_right) (sc := defScope (topS 45)) (by decide +kernel)) rfl (by decide) (fun _ _ _ _ _ => (pg_name (i := 10) nd rfl (by first | exact Or.inl rfl | exact Or.inr rfl))) (fun _ _ _ _ _ => pmts_nil) (fun _ _ _ _ _ => (pm_ix (pmv 10) (pmv 8)))) pma_nil)))
    (pmss_cons (pms_set (i := 6) nd rfl (by first | exact Or.inl rfl | exact Or.inr rfl) (pm_op or_add (pmv 6) (pm_callB (cr_sumD rfl) (by rfl) Z.z_sum (by decide +kernel) (pma_cons (pm_lcL rfl nd (PMIL.of (pmi_seq (pm_ix (pmv 0) pm_int))) (blkOk_by (own := [("_law_row", 11)]) (N := n__law_sums_right) (sc := defScope (topS 45)) (by decide +kernel)) rfl (by decide) (fun _ _ _ _ _ => (pg_name (i := 11) nd rfl (by first | exact Or.inl rfl | exact Or.inr rfl))) (fun _ _ _ _ _ => (pmts_one (pmt_cmp (or_eq hr.units) (pm_ix (pmv 11) pm_int) pm_str (nomark _)))) (fun _ _ _ _ _ => (pm_ix (pm_ix (pmv 11) pm_int) (pmv 8)))) pma_nil))))
    (pmss_cons (pms_set (i := 7) nd rfl (by first | exact Or.inl rfl | exact Or.inr rfl) (pm_lst (pma_cons (pm_getx (pmx_o tk0 g_paid_from hr nog (by decide) (by rfl) (pma_cons (pmv 0) (pma_cons (pmv 1) (pma_cons (pm_ix (pmv 9) pm_int) pma_nil))))) (pma_cons (pm_getx (pmx_oK tk0 k0_paid_from hr nog (by decide) (by rfl) rfl (pmk_cons (pm_ix (pmv 9) pm_int) (pmk_cons (pmv 1) (pmk_cons (pmv 0) pmk_nil))))) pma_nil))))
    (pmss_one (pms_if (pmt_cmp (or_ne hr.units) (pm_callB (cr_repr (hgd rfl) (room200 hr)) (by rfl) Z.z_repr (by decide +kernel) (pma_cons (pmv 7) pma_nil)) (pm_callB (cr_repr (hgd rfl) (room200 hr)) (by rfl) Z.z_repr (by decide +kernel) (pma_cons (pm_lst (pma_cons (pmv 6) (pma_cons (pmv 6) pma_nil))) pma_nil)) (nomark _)) (pmss_one (pms_ret pm_bl)) pmss_nil))))))
    (pmss_one (pms_ret pm_bl)))))
  exact ⟨f, fd, G, g, F.kp, b⟩
abbrev n__law_outcome : List Str := ["_law_ask_now", "_law_found", "e", "_law_kinds_now", "_law_homes", "_law_is_other"]
theorem sc__law_outcome : FnScope n__law_outcome ["_law_ask_now"] (defScope (topS 44)) := ⟨rfl, rfl, rfl, by decide +kernel, rfl, by decide +kernel, by decide +kernel⟩
def bo__law_outcome (mxc : Rdr → Option (Res × Rdr)) : MM Fl := (sSeq (sSet 1 (eTup (aCons (eC (.str ("odd" : Str))) aNil)))
  (sSeq (sTry 2 [("NotUsable", true), ("UnknownPurse", true)] (sSetX 1 (xTup2 (eC (.str ("told" : Str))) (xAct mxc))) (sSeq (sNew 3 (fLst (aCons (eIsE 2 [("NotUsable", false), ("UnknownPurse", false)]) (aCons (eIsE 2 [("NotUsable", false), ("UnknownPurse", false)]) (aCons (eIsE 2 [("NotUsable", true), ("UnknownPurse", false)]) aNil)))))
  (sSeq (sApp 3 (eIsE 2 [("NotUsable", false), ("UnknownPurse", true)]))
  (sSeq (sSet 4 (eLst (aCons (eIsE 2 [("NotUsable", false), ("UnknownPurse", false)]) (aCons (eIsE 2 [("NotUsable", true), ("UnknownPurse", true)]) aNil))))
  (sSeq (sSet 5 (eIsE 2 [("NotUsable", false), ("UnknownPurse", false)]))
  (sIf (mFrz (mAnd (eT (eIsE 2 [("NotUsable", true), ("UnknownPurse", true)])) (mAnd (mNot (eT (eVar 5))) (eT (eOp opEq (eVar 4) (eLst (aCons (eOp opIx (eVar 3) (eC (.int 0))) (aCons (eNot (eOp opIx (eVar 3) (eC (.int 0)))) aNil)))))))) (sIf (mFrz (eT (eOp opEq (eVar 3) (eLst (aCons (eC (.bl true)) (aCons (eC (.bl false)) (aCons (eC (.bl false)) (aCons (eC (.bl false)) aNil)))))))) (sSet 1 (eTup (aCons (eC (.str ("paper" : Str))) (aCons (eFldC 2 "word" ["NotUsable"]) (aCons (eFldC 2 "at" ["NotUsable"]) aNil))))) (sIf (mFrz (eT (eOp opEq (eVar 3) (eLst (aCons (eC (.bl false)) (aCons (eC (.bl true)) (aCons (eC (.bl false)) (aCons (eC (.bl false)) aNil)))))))) (sSet 1 (eTup (aCons (eC (.str ("none" : Str))) (aCons (eFldC 2 "lack" []) aNil)))) (sIf (mFrz (eT (eOp opEq (eVar 3) (eLst (aCons (eC (.bl false)) (aCons (eC (.bl false)) (aCons (eC (.bl true)) (aCons (eC (.bl false)) aNil)))))))) (sSet 1 (eTup (aCons (eC (.str ("usable" : Str))) (aCons (eFldC 2 "word" ["NotUsable"]) (aCons (eFldC 2 "at" ["NotUsable"]) aNil))))) (sIf (mFrz (eT (eOp opEq (eVar 3) (eLst (aCons (eC (.bl false)) (aCons (eC (.bl false)) (aCons (eC (.bl false)) (aCons (eC (.bl true)) aNil)))))))) (sSet 1 (eTup (aCons (eC (.str ("purse" : Str))) (aCons (eFldC 2 "purse" ["UnknownPurse"]) aNil)))) sNx)))) sNx))))))
  (sRet (eVar 1))))
theorem l__law_outcome (Z : Tx K mg) : ∀ k, LamBody (gm mg T) P w K mg base "_law_outcome" (topS 44) n__law_outcome "_law_ask_now" k bo__law_outcome := by
  intro k fg cdv A outer s H l mxc hr act
  obtain ⟨Ct, mt, kt⟩ := Z.t_CardError
  obtain ⟨C_InvalidPaper, m_InvalidPaper, r_InvalidPaper⟩ := Z.i_InvalidPaper
  obtain ⟨C_NoCharging, m_NoCharging, r_NoCharging⟩ := Z.i_NoCharging
  obtain ⟨C_NotUsable, m_NotUsable, r_NotUsable⟩ := Z.i_NotUsable
  obtain ⟨C_UnknownPurse, m_UnknownPurse, r_UnknownPurse⟩ := Z.i_UnknownPurse
  obtain ⟨C_PaperError, m_PaperError, r_PaperError⟩ := Z.i_PaperError
  obtain ⟨C_BookError, m_BookError, r_BookError⟩ := Z.i_BookError
  obtain ⟨A_EventError, A_TextError, A_UnknownSponsor, ma_EventError, ma_TextError, ma_UnknownSponsor, ra_EventError_TextError_UnknownSponsor⟩ := Z.a_EventError_TextError_UnknownSponsor
  have nd := sc__law_outcome.nd
  exact (pmss_cons (pms_set (i := 1) nd rfl (by first | exact Or.inl rfl | exact Or.inr rfl) (pm_tup (pma_cons pm_str pma_nil)))
    (pmss_cons (pms_try (i := 2) rfl rfl rfl nd rfl rfl ⟨by rfl, by decide, .inl mt⟩ tk0 (fun W' pn xe tk _ => (pmss_one (pms_setX (i := 1) nd rfl (by first | exact Or.inl rfl | exact Or.inr rfl) (pmx_tup2 pm_str (act W' pn xe _ _ tk)))))
    (fun a oe cls d pn hz hf => (pmss_cons (pms_new (i := 3) nd rfl (by first | exact Or.inl rfl | exact Or.inr rfl) (pmf_lst (pma_cons (pm_isE (i := 2) (cv := V.ref C_InvalidPaper) (cvv := Value.ref C_InvalidPaper) rfl hz hf (by rfl) Z.z_isinstance (pv 2) (pe_glob (v := V.ref C_InvalidPaper) (u := Value.ref C_InvalidPaper) (by rfl) m_InvalidPaper rfl) (fun _ h => h) (kitF_of Z.ex rfl r_InvalidPaper)) (pma_cons (pm_isE (i := 2) (cv := V.ref C_NoCharging) (cvv := Value.ref C_NoCharging) rfl hz hf (by rfl) Z.z_isinstance (pv 2) (pe_glob (v := V.ref C_NoCharging) (u := Value.ref C_NoCharging) (by rfl) m_NoCharging rfl) (fun _ h => h) (kitF_of Z.ex rfl r_NoCharging)) (pma_cons (pm_isE (i := 2) (cv := V.ref C_NotUsable) (cvv := Value.ref C_NotUsable) rfl hz hf (by rfl) Z.z_isinstance (pv 2) (pe_glob (v := V.ref C_NotUsable) (u := Value.ref C_NotUsable) (by rfl) m_NotUsable rfl) (fun _ h => h) (kitF_of Z.ex rfl r_NotUsable)) pma_nil)))))
    (pmss_cons (pms_app (i := 3) (pv 3) (pm_isE (i := 2) (cv := V.ref C_UnknownPurse) (cvv := Value.ref C_UnknownPurse) rfl hz hf (by rfl) Z.z_isinstance (pv 2) (pe_glob (v := V.ref C_UnknownPurse) (u := Value.ref C_UnknownPurse) (by rfl) m_UnknownPurse rfl) (fun _ h => h) (kitF_of Z.ex rfl r_UnknownPurse)))
    (pmss_cons (pms_set (i := 4) nd rfl (by first | exact Or.inl rfl | exact Or.inr rfl) (pm_lst (pma_cons (pm_isE (i := 2) (cv := V.ref C_PaperError) (cvv := Value.ref C_PaperError) rfl hz hf (by rfl) Z.z_isinstance (pv 2) (pe_glob (v := V.ref C_PaperError) (u := Value.ref C_PaperError) (by rfl) m_PaperError rfl) (fun _ h => h) (kitF_of Z.ex rfl r_PaperError)) (pma_cons (pm_isE (i := 2) (cv := V.ref C_BookError) (cvv := Value.ref C_BookError) rfl hz hf (by rfl) Z.z_isinstance (pv 2) (pe_glob (v := V.ref C_BookError) (u := Value.ref C_BookError) (by rfl) m_BookError rfl) (fun _ h => h) (kitF_of Z.ex rfl r_BookError)) pma_nil))))
    (pmss_cons (pms_set (i := 5) nd rfl (by first | exact Or.inl rfl | exact Or.inr rfl) (pm_isET (i := 2) (cs := [V.ref A_EventError, V.ref A_TextError, V.ref A_UnknownSponsor]) (cvs := [Value.ref A_EventError, Value.ref A_TextError, Value.ref A_UnknownSponsor]) rfl hz hf (by rfl) Z.z_isinstance (pv 2) (pa_cons (pe_glob (v := V.ref A_EventError) (u := Value.ref A_EventError) (by rfl) ma_EventError rfl) (pa_cons (pe_glob (v := V.ref A_TextError) (u := Value.ref A_TextError) (by rfl) ma_TextError rfl) (pa_cons (pe_glob (v := V.ref A_UnknownSponsor) (u := Value.ref A_UnknownSponsor) (by rfl) ma_UnknownSponsor rfl) pa_nil))) (fun _ _ _ h => h) (Nat.le_of_ble_eq_true rfl) (.cons (.own _) (.cons (.own _) (.cons (.own _) .nil))) (kitA_of Z.ex rfl ra_EventError_TextError_UnknownSponsor)))
    (pmss_one (pms_if (pmt_frz (PW.pt (pmw_and (pmt_val (pm_isE (i := 2) (cv := V.ty "ValueError") (cvv := Value.type "ValueError") rfl hz hf (by rfl) Z.z_isinstance (pv 2) (pe_bltn (v := V.ty "ValueError") (u := Value.type "ValueError") (by rfl) Z.z_ValueError (by decide +kernel) rfl) (fun _ h => h) (kitF_of Z.ex rfl Z.b_ValueError))) (pmw_and (pmt_not (pmt_val (pmv 5))) (pmw_and1 (pmt_cmp (or_eq hr.units) (pmv 4) (pm_lst (pma_cons (pm_ix (pmv 3) pm_int) (pma_cons (pm_not (pm_ix (pmv 3) pm_int)) pma_nil))) (nomark _))))))) (pmss_one (pms_if (pmt_frz (pmt_cmp (or_eq hr.units) (pmv 3) (pm_lst (pma_cons pm_bl (pma_cons pm_bl (pma_cons pm_bl (pma_cons pm_bl pma_nil))))) (nomark _))) (pmss_one (pms_set (i := 1) nd rfl (by first | exact Or.inl rfl | exact Or.inr rfl) (pm_tup (pma_cons pm_str (pma_cons (pm_fldE (i := 2) rfl hz hf (pv 2) (fldF_of Z.ex (by decide) Z.q_word)) (pma_cons (pm_fldE (i := 2) rfl hz hf (pv 2) (fldF_of Z.ex (by decide) Z.q_at)) pma_nil)))))) (pmss_one (pms_if (pmt_frz (pmt_cmp (or_eq hr.units) (pmv 3) (pm_lst (pma_cons pm_bl (pma_cons pm_bl (pma_cons pm_bl (pma_cons pm_bl pma_nil))))) (nomark _))) (pmss_one (pms_set (i := 1) nd rfl (by first | exact Or.inl rfl | exact Or.inr rfl) (pm_tup (pma_cons pm_str (pma_cons (pm_fldE (i := 2) rfl hz hf (pv 2) (fldF_of Z.ex (by decide) Z.q_lack)) pma_nil))))) (pmss_one (pms_if (pmt_frz (pmt_cmp (or_eq hr.units) (pmv 3) (pm_lst (pma_cons pm_bl (pma_cons pm_bl (pma_cons pm_bl (pma_cons pm_bl pma_nil))))) (nomark _))) (pmss_one (pms_set (i := 1) nd rfl (by first | exact Or.inl rfl | exact Or.inr rfl) (pm_tup (pma_cons pm_str (pma_cons (pm_fldE (i := 2) rfl hz hf (pv 2) (fldF_of Z.ex (by decide) Z.q_word)) (pma_cons (pm_fldE (i := 2) rfl hz hf (pv 2) (fldF_of Z.ex (by decide) Z.q_at)) pma_nil)))))) (pmss_one (pms_if (pmt_frz (pmt_cmp (or_eq hr.units) (pmv 3) (pm_lst (pma_cons pm_bl (pma_cons pm_bl (pma_cons pm_bl (pma_cons pm_bl pma_nil))))) (nomark _))) (pmss_one (pms_set (i := 1) nd rfl (by first | exact Or.inl rfl | exact Or.inr rfl) (pm_tup (pma_cons pm_str (pma_cons (pm_fldE (i := 2) rfl hz hf (pv 2) (fldF_of Z.ex (by decide) Z.q_purse)) pma_nil))))) pmss_nil)))))))) pmss_nil))))))) kt)
    (pmss_one (pms_ret (pmv 1)))))
abbrev n__law_odd_right : List Str := ["_law_ledger", "_law_rows_now", "_law_found", "_law_odd"]
theorem sc__law_odd_right : FnScope n__law_odd_right ["_law_ledger", "_law_rows_now"] (defScope (topS 46)) := ⟨rfl, rfl, rfl, by decide +kernel, rfl, by decide +kernel, by decide +kernel⟩
def b__law_odd_right : MM Fl := (sSeq (sFor (eIter (eTup (aCons (eUn opNeg (eC (.int 1))) (aCons (eCall (op1 opLen) (aCons (eOp opIx (eVar 0) (eC (.int 1))) aNil)) (aCons (eC .non) (aCons (eC (.bl true)) (aCons (eC (.bl false)) (aCons (eC (.str ("0" : Str))) (aCons (eTup (aCons (eC (.int 0)) aNil)) (aCons (eLst (aCons (eC (.int 0)) aNil)) (aCons (eOp opPow (eC (.int 10)) (eC (.int 30))) aNil))))))))))) (.nm 3) (sSeq (sNew 2 (fLst (aCons (eLam (eFnX mf_paid_in 3 (aCons (eVar 0) (aCons (eVar 1) (aCons (eVar 3) aNil)))) bo__law_outcome 5) aNil)))
  (sSeq (sApp 2 (eLam (eFnXK mf_paid_in 3 [2, 1, 0] (aCons (eVar 3) (aCons (eVar 1) (aCons (eVar 0) aNil)))) bo__law_outcome 5))
  (sIf (mFrz (eT (eOp opNe (eCall (op1 opRepr) (aCons (eVar 2) aNil)) (eCall (op1 opRepr) (aCons (eOp opMul (eLst (aCons (eTup (aCons (eC (.str ("usable" : Str))) (aCons (eC (.str ("limit" : Str))) (aCons (eUn opNeg (eC (.int 1))) aNil)))) aNil)) (eC (.int 2))) aNil))))) (sRet (eC (.bl false))) sNx))))
  (sSeq (sFor (eIter (eTup (aCons (eC (.str ("zz" : Str))) (aCons (eC (.str ("" : Str))) (aCons (eC .non) (aCons (eC (.int 0)) (aCons (eC (.bl true)) (aCons (eTup (aCons (eC (.str ("gift" : Str))) aNil)) (aCons (eLst (aCons (eC (.str ("gift" : Str))) aNil)) (aCons (eOp opIx (eOp opIx (eVar 0) (eC (.int 0))) (eC (.int 0))) aNil)))))))))) (.nm 3) (sSeq (sNew 2 (fLst (aCons (eLam (eFnX mf_paid_from 3 (aCons (eVar 0) (aCons (eVar 1) (aCons (eVar 3) aNil)))) bo__law_outcome 5) aNil)))
  (sSeq (sApp 2 (eLam (eFnXK mf_paid_from 3 [2, 1, 0] (aCons (eVar 3) (aCons (eVar 1) (aCons (eVar 0) aNil)))) bo__law_outcome 5))
  (sIf (mFrz (eT (eOp opNe (eCall (op1 opRepr) (aCons (eVar 2) aNil)) (eCall (op1 opRepr) (aCons (eOp opMul (eLst (aCons (eTup (aCons (eC (.str ("purse" : Str))) (aCons (eVar 3) aNil))) aNil)) (eC (.int 2))) aNil))))) (sRet (eC (.bl false))) sNx))))
  (sRet (eC (.bl true)))))
abbrev mf__law_odd_right : FM := mFn 2 false 2 b__law_odd_right
theorem ok__law_odd_right (Z : Tx K mg) (g_paid_in : Ok false P w K mg base "paid_in" 5 ["book", "charging", "k"] (spX (gm mg T) K false 3 mf_paid_in)) (l__law_outcome : ∀ k, LamBody (gm mg T) P w K mg base "_law_outcome" (topS 44) n__law_outcome "_law_ask_now" k bo__law_outcome) (k0_paid_in : OkK false P w K mg base "paid_in" 5 ["book", "charging", "k"] ["k", "charging", "book"] [2, 1, 0] (spX (gm mg T) K false 3 mf_paid_in)) (g_paid_from : Ok false P w K mg base "paid_from" 4 ["book", "charging", "purse"] (spX (gm mg T) K false 3 mf_paid_from)) (k0_paid_from : OkK false P w K mg base "paid_from" 4 ["book", "charging", "purse"] ["purse", "charging", "book"] [2, 1, 0] (spX (gm mg T) K false 3 mf_paid_from)) (TB : LamX.TabB base mg c__law_odd_right P__law_odd_right) (hT : (P__law_odd_right, q__law_odd_right) ∈ T) (hU : ∀ p ∈ T, p.1 = P__law_odd_right → p.2 = q__law_odd_right) (hC : ∀ (f : Addr) (fd : FuncData), Fun K "_law_odd_right" "_law_odd_right" (topS 46) f fd → mg "_law_odd_right" = some (.ref f) → fd.code = .ref c__law_odd_right) : Ok true P w K mg base "_law_odd_right" 8 ["_law_ledger", "_law_rows_now"] (spM (gm mg T) K false 2 mf__law_odd_right) := by
  obtain ⟨fl, fdl, Fl, ml, bl⟩ := Z.f__law_outcome
  obtain ⟨f, fd, F, g, b⟩ := Z.f__law_odd_right
  have nd := sc__law_odd_right.nd
  have G : FnM true P w K mg base 8 f fd ["_law_ledger", "_law_rows_now"] (spM (gm mg T) K false 2 mf__law_odd_right) := fnm_ofC (γ := gm mg T) rfl F sc__law_odd_right rfl fun cdv A outer s H E hcd hr hgd => by
    have hcode : cdv = .ref c__law_odd_right := hcd.symm.trans (hC f fd F g)
    subst hcode
    exact (pmss_cons (pms_for (p := (.nm 3)) PassesOwn.never rfl (pmi_seq (pm_tup (pma_cons (pm_neg pm_int) (pma_cons (pm_callB cr_len (by rfl) Z.z_len (by decide +kernel) (pma_cons (pm_ix (pmv 0) pm_int) pma_nil)) (pma_cons pm_non (pma_cons pm_bl (pma_cons pm_bl (pma_cons pm_str (pma_cons (pm_tup (pma_cons pm_int pma_nil)) (pma_cons (pm_lst (pma_cons pm_int pma_nil)) (pma_cons (pm_op or_pow pm_int pm_int) pma_nil))))))))))) (pg_name (i := 3) nd rfl (by first | exact Or.inl rfl | exact Or.inr rfl)) (pmss_cons (pms_new (i := 2) nd rfl (by first | exact Or.inl rfl | exact Or.inr rfl) (pmf_lst (pma_cons (pm_lamO (k := 5) rfl Fl ml bl sc__law_outcome (l__law_outcome _) (by rfl) rfl (Or.inl rfl) TB rfl (memT (by rfl) hT) (oneT (by rfl) hU) hr (by decide) (LamX.lamS_by (sc := defScope (topS 46)) (by decide +kernel)) rfl (fun _ _ _ _ _ => rfl) (fun A outer s H E f c' hr => (pmx_o tkL g_paid_in hr nog (by decide) (by rfl) (pma_cons (pmv 0) (pma_cons (pmv 1) (pma_cons (pmv 3) pma_nil)))))) pma_nil)))
    (pmss_cons (pms_app (i := 2) (pv 2) (pm_lamO (k := 5) rfl Fl ml bl sc__law_outcome (l__law_outcome _) (by rfl) rfl (Or.inl rfl) TB rfl (memT (by rfl) hT) (oneT (by rfl) hU) hr (by decide) (LamX.lamS_by (sc := defScope (topS 46)) (by decide +kernel)) rfl (fun _ _ _ _ _ => rfl) (fun A outer s H E f c' hr => (pmx_oK tkL k0_paid_in hr nog (by decide) (by rfl) rfl (pmk_cons (pmv 3) (pmk_cons (pmv 1) (pmk_cons (pmv 0) pmk_nil)))))))
    (pmss_one (pms_if (pmt_frz (pmt_cmp (or_ne hr.units) (pm_callB (cr_repr (hgd rfl) (room200 hr)) (by rfl) Z.z_repr (by decide +kernel) (pma_cons (pmv 2) pma_nil)) (pm_callB (cr_repr (hgd rfl) (room200 hr)) (by rfl) Z.z_repr (by decide +kernel) (pma_cons (pm_op or_mul (pm_lst (pma_cons (pm_tup (pma_cons pm_str (pma_cons pm_str (pma_cons (pm_neg pm_int) pma_nil)))) pma_nil)) pm_int) pma_nil)) (nomark _))) (pmss_one (pms_ret pm_bl)) pmss_nil)))))
    (pmss_cons (pms_for (p := (.nm 3)) PassesOwn.never rfl (pmi_seq (pm_tup (pma_cons pm_str (pma_cons pm_str (pma_cons pm_non (pma_cons pm_int (pma_cons pm_bl (pma_cons (pm_tup (pma_cons pm_str pma_nil)) (pma_cons (pm_lst (pma_cons pm_str pma_nil)) (pma_cons (pm_ix (pm_ix (pmv 0) pm_int) pm_int) pma_nil)))))))))) (pg_name (i := 3) nd rfl (by first | exact Or.inl rfl | exact Or.inr rfl)) (pmss_cons (pms_new (i := 2) nd rfl (by first | exact Or.inl rfl | exact Or.inr rfl) (pmf_lst (pma_cons (pm_lamO (k := 5) rfl Fl ml bl sc__law_outcome (l__law_outcome _) (by rfl) rfl (Or.inl rfl) TB rfl (memT (by rfl) hT) (oneT (by rfl) hU) hr (by decide) (LamX.lamS_by (sc := defScope (topS 46)) (by decide +kernel)) rfl (fun _ _ _ _ _ => rfl) (fun A outer s H E f c' hr => (pmx_o tkL g_paid_from hr nog (by decide) (by rfl) (pma_cons (pmv 0) (pma_cons (pmv 1) (pma_cons (pmv 3) pma_nil)))))) pma_nil)))
    (pmss_cons (pms_app (i := 2) (pv 2) (pm_lamO (k := 5) rfl Fl ml bl sc__law_outcome (l__law_outcome _) (by rfl) rfl (Or.inl rfl) TB rfl (memT (by rfl) hT) (oneT (by rfl) hU) hr (by decide) (LamX.lamS_by (sc := defScope (topS 46)) (by decide +kernel)) rfl (fun _ _ _ _ _ => rfl) (fun A outer s H E f c' hr => (pmx_oK tkL k0_paid_from hr nog (by decide) (by rfl) rfl (pmk_cons (pmv 3) (pmk_cons (pmv 1) (pmk_cons (pmv 0) pmk_nil)))))))
    (pmss_one (pms_if (pmt_frz (pmt_cmp (or_ne hr.units) (pm_callB (cr_repr (hgd rfl) (room200 hr)) (by rfl) Z.z_repr (by decide +kernel) (pma_cons (pmv 2) pma_nil)) (pm_callB (cr_repr (hgd rfl) (room200 hr)) (by rfl) Z.z_repr (by decide +kernel) (pma_cons (pm_op or_mul (pm_lst (pma_cons (pm_tup (pma_cons pm_str (pma_cons (pmv 3) pma_nil))) pma_nil)) pm_int) pma_nil)) (nomark _))) (pmss_one (pms_ret pm_bl)) pmss_nil)))))
    (pmss_one (pms_ret pm_bl))))
  exact ⟨f, fd, G, g, F.kp, b⟩
abbrev n_law : List Str := ["_law_script", "_law_feed_here", "_law_attempt", "_law_ledger", "_law_kept", "_law_ways", "_law_lap", "_law_rows_now", "_law_row", "_law_way"]
theorem sc_law : FnScope n_law ["_law_script"] (defScope (topS 47)) := ⟨rfl, rfl, rfl, by decide +kernel, rfl, by decide +kernel, by decide +kernel⟩
def b_law : MM Fl := (sSeq (sFor (eRange range1 (aCons (eC (.int 8)) aNil)) (.nm 2) (sSeq (sSet 3 (eFnR mf__law_book_now 0 1 aNil))
  (sSeq (sTup [4, 5] (vVal (eCall (op1 opRepr) (aCons (eVar 3) aNil)) (vVal (eLc (eIter (eFn mf__law_open 1 (aCons (eVar 3) aNil))) (.nm 8) [8] mYes (eFn mf__law_splits 2 (aCons (eVar 3) (aCons (eVar 8) aNil)))) vNil)))
  (sSeq (sIf (eT (eOp opEq (eLc (eIter (eVar 5)) (.nm 9) [9] (eT (eOp opEq (eVar 9) (eLst aNil))) (eVar 9)) (eLst aNil))) (sFor (eRange range1 (aCons (eC (.int 3)) aNil)) (.nm 6) (sSeq (sSet 7 (eCall (op1 opTuple) (aCons (eLc (eIter (eVar 5)) (.nm 9) [9] mYes (eFnR mf__law_choice 1 1 (aCons (eVar 9) aNil))) aNil)))
  (sIf (mOr (mNot (eT (eFn mf__law_sums_right 2 (aCons (eVar 3) (aCons (eVar 7) aNil))))) (mNot (eT (eFn mf__law_odd_right 2 (aCons (eVar 3) (aCons (eVar 7) aNil)))))) (sRet (eC (.bl false))) sNx))) sNx)
  (sIf (eT (eOp opNe (eCall (op1 opRepr) (aCons (eVar 3) aNil)) (eVar 4))) (sRet (eC (.bl false))) sNx)))))
  (sRet (eC (.bl true))))
theorem ok_law (Z : Tx K mg) (g_rd : Ok false P w K mg base "_law_feed" 1 ["_law_script"] (spReader K)) (g__law_book_now : Ok false P w K mg base "_law_book_now" 4 ["_law_feed_here"] (spM (gm mg T) K true 0 mf__law_book_now)) (g__law_open : Ok false P w K mg base "_law_open" 1 ["_law_ledger"] (spM (gm mg T) K false 1 mf__law_open)) (g__law_splits : Ok false P w K mg base "_law_splits" 2 ["_law_ledger", "_law_row"] (spM (gm mg T) K false 2 mf__law_splits)) (g__law_choice : Ok false P w K mg base "_law_choice" 2 ["_law_feed_here", "_law_some"] (spM (gm mg T) K true 1 mf__law_choice)) (g__law_odd_right : Ok true P w K mg base "_law_odd_right" 8 ["_law_ledger", "_law_rows_now"] (spM (gm mg T) K false 2 mf__law_odd_right)) (g__law_sums_right : Ok true P w K mg base "_law_sums_right" 6 ["_law_ledger", "_law_rows_now"] (spM (gm mg T) K false 2 mf__law_sums_right)) {fa : Addr} {fd : FuncData} (F : Fun K "law" "law" (topS 47) fa fd) (pure : ∀ ns : List Int, ns.length ≤ 63 → ∃ rd', b_law (env0 8) ⟨ns, 0, 0, 0⟩ = some (.ret (.bl true), rd')) : FnM true P w K mg base 9 fa fd ["_law_script"] (spLawM (gm mg T) K) := by
  obtain ⟨fr, fdr, G, gr, kr, br⟩ := g_rd
  refine fnm_gen F sc_law (fun vs H Q E h => ?_) fun cdv A outer s H vs Q E hr hgd h => ?_
  · obtain ⟨a, ns, _, rfl, _⟩ := h
    rfl
  · have nd := sc_law.nd
    refine ⟨_, (pss_cons (ps_set (i := 1) nd rfl (by first | exact Or.inl rfl | exact Or.inr rfl) (pe_callM G (hr.mono (by decide)) nog (by rfl) gr kr br (pa_cons (pv 0) pa_nil))) (?_ : PMSs (gm mg T) (fun _ _ _ _ => False) (cxOf (L2.CX P w) P w K mg base n_law "law" (defScope (topS 47)) fa cdv A outer s H E).nox (defBody (topS 47)).tail b_law)).nox, reading_law (γ := gm mg T) rfl (by decide) h rfl pure⟩
    exact (pmss_cons (pms_for (p := (.nm 2)) PassesOwn.never rfl (pmi_range1 (by rfl) Z.z_range (pma_cons pm_int pma_nil)) (pg_name (i := 2) nd rfl (by first | exact Or.inl rfl | exact Or.inr rfl)) (pmss_cons (pms_set (i := 3) nd rfl (by first | exact Or.inl rfl | exact Or.inr rfl) (pm_oR g__law_book_now hr nog (by decide) (by rfl) (pv 1) pma_nil))
    (pmss_cons (pms_par (i := 4) (j := 5) (fun ha => ps_par (by rfl) nd rfl rfl (by decide) rfl rfl ha (by rfl)) (pmv_val (pm_callB (cr_repr (hgd rfl) (room200 hr)) (by rfl) Z.z_repr (by decide +kernel) (pma_cons (pmv 3) pma_nil)) (pmv_val (pm_lcL rfl nd (PMIL.of (pmi_seq (pm_o g__law_open hr nog (by decide) (by rfl) (pma_cons (pmv 3) pma_nil)))) (blkOk_by (own := [("_law_row", 8)]) (N := n_law) (sc := defScope (topS 47)) (by decide +kernel)) rfl (by decide) (fun _ _ _ _ _ => (pg_name (i := 8) nd rfl (by first | exact Or.inl rfl | exact Or.inr rfl))) (fun _ _ _ _ _ => pmts_nil) (fun _ _ _ _ _ => (pm_o g__law_splits hr nog (by decide) (by rfl) (pma_cons (pmv 3) (pma_cons (pmv 8) pma_nil))))) pmv_nil)))
    (pmss_cons (pms_if (pmt_cmp (or_eq hr.units) (pm_lcL rfl nd (PMIL.of (pmi_seq (pmv 5))) (blkOk_by (own := [("_law_way", 9)]) (N := n_law) (sc := defScope (topS 47)) (by decide +kernel)) rfl (by decide) (fun _ _ _ _ _ => (pg_name (i := 9) nd rfl (by first | exact Or.inl rfl | exact Or.inr rfl))) (fun _ _ _ _ _ => (pmts_one (pmt_cmp (or_eq hr.units) (pmv 9) (pm_lst pma_nil) (nomark _)))) (fun _ _ _ _ _ => (pmv 9))) (pm_lst pma_nil) (nomark _)) (pmss_one (pms_for (p := (.nm 6)) PassesOwn.never rfl (pmi_range1 (by rfl) Z.z_range (pma_cons pm_int pma_nil)) (pg_name (i := 6) nd rfl (by first | exact Or.inl rfl | exact Or.inr rfl)) (pmss_cons (pms_set (i := 7) nd rfl (by first | exact Or.inl rfl | exact Or.inr rfl) (pm_callTy cr_tuple (by rfl) Z.z_tuple (by decide +kernel) (pma_cons (pm_lcL rfl nd (PMIL.of (pmi_seq (pmv 5))) (blkOk_by (own := [("_law_way", 9)]) (N := n_law) (sc := defScope (topS 47)) (by decide +kernel)) rfl (by decide) (fun _ _ _ _ _ => (pg_name (i := 9) nd rfl (by first | exact Or.inl rfl | exact Or.inr rfl))) (fun _ _ _ _ _ => pmts_nil) (fun _ _ _ _ _ => (pm_oR g__law_choice hr nog (by decide) (by rfl) (pv 1) (pma_cons (pmv 9) pma_nil)))) pma_nil)))
    (pmss_one (pms_if (PW.pt (pmw_or (pmt_not (pmt_val (pm_o g__law_sums_right hr hgd (by decide) (by rfl) (pma_cons (pmv 3) (pma_cons (pmv 7) pma_nil))))) (pmw_or1 (pmt_not (pmt_val (pm_o g__law_odd_right hr hgd (by decide) (by rfl) (pma_cons (pmv 3) (pma_cons (pmv 7) pma_nil)))))))) (pmss_one (pms_ret pm_bl)) pmss_nil))))) pmss_nil)
    (pmss_one (pms_if (pmt_cmp (or_ne hr.units) (pm_callB (cr_repr (hgd rfl) (room200 hr)) (by rfl) Z.z_repr (by decide +kernel) (pma_cons (pmv 3) pma_nil)) (pmv 4) (nomark _)) (pmss_one (pms_ret pm_bl)) pmss_nil))))))
    (pmss_one (pms_ret pm_bl)))
theorem ok_all (Z : Tx K mg) (TB : LamX.TabB base mg c__law_odd_right P__law_odd_right) (hT : (P__law_odd_right, q__law_odd_right) ∈ T) (hU : ∀ p ∈ T, p.1 = P__law_odd_right → p.2 = q__law_odd_right) (hC : ∀ (f : Addr) (fd : FuncData), Fun K "_law_odd_right" "_law_odd_right" (topS 46) f fd → mg "_law_odd_right" = some (.ref f) → fd.code = .ref c__law_odd_right) {fa : Addr} {fd : FuncData} (F : Fun K "law" "law" (topS 47) fa fd) (pure : ∀ ns : List Int, ns.length ≤ 63 → ∃ rd', b_law (env0 8) ⟨ns, 0, 0, 0⟩ = some (.ret (.bl true), rd')) : FnM true P w K mg base 9 fa fd ["_law_script"] (spLawM (gm mg T) K) := by
  have x_NotUsable := x_NotUsable (P := P) (w := w) (base := base) Z
  have x_UnknownPurse := x_UnknownPurse (P := P) (w := w) (base := base) Z
  have g__law_feed := ok__law_feed (P := P) (w := w) (base := base) Z
  obtain g__law_draw := ok__law_draw (P := P) (w := w) (base := base) (T := T) Z
  obtain g__law_choice := ok__law_choice (P := P) (w := w) (base := base) (T := T) Z g__law_draw
  obtain g__law_purses := ok__law_purses (P := P) (w := w) (base := base) (T := T) Z g__law_draw g__law_choice
  obtain g__law_meet := ok__law_meet (P := P) (w := w) (base := base) (T := T) Z
  obtain g__law_inside := ok__law_inside (P := P) (w := w) (base := base) (T := T) Z
  obtain g__law_bounds := ok__law_bounds (P := P) (w := w) (base := base) (T := T) Z g__law_draw g__law_choice g__law_inside g__law_meet
  obtain g__law_day_sort := ok__law_day_sort (P := P) (w := w) (base := base) (T := T) Z g__law_draw g__law_choice
  obtain g__law_may := ok__law_may (P := P) (w := w) (base := base) (T := T) Z
  obtain g__law_has := ok__law_has (P := P) (w := w) (base := base) (T := T) Z
  obtain g__law_spent := ok__law_spent (P := P) (w := w) (base := base) (T := T) Z g__law_has
  obtain g__law_left := ok__law_left (P := P) (w := w) (base := base) (T := T) Z g__law_spent
  obtain g__law_book_now := ok__law_book_now (P := P) (w := w) (base := base) (T := T) Z g__law_purses g__law_bounds g__law_draw g__law_day_sort g__law_may g__law_left
  obtain g__law_splits := ok__law_splits (P := P) (w := w) (base := base) (T := T) Z g__law_may
  obtain g__law_open := ok__law_open (P := P) (w := w) (base := base) (T := T) Z
  obtain g_is_integer := ok_is_integer (P := P) (w := w) (base := base) (T := T) Z
  obtain g_is_number := ok_is_number (P := P) (w := w) (base := base) (T := T) Z g_is_integer
  obtain g_is_index := ok_is_index (P := P) (w := w) (base := base) (T := T) Z g_is_number
  obtain g_check_limit := ok_check_limit (P := P) (w := w) (base := base) (T := T) Z g_is_index x_NotUsable
  obtain g_has_slot := ok_has_slot (P := P) (w := w) (base := base) (T := T) Z
  obtain g_paid_inside := ok_paid_inside (P := P) (w := w) (base := base) (T := T) Z g_has_slot
  obtain g_payments_of := ok_payments_of (P := P) (w := w) (base := base) (T := T) Z
  obtain g_open_rows := ok_open_rows (P := P) (w := w) (base := base) (T := T) Z
  obtain g_payments_with := ok_payments_with (P := P) (w := w) (base := base) (T := T) Z g_payments_of g_open_rows
  obtain ⟨g_paid_in, k0_paid_in⟩ := ok_paid_in (P := P) (w := w) (base := base) (T := T) Z g_check_limit g_paid_inside g_payments_with
  obtain ⟨g_names_of, w_names_of⟩ := ok_names_of (P := P) (w := w) (base := base) (T := T) Z
  obtain g_check_purse := ok_check_purse (P := P) (w := w) (base := base) (T := T) Z g_names_of x_UnknownPurse
  obtain ⟨g_paid_from, k0_paid_from⟩ := ok_paid_from (P := P) (w := w) (base := base) (T := T) Z g_check_purse w_names_of g_payments_with
  obtain g__law_sums_right := ok__law_sums_right (P := P) (w := w) (base := base) (T := T) Z g__law_open g__law_left g__law_spent g_paid_in k0_paid_in g_paid_from k0_paid_from
  have l__law_outcome := l__law_outcome (P := P) (w := w) (base := base) (T := T) Z
  obtain g__law_odd_right := ok__law_odd_right (P := P) (w := w) (base := base) (T := T) Z g_paid_in l__law_outcome k0_paid_in g_paid_from k0_paid_from TB hT hU hC
  exact ok_law Z g__law_feed g__law_book_now g__law_open g__law_splits g__law_choice g__law_odd_right g__law_sums_right F pure
theorem law_end {h : Heap} {fa : Addr} {PR : Program} (pure : ∀ ns : List Int, ns.length ≤ 63 → ∃ rd', b_law (env0 8) ⟨ns, 0, 0, 0⟩ = some (.ret (.bl true), rd')) (X : K.In h) (G : h.Ns mainGlobals mg) (hfa : mg "law" = some (.ref fa)) (Z : Tx K mg) (tb : PySem.W.tabIn K "_law_odd_right" = some (c__law_odd_right, P__law_odd_right)) (nb : K.lookup P__law_odd_right = none) (fb : ∃ e, (recsOf PR).find? (fun e => e.name == ("_law_odd_right" : Str)) = some e) :
    ∃ (γ : Gm) (cs : Cts) (fd : FuncData), γ.T = cs.T ∧ ((∀ (y : Str) (c P : Addr), PySem.W.tabIn K y = some (c, P) → (∃ e, (recsOf PR).find? (fun e => e.name == y) = some e) → PySem.W.CodeHd h c P ∧ h.get? P = some (PySem.W.tabObj #[])) → CtsOk K h cs) ∧
      (∀ (s : Shared) (u : Value), BindsTo s fd ⟨[u], []⟩ [("_law_script", u)]) ∧ ∀ base : Heap, K.In base → base.Ns mainGlobals mg → CtB base mg cs → FnM true P w K mg base 9 fa fd ["_law_script"] (spLawM γ K) := by
  obtain ⟨f, fd, F, g, b⟩ := Z.f_law
  rw [hfa] at g
  cases g
  refine ⟨gm mg (Cts.T [(c__law_odd_right, P__law_odd_right, q__law_odd_right)]), [(c__law_odd_right, P__law_odd_right, q__law_odd_right)], fd, rfl, fun co => cts_one tb nb fb co, ?_, fun base _ _ hB => ok_all Z (hB _ (List.mem_singleton.mpr rfl)) (List.mem_singleton.mpr rfl) (fun p hp _ => by rw [List.mem_singleton.mp hp]) (code_of X G tb) F pure⟩
  obtain ⟨oc, od, kV, doc, pm, an, cdv, ct, osl, rfl, l, c⟩ := F.ex
  exact fun s v => .of_eq rfl
end
end My

set_option Elab.async false
set_option linter.all false
set_option maxRecDepth 100000
set_option maxHeartbeats 2000000
namespace My
open PySem PySem.Spec PyProof.Rows L2 FW
section
variable {α β : Type} {env : List SV} {rd : Rdr}
theorem ev_eNot {m : MM D} : eNot m env rd = (eT m env rd).bind fun p => some (.bl (!p.1), p.2) := Eq.trans rfl rfl
theorem ev_eOwnAdd {i : Nat} {m : MM D} : eOwnAdd i m env rd = (m env rd).bind fun p => match env[i]?, p.1 with | some (.own ds), .lst es => if ds.length + es.length ≤ sizeLine then some (.lst (ds ++ es), p.2) else none | _, _ => none := Eq.trans rfl rfl
theorem ev_chain3 {a b c d : MM D} {f g h : D → D → Option D} : chain3T a b c d f g h env rd = (a env rd).bind fun p => (b env p.2).bind fun q => (((f p.1 q.1).bind isBl).map fun x => (x, q.2)).bind fun k => if k.1 = true then (c env k.2).bind fun z => (((g q.1 z.1).bind isBl).map fun x => (x, z.2)).bind fun j => if j.1 = true then (d env j.2).bind fun u => (h z.1 u.1).map fun x => (x, u.2) else some (.bl false, j.2) else some (.bl false, k.2) := by
  show ((a env rd).bind fun p => (b env p.2).bind fun q => (((f p.1 q.1).bind isBl).map fun x => (x, q.2)).bind fun k => (if k.1 = true then bind1 c fun z => bind1 (lift ((g q.1 z).bind isBl)) fun j => if j = true then bind1 d fun u => lift (h z u) else fun _ rd => some (.bl false, rd) else fun _ rd => some (.bl false, rd)) env k.2) = _
  congr 1; funext p; congr 1; funext q; congr 1; funext k; rw [ite_ap]
  congr 1
  show ((c env k.2).bind fun z => (((g q.1 z.1).bind isBl).map fun x => (x, z.2)).bind fun j => (if j.1 = true then bind1 d fun u => lift (h z.1 u) else fun _ rd => some (.bl false, rd)) env j.2) = _
  congr 1; funext z; congr 1; funext j; rw [ite_ap]; rfl
theorem ev_xGet {m : MX} : xGet m env rd = (m env rd).bind fun q => match q.1 with | .ok d => some (d, q.2) | .exc _ _ => none := Eq.trans rfl rfl
theorem ev_eFnX {fx : FX} {n : Nat} {a : MM (List D)} : eFnX fx n a env rd = (a env rd).bind fun q => if q.1.length = n then fx q.1 q.2 else none := Eq.trans rfl rfl
theorem ev_eFnXK {fx : FX} {n : Nat} {is : List Nat} {a : MM (List D)} : eFnXK fx n is a env rd = (a env rd).bind fun q => if (pick D.non is q.1).length = n ∧ q.1.length = n then fx (pick D.non is q.1) q.2 else none := Eq.trans rfl rfl
theorem ev_xOk {m : MM D} : xOk m env rd = (m env rd).map fun q => (.ok q.1, q.2) := Eq.trans rfl rfl
theorem ev_xTup2 {m : MM D} {n : MX} : xTup2 m n env rd = (m env rd).bind fun q => (n env q.2).map fun r => (match r.1 with | .ok d => .ok (.tup [q.1, d]) | .exc c fs => .exc c fs, r.2) := Eq.trans rfl rfl
theorem ev_sSetX {i : Nat} {m : MX} : sSetX i m env rd = (m env rd).map fun q => (match q.1 with | .ok d => .nx (env.set i (.val d)) | .exc c fs => .exc env c fs, q.2) := Eq.trans rfl rfl
theorem ev_sRetX {m : MX} : sRetX m env rd = (m env rd).map fun q => (match q.1 with | .ok d => .ret d | .exc c fs => .exc env c fs, q.2) := Eq.trans rfl rfl
theorem ev_sExpX {m : MX} : sExpX m env rd = (m env rd).map fun q => (match q.1 with | .ok d => .nx env | .exc c fs => .exc env c fs, q.2) := Eq.trans rfl rfl
theorem ev_sRaise {c : Str} {ns : List Str} {a : MM (List D)} : sRaise c ns a env rd = (a env rd).bind fun p => if p.1.length = ns.length ∧ p.1.length ≤ 1000 then some (.exc env c (ns.zip p.1), p.2) else none := Eq.trans rfl rfl
theorem ev_eIsE {i : Nat} {l : List (Str × Bool)} : eIsE i l env rd = (match env[i]? with | some (.exn c _) => (l.lookup c).map fun b => (.bl b, rd) | _ => none) := Eq.trans rfl rfl
theorem ev_eFldC {i : Nat} {n : Str} {cs : List Str} : eFldC i n cs env rd = (match env[i]? with | some (.exn c fs) => if cs.contains c = true then (fs.lookup n).map fun z => (z, rd) else none | _ => none) := Eq.trans rfl rfl
theorem ev_sTry {i : Nat} {l : List (Str × Bool)} {mb ms : MM Fl} : sTry i l mb ms env rd = (mb env rd).bind fun q => match q.1 with | .exc env1 c fs => (l.lookup c).bind fun b => if b = true then (ms (env1.set i (.exn c fs)) q.2).bind fun r => (unsetFl i r.1).map fun fl => (fl, r.2) else some (.exc env1 c fs, q.2) | fl => some (fl, q.2) := Eq.trans rfl rfl
theorem ev_eLc2 {mi mi1 : MM (List D)} {p p1 : Pat} {vs vs1 : List Nat} {t t1 : MM Bool} {e : MM D} : eLc2 mi p vs t mi1 p1 vs1 t1 e env rd = (mi env rd).bind fun q => (lcGo2 p t mi1 p1 vs1 t1 e q.1 (wipeE env vs) q.2).bind fun r => if r.1.length ≤ sizeLine then some (.lst r.1, r.2) else none := Eq.trans rfl rfl
theorem ev_lOwn {i : Nat} : lOwn i env rd = (match env[i]? with | some (.own ds) => some (ds, rd) | _ => none) := Eq.trans rfl rfl
theorem ev_sExt {i : Nat} {m : MM D} : sExt i m env rd = (m env rd).bind fun p => match env[i]?, p.1 with | some (.own ds), .lst es => if ds.length + es.length ≤ sizeLine then some (.nx (env.set i (.own (ds ++ es))), p.2) else none | _, _ => none := Eq.trans rfl rfl
end
theorem cmpI {pi : Int → Int → Bool} {ps : Str → Str → Bool} {i j : Int} : opCmp pi ps (.int i) (.int j) = some (.bl (pi i j)) := rfl
theorem opIi {c : Int → Int → Bool} {g : Int → Int → D} {i j : Int} : opI c g (.int i) (.int j) = if c i j = true then some (g i j) else none := rfl
theorem addI {i j : Int} : opAdd (.int i) (.int j) = some (.int (i + j)) := rfl
theorem lenL {ds : List D} : opLen (.lst ds) = some (.int ds.length) := rfl
theorem lenT {ds : List D} : opLen (.tup ds) = some (.int ds.length) := rfl
theorem intI {i : Int} : opInt (.int i) = some (.int i) := rfl
theorem mulI {i j : Int} (h : i.natAbs < 18446744073709551616) : opMul (.int i) (.int j) = some (.int (i * j)) := by
  have e : opMul (.int i) (.int j) = if i.natAbs < 18446744073709551616 ∨ j.natAbs < 18446744073709551616 then some (.int (i * j)) else none := rfl
  rw [e, if_pos (.inl h)]
theorem ints_lay : ∀ ns : List Int, PyData.canLayAll0 (toPys (ns.map D.int)) = true ∧ PyData.depthAll (toPys (ns.map D.int)) = 0
  | [] => by simp [toPys, PyData.canLayAll0, PyData.depthAll]
  | n :: ns => by
    obtain ⟨h1, h2⟩ := ints_lay ns
    simp [toPys, toPy, PyData.canLayAll0, PyData.canLay0, PyData.depthAll, PyData.depth, h1, h2]
theorem ints_shaped (ns : List Int) : SeqAt.shaped (toPy (.lst (ns.map D.int))) = true := by
  obtain ⟨h1, h2⟩ := ints_lay ns
  simp [SeqAt.shaped, toPy, PyData.canLay0, h1, PyData.depth, h2]
theorem ne_cells (ns : List Int) : opNe (.lst (ns.map .int)) (.lst []) = some (.bl (!decide (ns = []))) := by
  have e : opNe (.lst (ns.map .int)) (.lst []) = if SeqAt.shaped (toPy (.lst (ns.map .int))) = true ∧ SeqAt.shaped (toPy (.lst [])) = true then some (.bl (!PyData.eqv (toPy (.lst (ns.map .int))) (toPy (.lst [])))) else none := rfl
  rw [e, if_pos ⟨ints_shaped ns, by decide +kernel⟩]
  cases ns with
  | nil => rfl
  | cons d ds => rfl
theorem at_mod {ds : List D} {i : Int} (h0 : 0 ≤ i) (h : i < ds.length) : ∃ d, opIx (.lst ds) (.int i) = some d ∧ d ∈ ds := by
  have e : opIx (.lst ds) (.int i) = (ixN ds.length i).bind fun j => ds[j]? := rfl
  obtain ⟨n, rfl⟩ := Int.eq_ofNat_of_zero_le h0
  have hn : n < ds.length := by omega
  refine ⟨ds[n], ?_, List.getElem_mem hn⟩
  rw [e]
  have e2 : ixN ds.length (n : Int) = some n := by
    unfold ixN
    simp
    omega
  rw [e2, Option.bind_some, List.getElem?_eq_getElem hn]
structure RdI (n : Int) (rd : Rdr) : Prop where
  lo : 0 ≤ rd.cnt
  hi : rd.cnt ≤ n
theorem wp_obind {α β : Type} {x : Option (α × Rdr)} {f : α × Rdr → Option (β × Rdr)} {Q : β → Rdr → Prop} : Wp (x.bind f) Q ↔ Wp x fun a rd => Wp (f (a, rd)) Q := by
  constructor
  · rintro ⟨b, rd2, h, q⟩
    obtain ⟨⟨a, rd1⟩, h1, h2⟩ := Option.bind_eq_some_iff.mp h
    exact ⟨a, rd1, h1, b, rd2, h2, q⟩
  · rintro ⟨a, rd1, h1, b, rd2, h2, q⟩
    exact ⟨b, rd2, by rw [h1]; exact h2, q⟩
theorem wp_omap {α : Type} {x : Option α} {rd : Rdr} {Q : α → Rdr → Prop} : Wp (x.map fun y => (y, rd)) Q ↔ ∃ a, x = some a ∧ Q a rd := by
  constructor
  · rintro ⟨b, rd2, h, q⟩
    obtain ⟨a, h1, h2⟩ := Option.map_eq_some_iff.mp h
    cases h2
    exact ⟨_, h1, q⟩
  · rintro ⟨a, rfl, q⟩
    exact ⟨a, rd, rfl, q⟩
theorem wp_omap2 {α β : Type} {x : Option (α × Rdr)} {g : α → β} {Q : β → Rdr → Prop} : Wp (x.map fun y => (g y.1, y.2)) Q ↔ Wp x fun a rd => Q (g a) rd := by
  constructor
  · rintro ⟨b, rd2, h, q⟩
    obtain ⟨⟨a, r⟩, h1, h2⟩ := Option.map_eq_some_iff.mp h
    cases h2
    exact ⟨a, r, h1, q⟩
  · rintro ⟨a, r, rfl, q⟩
    exact ⟨g a, r, rfl, q⟩
theorem lcGo_wp {p : Pat} {t : MM Bool} {e : MM D} {env : List SV} {P M : D → Prop} {J : Nat → Rdr → Prop} : ∀ {ds : List D} {n : Nat} {rd : Rdr},
    (∀ d ∈ ds, ∀ k r, k < n + ds.length → J k r → ∃ env1, setPat p d env = some env1 ∧ Wp (t env1 r) fun b r1 => (M d → b = true) ∧ (b = true → Wp (e env1 r1) fun y r2 => P y ∧ J (k + 1) r2) ∧ (b = false → J (k + 1) r1)) →
    J n rd → Wp (lcGo p t e ds env rd) fun ys rd' => (∀ y ∈ ys, P y) ∧ ys.length ≤ ds.length ∧ J (n + ds.length) rd' ∧ ((∃ d ∈ ds, M d) → ys ≠ [])
  | [], n, rd, _, hj => ⟨[], rd, rfl, fun y hy => (List.not_mem_nil hy).elim, Nat.le_refl _, hj, fun ⟨d, hd, _⟩ => (List.not_mem_nil hd).elim⟩
  | d :: ds, n, rd, h, hj => by
    obtain ⟨env1, s1, b, r1, t1, hm, hy, hn⟩ := h d List.mem_cons_self n rd (by rw [List.length_cons]; omega) hj
    have ih := fun r (hr : J (n + 1) r) => lcGo_wp (p := p) (t := t) (e := e) (env := env) (P := P) (M := M) (J := J) (ds := ds) (n := n + 1) (rd := r) (fun x hx k r' hk => h x (List.mem_cons_of_mem _ hx) k r' (by rw [List.length_cons]; omega)) hr
    have en : n + 1 + ds.length = n + (d :: ds).length := by rw [List.length_cons]; omega
    rw [en] at ih
    unfold lcGo
    rw [s1, Option.bind_some, t1, Option.bind_some]
    cases b with
    | true =>
      obtain ⟨y, r2, e1, py, j2⟩ := hy rfl
      obtain ⟨ys, r3, g1, g2, g3, g4, g5⟩ := ih r2 j2
      refine ⟨y :: ys, r3, ?_, fun z hz => ?_, by rw [List.length_cons, List.length_cons]; omega, g4, fun _ => by simp⟩
      · simp only [if_true, e1, Option.bind_some, g1, Option.map_some]
      · rcases List.mem_cons.mp hz with rfl | hz
        · exact py
        · exact g2 z hz
    | false =>
      obtain ⟨ys, r3, g1, g2, g3, g4, g5⟩ := ih r1 (hn rfl)
      refine ⟨ys, r3, ?_, g2, by rw [List.length_cons]; omega, g4, fun ⟨x, hx, mx⟩ => ?_⟩
      · simp only [Bool.false_eq_true, if_false, g1]
      · rcases List.mem_cons.mp hx with rfl | hx
        · exact absurd (hm mx) (by simp)
        · exact g5 ⟨x, hx, mx⟩
theorem forGo_wp {p : Pat} {b : MM Fl} {E : Nat → List SV → Rdr → Prop} : ∀ {ds : List D} {n : Nat} {env : List SV} {rd : Rdr},
    (∀ d ∈ ds, ∀ k env r, k < n + ds.length → E k env r → ∃ env1, setPat p d env = some env1 ∧ Wp (b env1 r) fun fl r1 => ∃ env2, fl = .nx env2 ∧ E (k + 1) env2 r1) →
    E n env rd → Wp (forGo p b ds env rd) fun fl rd' => ∃ env', fl = .nx env' ∧ E (n + ds.length) env' rd'
  | [], n, env, rd, _, he => ⟨.nx env, rd, rfl, env, rfl, he⟩
  | d :: ds, n, env, rd, h, he => by
    obtain ⟨env1, s1, fl, r1, t1, env2, rfl, e2⟩ := h d List.mem_cons_self n env rd (by rw [List.length_cons]; omega) he
    have ih := forGo_wp (p := p) (b := b) (E := E) (ds := ds) (n := n + 1) (env := env2) (rd := r1) (fun x hx k en r' hk => h x (List.mem_cons_of_mem _ hx) k en r' (by rw [List.length_cons]; omega)) e2
    have en : n + 1 + ds.length = n + (d :: ds).length := by rw [List.length_cons]; omega
    rw [en] at ih
    obtain ⟨fl, r3, g1, env', rfl, g2⟩ := ih
    refine ⟨.nx env', r3, ?_, env', rfl, g2⟩
    unfold forGo
    simp only [s1, t1, Option.bind_some]
    exact g1
theorem RdI.mono {n m : Int} {rd : Rdr} (h : RdI n rd) (e : n ≤ m) : RdI m rd := ⟨h.lo, by have := h.hi; omega⟩
theorem range1_n {n : Nat} (h : n ≤ 1000) : range1 [.int n] = some (rangeD 0 n) := by
  have e : range1 [.int n] = if okR n = true then some (rangeD 0 (n : Int).toNat) else none := rfl
  rw [e, if_pos (by unfold okR; simp; omega)]
  simp
theorem mem_range {n : Nat} {d : D} (h : d ∈ rangeD 0 n) : ∃ i : Nat, d = .int i ∧ i < n := by
  unfold rangeD at h
  obtain ⟨i, hi, rfl⟩ := List.mem_map.mp h
  exact ⟨i, by simp, List.mem_range.mp hi⟩
theorem range_mem {n : Nat} {k : Int} (h0 : 0 ≤ k) (h : k < n) : D.int k ∈ rangeD 0 n := by
  unfold rangeD
  obtain ⟨i, rfl⟩ := Int.eq_ofNat_of_zero_le h0
  exact List.mem_map.mpr ⟨i, List.mem_range.mpr (by omega), by simp⟩
theorem range_len {n : Nat} : (rangeD 0 n).length = n := by simp [rangeD]
/-- a list or a tuple of these items -/
def SeqD (ds : List D) (d : D) : Prop := d = .tup ds ∨ d = .lst ds
theorem SeqD.len {ds : List D} {d : D} (h : SeqD ds d) : opLen d = some (.int ds.length) := by
  rcases h with rfl | rfl <;> rfl
theorem SeqD.ix {ds : List D} {d : D} (h : SeqD ds d) {i : Nat} (hi : i < ds.length) : opIx d (.int i) = some ds[i] := by
  have e2 : ixN ds.length (i : Int) = some i := by
    unfold ixN
    simp
    omega
  have e : opIx d (.int i) = (ixN ds.length i).bind fun j => ds[j]? := by rcases h with rfl | rfl <;> rfl
  rw [e, e2, Option.bind_some, List.getElem?_eq_getElem hi]
theorem all_strs {ys : List D} {ws : List Str} (h : ∀ y ∈ ys, ∃ s ∈ ws, y = .str s) : ∃ ks : List Str, ys = ks.map .str ∧ ∀ k ∈ ks, k ∈ ws := by
  induction ys with
  | nil => exact ⟨[], rfl, fun k hk => (List.not_mem_nil hk).elim⟩
  | cons y ys ih =>
    obtain ⟨ks, e, hk⟩ := ih fun z hz => h z (List.mem_cons_of_mem _ hz)
    obtain ⟨s, hs, rfl⟩ := h y List.mem_cons_self
    refine ⟨s :: ks, by rw [e]; rfl, fun k hk' => ?_⟩
    rcases List.mem_cons.mp hk' with rfl | hk'
    · exact hs
    · exact hk k hk'
theorem lcGo_filter {A : Type} {f g : A → D} {b : A → Bool} {i : Nat} {env : List SV} {rd : Rdr} {e : MM D} {t : MM Bool} : ∀ {as : List A}, (∀ a ∈ as, t (env.set i (.val (f a))) rd = some (b a, rd)) → (∀ a ∈ as, e (env.set i (.val (f a))) rd = some (g a, rd)) → lcGo (.nm i) t e (as.map f) env rd = some ((as.filter b).map g, rd)
  | [], _, _ => rfl
  | a :: as, ht, he => by
    have ih := lcGo_filter (f := f) (g := g) (b := b) (i := i) (env := env) (rd := rd) (e := e) (t := t) (as := as) (fun z hz => ht z (List.mem_cons_of_mem _ hz)) fun z hz => he z (List.mem_cons_of_mem _ hz)
    have e1 := ht a List.mem_cons_self
    have e2 := he a List.mem_cons_self
    cases hb : b a with
    | true =>
      rw [hb] at e1
      simp only [List.map_cons, lcGo, setPat, Option.bind_some, e1, if_true, e2, ih, Option.map_some, List.filter_cons, hb]
    | false =>
      rw [hb] at e1
      simp only [List.map_cons, lcGo, setPat, Option.bind_some, e1, ih, List.filter_cons, hb, Bool.false_eq_true, if_false]
theorem shaped_lst {ds : List D} {m k : Nat} (h : ∀ d ∈ ds, Sm m k d) (hk : k < 64) : SeqAt.shaped (toPy (.lst ds)) = true := canLay_lst h hk
theorem shaped_lst0 : SeqAt.shaped (toPy (.lst [])) = true := by decide +kernel
theorem ne_lstNil {ds : List D} {m k : Nat} (h : ∀ d ∈ ds, Sm m k d) (hk : k < 64) : opNe (.lst ds) (.lst []) = some (.bl (!decide (ds = []))) := by
  have e : opNe (.lst ds) (.lst []) = if SeqAt.shaped (toPy (.lst ds)) = true ∧ SeqAt.shaped (toPy (.lst [])) = true then some (.bl (!PyData.eqv (toPy (.lst ds)) (toPy (.lst [])))) else none := rfl
  rw [e, if_pos ⟨shaped_lst h hk, shaped_lst0⟩]
  cases ds with
  | nil => rfl
  | cons d ds => rfl
theorem eq_lstNil {ds : List D} {m k : Nat} (h : ∀ d ∈ ds, Sm m k d) (hk : k < 64) : opEq (.lst ds) (.lst []) = some (.bl (decide (ds = []))) := by
  have e : opEq (.lst ds) (.lst []) = if SeqAt.shaped (toPy (.lst ds)) = true ∧ SeqAt.shaped (toPy (.lst [])) = true then some (.bl (PyData.eqv (toPy (.lst ds)) (toPy (.lst [])))) else none := rfl
  rw [e, if_pos ⟨shaped_lst h hk, shaped_lst0⟩]
  cases ds with
  | nil => rfl
  | cons d ds => rfl
theorem eqB {a b : Bool} : opEq (.bl a) (.bl b) = some (.bl (a == b)) := by
  have e : opEq (.bl a) (.bl b) = if SeqAt.shaped (toPy (.bl a)) = true ∧ SeqAt.shaped (toPy (.bl b)) = true then some (.bl (PyData.eqv (toPy (.bl a)) (toPy (.bl b)))) else none := rfl
  have sh : ∀ c : Bool, SeqAt.shaped (toPy (.bl c)) = true := by
    intro c
    cases c <;> decide +kernel
  rw [e, if_pos ⟨sh a, sh b⟩]
  cases a <;> cases b <;> rfl
theorem wp_set {i : Nat} {m : MM D} {b : MM Fl} {env : List SV} {rd : Rdr} {Q : Fl → Rdr → Prop} (h : Wp (m env rd) fun d r => Wp (b (env.set i (.val d)) r) Q) : Wp (sSeq (sSet i m) b env rd) Q := by
  obtain ⟨d, r, e1, h⟩ := h
  rw [ev_sSeq, ev_sSet, e1]
  exact h
theorem wp_seq {a b : MM Fl} {env : List SV} {rd : Rdr} {Q : Fl → Rdr → Prop} (h : Wp (a env rd) fun fl r => ∃ env', fl = .nx env' ∧ Wp (b env' r) Q) : Wp (sSeq a b env rd) Q := by
  obtain ⟨d, r, e1, env', rfl, h⟩ := h
  rw [ev_sSeq, e1]
  exact h
theorem wp_if {t : MM Bool} {a b : MM Fl} {env : List SV} {rd : Rdr} {Q : Fl → Rdr → Prop} (c : Bool) {r : Rdr} (ht : t env rd = some (c, r)) (ha : c = true → Wp (a env r) Q) (hb : c = false → Wp (b env r) Q) : Wp (sIf t a b env rd) Q := by
  rw [ev_sIf, ht, Option.bind_some]
  cases c with
  | true => exact ha rfl
  | false => exact hb rfl
theorem wp_for {mi : MM (List D)} {p : Pat} {b : MM Fl} {env : List SV} {rd : Rdr} {Q : Fl → Rdr → Prop} (h : Wp (mi env rd) fun ds r => Wp (forGo p b ds env r) Q) : Wp (sFor mi p b env rd) Q := by
  obtain ⟨d, r, e1, h⟩ := h
  rw [ev_sFor, e1]
  exact h
theorem wp_eq {α : Type} {x : Option (α × Rdr)} {a : α} {rd : Rdr} {Q : α → Rdr → Prop} (h : x = some (a, rd)) (q : Q a rd) : Wp x Q := ⟨a, rd, h, q⟩
end My

set_option Elab.async false
set_option linter.all false
set_option maxRecDepth 100000
set_option maxHeartbeats 2000000
namespace My
open PySem PySem.Spec PyProof.Rows L2 FW
theorem draw_ok {many n : Int} (h1 : 1 ≤ many) (h2 : many ≤ 100000) (hn : n ≤ 1000000) {rd : Rdr} (hr : RdI n rd) :
    Wp (mf__law_draw [.int many] rd) fun d rd' => (∃ k : Int, d = .int k ∧ 0 ≤ k ∧ k < many) ∧ RdI (n + 1) rd' := by
  obtain ⟨cells, ix, rest, cnt⟩ := rd
  obtain ⟨lo, hi⟩ := hr
  simp only at lo hi
  have e : mf__law_draw [.int many] ⟨cells, ix, rest, cnt⟩ = (b__law_draw (initE true [.int many] 3) ⟨cells, ix, rest, cnt⟩).bind flFin := rfl
  have fm : ∀ x : Int, 0 ≤ x.fmod many ∧ x.fmod many < many := fun x => ⟨Int.fmod_nonneg_of_pos x (by omega), Int.fmod_lt_of_pos x (by omega)⟩
  have m1 : (many ≠ 0) = True := by simp; omega
  have m2 : (many.natAbs < 1073741824) = True := by simp; omega
  rw [e]
  by_cases hrest : 0 < rest
  · simp only [ev_bind1, ev_lift, ev_eC, ev_eVar, ev_eOp, ev_eUn, ev_eT, ev_mAnd, ev_mOr, ev_mNot, ev_eAnd, ev_eIf, ev_chain, ev_aNil, ev_aCons, ev_eTup, ev_eLst, ev_eCall, ev_eFn, ev_eFnR, ev_eIter, ev_eRange, ev_eLc, ev_eSl, ev_pNone, ev_pSome, ev_mFrz, ev_sNx, ev_sSet, ev_sRet, ev_sSeq, ev_sIf, ev_sUnp, ev_sNew, ev_fLst, ev_fCat, ev_sApp, ev_sFrz, ev_sFor, ev_vNil, ev_vVal, ev_vOwn, ev_sTup, ev_eRd, ev_sRd, and_self, true_and, and_true, eq_self, eqS, eqI, neS, neI, decide_true, decide_false, decide_eq_true_eq, Bool.not_true, Bool.not_false, initE, setPat, setAll, op1, isBl, flFin, iterD, seqOf, List.length_cons, List.length_nil, Bool.false_eq_true, if_false, if_true, List.nil_append, List.map_cons, List.map_nil, List.replicate, List.cons_append, Option.bind_some, Option.map_some, List.set_cons_succ, List.set_cons_zero, List.getElem?_cons_zero, List.getElem?_cons_succ, Nat.reduceAdd, b__law_draw, rdItem, rdPut, addI, cmpI, opIi, intI, hrest, m1, m2]
    exact ⟨_, _, rfl, ⟨_, rfl, fm _⟩, ⟨by show 0 ≤ cnt + 1; omega, by show cnt + 1 ≤ n + 1; omega⟩⟩
  · -- the cell that is drawn
    have hcell : ∃ c : Int, (if cells = [] then c = 71 else (opIx (.lst (cells.map D.int)) (.int (ix.fmod cells.length)) = some (.int c))) := by
      by_cases hc : cells = []
      · exact ⟨71, by rw [if_pos hc]⟩
      · have hl : (0 : Int) < cells.length := by
          have := List.length_pos_iff.mpr hc
          omega
        obtain ⟨d, hd, hm⟩ := at_mod (ds := cells.map D.int) (i := ix.fmod cells.length) (Int.fmod_nonneg_of_pos _ hl) (by rw [List.length_map]; exact Int.fmod_lt_of_pos _ hl)
        obtain ⟨c, _, rfl⟩ := List.mem_map.mp hm
        exact ⟨c, by rw [if_neg hc]; exact hd⟩
    obtain ⟨c, hc⟩ := hcell
    have p18 : ((0 : Int) ≤ 18) = True := by simp
    have p19 : ((18 : Int) ≤ 1000000) = True := by simp
    have p20 : ((10 : Int).natAbs < 2 ^ 64) = True := by simp
    have p5 : ((0 : Int) ≤ 5) = True := by simp
    have p6 : ((5 : Int) ≤ 1000000) = True := by simp
    have p7 : ((0 : Int) ≤ 3) = True := by simp
    have p8 : ((3 : Int) ≤ 1000000) = True := by simp
    have k1 : 0 ≤ c.fmod 1000009433 ∧ c.fmod 1000009433 < 1000009433 := ⟨Int.fmod_nonneg_of_pos _ (by omega), Int.fmod_lt_of_pos _ (by omega)⟩
    have cc : 0 ≤ 191 * (cnt + 1) * (cnt + 1 + 13) ∧ 191 * (cnt + 1) * (cnt + 1 + 13) ≤ 191 * 1000001 * 1000014 := ⟨Int.mul_nonneg (by omega) (by omega), Int.mul_le_mul (by omega) (by omega) (by omega) (by omega)⟩
    have q1 : ((c.fmod 1000009433 + 191 * (cnt + 1) * (cnt + 1 + 13) + 59).natAbs < 2 ^ 64) = True := by
      simp
      omega
    have k2 : ∀ x : Int, 0 ≤ x.fmod 2147483249 ∧ x.fmod 2147483249 < 2147483249 := fun x => ⟨Int.fmod_nonneg_of_pos _ (by omega), Int.fmod_lt_of_pos _ (by omega)⟩
    have q2 : ∀ x : Int, ((x.fmod 2147483249 * (2 * (cnt + 1) + 23) + 50231 * (cnt + 1)).natAbs < 2 ^ 64) = True := fun x => by
      have := k2 x
      have a1 : 0 ≤ x.fmod 2147483249 * (2 * (cnt + 1) + 23) := Int.mul_nonneg (by omega) (by omega)
      have a2 : x.fmod 2147483249 * (2 * (cnt + 1) + 23) ≤ 2147483249 * 2000025 := Int.mul_le_mul (by omega) (by omega) (by omega) (by omega)
      simp
      omega
    have d1 : ((1000009433 : Int) ≠ 0) = True := by simp
    have d2 : ((2147483249 : Int) ≠ 0) = True := by simp
    have d3 : ((2147483171 : Int) ≠ 0) = True := by simp
    have d4 : ((64 : Int) ≠ 0) = True := by simp
    have d5 : ((64 : Int).natAbs < 1073741824) = True := by simp
    have mu1 : ∀ j, opMul (.int 191) (.int j) = some (.int (191 * j)) := fun j => mulI (by omega)
    have mu2 : ∀ j, opMul (.int 50231) (.int j) = some (.int (50231 * j)) := fun j => mulI (by omega)
    have mu3 : ∀ j, opMul (.int 2) (.int j) = some (.int (2 * j)) := fun j => mulI (by omega)
    have mu4 : ∀ j, opMul (.int (191 * (cnt + 1))) (.int j) = some (.int (191 * (cnt + 1) * j)) := fun j => mulI (by omega)
    have mu5 : ∀ x j, opMul (.int (Int.fmod x 2147483249)) (.int j) = some (.int (x.fmod 2147483249 * j)) := fun x j => mulI (by have := k2 x; omega)
    have l0 : (0 : Nat) ≤ sizeLine := Nat.zero_le _
    by_cases hcs : cells = []
    · rw [if_pos hcs] at hc
      subst hc
      subst hcs
      have ne0 : opNe (.lst ([] : List D)) (.lst []) = some (.bl false) := (ne_lstNil (ds := []) (m := 0) (k := 0) (fun _ h => (List.not_mem_nil h).elim) (by omega)).trans (by simp)
      have big : ((10 : Int) ^ (18 : Int).toNat ≤ 71) = False := by simp
      simp only [ev_bind1, ev_lift, ev_eC, ev_eVar, ev_eOp, ev_eUn, ev_eT, ev_mAnd, ev_mOr, ev_mNot, ev_eAnd, ev_eIf, ev_chain, ev_aNil, ev_aCons, ev_eTup, ev_eLst, ev_eCall, ev_eFn, ev_eFnR, ev_eIter, ev_eRange, ev_eLc, ev_eSl, ev_pNone, ev_pSome, ev_mFrz, ev_sNx, ev_sSet, ev_sRet, ev_sSeq, ev_sIf, ev_sUnp, ev_sNew, ev_fLst, ev_fCat, ev_sApp, ev_sFrz, ev_sFor, ev_vNil, ev_vVal, ev_vOwn, ev_sTup, ev_eRd, ev_sRd, and_self, true_and, and_true, eq_self, eqS, eqI, neS, neI, decide_true, decide_false, decide_eq_true_eq, Bool.not_true, Bool.not_false, initE, setPat, setAll, op1, isBl, flFin, iterD, seqOf, List.length_cons, List.length_nil, Bool.false_eq_true, if_false, if_true, List.nil_append, List.map_cons, List.map_nil, List.replicate, List.cons_append, Option.bind_some, Option.map_some, List.set_cons_succ, List.set_cons_zero, List.getElem?_cons_zero, List.getElem?_cons_succ, Nat.reduceAdd, b__law_draw, rdItem, rdPut, addI, cmpI, opIi, intI, hrest, m1, m2, ne0, l0, p18, p19, p20, p5, p6, p7, p8, q1, q2, d1, d2, d3, d4, d5, mu1, mu2, mu3, mu4, mu5, big]
      exact ⟨_, _, rfl, ⟨_, rfl, fm _⟩, ⟨by show 0 ≤ cnt + 1; omega, by show cnt + 1 ≤ n + 1; omega⟩⟩
    · rw [if_neg hcs] at hc
      have n0 : (((cells.length : Nat) : Int) ≠ 0) = True := by
        have := List.length_pos_iff.mpr hcs
        simp
        exact hcs
      by_cases h18 : (10 : Int) ^ (18 : Int).toNat ≤ c
      · by_cases hx : ix + 1 ≤ cells.length
        · simp only [ev_bind1, ev_lift, ev_eC, ev_eVar, ev_eOp, ev_eUn, ev_eT, ev_mAnd, ev_mOr, ev_mNot, ev_eAnd, ev_eIf, ev_chain, ev_aNil, ev_aCons, ev_eTup, ev_eLst, ev_eCall, ev_eFn, ev_eFnR, ev_eIter, ev_eRange, ev_eLc, ev_eSl, ev_pNone, ev_pSome, ev_mFrz, ev_sNx, ev_sSet, ev_sRet, ev_sSeq, ev_sIf, ev_sUnp, ev_sNew, ev_fLst, ev_fCat, ev_sApp, ev_sFrz, ev_sFor, ev_vNil, ev_vVal, ev_vOwn, ev_sTup, ev_eRd, ev_sRd, and_self, true_and, and_true, eq_self, eqS, eqI, neS, neI, decide_true, decide_false, decide_eq_true_eq, Bool.not_true, Bool.not_false, initE, setPat, setAll, op1, isBl, flFin, iterD, seqOf, List.length_cons, List.length_nil, Bool.false_eq_true, if_false, if_true, List.nil_append, List.map_cons, List.map_nil, List.replicate, List.cons_append, Option.bind_some, Option.map_some, List.set_cons_succ, List.set_cons_zero, List.getElem?_cons_zero, List.getElem?_cons_succ, Nat.reduceAdd, b__law_draw, rdItem, rdPut, addI, cmpI, opIi, intI, hrest, m1, m2, ne_cells, hcs, lenL, List.length_map, n0, hc, l0, p18, p19, p20, h18, hx]
          exact ⟨_, _, rfl, ⟨_, rfl, fm _⟩, ⟨by show 0 ≤ cnt + 1; omega, by show cnt + 1 ≤ n + 1; omega⟩⟩
        · simp only [ev_bind1, ev_lift, ev_eC, ev_eVar, ev_eOp, ev_eUn, ev_eT, ev_mAnd, ev_mOr, ev_mNot, ev_eAnd, ev_eIf, ev_chain, ev_aNil, ev_aCons, ev_eTup, ev_eLst, ev_eCall, ev_eFn, ev_eFnR, ev_eIter, ev_eRange, ev_eLc, ev_eSl, ev_pNone, ev_pSome, ev_mFrz, ev_sNx, ev_sSet, ev_sRet, ev_sSeq, ev_sIf, ev_sUnp, ev_sNew, ev_fLst, ev_fCat, ev_sApp, ev_sFrz, ev_sFor, ev_vNil, ev_vVal, ev_vOwn, ev_sTup, ev_eRd, ev_sRd, and_self, true_and, and_true, eq_self, eqS, eqI, neS, neI, decide_true, decide_false, decide_eq_true_eq, Bool.not_true, Bool.not_false, initE, setPat, setAll, op1, isBl, flFin, iterD, seqOf, List.length_cons, List.length_nil, Bool.false_eq_true, if_false, if_true, List.nil_append, List.map_cons, List.map_nil, List.replicate, List.cons_append, Option.bind_some, Option.map_some, List.set_cons_succ, List.set_cons_zero, List.getElem?_cons_zero, List.getElem?_cons_succ, Nat.reduceAdd, b__law_draw, rdItem, rdPut, addI, cmpI, opIi, intI, hrest, m1, m2, ne_cells, hcs, lenL, List.length_map, n0, hc, l0, p18, p19, p20, h18, hx, p5, p6, p7, p8, q1, q2, d1, d2, d3, d4, d5, mu1, mu2, mu3, mu4, mu5]
          exact ⟨_, _, rfl, ⟨_, rfl, fm _⟩, ⟨by show 0 ≤ cnt + 1; omega, by show cnt + 1 ≤ n + 1; omega⟩⟩
      · simp only [ev_bind1, ev_lift, ev_eC, ev_eVar, ev_eOp, ev_eUn, ev_eT, ev_mAnd, ev_mOr, ev_mNot, ev_eAnd, ev_eIf, ev_chain, ev_aNil, ev_aCons, ev_eTup, ev_eLst, ev_eCall, ev_eFn, ev_eFnR, ev_eIter, ev_eRange, ev_eLc, ev_eSl, ev_pNone, ev_pSome, ev_mFrz, ev_sNx, ev_sSet, ev_sRet, ev_sSeq, ev_sIf, ev_sUnp, ev_sNew, ev_fLst, ev_fCat, ev_sApp, ev_sFrz, ev_sFor, ev_vNil, ev_vVal, ev_vOwn, ev_sTup, ev_eRd, ev_sRd, and_self, true_and, and_true, eq_self, eqS, eqI, neS, neI, decide_true, decide_false, decide_eq_true_eq, Bool.not_true, Bool.not_false, initE, setPat, setAll, op1, isBl, flFin, iterD, seqOf, List.length_cons, List.length_nil, Bool.false_eq_true, if_false, if_true, List.nil_append, List.map_cons, List.map_nil, List.replicate, List.cons_append, Option.bind_some, Option.map_some, List.set_cons_succ, List.set_cons_zero, List.getElem?_cons_zero, List.getElem?_cons_succ, Nat.reduceAdd, b__law_draw, rdItem, rdPut, addI, cmpI, opIi, intI, hrest, m1, m2, ne_cells, hcs, lenL, List.length_map, n0, hc, l0, p18, p19, p20, h18, p5, p6, p7, p8, q1, q2, d1, d2, d3, d4, d5, mu1, mu2, mu3, mu4, mu5]
        exact ⟨_, _, rfl, ⟨_, rfl, fm _⟩, ⟨by show 0 ≤ cnt + 1; omega, by show cnt + 1 ≤ n + 1; omega⟩⟩
/-- one of the items -/
theorem choice_ok {ds : List D} {d : D} (hd : SeqD ds d) (h1 : ds ≠ []) (h2 : ds.length ≤ 100000) {n : Int} (hn : n ≤ 1000000) {rd : Rdr} (hr : RdI n rd) :
    Wp (mf__law_choice [d] rd) fun x rd' => x ∈ ds ∧ RdI (n + 1) rd' := by
  have e : mf__law_choice [d] rd = (b__law_choice (initE true [d] 0) rd).bind flFin := rfl
  have hl := hd.len
  have l1 := List.length_pos_iff.mpr h1
  rw [e]
  unfold b__law_choice
  simp only [ev_bind1, ev_lift, ev_eC, ev_eVar, ev_eOp, ev_eUn, ev_eT, ev_mAnd, ev_mOr, ev_mNot, ev_eAnd, ev_eIf, ev_chain, ev_aNil, ev_aCons, ev_eTup, ev_eLst, ev_eCall, ev_eFn, ev_eFnR, ev_eIter, ev_eRange, ev_eLc, ev_eSl, ev_pNone, ev_pSome, ev_mFrz, ev_sNx, ev_sSet, ev_sRet, ev_sSeq, ev_sIf, ev_sUnp, ev_sNew, ev_fLst, ev_fCat, ev_sApp, ev_sFrz, ev_sFor, ev_vNil, ev_vVal, ev_vOwn, ev_sTup, ev_eRd, ev_sRd, and_self, true_and, and_true, eq_self, eqS, eqI, neS, neI, decide_true, decide_false, decide_eq_true_eq, Bool.not_true, Bool.not_false, initE, setPat, setAll, op1, isBl, flFin, iterD, seqOf, List.length_cons, List.length_nil, Bool.false_eq_true, if_false, if_true, List.nil_append, List.map_cons, List.map_nil, List.replicate, List.cons_append, Option.bind_some, Option.map_some, List.set_cons_succ, List.set_cons_zero, List.getElem?_cons_zero, List.getElem?_cons_succ, Nat.reduceAdd, hl]
  simp only [wp_obind, wp_some, wp_omap, wp_omap2]
  refine (draw_ok (many := ds.length) (by omega) (by omega) hn hr).mono ?_
  rintro _ rd1 ⟨⟨k, rfl, k0, k1⟩, hr1⟩
  obtain ⟨i, rfl⟩ := Int.eq_ofNat_of_zero_le k0
  have hi : i < ds.length := by omega
  exact ⟨_, hd.ix hi, _, _, rfl, List.getElem_mem hi, hr1⟩
end My

set_option Elab.async false
set_option linter.all false
set_option maxRecDepth 100000
set_option maxHeartbeats 2000000
namespace My
open PySem PySem.Spec PyProof.Rows L2 FW
/-! ### books -/
structure PU where
  n : Str
  s : Str
  ks : List Str
  a : Int
  b : Int
def PU.d (p : PU) : D := .tup [.str p.n, .str p.s, .tup (p.ks.map .str), .int p.a, .int p.b]
structure BD where
  ns : List Str
  a : Int
  b : Int
  c : Int
def BD.d (l : BD) : D := .tup [.tup (l.ns.map .str), .int l.a, .int l.b, .int l.c]
structure RW where
  op : Bool
  day : Int
  k : Str
  am : Int
  sh : List Int
def shD (l : List Int) : D := .tup (l.map .int)
def RW.d (r : RW) : D := .tup [.str (if r.op = true then ("buy" : Str) else ("paid" : Str)), .int r.day, .str r.k, if r.op = true then .int r.am else shD r.sh]
structure BK where
  ps : List PU
  bs : List BD
  rs : List RW
def BK.d (b : BK) : D := .tup [.tup (b.ps.map PU.d), .tup (b.bs.map BD.d), .tup (b.rs.map RW.d)]
theorem szl {n m : Nat} (h : n ≤ m) (hm : m ≤ 1000 := by decide) : (n ≤ sizeLine) = True := by
  simp only [eq_iff_iff, iff_true]
  exact Nat.le_trans (Nat.le_trans h hm) (by decide)
/-! ### comprehensions -/
theorem lcGo_P {A : Type} {f g : A → D} {b : A → Bool} {p : Pat} {env : List SV} {rd : Rdr} {e : MM D} {t : MM Bool} : ∀ {as : List A}, (∀ a ∈ as, ∃ env1, setPat p (f a) env = some env1 ∧ t env1 rd = some (b a, rd) ∧ (b a = true → e env1 rd = some (g a, rd))) →
    lcGo p t e (as.map f) env rd = some ((as.filter b).map g, rd)
  | [], _ => rfl
  | a :: as, h => by
    have ih := lcGo_P (f := f) (g := g) (b := b) (p := p) (env := env) (rd := rd) (e := e) (t := t) (as := as) fun z hz => h z (List.mem_cons_of_mem _ hz)
    obtain ⟨env1, h1, h2, h3⟩ := h a List.mem_cons_self
    cases hb : b a with
    | true =>
      rw [hb] at h2
      simp only [List.map_cons, lcGo, h1, Option.bind_some, h2, if_true, h3 hb, ih, Option.map_some, List.filter_cons, hb]
    | false =>
      rw [hb] at h2
      simp only [List.map_cons, lcGo, h1, Option.bind_some, h2, ih, List.filter_cons, hb, Bool.false_eq_true, if_false]
theorem lcGo2_P {A B : Type} {f : A → D} {fi : A → List B} {f1 : B → D} {g : A → B → D} {b : A → B → Bool} {p p1 : Pat} {vs1 : List Nat} {env : List SV} {rd : Rdr} {mi : MM (List D)} {t t1 : MM Bool} {e : MM D} : ∀ {as : List A},
    (∀ a ∈ as, ∃ env1, setPat p (f a) env = some env1 ∧ t env1 rd = some (true, rd) ∧ mi env1 rd = some ((fi a).map f1, rd) ∧
      ∀ x ∈ fi a, ∃ env2, setPat p1 (f1 x) (wipeE env1 vs1) = some env2 ∧ t1 env2 rd = some (b a x, rd) ∧ (b a x = true → e env2 rd = some (g a x, rd))) →
    lcGo2 p t mi p1 vs1 t1 e (as.map f) env rd = some ((as.map fun a => ((fi a).filter (b a)).map (g a)).flatten, rd)
  | [], _ => rfl
  | a :: as, h => by
    have ih := lcGo2_P (f := f) (fi := fi) (f1 := f1) (g := g) (b := b) (p := p) (p1 := p1) (vs1 := vs1) (env := env) (rd := rd) (mi := mi) (t := t) (t1 := t1) (e := e) (as := as) fun z hz => h z (List.mem_cons_of_mem _ hz)
    obtain ⟨env1, h1, h2, h3, h4⟩ := h a List.mem_cons_self
    have h5 := lcGo_P (f := f1) (g := g a) (b := b a) (p := p1) (env := wipeE env1 vs1) (rd := rd) (e := e) (t := t1) h4
    simp only [List.map_cons, lcGo2, h1, Option.bind_some, h2, if_true, h3, h5, ih, Option.map_some, List.flatten_cons]
theorem zipD_map {A B : Type} {f : A → D} {g : B → D} : ∀ (as : List A) (bs : List B), zipD (as.map f) (bs.map g) = (as.zip bs).map fun q => .tup [f q.1, g q.2]
  | [], _ => rfl
  | _ :: _, [] => rfl
  | a :: as, b :: bs => by
    have ih := zipD_map (f := f) (g := g) as bs
    unfold zipD at ih ⊢
    rw [List.map_cons, List.map_cons, List.zip_cons_cons, List.map_cons, List.zip_cons_cons, List.map_cons, ih]
theorem intsOf_map : ∀ l : List Int, intsOf (l.map .int) = some l
  | [] => rfl
  | i :: l => by
    show (intsOf (l.map .int)).map (i :: ·) = _
    rw [intsOf_map l]
    rfl
theorem sum_map {l : List Int} : opSum (.lst (l.map .int)) = some (.int l.sum) := by
  show (intsOf (l.map .int)).map (fun ns => D.int ns.sum) = _
  rw [intsOf_map]
  rfl
/-! ### in, of names -/
def inB (k : Str) (os : List Str) : Bool := inD (.str k) (os.map .str)
theorem flat_strs (os : List Str) : (os.map D.str).all flatD = true := by
  rw [List.all_eq_true]
  intro d hd
  obtain ⟨s, _, rfl⟩ := List.mem_map.mp hd
  rfl
theorem in_tup (neg : Bool) (k : Str) (os : List Str) : opInX neg (.str k) (.tup (os.map .str)) = some (.bl (if neg = true then !inB k os else inB k os)) := by
  show (if flatD (.str k) = true ∧ (os.map D.str).all flatD = true then _ else _) = _
  rw [if_pos ⟨rfl, flat_strs os⟩]
  rfl
def hasB (l : BD) (n : Str) (day : Int) : Bool := inB n l.ns && (decide (l.a ≤ day) && decide (day ≤ l.b))
theorem has_ok (l : BD) (p : PU) (day : Int) (rd : Rdr) : mf__law_has [l.d, p.d, .int day] rd = some (.bl (hasB l p.n day), rd) := by
  have e : mf__law_has [l.d, p.d, .int day] rd = (b__law_has (initE false [l.d, p.d, .int day] 0) rd).bind flFin := rfl
  have i1 : opIx p.d (.int 0) = some (.str p.n) := rfl
  have i2 : opIx l.d (.int 0) = some (.tup (l.ns.map .str)) := rfl
  have i3 : opIx l.d (.int 1) = some (.int l.a) := rfl
  have i4 : opIx l.d (.int 2) = some (.int l.b) := rfl
  rw [e]
  unfold hasB
  cases hb : inB p.n l.ns with
  | false => simp only [ev_bind1, ev_lift, ev_eC, ev_eVar, ev_eOp, ev_eUn, ev_eT, ev_mAnd, ev_mOr, ev_mNot, ev_eAnd, ev_eIf, ev_chain, ev_aNil, ev_aCons, ev_eTup, ev_eLst, ev_eCall, ev_eFn, ev_eFnR, ev_eIter, ev_eRange, ev_eLc, ev_eSl, ev_pNone, ev_pSome, ev_mFrz, ev_sNx, ev_sSet, ev_sRet, ev_sSeq, ev_sIf, ev_sUnp, ev_sNew, ev_fLst, ev_fCat, ev_sApp, ev_sFrz, ev_sFor, ev_vNil, ev_vVal, ev_vOwn, ev_sTup, ev_eRd, ev_sRd, and_self, true_and, and_true, eq_self, eqS, eqI, neS, neI, decide_true, decide_false, decide_eq_true_eq, Bool.not_true, Bool.not_false, initE, setPat, setAll, op1, isBl, flFin, iterD, seqOf, List.length_cons, List.length_nil, Bool.false_eq_true, if_false, if_true, List.nil_append, List.map_cons, List.map_nil, List.replicate, List.cons_append, Option.bind_some, Option.map_some, List.set_cons_succ, List.set_cons_zero, List.getElem?_cons_zero, List.getElem?_cons_succ, Nat.reduceAdd, b__law_has, i1, i2, in_tup, hb, Bool.false_and]
  | true =>
    by_cases h1 : l.a ≤ day
    · simp only [ev_bind1, ev_lift, ev_eC, ev_eVar, ev_eOp, ev_eUn, ev_eT, ev_mAnd, ev_mOr, ev_mNot, ev_eAnd, ev_eIf, ev_chain, ev_aNil, ev_aCons, ev_eTup, ev_eLst, ev_eCall, ev_eFn, ev_eFnR, ev_eIter, ev_eRange, ev_eLc, ev_eSl, ev_pNone, ev_pSome, ev_mFrz, ev_sNx, ev_sSet, ev_sRet, ev_sSeq, ev_sIf, ev_sUnp, ev_sNew, ev_fLst, ev_fCat, ev_sApp, ev_sFrz, ev_sFor, ev_vNil, ev_vVal, ev_vOwn, ev_sTup, ev_eRd, ev_sRd, and_self, true_and, and_true, eq_self, eqS, eqI, neS, neI, decide_true, decide_false, decide_eq_true_eq, Bool.not_true, Bool.not_false, initE, setPat, setAll, op1, isBl, flFin, iterD, seqOf, List.length_cons, List.length_nil, Bool.false_eq_true, if_false, if_true, List.nil_append, List.map_cons, List.map_nil, List.replicate, List.cons_append, Option.bind_some, Option.map_some, List.set_cons_succ, List.set_cons_zero, List.getElem?_cons_zero, List.getElem?_cons_succ, Nat.reduceAdd, b__law_has, i1, i2, i3, i4, in_tup, hb, cmpI, h1, Bool.true_and]
    · simp only [ev_bind1, ev_lift, ev_eC, ev_eVar, ev_eOp, ev_eUn, ev_eT, ev_mAnd, ev_mOr, ev_mNot, ev_eAnd, ev_eIf, ev_chain, ev_aNil, ev_aCons, ev_eTup, ev_eLst, ev_eCall, ev_eFn, ev_eFnR, ev_eIter, ev_eRange, ev_eLc, ev_eSl, ev_pNone, ev_pSome, ev_mFrz, ev_sNx, ev_sSet, ev_sRet, ev_sSeq, ev_sIf, ev_sUnp, ev_sNew, ev_fLst, ev_fCat, ev_sApp, ev_sFrz, ev_sFor, ev_vNil, ev_vVal, ev_vOwn, ev_sTup, ev_eRd, ev_sRd, and_self, true_and, and_true, eq_self, eqS, eqI, neS, neI, decide_true, decide_false, decide_eq_true_eq, Bool.not_true, Bool.not_false, initE, setPat, setAll, op1, isBl, flFin, iterD, seqOf, List.length_cons, List.length_nil, Bool.false_eq_true, if_false, if_true, List.nil_append, List.map_cons, List.map_nil, List.replicate, List.cons_append, Option.bind_some, Option.map_some, List.set_cons_succ, List.set_cons_zero, List.getElem?_cons_zero, List.getElem?_cons_succ, Nat.reduceAdd, b__law_has, i1, i2, i3, i4, in_tup, hb, cmpI, h1, Bool.true_and, Bool.false_and]
theorem slot_ok (l : BD) (n : Str) (day : Int) (rd : Rdr) : mf_has_slot [l.d, .str n, .int day] rd = some (.bl (hasB l n day), rd) := by
  have e : mf_has_slot [l.d, .str n, .int day] rd = (b_has_slot (initE false [l.d, .str n, .int day] 4) rd).bind flFin := rfl
  rw [e]
  unfold hasB
  cases hb : inB n l.ns with
  | false => simp only [ev_bind1, ev_lift, ev_eC, ev_eVar, ev_eOp, ev_eUn, ev_eT, ev_mAnd, ev_mOr, ev_mNot, ev_eAnd, ev_eIf, ev_chain, ev_aNil, ev_aCons, ev_eTup, ev_eLst, ev_eCall, ev_eFn, ev_eFnR, ev_eIter, ev_eRange, ev_eLc, ev_eSl, ev_pNone, ev_pSome, ev_mFrz, ev_sNx, ev_sSet, ev_sRet, ev_sSeq, ev_sIf, ev_sUnp, ev_sNew, ev_fLst, ev_fCat, ev_sApp, ev_sFrz, ev_sFor, ev_vNil, ev_vVal, ev_vOwn, ev_sTup, ev_eRd, ev_sRd, and_self, true_and, and_true, eq_self, eqS, eqI, neS, neI, decide_true, decide_false, decide_eq_true_eq, Bool.not_true, Bool.not_false, initE, setPat, setAll, op1, isBl, flFin, iterD, seqOf, List.length_cons, List.length_nil, Bool.false_eq_true, if_false, if_true, List.nil_append, List.map_cons, List.map_nil, List.replicate, List.cons_append, Option.bind_some, Option.map_some, List.set_cons_succ, List.set_cons_zero, List.getElem?_cons_zero, List.getElem?_cons_succ, Nat.reduceAdd, b_has_slot, BD.d, in_tup, hb, Bool.false_and]
  | true =>
    by_cases h1 : l.a ≤ day
    · simp only [ev_bind1, ev_lift, ev_eC, ev_eVar, ev_eOp, ev_eUn, ev_eT, ev_mAnd, ev_mOr, ev_mNot, ev_eAnd, ev_eIf, ev_chain, ev_aNil, ev_aCons, ev_eTup, ev_eLst, ev_eCall, ev_eFn, ev_eFnR, ev_eIter, ev_eRange, ev_eLc, ev_eSl, ev_pNone, ev_pSome, ev_mFrz, ev_sNx, ev_sSet, ev_sRet, ev_sSeq, ev_sIf, ev_sUnp, ev_sNew, ev_fLst, ev_fCat, ev_sApp, ev_sFrz, ev_sFor, ev_vNil, ev_vVal, ev_vOwn, ev_sTup, ev_eRd, ev_sRd, and_self, true_and, and_true, eq_self, eqS, eqI, neS, neI, decide_true, decide_false, decide_eq_true_eq, Bool.not_true, Bool.not_false, initE, setPat, setAll, op1, isBl, flFin, iterD, seqOf, List.length_cons, List.length_nil, Bool.false_eq_true, if_false, if_true, List.nil_append, List.map_cons, List.map_nil, List.replicate, List.cons_append, Option.bind_some, Option.map_some, List.set_cons_succ, List.set_cons_zero, List.getElem?_cons_zero, List.getElem?_cons_succ, Nat.reduceAdd, b_has_slot, BD.d, in_tup, hb, cmpI, h1, Bool.true_and]
    · simp only [ev_bind1, ev_lift, ev_eC, ev_eVar, ev_eOp, ev_eUn, ev_eT, ev_mAnd, ev_mOr, ev_mNot, ev_eAnd, ev_eIf, ev_chain, ev_aNil, ev_aCons, ev_eTup, ev_eLst, ev_eCall, ev_eFn, ev_eFnR, ev_eIter, ev_eRange, ev_eLc, ev_eSl, ev_pNone, ev_pSome, ev_mFrz, ev_sNx, ev_sSet, ev_sRet, ev_sSeq, ev_sIf, ev_sUnp, ev_sNew, ev_fLst, ev_fCat, ev_sApp, ev_sFrz, ev_sFor, ev_vNil, ev_vVal, ev_vOwn, ev_sTup, ev_eRd, ev_sRd, and_self, true_and, and_true, eq_self, eqS, eqI, neS, neI, decide_true, decide_false, decide_eq_true_eq, Bool.not_true, Bool.not_false, initE, setPat, setAll, op1, isBl, flFin, iterD, seqOf, List.length_cons, List.length_nil, Bool.false_eq_true, if_false, if_true, List.nil_append, List.map_cons, List.map_nil, List.replicate, List.cons_append, Option.bind_some, Option.map_some, List.set_cons_succ, List.set_cons_zero, List.getElem?_cons_zero, List.getElem?_cons_succ, Nat.reduceAdd, b_has_slot, BD.d, in_tup, hb, cmpI, h1, Bool.true_and, Bool.false_and]
/-! ### what shares pay in an area -/
def spentL (ps : List PU) (l : BD) (day : Int) (sh : List Int) : List Int := ((sh.zip ps).filter fun q => hasB l q.2.n day).map (·.1)
theorem spent_ok (ps : List PU) (l : BD) (day : Int) (sh : List Int) (hs : sh.length ≤ 100) (rd : Rdr) : mf__law_spent [.tup (ps.map PU.d), l.d, .int day, shD sh] rd = some (.int (spentL ps l day sh).sum, rd) := by
  have e : mf__law_spent [.tup (ps.map PU.d), l.d, .int day, shD sh] rd = (b__law_spent (initE false [.tup (ps.map PU.d), l.d, .int day, shD sh] 2) rd).bind flFin := rfl
  have z : zipI [shD sh, .tup (ps.map PU.d)] = some ((sh.zip ps).map fun q => .tup [.int q.1, q.2.d]) := by
    show some (zipD (sh.map .int) (ps.map PU.d)) = _
    rw [zipD_map]
  have lz : (((sh.zip ps).map fun q => D.tup [.int q.1, q.2.d]).length ≤ sizeLine) = True := by
    rw [List.length_map, List.length_zip]
    exact szl (m := 100) (by omega)
  have go := lcGo_P (f := fun q : Int × PU => D.tup [.int q.1, q.2.d]) (g := fun q => .int q.1) (b := fun q => hasB l q.2.n day) (p := .tp [4, 5]) (env := wipeE [.val (.tup (ps.map PU.d)), .val l.d, .val (.int day), .val (shD sh), .un, .un] [4, 5]) (rd := rd)
    (t := eT (eFn mf__law_has 3 (aCons (eVar 1) (aCons (eVar 5) (aCons (eVar 2) aNil))))) (e := eVar 4) (as := sh.zip ps) (fun q hq => by
      refine ⟨_, rfl, ?_, fun _ => ?_⟩
      · simp only [ev_bind1, ev_lift, ev_eC, ev_eVar, ev_eOp, ev_eUn, ev_eT, ev_mAnd, ev_mOr, ev_mNot, ev_eAnd, ev_eIf, ev_chain, ev_aNil, ev_aCons, ev_eTup, ev_eLst, ev_eCall, ev_eFn, ev_eFnR, ev_eIter, ev_eRange, ev_eLc, ev_eSl, ev_pNone, ev_pSome, ev_mFrz, ev_sNx, ev_sSet, ev_sRet, ev_sSeq, ev_sIf, ev_sUnp, ev_sNew, ev_fLst, ev_fCat, ev_sApp, ev_sFrz, ev_sFor, ev_vNil, ev_vVal, ev_vOwn, ev_sTup, ev_eRd, ev_sRd, and_self, true_and, and_true, eq_self, eqS, eqI, neS, neI, decide_true, decide_false, decide_eq_true_eq, Bool.not_true, Bool.not_false, initE, setPat, setAll, op1, isBl, flFin, iterD, seqOf, List.length_cons, List.length_nil, Bool.false_eq_true, if_false, if_true, List.nil_append, List.map_cons, List.map_nil, List.replicate, List.cons_append, Option.bind_some, Option.map_some, List.set_cons_succ, List.set_cons_zero, List.getElem?_cons_zero, List.getElem?_cons_succ, Nat.reduceAdd, wipeE, has_ok]
      · simp only [ev_bind1, ev_lift, ev_eC, ev_eVar, ev_eOp, ev_eUn, ev_eT, ev_mAnd, ev_mOr, ev_mNot, ev_eAnd, ev_eIf, ev_chain, ev_aNil, ev_aCons, ev_eTup, ev_eLst, ev_eCall, ev_eFn, ev_eFnR, ev_eIter, ev_eRange, ev_eLc, ev_eSl, ev_pNone, ev_pSome, ev_mFrz, ev_sNx, ev_sSet, ev_sRet, ev_sSeq, ev_sIf, ev_sUnp, ev_sNew, ev_fLst, ev_fCat, ev_sApp, ev_sFrz, ev_sFor, ev_vNil, ev_vVal, ev_vOwn, ev_sTup, ev_eRd, ev_sRd, and_self, true_and, and_true, eq_self, eqS, eqI, neS, neI, decide_true, decide_false, decide_eq_true_eq, Bool.not_true, Bool.not_false, initE, setPat, setAll, op1, isBl, flFin, iterD, seqOf, List.length_cons, List.length_nil, Bool.false_eq_true, if_false, if_true, List.nil_append, List.map_cons, List.map_nil, List.replicate, List.cons_append, Option.bind_some, Option.map_some, List.set_cons_succ, List.set_cons_zero, List.getElem?_cons_zero, List.getElem?_cons_succ, Nat.reduceAdd, wipeE])
  have fin : (((sh.zip ps).filter fun q => hasB l q.2.n day).map fun q => D.int q.1) = (spentL ps l day sh).map .int := by
    unfold spentL
    rw [List.map_map]
    rfl
  rw [fin] at go
  rw [e]
  simp only [ev_bind1, ev_lift, ev_eC, ev_eVar, ev_eOp, ev_eUn, ev_eT, ev_mAnd, ev_mOr, ev_mNot, ev_eAnd, ev_eIf, ev_chain, ev_aNil, ev_aCons, ev_eTup, ev_eLst, ev_eCall, ev_eFn, ev_eFnR, ev_eIter, ev_eRange, ev_eLc, ev_eSl, ev_pNone, ev_pSome, ev_mFrz, ev_sNx, ev_sSet, ev_sRet, ev_sSeq, ev_sIf, ev_sUnp, ev_sNew, ev_fLst, ev_fCat, ev_sApp, ev_sFrz, ev_sFor, ev_vNil, ev_vVal, ev_vOwn, ev_sTup, ev_eRd, ev_sRd, and_self, true_and, and_true, eq_self, eqS, eqI, neS, neI, decide_true, decide_false, decide_eq_true_eq, Bool.not_true, Bool.not_false, initE, setPat, setAll, op1, isBl, flFin, iterD, seqOf, List.length_cons, List.length_nil, Bool.false_eq_true, if_false, if_true, List.nil_append, List.map_cons, List.map_nil, List.replicate, List.cons_append, Option.bind_some, Option.map_some, List.set_cons_succ, List.set_cons_zero, List.getElem?_cons_zero, List.getElem?_cons_succ, Nat.reduceAdd, b__law_spent, z, lz, go, sum_map]
/-! ### paid rows, open rows -/
def paids (rs : List RW) : List RW := rs.filter fun r => !r.op
def opens (rs : List RW) : List RW := rs.filter fun r => r.op
theorem eqPaid (r : RW) : opIx r.d (.int 0) = some (.str (if r.op = true then ("buy" : Str) else ("paid" : Str))) := rfl
theorem tPaid (r : RW) (i : Nat) (env : List SV) (h : env[i]? = some (.val r.d)) (rd : Rdr) : eT (eOp opEq (eOp opIx (eVar i) (eC (.int 0))) (eC (.str ("paid" : Str)))) env rd = some (!r.op, rd) := by
  cases ho : r.op with
  | true =>
    have x : opEq (.str ("buy" : Str)) (.str ("paid" : Str)) = some (.bl false) := by rw [eqS, decide_eq_false (by decide +kernel)]
    simp only [ev_bind1, ev_lift, ev_eC, ev_eVar, ev_eOp, ev_eUn, ev_eT, ev_mAnd, ev_mOr, ev_mNot, ev_eAnd, ev_eIf, ev_chain, ev_aNil, ev_aCons, ev_eTup, ev_eLst, ev_eCall, ev_eFn, ev_eFnR, ev_eIter, ev_eRange, ev_eLc, ev_eSl, ev_pNone, ev_pSome, ev_mFrz, ev_sNx, ev_sSet, ev_sRet, ev_sSeq, ev_sIf, ev_sUnp, ev_sNew, ev_fLst, ev_fCat, ev_sApp, ev_sFrz, ev_sFor, ev_vNil, ev_vVal, ev_vOwn, ev_sTup, ev_eRd, ev_sRd, and_self, true_and, and_true, eq_self, eqS, eqI, neS, neI, decide_true, decide_false, decide_eq_true_eq, Bool.not_true, Bool.not_false, initE, setPat, setAll, op1, isBl, flFin, iterD, seqOf, List.length_cons, List.length_nil, Bool.false_eq_true, if_false, if_true, List.nil_append, List.map_cons, List.map_nil, List.replicate, List.cons_append, Option.bind_some, Option.map_some, List.set_cons_succ, List.set_cons_zero, List.getElem?_cons_zero, List.getElem?_cons_succ, Nat.reduceAdd, h, eqPaid, ho, x]
  | false =>
    have x : opEq (.str ("paid" : Str)) (.str ("paid" : Str)) = some (.bl true) := by rw [eqS, decide_eq_true rfl]
    simp only [ev_bind1, ev_lift, ev_eC, ev_eVar, ev_eOp, ev_eUn, ev_eT, ev_mAnd, ev_mOr, ev_mNot, ev_eAnd, ev_eIf, ev_chain, ev_aNil, ev_aCons, ev_eTup, ev_eLst, ev_eCall, ev_eFn, ev_eFnR, ev_eIter, ev_eRange, ev_eLc, ev_eSl, ev_pNone, ev_pSome, ev_mFrz, ev_sNx, ev_sSet, ev_sRet, ev_sSeq, ev_sIf, ev_sUnp, ev_sNew, ev_fLst, ev_fCat, ev_sApp, ev_sFrz, ev_sFor, ev_vNil, ev_vVal, ev_vOwn, ev_sTup, ev_eRd, ev_sRd, and_self, true_and, and_true, eq_self, eqS, eqI, neS, neI, decide_true, decide_false, decide_eq_true_eq, Bool.not_true, Bool.not_false, initE, setPat, setAll, op1, isBl, flFin, iterD, seqOf, List.length_cons, List.length_nil, Bool.false_eq_true, if_false, if_true, List.nil_append, List.map_cons, List.map_nil, List.replicate, List.cons_append, Option.bind_some, Option.map_some, List.set_cons_succ, List.set_cons_zero, List.getElem?_cons_zero, List.getElem?_cons_succ, Nat.reduceAdd, h, eqPaid, ho, x]
theorem tBuy (r : RW) (i : Nat) (env : List SV) (h : env[i]? = some (.val r.d)) (rd : Rdr) : eT (eOp opEq (eOp opIx (eVar i) (eC (.int 0))) (eC (.str ("buy" : Str)))) env rd = some (r.op, rd) := by
  cases ho : r.op with
  | true =>
    have x : opEq (.str ("buy" : Str)) (.str ("buy" : Str)) = some (.bl true) := by rw [eqS, decide_eq_true rfl]
    simp only [ev_bind1, ev_lift, ev_eC, ev_eVar, ev_eOp, ev_eUn, ev_eT, ev_mAnd, ev_mOr, ev_mNot, ev_eAnd, ev_eIf, ev_chain, ev_aNil, ev_aCons, ev_eTup, ev_eLst, ev_eCall, ev_eFn, ev_eFnR, ev_eIter, ev_eRange, ev_eLc, ev_eSl, ev_pNone, ev_pSome, ev_mFrz, ev_sNx, ev_sSet, ev_sRet, ev_sSeq, ev_sIf, ev_sUnp, ev_sNew, ev_fLst, ev_fCat, ev_sApp, ev_sFrz, ev_sFor, ev_vNil, ev_vVal, ev_vOwn, ev_sTup, ev_eRd, ev_sRd, and_self, true_and, and_true, eq_self, eqS, eqI, neS, neI, decide_true, decide_false, decide_eq_true_eq, Bool.not_true, Bool.not_false, initE, setPat, setAll, op1, isBl, flFin, iterD, seqOf, List.length_cons, List.length_nil, Bool.false_eq_true, if_false, if_true, List.nil_append, List.map_cons, List.map_nil, List.replicate, List.cons_append, Option.bind_some, Option.map_some, List.set_cons_succ, List.set_cons_zero, List.getElem?_cons_zero, List.getElem?_cons_succ, Nat.reduceAdd, h, eqPaid, ho, x]
  | false =>
    have x : opEq (.str ("paid" : Str)) (.str ("buy" : Str)) = some (.bl false) := by rw [eqS, decide_eq_false (by decide +kernel)]
    simp only [ev_bind1, ev_lift, ev_eC, ev_eVar, ev_eOp, ev_eUn, ev_eT, ev_mAnd, ev_mOr, ev_mNot, ev_eAnd, ev_eIf, ev_chain, ev_aNil, ev_aCons, ev_eTup, ev_eLst, ev_eCall, ev_eFn, ev_eFnR, ev_eIter, ev_eRange, ev_eLc, ev_eSl, ev_pNone, ev_pSome, ev_mFrz, ev_sNx, ev_sSet, ev_sRet, ev_sSeq, ev_sIf, ev_sUnp, ev_sNew, ev_fLst, ev_fCat, ev_sApp, ev_sFrz, ev_sFor, ev_vNil, ev_vVal, ev_vOwn, ev_sTup, ev_eRd, ev_sRd, and_self, true_and, and_true, eq_self, eqS, eqI, neS, neI, decide_true, decide_false, decide_eq_true_eq, Bool.not_true, Bool.not_false, initE, setPat, setAll, op1, isBl, flFin, iterD, seqOf, List.length_cons, List.length_nil, Bool.false_eq_true, if_false, if_true, List.nil_append, List.map_cons, List.map_nil, List.replicate, List.cons_append, Option.bind_some, Option.map_some, List.set_cons_succ, List.set_cons_zero, List.getElem?_cons_zero, List.getElem?_cons_succ, Nat.reduceAdd, h, eqPaid, ho, x]
theorem RW.ix1 (r : RW) : opIx r.d (.int 1) = some (.int r.day) := rfl
theorem RW.ix3 (r : RW) (h : r.op = false) : opIx r.d (.int 3) = some (shD r.sh) := by
  have e : opIx r.d (.int 3) = some (if r.op = true then .int r.am else shD r.sh) := rfl
  rw [e, h]
  rfl
def paidSum (ps : List PU) (rs : List RW) (l : BD) : Int := ((paids rs).map fun r => (spentL ps l r.day r.sh).sum).sum
theorem left_ok (ps : List PU) (rs : List RW) (l : BD) (x y : D) (hy : SeqD (rs.map RW.d) y) (hr : rs.length ≤ 100) (hs : ∀ r ∈ rs, r.sh.length ≤ 100) (rd : Rdr) :
    mf__law_left [.tup [.tup (ps.map PU.d), x, y], l.d] rd = some (.int (l.c - paidSum ps rs l), rd) := by
  have e : mf__law_left [.tup [.tup (ps.map PU.d), x, y], l.d] rd = (b__law_left (initE false [.tup [.tup (ps.map PU.d), x, y], l.d] 1) rd).bind flFin := rfl
  have i0 : opIx (.tup [.tup (ps.map PU.d), x, y]) (.int 0) = some (.tup (ps.map PU.d)) := rfl
  have i2 : opIx (.tup [.tup (ps.map PU.d), x, y]) (.int 2) = some y := rfl
  have i3 : opIx l.d (.int 3) = some (.int l.c) := rfl
  have lz : ((rs.map RW.d).length ≤ sizeLine) = True := by
    rw [List.length_map]
    exact szl (m := 100) hr
  have go := lcGo_P (f := RW.d) (g := fun r => .int (spentL ps l r.day r.sh).sum) (b := fun r => !r.op) (p := .nm 2) (env := wipeE [.val (.tup [.tup (ps.map PU.d), x, y]), .val l.d, .un] [2]) (rd := rd)
    (t := eT (eOp opEq (eOp opIx (eVar 2) (eC (.int 0))) (eC (.str ("paid" : Str))))) (e := eFn mf__law_spent 4 (aCons (eOp opIx (eVar 0) (eC (.int 0))) (aCons (eVar 1) (aCons (eOp opIx (eVar 2) (eC (.int 1))) (aCons (eOp opIx (eVar 2) (eC (.int 3))) aNil))))) (as := rs) (fun r hr => by
      refine ⟨_, rfl, tPaid r 2 _ rfl rd, fun h => ?_⟩
      have ho : r.op = false := by simpa using h
      simp only [ev_bind1, ev_lift, ev_eC, ev_eVar, ev_eOp, ev_eUn, ev_eT, ev_mAnd, ev_mOr, ev_mNot, ev_eAnd, ev_eIf, ev_chain, ev_aNil, ev_aCons, ev_eTup, ev_eLst, ev_eCall, ev_eFn, ev_eFnR, ev_eIter, ev_eRange, ev_eLc, ev_eSl, ev_pNone, ev_pSome, ev_mFrz, ev_sNx, ev_sSet, ev_sRet, ev_sSeq, ev_sIf, ev_sUnp, ev_sNew, ev_fLst, ev_fCat, ev_sApp, ev_sFrz, ev_sFor, ev_vNil, ev_vVal, ev_vOwn, ev_sTup, ev_eRd, ev_sRd, and_self, true_and, and_true, eq_self, eqS, eqI, neS, neI, decide_true, decide_false, decide_eq_true_eq, Bool.not_true, Bool.not_false, initE, setPat, setAll, op1, isBl, flFin, iterD, seqOf, List.length_cons, List.length_nil, Bool.false_eq_true, if_false, if_true, List.nil_append, List.map_cons, List.map_nil, List.replicate, List.cons_append, Option.bind_some, Option.map_some, List.set_cons_succ, List.set_cons_zero, List.getElem?_cons_zero, List.getElem?_cons_succ, Nat.reduceAdd, wipeE, i0, RW.ix1, RW.ix3 r ho, spent_ok ps l r.day r.sh (hs r hr)])
  have fin : ((rs.filter fun r => !r.op).map fun r => D.int (spentL ps l r.day r.sh).sum) = ((paids rs).map fun r => (spentL ps l r.day r.sh).sum).map .int := by
    unfold paids
    rw [List.map_map]
    rfl
  rw [fin] at go
  rw [e]
  rcases hy with rfl | rfl <;> simp only [ev_bind1, ev_lift, ev_eC, ev_eVar, ev_eOp, ev_eUn, ev_eT, ev_mAnd, ev_mOr, ev_mNot, ev_eAnd, ev_eIf, ev_chain, ev_aNil, ev_aCons, ev_eTup, ev_eLst, ev_eCall, ev_eFn, ev_eFnR, ev_eIter, ev_eRange, ev_eLc, ev_eSl, ev_pNone, ev_pSome, ev_mFrz, ev_sNx, ev_sSet, ev_sRet, ev_sSeq, ev_sIf, ev_sUnp, ev_sNew, ev_fLst, ev_fCat, ev_sApp, ev_sFrz, ev_sFor, ev_vNil, ev_vVal, ev_vOwn, ev_sTup, ev_eRd, ev_sRd, and_self, true_and, and_true, eq_self, eqS, eqI, neS, neI, decide_true, decide_false, decide_eq_true_eq, Bool.not_true, Bool.not_false, initE, setPat, setAll, op1, isBl, flFin, iterD, seqOf, List.length_cons, List.length_nil, Bool.false_eq_true, if_false, if_true, List.nil_append, List.map_cons, List.map_nil, List.replicate, List.cons_append, Option.bind_some, Option.map_some, List.set_cons_succ, List.set_cons_zero, List.getElem?_cons_zero, List.getElem?_cons_succ, Nat.reduceAdd, b__law_left, i2, i3, lz, go, sum_map, opIi, paidSum]
theorem BK.ix0 (b : BK) : opIx b.d (.int 0) = some (.tup (b.ps.map PU.d)) := rfl
theorem BK.ix1 (b : BK) : opIx b.d (.int 1) = some (.tup (b.bs.map BD.d)) := rfl
theorem BK.ix2 (b : BK) : opIx b.d (.int 2) = some (.tup (b.rs.map RW.d)) := rfl
theorem open_ok (b : BK) (hr : b.rs.length ≤ 100) (rd : Rdr) : mf__law_open [b.d] rd = some (.lst ((opens b.rs).map RW.d), rd) := by
  have e : mf__law_open [b.d] rd = (b__law_open (initE false [b.d] 1) rd).bind flFin := rfl
  have lz : ((b.rs.map RW.d).length ≤ sizeLine) = True := by
    rw [List.length_map]
    exact szl (m := 100) hr
  have go := lcGo_P (f := RW.d) (g := RW.d) (b := fun r => r.op) (p := .nm 1) (env := wipeE [.val b.d, .un] [1]) (rd := rd)
    (t := eT (eOp opEq (eOp opIx (eVar 1) (eC (.int 0))) (eC (.str ("buy" : Str))))) (e := eVar 1) (as := b.rs) (fun r hr => by
      refine ⟨_, rfl, tBuy r 1 _ rfl rd, fun h => ?_⟩
      simp only [ev_bind1, ev_lift, ev_eC, ev_eVar, ev_eOp, ev_eUn, ev_eT, ev_mAnd, ev_mOr, ev_mNot, ev_eAnd, ev_eIf, ev_chain, ev_aNil, ev_aCons, ev_eTup, ev_eLst, ev_eCall, ev_eFn, ev_eFnR, ev_eIter, ev_eRange, ev_eLc, ev_eSl, ev_pNone, ev_pSome, ev_mFrz, ev_sNx, ev_sSet, ev_sRet, ev_sSeq, ev_sIf, ev_sUnp, ev_sNew, ev_fLst, ev_fCat, ev_sApp, ev_sFrz, ev_sFor, ev_vNil, ev_vVal, ev_vOwn, ev_sTup, ev_eRd, ev_sRd, and_self, true_and, and_true, eq_self, eqS, eqI, neS, neI, decide_true, decide_false, decide_eq_true_eq, Bool.not_true, Bool.not_false, initE, setPat, setAll, op1, isBl, flFin, iterD, seqOf, List.length_cons, List.length_nil, Bool.false_eq_true, if_false, if_true, List.nil_append, List.map_cons, List.map_nil, List.replicate, List.cons_append, Option.bind_some, Option.map_some, List.set_cons_succ, List.set_cons_zero, List.getElem?_cons_zero, List.getElem?_cons_succ, Nat.reduceAdd, wipeE])
  rw [e]
  simp only [ev_bind1, ev_lift, ev_eC, ev_eVar, ev_eOp, ev_eUn, ev_eT, ev_mAnd, ev_mOr, ev_mNot, ev_eAnd, ev_eIf, ev_chain, ev_aNil, ev_aCons, ev_eTup, ev_eLst, ev_eCall, ev_eFn, ev_eFnR, ev_eIter, ev_eRange, ev_eLc, ev_eSl, ev_pNone, ev_pSome, ev_mFrz, ev_sNx, ev_sSet, ev_sRet, ev_sSeq, ev_sIf, ev_sUnp, ev_sNew, ev_fLst, ev_fCat, ev_sApp, ev_sFrz, ev_sFor, ev_vNil, ev_vVal, ev_vOwn, ev_sTup, ev_eRd, ev_sRd, and_self, true_and, and_true, eq_self, eqS, eqI, neS, neI, decide_true, decide_false, decide_eq_true_eq, Bool.not_true, Bool.not_false, initE, setPat, setAll, op1, isBl, flFin, iterD, seqOf, List.length_cons, List.length_nil, Bool.false_eq_true, if_false, if_true, List.nil_append, List.map_cons, List.map_nil, List.replicate, List.cons_append, Option.bind_some, Option.map_some, List.set_cons_succ, List.set_cons_zero, List.getElem?_cons_zero, List.getElem?_cons_succ, Nat.reduceAdd, b__law_open, BK.ix2, lz, go, opens]
end My

set_option Elab.async false
set_option linter.all false
set_option maxRecDepth 100000
set_option maxHeartbeats 2000000
namespace My
open PySem PySem.Spec PyProof.Rows L2 FW
/-! ### indexes -/
def isI : D → Bool
  | .int _ => true
  | _ => false
theorem integer_ok (d : D) (rd : Rdr) : mf_is_integer [d] rd = some (.bl (isI d), rd) := by
  have e : mf_is_integer [d] rd = (b_is_integer (initE false [d] 0) rd).bind flFin := rfl
  rw [e]
  cases d with
  | non =>
    have k1 : opIs "int" .non = some (.bl false) := rfl
    simp only [ev_bind1, ev_lift, ev_eC, ev_eVar, ev_eOp, ev_eUn, ev_eT, ev_mAnd, ev_mOr, ev_mNot, ev_eAnd, ev_eIf, ev_chain, ev_aNil, ev_aCons, ev_eTup, ev_eLst, ev_eCall, ev_eFn, ev_eFnR, ev_eIter, ev_eRange, ev_eLc, ev_eSl, ev_pNone, ev_pSome, ev_mFrz, ev_sNx, ev_sSet, ev_sRet, ev_sSeq, ev_sIf, ev_sUnp, ev_sNew, ev_fLst, ev_fCat, ev_sApp, ev_sFrz, ev_sFor, ev_vNil, ev_vVal, ev_vOwn, ev_sTup, ev_eRd, ev_sRd, and_self, true_and, and_true, eq_self, eqS, eqI, neS, neI, decide_true, decide_false, decide_eq_true_eq, Bool.not_true, Bool.not_false, initE, setPat, setAll, op1, isBl, flFin, iterD, seqOf, List.length_cons, List.length_nil, Bool.false_eq_true, if_false, if_true, List.nil_append, List.map_cons, List.map_nil, List.replicate, List.cons_append, Option.bind_some, Option.map_some, List.set_cons_succ, List.set_cons_zero, List.getElem?_cons_zero, List.getElem?_cons_succ, Nat.reduceAdd, ev_eNot, ev_eOwnAdd, ev_chain3, ev_xGet, ev_eFnX, ev_eFnXK, ev_xOk, ev_xTup2, ev_sSetX, ev_sRetX, ev_sExpX, ev_sRaise, ev_sTry, ev_eIsE, ev_eFldC, ev_eLc2, ev_lOwn, ev_sExt, b_is_integer, k1, isI]
  | bl b =>
    have k1 : opIs "int" (.bl b) = some (.bl true) := rfl
    have k2 : opIs "bool" (.bl b) = some (.bl true) := rfl
    simp only [ev_bind1, ev_lift, ev_eC, ev_eVar, ev_eOp, ev_eUn, ev_eT, ev_mAnd, ev_mOr, ev_mNot, ev_eAnd, ev_eIf, ev_chain, ev_aNil, ev_aCons, ev_eTup, ev_eLst, ev_eCall, ev_eFn, ev_eFnR, ev_eIter, ev_eRange, ev_eLc, ev_eSl, ev_pNone, ev_pSome, ev_mFrz, ev_sNx, ev_sSet, ev_sRet, ev_sSeq, ev_sIf, ev_sUnp, ev_sNew, ev_fLst, ev_fCat, ev_sApp, ev_sFrz, ev_sFor, ev_vNil, ev_vVal, ev_vOwn, ev_sTup, ev_eRd, ev_sRd, and_self, true_and, and_true, eq_self, eqS, eqI, neS, neI, decide_true, decide_false, decide_eq_true_eq, Bool.not_true, Bool.not_false, initE, setPat, setAll, op1, isBl, flFin, iterD, seqOf, List.length_cons, List.length_nil, Bool.false_eq_true, if_false, if_true, List.nil_append, List.map_cons, List.map_nil, List.replicate, List.cons_append, Option.bind_some, Option.map_some, List.set_cons_succ, List.set_cons_zero, List.getElem?_cons_zero, List.getElem?_cons_succ, Nat.reduceAdd, ev_eNot, ev_eOwnAdd, ev_chain3, ev_xGet, ev_eFnX, ev_eFnXK, ev_xOk, ev_xTup2, ev_sSetX, ev_sRetX, ev_sExpX, ev_sRaise, ev_sTry, ev_eIsE, ev_eFldC, ev_eLc2, ev_lOwn, ev_sExt, b_is_integer, k1, k2, isI]
  | int i =>
    have k1 : opIs "int" (.int i) = some (.bl true) := rfl
    have k2 : opIs "bool" (.int i) = some (.bl false) := rfl
    simp only [ev_bind1, ev_lift, ev_eC, ev_eVar, ev_eOp, ev_eUn, ev_eT, ev_mAnd, ev_mOr, ev_mNot, ev_eAnd, ev_eIf, ev_chain, ev_aNil, ev_aCons, ev_eTup, ev_eLst, ev_eCall, ev_eFn, ev_eFnR, ev_eIter, ev_eRange, ev_eLc, ev_eSl, ev_pNone, ev_pSome, ev_mFrz, ev_sNx, ev_sSet, ev_sRet, ev_sSeq, ev_sIf, ev_sUnp, ev_sNew, ev_fLst, ev_fCat, ev_sApp, ev_sFrz, ev_sFor, ev_vNil, ev_vVal, ev_vOwn, ev_sTup, ev_eRd, ev_sRd, and_self, true_and, and_true, eq_self, eqS, eqI, neS, neI, decide_true, decide_false, decide_eq_true_eq, Bool.not_true, Bool.not_false, initE, setPat, setAll, op1, isBl, flFin, iterD, seqOf, List.length_cons, List.length_nil, Bool.false_eq_true, if_false, if_true, List.nil_append, List.map_cons, List.map_nil, List.replicate, List.cons_append, Option.bind_some, Option.map_some, List.set_cons_succ, List.set_cons_zero, List.getElem?_cons_zero, List.getElem?_cons_succ, Nat.reduceAdd, ev_eNot, ev_eOwnAdd, ev_chain3, ev_xGet, ev_eFnX, ev_eFnXK, ev_xOk, ev_xTup2, ev_sSetX, ev_sRetX, ev_sExpX, ev_sRaise, ev_sTry, ev_eIsE, ev_eFldC, ev_eLc2, ev_lOwn, ev_sExt, b_is_integer, k1, k2, isI]
  | str s =>
    have k1 : opIs "int" (.str s) = some (.bl false) := rfl
    simp only [ev_bind1, ev_lift, ev_eC, ev_eVar, ev_eOp, ev_eUn, ev_eT, ev_mAnd, ev_mOr, ev_mNot, ev_eAnd, ev_eIf, ev_chain, ev_aNil, ev_aCons, ev_eTup, ev_eLst, ev_eCall, ev_eFn, ev_eFnR, ev_eIter, ev_eRange, ev_eLc, ev_eSl, ev_pNone, ev_pSome, ev_mFrz, ev_sNx, ev_sSet, ev_sRet, ev_sSeq, ev_sIf, ev_sUnp, ev_sNew, ev_fLst, ev_fCat, ev_sApp, ev_sFrz, ev_sFor, ev_vNil, ev_vVal, ev_vOwn, ev_sTup, ev_eRd, ev_sRd, and_self, true_and, and_true, eq_self, eqS, eqI, neS, neI, decide_true, decide_false, decide_eq_true_eq, Bool.not_true, Bool.not_false, initE, setPat, setAll, op1, isBl, flFin, iterD, seqOf, List.length_cons, List.length_nil, Bool.false_eq_true, if_false, if_true, List.nil_append, List.map_cons, List.map_nil, List.replicate, List.cons_append, Option.bind_some, Option.map_some, List.set_cons_succ, List.set_cons_zero, List.getElem?_cons_zero, List.getElem?_cons_succ, Nat.reduceAdd, ev_eNot, ev_eOwnAdd, ev_chain3, ev_xGet, ev_eFnX, ev_eFnXK, ev_xOk, ev_xTup2, ev_sSetX, ev_sRetX, ev_sExpX, ev_sRaise, ev_sTry, ev_eIsE, ev_eFldC, ev_eLc2, ev_lOwn, ev_sExt, b_is_integer, k1, isI]
  | tup s =>
    have k1 : opIs "int" (.tup s) = some (.bl false) := rfl
    simp only [ev_bind1, ev_lift, ev_eC, ev_eVar, ev_eOp, ev_eUn, ev_eT, ev_mAnd, ev_mOr, ev_mNot, ev_eAnd, ev_eIf, ev_chain, ev_aNil, ev_aCons, ev_eTup, ev_eLst, ev_eCall, ev_eFn, ev_eFnR, ev_eIter, ev_eRange, ev_eLc, ev_eSl, ev_pNone, ev_pSome, ev_mFrz, ev_sNx, ev_sSet, ev_sRet, ev_sSeq, ev_sIf, ev_sUnp, ev_sNew, ev_fLst, ev_fCat, ev_sApp, ev_sFrz, ev_sFor, ev_vNil, ev_vVal, ev_vOwn, ev_sTup, ev_eRd, ev_sRd, and_self, true_and, and_true, eq_self, eqS, eqI, neS, neI, decide_true, decide_false, decide_eq_true_eq, Bool.not_true, Bool.not_false, initE, setPat, setAll, op1, isBl, flFin, iterD, seqOf, List.length_cons, List.length_nil, Bool.false_eq_true, if_false, if_true, List.nil_append, List.map_cons, List.map_nil, List.replicate, List.cons_append, Option.bind_some, Option.map_some, List.set_cons_succ, List.set_cons_zero, List.getElem?_cons_zero, List.getElem?_cons_succ, Nat.reduceAdd, ev_eNot, ev_eOwnAdd, ev_chain3, ev_xGet, ev_eFnX, ev_eFnXK, ev_xOk, ev_xTup2, ev_sSetX, ev_sRetX, ev_sExpX, ev_sRaise, ev_sTry, ev_eIsE, ev_eFldC, ev_eLc2, ev_lOwn, ev_sExt, b_is_integer, k1, isI]
  | lst s =>
    have k1 : opIs "int" (.lst s) = some (.bl false) := rfl
    simp only [ev_bind1, ev_lift, ev_eC, ev_eVar, ev_eOp, ev_eUn, ev_eT, ev_mAnd, ev_mOr, ev_mNot, ev_eAnd, ev_eIf, ev_chain, ev_aNil, ev_aCons, ev_eTup, ev_eLst, ev_eCall, ev_eFn, ev_eFnR, ev_eIter, ev_eRange, ev_eLc, ev_eSl, ev_pNone, ev_pSome, ev_mFrz, ev_sNx, ev_sSet, ev_sRet, ev_sSeq, ev_sIf, ev_sUnp, ev_sNew, ev_fLst, ev_fCat, ev_sApp, ev_sFrz, ev_sFor, ev_vNil, ev_vVal, ev_vOwn, ev_sTup, ev_eRd, ev_sRd, and_self, true_and, and_true, eq_self, eqS, eqI, neS, neI, decide_true, decide_false, decide_eq_true_eq, Bool.not_true, Bool.not_false, initE, setPat, setAll, op1, isBl, flFin, iterD, seqOf, List.length_cons, List.length_nil, Bool.false_eq_true, if_false, if_true, List.nil_append, List.map_cons, List.map_nil, List.replicate, List.cons_append, Option.bind_some, Option.map_some, List.set_cons_succ, List.set_cons_zero, List.getElem?_cons_zero, List.getElem?_cons_succ, Nat.reduceAdd, ev_eNot, ev_eOwnAdd, ev_chain3, ev_xGet, ev_eFnX, ev_eFnXK, ev_xOk, ev_xTup2, ev_sSetX, ev_sRetX, ev_sExpX, ev_sRaise, ev_sTry, ev_eIsE, ev_eFldC, ev_eLc2, ev_lOwn, ev_sExt, b_is_integer, k1, isI]
theorem number_no {d : D} (h : isI d = false) (rd : Rdr) : mf_is_number [d] rd = some (.bl false, rd) := by
  have e : mf_is_number [d] rd = (b_is_number (initE false [d] 0) rd).bind flFin := rfl
  rw [e]
  simp only [ev_bind1, ev_lift, ev_eC, ev_eVar, ev_eOp, ev_eUn, ev_eT, ev_mAnd, ev_mOr, ev_mNot, ev_eAnd, ev_eIf, ev_chain, ev_aNil, ev_aCons, ev_eTup, ev_eLst, ev_eCall, ev_eFn, ev_eFnR, ev_eIter, ev_eRange, ev_eLc, ev_eSl, ev_pNone, ev_pSome, ev_mFrz, ev_sNx, ev_sSet, ev_sRet, ev_sSeq, ev_sIf, ev_sUnp, ev_sNew, ev_fLst, ev_fCat, ev_sApp, ev_sFrz, ev_sFor, ev_vNil, ev_vVal, ev_vOwn, ev_sTup, ev_eRd, ev_sRd, and_self, true_and, and_true, eq_self, eqS, eqI, neS, neI, decide_true, decide_false, decide_eq_true_eq, Bool.not_true, Bool.not_false, initE, setPat, setAll, op1, isBl, flFin, iterD, seqOf, List.length_cons, List.length_nil, Bool.false_eq_true, if_false, if_true, List.nil_append, List.map_cons, List.map_nil, List.replicate, List.cons_append, Option.bind_some, Option.map_some, List.set_cons_succ, List.set_cons_zero, List.getElem?_cons_zero, List.getElem?_cons_succ, Nat.reduceAdd, ev_eNot, ev_eOwnAdd, ev_chain3, ev_xGet, ev_eFnX, ev_eFnXK, ev_xOk, ev_xTup2, ev_sSetX, ev_sRetX, ev_sExpX, ev_sRaise, ev_sTry, ev_eIsE, ev_eFldC, ev_eLc2, ev_lOwn, ev_sExt, b_is_number, integer_ok, h]
theorem number_int (i : Int) (rd : Rdr) : mf_is_number [.int i] rd = some (.bl (decide (0 ≤ i)), rd) := by
  have e : mf_is_number [.int i] rd = (b_is_number (initE false [.int i] 0) rd).bind flFin := rfl
  rw [e]
  simp only [ev_bind1, ev_lift, ev_eC, ev_eVar, ev_eOp, ev_eUn, ev_eT, ev_mAnd, ev_mOr, ev_mNot, ev_eAnd, ev_eIf, ev_chain, ev_aNil, ev_aCons, ev_eTup, ev_eLst, ev_eCall, ev_eFn, ev_eFnR, ev_eIter, ev_eRange, ev_eLc, ev_eSl, ev_pNone, ev_pSome, ev_mFrz, ev_sNx, ev_sSet, ev_sRet, ev_sSeq, ev_sIf, ev_sUnp, ev_sNew, ev_fLst, ev_fCat, ev_sApp, ev_sFrz, ev_sFor, ev_vNil, ev_vVal, ev_vOwn, ev_sTup, ev_eRd, ev_sRd, and_self, true_and, and_true, eq_self, eqS, eqI, neS, neI, decide_true, decide_false, decide_eq_true_eq, Bool.not_true, Bool.not_false, initE, setPat, setAll, op1, isBl, flFin, iterD, seqOf, List.length_cons, List.length_nil, Bool.false_eq_true, if_false, if_true, List.nil_append, List.map_cons, List.map_nil, List.replicate, List.cons_append, Option.bind_some, Option.map_some, List.set_cons_succ, List.set_cons_zero, List.getElem?_cons_zero, List.getElem?_cons_succ, Nat.reduceAdd, ev_eNot, ev_eOwnAdd, ev_chain3, ev_xGet, ev_eFnX, ev_eFnXK, ev_xOk, ev_xTup2, ev_sSetX, ev_sRetX, ev_sExpX, ev_sRaise, ev_sTry, ev_eIsE, ev_eFldC, ev_eLc2, ev_lOwn, ev_sExt, b_is_number, integer_ok, isI, cmpI]
theorem index_no {d : D} {m : Int} (h : isI d = false) (rd : Rdr) : mf_is_index [d, .int m] rd = some (.bl false, rd) := by
  have e : mf_is_index [d, .int m] rd = (b_is_index (initE false [d, .int m] 0) rd).bind flFin := rfl
  rw [e]
  simp only [ev_bind1, ev_lift, ev_eC, ev_eVar, ev_eOp, ev_eUn, ev_eT, ev_mAnd, ev_mOr, ev_mNot, ev_eAnd, ev_eIf, ev_chain, ev_aNil, ev_aCons, ev_eTup, ev_eLst, ev_eCall, ev_eFn, ev_eFnR, ev_eIter, ev_eRange, ev_eLc, ev_eSl, ev_pNone, ev_pSome, ev_mFrz, ev_sNx, ev_sSet, ev_sRet, ev_sSeq, ev_sIf, ev_sUnp, ev_sNew, ev_fLst, ev_fCat, ev_sApp, ev_sFrz, ev_sFor, ev_vNil, ev_vVal, ev_vOwn, ev_sTup, ev_eRd, ev_sRd, and_self, true_and, and_true, eq_self, eqS, eqI, neS, neI, decide_true, decide_false, decide_eq_true_eq, Bool.not_true, Bool.not_false, initE, setPat, setAll, op1, isBl, flFin, iterD, seqOf, List.length_cons, List.length_nil, Bool.false_eq_true, if_false, if_true, List.nil_append, List.map_cons, List.map_nil, List.replicate, List.cons_append, Option.bind_some, Option.map_some, List.set_cons_succ, List.set_cons_zero, List.getElem?_cons_zero, List.getElem?_cons_succ, Nat.reduceAdd, ev_eNot, ev_eOwnAdd, ev_chain3, ev_xGet, ev_eFnX, ev_eFnXK, ev_xOk, ev_xTup2, ev_sSetX, ev_sRetX, ev_sExpX, ev_sRaise, ev_sTry, ev_eIsE, ev_eFldC, ev_eLc2, ev_lOwn, ev_sExt, b_is_index, number_no h]
theorem index_int (i m : Int) (rd : Rdr) : mf_is_index [.int i, .int m] rd = some (.bl (decide (0 ≤ i) && decide (i < m)), rd) := by
  have e : mf_is_index [.int i, .int m] rd = (b_is_index (initE false [.int i, .int m] 0) rd).bind flFin := rfl
  rw [e]
  by_cases h : 0 ≤ i
  · simp only [ev_bind1, ev_lift, ev_eC, ev_eVar, ev_eOp, ev_eUn, ev_eT, ev_mAnd, ev_mOr, ev_mNot, ev_eAnd, ev_eIf, ev_chain, ev_aNil, ev_aCons, ev_eTup, ev_eLst, ev_eCall, ev_eFn, ev_eFnR, ev_eIter, ev_eRange, ev_eLc, ev_eSl, ev_pNone, ev_pSome, ev_mFrz, ev_sNx, ev_sSet, ev_sRet, ev_sSeq, ev_sIf, ev_sUnp, ev_sNew, ev_fLst, ev_fCat, ev_sApp, ev_sFrz, ev_sFor, ev_vNil, ev_vVal, ev_vOwn, ev_sTup, ev_eRd, ev_sRd, and_self, true_and, and_true, eq_self, eqS, eqI, neS, neI, decide_true, decide_false, decide_eq_true_eq, Bool.not_true, Bool.not_false, initE, setPat, setAll, op1, isBl, flFin, iterD, seqOf, List.length_cons, List.length_nil, Bool.false_eq_true, if_false, if_true, List.nil_append, List.map_cons, List.map_nil, List.replicate, List.cons_append, Option.bind_some, Option.map_some, List.set_cons_succ, List.set_cons_zero, List.getElem?_cons_zero, List.getElem?_cons_succ, Nat.reduceAdd, ev_eNot, ev_eOwnAdd, ev_chain3, ev_xGet, ev_eFnX, ev_eFnXK, ev_xOk, ev_xTup2, ev_sSetX, ev_sRetX, ev_sExpX, ev_sRaise, ev_sTry, ev_eIsE, ev_eFldC, ev_eLc2, ev_lOwn, ev_sExt, b_is_index, number_int, h, cmpI, Bool.true_and]
  · simp only [ev_bind1, ev_lift, ev_eC, ev_eVar, ev_eOp, ev_eUn, ev_eT, ev_mAnd, ev_mOr, ev_mNot, ev_eAnd, ev_eIf, ev_chain, ev_aNil, ev_aCons, ev_eTup, ev_eLst, ev_eCall, ev_eFn, ev_eFnR, ev_eIter, ev_eRange, ev_eLc, ev_eSl, ev_pNone, ev_pSome, ev_mFrz, ev_sNx, ev_sSet, ev_sRet, ev_sSeq, ev_sIf, ev_sUnp, ev_sNew, ev_fLst, ev_fCat, ev_sApp, ev_sFrz, ev_sFor, ev_vNil, ev_vVal, ev_vOwn, ev_sTup, ev_eRd, ev_sRd, and_self, true_and, and_true, eq_self, eqS, eqI, neS, neI, decide_true, decide_false, decide_eq_true_eq, Bool.not_true, Bool.not_false, initE, setPat, setAll, op1, isBl, flFin, iterD, seqOf, List.length_cons, List.length_nil, Bool.false_eq_true, if_false, if_true, List.nil_append, List.map_cons, List.map_nil, List.replicate, List.cons_append, Option.bind_some, Option.map_some, List.set_cons_succ, List.set_cons_zero, List.getElem?_cons_zero, List.getElem?_cons_succ, Nat.reduceAdd, ev_eNot, ev_eOwnAdd, ev_chain3, ev_xGet, ev_eFnX, ev_eFnXK, ev_xOk, ev_xTup2, ev_sSetX, ev_sRetX, ev_sExpX, ev_sRaise, ev_sTry, ev_eIsE, ev_eFldC, ev_eLc2, ev_lOwn, ev_sExt, b_is_index, number_int, h, cmpI, Bool.false_and]
def badK : List (Str × D) := [("word", .str ("limit" : Str)), ("at", .int (-1))]
def goodIx (d : D) (m : Nat) : Bool := match d with
  | .int i => decide (0 ≤ i) && decide (i < m)
  | _ => false
theorem index_ok (d : D) (m : Nat) (rd : Rdr) : mf_is_index [d, .int m] rd = some (.bl (goodIx d m), rd) := by
  cases d with
  | int i => exact index_int i m rd
  | _ => exact index_no rfl rd
theorem limit_bad (b : BK) {d : D} (h : goodIx d b.bs.length = false) (rd : Rdr) : mf_check_limit [b.d, d] rd = some (.exc "NotUsable" badK, rd) := by
  have e : mf_check_limit [b.d, d] rd = (b_check_limit (initE false [b.d, d] 0) rd).bind flFinX := rfl
  have ng : opNeg (.int 1) = some (.int (-1)) := rfl
  have two : ((2 : Nat) ≤ 1000) = True := by simp
  rw [e]
  simp only [ev_bind1, ev_lift, ev_eC, ev_eVar, ev_eOp, ev_eUn, ev_eT, ev_mAnd, ev_mOr, ev_mNot, ev_eAnd, ev_eIf, ev_chain, ev_aNil, ev_aCons, ev_eTup, ev_eLst, ev_eCall, ev_eFn, ev_eFnR, ev_eIter, ev_eRange, ev_eLc, ev_eSl, ev_pNone, ev_pSome, ev_mFrz, ev_sNx, ev_sSet, ev_sRet, ev_sSeq, ev_sIf, ev_sUnp, ev_sNew, ev_fLst, ev_fCat, ev_sApp, ev_sFrz, ev_sFor, ev_vNil, ev_vVal, ev_vOwn, ev_sTup, ev_eRd, ev_sRd, and_self, true_and, and_true, eq_self, eqS, eqI, neS, neI, decide_true, decide_false, decide_eq_true_eq, Bool.not_true, Bool.not_false, initE, setPat, setAll, op1, isBl, flFin, iterD, seqOf, List.length_cons, List.length_nil, Bool.false_eq_true, if_false, if_true, List.nil_append, List.map_cons, List.map_nil, List.replicate, List.cons_append, Option.bind_some, Option.map_some, List.set_cons_succ, List.set_cons_zero, List.getElem?_cons_zero, List.getElem?_cons_succ, Nat.reduceAdd, ev_eNot, ev_eOwnAdd, ev_chain3, ev_xGet, ev_eFnX, ev_eFnXK, ev_xOk, ev_xTup2, ev_sSetX, ev_sRetX, ev_sExpX, ev_sRaise, ev_sTry, ev_eIsE, ev_eFldC, ev_eLc2, ev_lOwn, ev_sExt, b_check_limit, BK.ix1, lenT, List.length_map, index_ok, h, ng, two, flFinX, badK, List.zip_cons_cons, List.zip_nil_right]
theorem limit_good (b : BK) {d : D} (h : goodIx d b.bs.length = true) (rd : Rdr) : mf_check_limit [b.d, d] rd = some (.ok .non, rd) := by
  have e : mf_check_limit [b.d, d] rd = (b_check_limit (initE false [b.d, d] 0) rd).bind flFinX := rfl
  rw [e]
  simp only [ev_bind1, ev_lift, ev_eC, ev_eVar, ev_eOp, ev_eUn, ev_eT, ev_mAnd, ev_mOr, ev_mNot, ev_eAnd, ev_eIf, ev_chain, ev_aNil, ev_aCons, ev_eTup, ev_eLst, ev_eCall, ev_eFn, ev_eFnR, ev_eIter, ev_eRange, ev_eLc, ev_eSl, ev_pNone, ev_pSome, ev_mFrz, ev_sNx, ev_sSet, ev_sRet, ev_sSeq, ev_sIf, ev_sUnp, ev_sNew, ev_fLst, ev_fCat, ev_sApp, ev_sFrz, ev_sFor, ev_vNil, ev_vVal, ev_vOwn, ev_sTup, ev_eRd, ev_sRd, and_self, true_and, and_true, eq_self, eqS, eqI, neS, neI, decide_true, decide_false, decide_eq_true_eq, Bool.not_true, Bool.not_false, initE, setPat, setAll, op1, isBl, flFin, iterD, seqOf, List.length_cons, List.length_nil, Bool.false_eq_true, if_false, if_true, List.nil_append, List.map_cons, List.map_nil, List.replicate, List.cons_append, Option.bind_some, Option.map_some, List.set_cons_succ, List.set_cons_zero, List.getElem?_cons_zero, List.getElem?_cons_succ, Nat.reduceAdd, ev_eNot, ev_eOwnAdd, ev_chain3, ev_xGet, ev_eFnX, ev_eFnXK, ev_xOk, ev_xTup2, ev_sSetX, ev_sRetX, ev_sExpX, ev_sRaise, ev_sTry, ev_eIsE, ev_eFldC, ev_eLc2, ev_lOwn, ev_sExt, b_check_limit, BK.ix1, lenT, List.length_map, index_ok, h, flFinX]
/-! ### names -/
theorem names_ok (ps : List PU) (hp : ps.length ≤ 100) (rd : Rdr) : mf_names_of [.tup (ps.map PU.d)] rd = some (.tup ((ps.map (·.n)).map .str), rd) := by
  have e : mf_names_of [.tup (ps.map PU.d)] rd = (b_names_of (initE false [.tup (ps.map PU.d)] 1) rd).bind flFin := rfl
  have lz : ((ps.map PU.d).length ≤ sizeLine) = True := by
    rw [List.length_map]
    exact szl (m := 100) hp
  have go := lcGo_P (f := PU.d) (g := fun p => .str p.n) (b := fun _ => true) (p := .nm 1) (env := wipeE [.val (.tup (ps.map PU.d)), .un] [1]) (rd := rd) (t := mYes) (e := eOp opIx (eVar 1) (eC (.int 0))) (as := ps) (fun p _ => by
      refine ⟨_, rfl, rfl, fun _ => ?_⟩
      have i1 : opIx p.d (.int 0) = some (.str p.n) := rfl
      simp only [ev_bind1, ev_lift, ev_eC, ev_eVar, ev_eOp, ev_eUn, ev_eT, ev_mAnd, ev_mOr, ev_mNot, ev_eAnd, ev_eIf, ev_chain, ev_aNil, ev_aCons, ev_eTup, ev_eLst, ev_eCall, ev_eFn, ev_eFnR, ev_eIter, ev_eRange, ev_eLc, ev_eSl, ev_pNone, ev_pSome, ev_mFrz, ev_sNx, ev_sSet, ev_sRet, ev_sSeq, ev_sIf, ev_sUnp, ev_sNew, ev_fLst, ev_fCat, ev_sApp, ev_sFrz, ev_sFor, ev_vNil, ev_vVal, ev_vOwn, ev_sTup, ev_eRd, ev_sRd, and_self, true_and, and_true, eq_self, eqS, eqI, neS, neI, decide_true, decide_false, decide_eq_true_eq, Bool.not_true, Bool.not_false, initE, setPat, setAll, op1, isBl, flFin, iterD, seqOf, List.length_cons, List.length_nil, Bool.false_eq_true, if_false, if_true, List.nil_append, List.map_cons, List.map_nil, List.replicate, List.cons_append, Option.bind_some, Option.map_some, List.set_cons_succ, List.set_cons_zero, List.getElem?_cons_zero, List.getElem?_cons_succ, Nat.reduceAdd, ev_eNot, ev_eOwnAdd, ev_chain3, ev_xGet, ev_eFnX, ev_eFnXK, ev_xOk, ev_xTup2, ev_sSetX, ev_sRetX, ev_sExpX, ev_sRaise, ev_sTry, ev_eIsE, ev_eFldC, ev_eLc2, ev_lOwn, ev_sExt, wipeE, i1])
  have fin : ((ps.filter fun _ => true).map fun p => D.str p.n) = (ps.map (·.n)).map .str := by
    rw [List.filter_eq_self.mpr (fun _ _ => rfl), List.map_map]
    rfl
  rw [fin] at go
  have ot : opTupL (.lst ((ps.map (·.n)).map .str)) = some (.tup ((ps.map (·.n)).map .str)) := rfl
  rw [e]
  simp only [ev_bind1, ev_lift, ev_eC, ev_eVar, ev_eOp, ev_eUn, ev_eT, ev_mAnd, ev_mOr, ev_mNot, ev_eAnd, ev_eIf, ev_chain, ev_aNil, ev_aCons, ev_eTup, ev_eLst, ev_eCall, ev_eFn, ev_eFnR, ev_eIter, ev_eRange, ev_eLc, ev_eSl, ev_pNone, ev_pSome, ev_mFrz, ev_sNx, ev_sSet, ev_sRet, ev_sSeq, ev_sIf, ev_sUnp, ev_sNew, ev_fLst, ev_fCat, ev_sApp, ev_sFrz, ev_sFor, ev_vNil, ev_vVal, ev_vOwn, ev_sTup, ev_eRd, ev_sRd, and_self, true_and, and_true, eq_self, eqS, eqI, neS, neI, decide_true, decide_false, decide_eq_true_eq, Bool.not_true, Bool.not_false, initE, setPat, setAll, op1, isBl, flFin, iterD, seqOf, List.length_cons, List.length_nil, Bool.false_eq_true, if_false, if_true, List.nil_append, List.map_cons, List.map_nil, List.replicate, List.cons_append, Option.bind_some, Option.map_some, List.set_cons_succ, List.set_cons_zero, List.getElem?_cons_zero, List.getElem?_cons_succ, Nat.reduceAdd, ev_eNot, ev_eOwnAdd, ev_chain3, ev_xGet, ev_eFnX, ev_eFnXK, ev_xOk, ev_xTup2, ev_sSetX, ev_sRetX, ev_sExpX, ev_sRaise, ev_sTry, ev_eIsE, ev_eFldC, ev_eLc2, ev_lOwn, ev_sExt, b_names_of, lz, go, ot]
theorem inB_mem {k : Str} {os : List Str} (h : k ∈ os) : inB k os = true := by
  unfold inB inD inV
  rw [List.any_eq_true]
  exact ⟨.str k, List.mem_map.mpr ⟨.str k, List.mem_map.mpr ⟨k, h, rfl⟩, rfl⟩, by
    show (k == k) = true
    exact beq_self_eq_true k⟩
def badP (d : D) : List (Str × D) := [("purse", d)]
theorem purse_bad (b : BK) (hp : b.ps.length ≤ 100) {d : D} (h : opInX true d (.tup ((b.ps.map (·.n)).map .str)) = some (.bl true)) (rd : Rdr) : mf_check_purse [b.d, d] rd = some (.exc "UnknownPurse" (badP d), rd) := by
  have e : mf_check_purse [b.d, d] rd = (b_check_purse (initE false [b.d, d] 0) rd).bind flFinX := rfl
  have one : ((1 : Nat) ≤ 1000) = True := by simp
  rw [e]
  simp only [ev_bind1, ev_lift, ev_eC, ev_eVar, ev_eOp, ev_eUn, ev_eT, ev_mAnd, ev_mOr, ev_mNot, ev_eAnd, ev_eIf, ev_chain, ev_aNil, ev_aCons, ev_eTup, ev_eLst, ev_eCall, ev_eFn, ev_eFnR, ev_eIter, ev_eRange, ev_eLc, ev_eSl, ev_pNone, ev_pSome, ev_mFrz, ev_sNx, ev_sSet, ev_sRet, ev_sSeq, ev_sIf, ev_sUnp, ev_sNew, ev_fLst, ev_fCat, ev_sApp, ev_sFrz, ev_sFor, ev_vNil, ev_vVal, ev_vOwn, ev_sTup, ev_eRd, ev_sRd, and_self, true_and, and_true, eq_self, eqS, eqI, neS, neI, decide_true, decide_false, decide_eq_true_eq, Bool.not_true, Bool.not_false, initE, setPat, setAll, op1, isBl, flFin, iterD, seqOf, List.length_cons, List.length_nil, Bool.false_eq_true, if_false, if_true, List.nil_append, List.map_cons, List.map_nil, List.replicate, List.cons_append, Option.bind_some, Option.map_some, List.set_cons_succ, List.set_cons_zero, List.getElem?_cons_zero, List.getElem?_cons_succ, Nat.reduceAdd, ev_eNot, ev_eOwnAdd, ev_chain3, ev_xGet, ev_eFnX, ev_eFnXK, ev_xOk, ev_xTup2, ev_sSetX, ev_sRetX, ev_sExpX, ev_sRaise, ev_sTry, ev_eIsE, ev_eFldC, ev_eLc2, ev_lOwn, ev_sExt, b_check_purse, BK.ix0, names_ok b.ps hp, h, one, flFinX, badP, List.zip_cons_cons, List.zip_nil_right]
theorem purse_good (b : BK) (hp : b.ps.length ≤ 100) {n : Str} (h : n ∈ b.ps.map (·.n)) (rd : Rdr) : mf_check_purse [b.d, .str n] rd = some (.ok .non, rd) := by
  have e : mf_check_purse [b.d, .str n] rd = (b_check_purse (initE false [b.d, .str n] 0) rd).bind flFinX := rfl
  rw [e]
  simp only [ev_bind1, ev_lift, ev_eC, ev_eVar, ev_eOp, ev_eUn, ev_eT, ev_mAnd, ev_mOr, ev_mNot, ev_eAnd, ev_eIf, ev_chain, ev_aNil, ev_aCons, ev_eTup, ev_eLst, ev_eCall, ev_eFn, ev_eFnR, ev_eIter, ev_eRange, ev_eLc, ev_eSl, ev_pNone, ev_pSome, ev_mFrz, ev_sNx, ev_sSet, ev_sRet, ev_sSeq, ev_sIf, ev_sUnp, ev_sNew, ev_fLst, ev_fCat, ev_sApp, ev_sFrz, ev_sFor, ev_vNil, ev_vVal, ev_vOwn, ev_sTup, ev_eRd, ev_sRd, and_self, true_and, and_true, eq_self, eqS, eqI, neS, neI, decide_true, decide_false, decide_eq_true_eq, Bool.not_true, Bool.not_false, initE, setPat, setAll, op1, isBl, flFin, iterD, seqOf, List.length_cons, List.length_nil, Bool.false_eq_true, if_false, if_true, List.nil_append, List.map_cons, List.map_nil, List.replicate, List.cons_append, Option.bind_some, Option.map_some, List.set_cons_succ, List.set_cons_zero, List.getElem?_cons_zero, List.getElem?_cons_succ, Nat.reduceAdd, ev_eNot, ev_eOwnAdd, ev_chain3, ev_xGet, ev_eFnX, ev_eFnXK, ev_xOk, ev_xTup2, ev_sSetX, ev_sRetX, ev_sExpX, ev_sRaise, ev_sTry, ev_eIsE, ev_eFldC, ev_eLc2, ev_lOwn, ev_sExt, b_check_purse, BK.ix0, names_ok b.ps hp, in_tup, inB_mem h, flFinX]
/-! ### payments -/
def payD (x : Int × List Int) : D := .tup [.int x.1, shD x.2]
def pay1 (rs : List RW) : List (Int × List Int) := (paids rs).map fun r => (r.day, r.sh)
theorem payments_ok (rs : List RW) (hr : rs.length ≤ 100) (rd : Rdr) : mf_payments_of [.tup (rs.map RW.d)] rd = some (.lst ((pay1 rs).map payD), rd) := by
  have e : mf_payments_of [.tup (rs.map RW.d)] rd = (b_payments_of (initE false [.tup (rs.map RW.d)] 1) rd).bind flFin := rfl
  have lz : ((rs.map RW.d).length ≤ sizeLine) = True := by
    rw [List.length_map]
    exact szl (m := 100) hr
  have l2 : ((2 : Nat) ≤ sizeLine) = True := szl (m := 2) (Nat.le_refl _)
  have go := lcGo_P (f := RW.d) (g := fun r => payD (r.day, r.sh)) (b := fun r => !r.op) (p := .nm 1) (env := wipeE [.val (.tup (rs.map RW.d)), .un] [1]) (rd := rd)
    (t := eT (eOp opEq (eOp opIx (eVar 1) (eC (.int 0))) (eC (.str ("paid" : Str))))) (e := eTup (aCons (eOp opIx (eVar 1) (eC (.int 1))) (aCons (eOp opIx (eVar 1) (eC (.int 3))) aNil))) (as := rs) (fun r _ => by
      refine ⟨_, rfl, tPaid r 1 _ rfl rd, fun h => ?_⟩
      have ho : r.op = false := by simpa using h
      simp only [ev_bind1, ev_lift, ev_eC, ev_eVar, ev_eOp, ev_eUn, ev_eT, ev_mAnd, ev_mOr, ev_mNot, ev_eAnd, ev_eIf, ev_chain, ev_aNil, ev_aCons, ev_eTup, ev_eLst, ev_eCall, ev_eFn, ev_eFnR, ev_eIter, ev_eRange, ev_eLc, ev_eSl, ev_pNone, ev_pSome, ev_mFrz, ev_sNx, ev_sSet, ev_sRet, ev_sSeq, ev_sIf, ev_sUnp, ev_sNew, ev_fLst, ev_fCat, ev_sApp, ev_sFrz, ev_sFor, ev_vNil, ev_vVal, ev_vOwn, ev_sTup, ev_eRd, ev_sRd, and_self, true_and, and_true, eq_self, eqS, eqI, neS, neI, decide_true, decide_false, decide_eq_true_eq, Bool.not_true, Bool.not_false, initE, setPat, setAll, op1, isBl, flFin, iterD, seqOf, List.length_cons, List.length_nil, Bool.false_eq_true, if_false, if_true, List.nil_append, List.map_cons, List.map_nil, List.replicate, List.cons_append, Option.bind_some, Option.map_some, List.set_cons_succ, List.set_cons_zero, List.getElem?_cons_zero, List.getElem?_cons_succ, Nat.reduceAdd, ev_eNot, ev_eOwnAdd, ev_chain3, ev_xGet, ev_eFnX, ev_eFnXK, ev_xOk, ev_xTup2, ev_sSetX, ev_sRetX, ev_sExpX, ev_sRaise, ev_sTry, ev_eIsE, ev_eFldC, ev_eLc2, ev_lOwn, ev_sExt, wipeE, RW.ix1, RW.ix3 r ho, l2, payD])
  have fin : ((rs.filter fun r => !r.op).map fun r => payD (r.day, r.sh)) = (pay1 rs).map payD := by
    unfold pay1 paids
    rw [List.map_map]
    rfl
  rw [fin] at go
  rw [e]
  simp only [ev_bind1, ev_lift, ev_eC, ev_eVar, ev_eOp, ev_eUn, ev_eT, ev_mAnd, ev_mOr, ev_mNot, ev_eAnd, ev_eIf, ev_chain, ev_aNil, ev_aCons, ev_eTup, ev_eLst, ev_eCall, ev_eFn, ev_eFnR, ev_eIter, ev_eRange, ev_eLc, ev_eSl, ev_pNone, ev_pSome, ev_mFrz, ev_sNx, ev_sSet, ev_sRet, ev_sSeq, ev_sIf, ev_sUnp, ev_sNew, ev_fLst, ev_fCat, ev_sApp, ev_sFrz, ev_sFor, ev_vNil, ev_vVal, ev_vOwn, ev_sTup, ev_eRd, ev_sRd, and_self, true_and, and_true, eq_self, eqS, eqI, neS, neI, decide_true, decide_false, decide_eq_true_eq, Bool.not_true, Bool.not_false, initE, setPat, setAll, op1, isBl, flFin, iterD, seqOf, List.length_cons, List.length_nil, Bool.false_eq_true, if_false, if_true, List.nil_append, List.map_cons, List.map_nil, List.replicate, List.cons_append, Option.bind_some, Option.map_some, List.set_cons_succ, List.set_cons_zero, List.getElem?_cons_zero, List.getElem?_cons_succ, Nat.reduceAdd, ev_eNot, ev_eOwnAdd, ev_chain3, ev_xGet, ev_eFnX, ev_eFnXK, ev_xOk, ev_xTup2, ev_sSetX, ev_sRetX, ev_sExpX, ev_sRaise, ev_sTry, ev_eIsE, ev_eFldC, ev_eLc2, ev_lOwn, ev_sExt, b_payments_of, lz, go]
def openQ (rs : List RW) : List (RW × Nat) := rs.zipIdx.filter fun q => q.1.op
theorem openQ_fst (rs : List RW) : (openQ rs).map (·.1) = opens rs := by
  unfold openQ opens
  have aux : ∀ (l : List RW) (n : Nat), ((l.zipIdx n).filter fun q => q.1.op).map (·.1) = l.filter fun r => r.op := by
    intro l
    induction l with
    | nil => intro n; rfl
    | cons r l ih =>
      intro n
      rw [List.zipIdx_cons, List.filter_cons, List.filter_cons]
      by_cases h : r.op = true
      · simp only [h, if_true, List.map_cons, ih]
      · simp only [h, if_false, ih, Bool.false_eq_true]
  exact aux rs 0
theorem openQ_at {rs : List RW} {q : RW × Nat} (h : q ∈ openQ rs) : rs[q.2]? = some q.1 := by
  have := (List.mem_filter.mp h).1
  exact List.mk_mem_zipIdx_iff_getElem?.mp this
theorem openrows_ok (b : BK) (hr : b.rs.length ≤ 100) (rd : Rdr) : mf_open_rows [b.d] rd = some (.tup ((openQ b.rs).map fun q => .int (q.2 : Nat)), rd) := by
  have e : mf_open_rows [b.d] rd = (b_open_rows (initE false [b.d] 2) rd).bind flFin := rfl
  have en : enumI [.tup (b.rs.map RW.d)] = some (b.rs.zipIdx.map fun q => .tup [.int (q.2 : Nat), q.1.d]) := by
    show some (enumD (b.rs.map RW.d)) = _
    unfold enumD
    rw [List.zipIdx_map, List.map_map]
    rfl
  have lz : ((b.rs.zipIdx.map fun q => D.tup [.int (q.2 : Nat), q.1.d]).length ≤ sizeLine) = True := by
    rw [List.length_map, List.length_zipIdx]
    exact szl (m := 100) hr
  have go := lcGo_P (f := fun q : RW × Nat => D.tup [.int (q.2 : Nat), q.1.d]) (g := fun q => .int (q.2 : Nat)) (b := fun q => q.1.op) (p := .tp [1, 2]) (env := wipeE [.val b.d, .un, .un] [1, 2]) (rd := rd)
    (t := eT (eOp opEq (eOp opIx (eVar 2) (eC (.int 0))) (eC (.str ("buy" : Str))))) (e := eVar 1) (as := b.rs.zipIdx) (fun q _ => by
      refine ⟨_, rfl, tBuy q.1 2 _ rfl rd, fun _ => ?_⟩
      simp only [ev_bind1, ev_lift, ev_eC, ev_eVar, ev_eOp, ev_eUn, ev_eT, ev_mAnd, ev_mOr, ev_mNot, ev_eAnd, ev_eIf, ev_chain, ev_aNil, ev_aCons, ev_eTup, ev_eLst, ev_eCall, ev_eFn, ev_eFnR, ev_eIter, ev_eRange, ev_eLc, ev_eSl, ev_pNone, ev_pSome, ev_mFrz, ev_sNx, ev_sSet, ev_sRet, ev_sSeq, ev_sIf, ev_sUnp, ev_sNew, ev_fLst, ev_fCat, ev_sApp, ev_sFrz, ev_sFor, ev_vNil, ev_vVal, ev_vOwn, ev_sTup, ev_eRd, ev_sRd, and_self, true_and, and_true, eq_self, eqS, eqI, neS, neI, decide_true, decide_false, decide_eq_true_eq, Bool.not_true, Bool.not_false, initE, setPat, setAll, op1, isBl, flFin, iterD, seqOf, List.length_cons, List.length_nil, Bool.false_eq_true, if_false, if_true, List.nil_append, List.map_cons, List.map_nil, List.replicate, List.cons_append, Option.bind_some, Option.map_some, List.set_cons_succ, List.set_cons_zero, List.getElem?_cons_zero, List.getElem?_cons_succ, Nat.reduceAdd, ev_eNot, ev_eOwnAdd, ev_chain3, ev_xGet, ev_eFnX, ev_eFnXK, ev_xOk, ev_xTup2, ev_sSetX, ev_sRetX, ev_sExpX, ev_sRaise, ev_sTry, ev_eIsE, ev_eFldC, ev_eLc2, ev_lOwn, ev_sExt, wipeE])
  have ot : ∀ l : List D, opTuple (.lst l) = some (.tup l) := fun _ => rfl
  rw [e]
  simp only [ev_bind1, ev_lift, ev_eC, ev_eVar, ev_eOp, ev_eUn, ev_eT, ev_mAnd, ev_mOr, ev_mNot, ev_eAnd, ev_eIf, ev_chain, ev_aNil, ev_aCons, ev_eTup, ev_eLst, ev_eCall, ev_eFn, ev_eFnR, ev_eIter, ev_eRange, ev_eLc, ev_eSl, ev_pNone, ev_pSome, ev_mFrz, ev_sNx, ev_sSet, ev_sRet, ev_sSeq, ev_sIf, ev_sUnp, ev_sNew, ev_fLst, ev_fCat, ev_sApp, ev_sFrz, ev_sFor, ev_vNil, ev_vVal, ev_vOwn, ev_sTup, ev_eRd, ev_sRd, and_self, true_and, and_true, eq_self, eqS, eqI, neS, neI, decide_true, decide_false, decide_eq_true_eq, Bool.not_true, Bool.not_false, initE, setPat, setAll, op1, isBl, flFin, iterD, seqOf, List.length_cons, List.length_nil, Bool.false_eq_true, if_false, if_true, List.nil_append, List.map_cons, List.map_nil, List.replicate, List.cons_append, Option.bind_some, Option.map_some, List.set_cons_succ, List.set_cons_zero, List.getElem?_cons_zero, List.getElem?_cons_succ, Nat.reduceAdd, ev_eNot, ev_eOwnAdd, ev_chain3, ev_xGet, ev_eFnX, ev_eFnXK, ev_xOk, ev_xTup2, ev_sSetX, ev_sRetX, ev_sExpX, ev_sRaise, ev_sTry, ev_eIsE, ev_eFldC, ev_eLc2, ev_lOwn, ev_sExt, b_open_rows, BK.ix2, en, lz, go, ot, openQ]
def pays (rs : List RW) (ch : List (List Int)) : List (Int × List Int) := pay1 rs ++ ((opens rs).zip ch).map fun q => (q.1.day, q.2)
theorem zip_fst {A B C : Type} (f : A → C) : ∀ (as : List A) (bs : List B), (as.map f).zip bs = (as.zip bs).map fun q => (f q.1, q.2)
  | [], _ => rfl
  | _ :: _, [] => rfl
  | a :: as, b :: bs => by rw [List.map_cons, List.zip_cons_cons, List.zip_cons_cons, List.map_cons, zip_fst f as bs]
theorem paywith_ok (b : BK) (ch : List (List Int)) (hr : b.rs.length ≤ 100) (rd : Rdr) : mf_payments_with [b.d, .tup (ch.map shD)] rd = some (.lst ((pays b.rs ch).map payD), rd) := by
  have e : mf_payments_with [b.d, .tup (ch.map shD)] rd = (b_payments_with (initE false [b.d, .tup (ch.map shD)] 3) rd).bind flFin := rfl
  have z : zipI [.tup ((openQ b.rs).map fun q => .int (q.2 : Nat)), .tup (ch.map shD)] = some (((openQ b.rs).zip ch).map fun q => .tup [.int (q.1.2 : Nat), shD q.2]) := by
    show some (zipD ((openQ b.rs).map fun q => D.int (q.2 : Nat)) (ch.map shD)) = _
    rw [zipD_map]
  have lo : (openQ b.rs).length ≤ 100 := by
    unfold openQ
    refine Nat.le_trans (List.length_filter_le _ _) ?_
    rw [List.length_zipIdx]
    exact hr
  have lz : ((((openQ b.rs).zip ch).map fun q => D.tup [.int (q.1.2 : Nat), shD q.2]).length ≤ sizeLine) = True := by
    rw [List.length_map, List.length_zip]
    exact szl (m := 100) (by omega)
  have l2 : ((2 : Nat) ≤ sizeLine) = True := szl (m := 2) (Nat.le_refl _)
  have go := lcGo_P (f := fun q : (RW × Nat) × List Int => D.tup [.int (q.1.2 : Nat), shD q.2]) (g := fun q => payD (q.1.1.day, q.2)) (b := fun _ => true) (p := .tp [3, 4]) (env := wipeE [.val b.d, .val (.tup (ch.map shD)), .val (.tup (b.rs.map RW.d)), .un, .un] [3, 4]) (rd := rd)
    (t := mYes) (e := eTup (aCons (eOp opIx (eOp opIx (eVar 2) (eVar 3)) (eC (.int 1))) (aCons (eVar 4) aNil))) (as := (openQ b.rs).zip ch) (fun q hq => by
      refine ⟨_, rfl, rfl, fun _ => ?_⟩
      have h1 := openQ_at (List.of_mem_zip hq).1
      have hi : q.1.2 < (b.rs.map RW.d).length := by
        rw [List.length_map]
        exact (List.getElem?_eq_some_iff.mp h1).1
      have ix := SeqD.ix (ds := b.rs.map RW.d) (d := .tup (b.rs.map RW.d)) (.inl rfl) hi
      have ge : (b.rs.map RW.d)[q.1.2] = q.1.1.d := by
        rw [List.getElem_map]
        obtain ⟨w, h⟩ := List.getElem?_eq_some_iff.mp h1
        rw [h]
      rw [ge] at ix
      simp only [ev_bind1, ev_lift, ev_eC, ev_eVar, ev_eOp, ev_eUn, ev_eT, ev_mAnd, ev_mOr, ev_mNot, ev_eAnd, ev_eIf, ev_chain, ev_aNil, ev_aCons, ev_eTup, ev_eLst, ev_eCall, ev_eFn, ev_eFnR, ev_eIter, ev_eRange, ev_eLc, ev_eSl, ev_pNone, ev_pSome, ev_mFrz, ev_sNx, ev_sSet, ev_sRet, ev_sSeq, ev_sIf, ev_sUnp, ev_sNew, ev_fLst, ev_fCat, ev_sApp, ev_sFrz, ev_sFor, ev_vNil, ev_vVal, ev_vOwn, ev_sTup, ev_eRd, ev_sRd, and_self, true_and, and_true, eq_self, eqS, eqI, neS, neI, decide_true, decide_false, decide_eq_true_eq, Bool.not_true, Bool.not_false, initE, setPat, setAll, op1, isBl, flFin, iterD, seqOf, List.length_cons, List.length_nil, Bool.false_eq_true, if_false, if_true, List.nil_append, List.map_cons, List.map_nil, List.replicate, List.cons_append, Option.bind_some, Option.map_some, List.set_cons_succ, List.set_cons_zero, List.getElem?_cons_zero, List.getElem?_cons_succ, Nat.reduceAdd, ev_eNot, ev_eOwnAdd, ev_chain3, ev_xGet, ev_eFnX, ev_eFnXK, ev_xOk, ev_xTup2, ev_sSetX, ev_sRetX, ev_sExpX, ev_sRaise, ev_sTry, ev_eIsE, ev_eFldC, ev_eLc2, ev_lOwn, ev_sExt, wipeE, ix, RW.ix1, l2, payD])
  have fin : ((((openQ b.rs).zip ch).filter fun _ => true).map fun q => payD (q.1.1.day, q.2)) = (((opens b.rs).zip ch).map fun q => (q.1.day, q.2)).map payD := by
    rw [List.filter_eq_self.mpr (fun _ _ => rfl), ← openQ_fst, zip_fst, List.map_map, List.map_map]
    rfl
  rw [fin] at go
  have ad : opAdd (.lst ((pay1 b.rs).map payD)) (.lst ((((opens b.rs).zip ch).map fun q => (q.1.day, q.2)).map payD)) = some (.lst ((pays b.rs ch).map payD)) := by
    have e2 : opAdd (.lst ((pay1 b.rs).map payD)) (.lst ((((opens b.rs).zip ch).map fun q => (q.1.day, q.2)).map payD)) = if ((pay1 b.rs).map payD).length + ((((opens b.rs).zip ch).map fun q => (q.1.day, q.2)).map payD).length ≤ sizeLine then some (.lst ((pay1 b.rs).map payD ++ (((opens b.rs).zip ch).map fun q => (q.1.day, q.2)).map payD)) else none := rfl
    rw [e2, if_pos]
    · unfold pays
      rw [List.map_append]
    · have a1 : (pay1 b.rs).length ≤ 100 := by
        unfold pay1 paids
        rw [List.length_map]
        exact Nat.le_trans (List.length_filter_le _ _) hr
      have a2 : (opens b.rs).length ≤ 100 := Nat.le_trans (List.length_filter_le _ _) hr
      rw [List.length_map, List.length_map, List.length_map, List.length_zip]
      have : (200 : Nat) ≤ sizeLine := by decide
      omega
  rw [e]
  simp only [ev_bind1, ev_lift, ev_eC, ev_eVar, ev_eOp, ev_eUn, ev_eT, ev_mAnd, ev_mOr, ev_mNot, ev_eAnd, ev_eIf, ev_chain, ev_aNil, ev_aCons, ev_eTup, ev_eLst, ev_eCall, ev_eFn, ev_eFnR, ev_eIter, ev_eRange, ev_eLc, ev_eSl, ev_pNone, ev_pSome, ev_mFrz, ev_sNx, ev_sSet, ev_sRet, ev_sSeq, ev_sIf, ev_sUnp, ev_sNew, ev_fLst, ev_fCat, ev_sApp, ev_sFrz, ev_sFor, ev_vNil, ev_vVal, ev_vOwn, ev_sTup, ev_eRd, ev_sRd, and_self, true_and, and_true, eq_self, eqS, eqI, neS, neI, decide_true, decide_false, decide_eq_true_eq, Bool.not_true, Bool.not_false, initE, setPat, setAll, op1, isBl, flFin, iterD, seqOf, List.length_cons, List.length_nil, Bool.false_eq_true, if_false, if_true, List.nil_append, List.map_cons, List.map_nil, List.replicate, List.cons_append, Option.bind_some, Option.map_some, List.set_cons_succ, List.set_cons_zero, List.getElem?_cons_zero, List.getElem?_cons_succ, Nat.reduceAdd, ev_eNot, ev_eOwnAdd, ev_chain3, ev_xGet, ev_eFnX, ev_eFnXK, ev_xOk, ev_xTup2, ev_sSetX, ev_sRetX, ev_sExpX, ev_sRaise, ev_sTry, ev_eIsE, ev_eFldC, ev_eLc2, ev_lOwn, ev_sExt, b_payments_with, BK.ix2, payments_ok b.rs hr, openrows_ok b hr, z, lz, go, ad]
def insideL (ps : List PU) (l : BD) (day : Int) (sh : List Int) : List Int := ((ps.zip sh).filter fun q => hasB l q.1.n day).map (·.2)
theorem inside_eq (ps : List PU) (l : BD) (day : Int) (sh : List Int) : insideL ps l day sh = spentL ps l day sh := by
  unfold insideL spentL
  induction ps generalizing sh with
  | nil => cases sh <;> rfl
  | cons p ps ih => cases sh with
    | nil => rfl
    | cons s sh =>
      rw [List.zip_cons_cons, List.zip_cons_cons, List.filter_cons, List.filter_cons]
      cases hasB l p.n day with
      | true => simp only [if_true, List.map_cons, ih]
      | false => simp only [Bool.false_eq_true, if_false, ih]
theorem inside_ok (ps : List PU) (l : BD) (py : List (Int × List Int)) (hp : ps.length ≤ 20) (hy : py.length ≤ 20) (rd : Rdr) :
    mf_paid_inside [l.d, .tup (ps.map PU.d), .lst (py.map payD)] rd = some (.int (py.map fun x => spentL ps l x.1 x.2).flatten.sum, rd) := by
  have e : mf_paid_inside [l.d, .tup (ps.map PU.d), .lst (py.map payD)] rd = (b_paid_inside (initE false [l.d, .tup (ps.map PU.d), .lst (py.map payD)] 4) rd).bind flFin := rfl
  have go := lcGo2_P (f := payD) (fi := fun x => ps.zip x.2) (f1 := fun q : PU × Int => D.tup [q.1.d, .int q.2]) (g := fun _ q => .int q.2) (b := fun x q => hasB l q.1.n x.1) (p := .tp [3, 4]) (p1 := .tp [5, 6]) (vs1 := [5, 6])
    (env := wipeE [.val l.d, .val (.tup (ps.map PU.d)), .val (.lst (py.map payD)), .un, .un, .un, .un] [3, 4, 5, 6]) (rd := rd) (mi := eRange zipI (aCons (eVar 1) (aCons (eVar 4) aNil))) (t := mYes)
    (t1 := eT (eFn mf_has_slot 3 (aCons (eVar 0) (aCons (eOp opIx (eVar 5) (eC (.int 0))) (aCons (eVar 3) aNil))))) (e := eVar 6) (as := py) (fun x _ => by
      refine ⟨_, rfl, rfl, ?_, fun q _ => ⟨_, rfl, ?_, fun _ => ?_⟩⟩
      · have z : zipI [.tup (ps.map PU.d), shD x.2] = some ((ps.zip x.2).map fun q => .tup [q.1.d, .int q.2]) := by
          show some (zipD (ps.map PU.d) (x.2.map .int)) = _
          rw [zipD_map]
        simp only [ev_bind1, ev_lift, ev_eC, ev_eVar, ev_eOp, ev_eUn, ev_eT, ev_mAnd, ev_mOr, ev_mNot, ev_eAnd, ev_eIf, ev_chain, ev_aNil, ev_aCons, ev_eTup, ev_eLst, ev_eCall, ev_eFn, ev_eFnR, ev_eIter, ev_eRange, ev_eLc, ev_eSl, ev_pNone, ev_pSome, ev_mFrz, ev_sNx, ev_sSet, ev_sRet, ev_sSeq, ev_sIf, ev_sUnp, ev_sNew, ev_fLst, ev_fCat, ev_sApp, ev_sFrz, ev_sFor, ev_vNil, ev_vVal, ev_vOwn, ev_sTup, ev_eRd, ev_sRd, and_self, true_and, and_true, eq_self, eqS, eqI, neS, neI, decide_true, decide_false, decide_eq_true_eq, Bool.not_true, Bool.not_false, initE, setPat, setAll, op1, isBl, flFin, iterD, seqOf, List.length_cons, List.length_nil, Bool.false_eq_true, if_false, if_true, List.nil_append, List.map_cons, List.map_nil, List.replicate, List.cons_append, Option.bind_some, Option.map_some, List.set_cons_succ, List.set_cons_zero, List.getElem?_cons_zero, List.getElem?_cons_succ, Nat.reduceAdd, ev_eNot, ev_eOwnAdd, ev_chain3, ev_xGet, ev_eFnX, ev_eFnXK, ev_xOk, ev_xTup2, ev_sSetX, ev_sRetX, ev_sExpX, ev_sRaise, ev_sTry, ev_eIsE, ev_eFldC, ev_eLc2, ev_lOwn, ev_sExt, wipeE, z]
      · have i1 : opIx q.1.d (.int 0) = some (.str q.1.n) := rfl
        simp only [ev_bind1, ev_lift, ev_eC, ev_eVar, ev_eOp, ev_eUn, ev_eT, ev_mAnd, ev_mOr, ev_mNot, ev_eAnd, ev_eIf, ev_chain, ev_aNil, ev_aCons, ev_eTup, ev_eLst, ev_eCall, ev_eFn, ev_eFnR, ev_eIter, ev_eRange, ev_eLc, ev_eSl, ev_pNone, ev_pSome, ev_mFrz, ev_sNx, ev_sSet, ev_sRet, ev_sSeq, ev_sIf, ev_sUnp, ev_sNew, ev_fLst, ev_fCat, ev_sApp, ev_sFrz, ev_sFor, ev_vNil, ev_vVal, ev_vOwn, ev_sTup, ev_eRd, ev_sRd, and_self, true_and, and_true, eq_self, eqS, eqI, neS, neI, decide_true, decide_false, decide_eq_true_eq, Bool.not_true, Bool.not_false, initE, setPat, setAll, op1, isBl, flFin, iterD, seqOf, List.length_cons, List.length_nil, Bool.false_eq_true, if_false, if_true, List.nil_append, List.map_cons, List.map_nil, List.replicate, List.cons_append, Option.bind_some, Option.map_some, List.set_cons_succ, List.set_cons_zero, List.getElem?_cons_zero, List.getElem?_cons_succ, Nat.reduceAdd, ev_eNot, ev_eOwnAdd, ev_chain3, ev_xGet, ev_eFnX, ev_eFnXK, ev_xOk, ev_xTup2, ev_sSetX, ev_sRetX, ev_sExpX, ev_sRaise, ev_sTry, ev_eIsE, ev_eFldC, ev_eLc2, ev_lOwn, ev_sExt, wipeE, i1, slot_ok]
      · simp only [ev_bind1, ev_lift, ev_eC, ev_eVar, ev_eOp, ev_eUn, ev_eT, ev_mAnd, ev_mOr, ev_mNot, ev_eAnd, ev_eIf, ev_chain, ev_aNil, ev_aCons, ev_eTup, ev_eLst, ev_eCall, ev_eFn, ev_eFnR, ev_eIter, ev_eRange, ev_eLc, ev_eSl, ev_pNone, ev_pSome, ev_mFrz, ev_sNx, ev_sSet, ev_sRet, ev_sSeq, ev_sIf, ev_sUnp, ev_sNew, ev_fLst, ev_fCat, ev_sApp, ev_sFrz, ev_sFor, ev_vNil, ev_vVal, ev_vOwn, ev_sTup, ev_eRd, ev_sRd, and_self, true_and, and_true, eq_self, eqS, eqI, neS, neI, decide_true, decide_false, decide_eq_true_eq, Bool.not_true, Bool.not_false, initE, setPat, setAll, op1, isBl, flFin, iterD, seqOf, List.length_cons, List.length_nil, Bool.false_eq_true, if_false, if_true, List.nil_append, List.map_cons, List.map_nil, List.replicate, List.cons_append, Option.bind_some, Option.map_some, List.set_cons_succ, List.set_cons_zero, List.getElem?_cons_zero, List.getElem?_cons_succ, Nat.reduceAdd, ev_eNot, ev_eOwnAdd, ev_chain3, ev_xGet, ev_eFnX, ev_eFnXK, ev_xOk, ev_xTup2, ev_sSetX, ev_sRetX, ev_sExpX, ev_sRaise, ev_sTry, ev_eIsE, ev_eFldC, ev_eLc2, ev_lOwn, ev_sExt, wipeE])
  have fin : (py.map fun a => ((ps.zip a.2).filter fun q => hasB l q.1.n a.1).map fun q => D.int q.2).flatten = ((py.map fun x => spentL ps l x.1 x.2).flatten).map .int := by
    rw [List.map_flatten, List.map_map]
    congr 1
    refine List.map_congr_left fun x _ => ?_
    show _ = (spentL ps l x.1 x.2).map D.int
    rw [← inside_eq]
    unfold insideL
    rw [List.map_map]
    rfl
  rw [fin] at go
  have lz : (((py.map fun x => spentL ps l x.1 x.2).flatten.map D.int).length ≤ sizeLine) = True := by
    rw [List.length_map]
    have aux : ∀ ys : List (Int × List Int), (ys.map fun x => spentL ps l x.1 x.2).flatten.length ≤ ys.length * 20 := by
      intro ys
      induction ys with
      | nil => simp
      | cons y ys ih =>
        rw [List.map_cons, List.flatten_cons, List.length_append, List.length_cons, Nat.succ_mul]
        have : (spentL ps l y.1 y.2).length ≤ 20 := by
          unfold spentL
          rw [List.length_map]
          refine Nat.le_trans (List.length_filter_le _ _) ?_
          rw [List.length_zip]
          omega
        omega
    have := aux py
    exact szl (m := 400) (by omega)
  rw [e]
  simp only [ev_bind1, ev_lift, ev_eC, ev_eVar, ev_eOp, ev_eUn, ev_eT, ev_mAnd, ev_mOr, ev_mNot, ev_eAnd, ev_eIf, ev_chain, ev_aNil, ev_aCons, ev_eTup, ev_eLst, ev_eCall, ev_eFn, ev_eFnR, ev_eIter, ev_eRange, ev_eLc, ev_eSl, ev_pNone, ev_pSome, ev_mFrz, ev_sNx, ev_sSet, ev_sRet, ev_sSeq, ev_sIf, ev_sUnp, ev_sNew, ev_fLst, ev_fCat, ev_sApp, ev_sFrz, ev_sFor, ev_vNil, ev_vVal, ev_vOwn, ev_sTup, ev_eRd, ev_sRd, and_self, true_and, and_true, eq_self, eqS, eqI, neS, neI, decide_true, decide_false, decide_eq_true_eq, Bool.not_true, Bool.not_false, initE, setPat, setAll, op1, isBl, flFin, iterD, seqOf, List.length_cons, List.length_nil, Bool.false_eq_true, if_false, if_true, List.nil_append, List.map_cons, List.map_nil, List.replicate, List.cons_append, Option.bind_some, Option.map_some, List.set_cons_succ, List.set_cons_zero, List.getElem?_cons_zero, List.getElem?_cons_succ, Nat.reduceAdd, ev_eNot, ev_eOwnAdd, ev_chain3, ev_xGet, ev_eFnX, ev_eFnXK, ev_xOk, ev_xTup2, ev_sSetX, ev_sRetX, ev_sExpX, ev_sRaise, ev_sTry, ev_eIsE, ev_eFldC, ev_eLc2, ev_lOwn, ev_sExt, b_paid_inside, go, lz, sum_map]
end My

set_option Elab.async false
set_option linter.all false
set_option maxRecDepth 100000
set_option maxHeartbeats 2000000
namespace My
open PySem PySem.Spec PyProof.Rows L2 FW
def chD (ch : List (List Int)) : D := .tup (ch.map shD)
def paidAll (b : BK) (ch : List (List Int)) (l : BD) : Int := ((pays b.rs ch).map fun x => spentL b.ps l x.1 x.2).flatten.sum
theorem pays_len (rs : List RW) (ch : List (List Int)) : (pays rs ch).length ≤ rs.length := by
  unfold pays pay1
  rw [List.length_append, List.length_map, List.length_map, List.length_zip]
  have : (paids rs).length + (opens rs).length = rs.length := by
    unfold paids opens
    induction rs with
    | nil => rfl
    | cons r rs ih =>
      rw [List.filter_cons, List.filter_cons, List.length_cons]
      cases r.op <;> simp <;> omega
  omega
structure BkL (b : BK) : Prop where
  p : b.ps.length ≤ 20
  l : b.bs.length ≤ 20
  r : b.rs.length ≤ 20
theorem goodIx_nat {i m : Nat} (h : i < m) : goodIx (.int i) m = true := by
  show (decide ((0 : Int) ≤ i) && decide ((i : Int) < m)) = true
  simp
  omega
theorem paidin_good {b : BK} (hb : BkL b) (ch : List (List Int)) {i : Nat} {l : BD} (hi : b.bs[i]? = some l) (rd : Rdr) : mf_paid_in [b.d, chD ch, .int (i : Nat)] rd = some (.ok (.int (paidAll b ch l)), rd) := by
  have e : mf_paid_in [b.d, chD ch, .int (i : Nat)] rd = (b_paid_in (initE false [b.d, chD ch, .int (i : Nat)] 0) rd).bind flFinX := rfl
  have hl := (List.getElem?_eq_some_iff.mp hi).1
  have g := limit_good b (goodIx_nat hl) rd
  have ix := SeqD.ix (ds := b.bs.map BD.d) (d := .tup (b.bs.map BD.d)) (.inl rfl) (i := i) (by rw [List.length_map]; exact hl)
  have ge : (b.bs.map BD.d)[i]'(by rw [List.length_map]; exact hl) = l.d := by
    rw [List.getElem_map]
    obtain ⟨w, h⟩ := List.getElem?_eq_some_iff.mp hi
    rw [h]
  rw [ge] at ix
  have py := paywith_ok b ch (Nat.le_trans hb.r (by omega)) rd
  have ins := inside_ok b.ps l (pays b.rs ch) hb.p (Nat.le_trans (pays_len _ _) hb.r) rd
  have py' : mf_payments_with [b.d, chD ch] rd = _ := py
  rw [e]
  simp only [ev_bind1, ev_lift, ev_eC, ev_eVar, ev_eOp, ev_eUn, ev_eT, ev_mAnd, ev_mOr, ev_mNot, ev_eAnd, ev_eIf, ev_chain, ev_aNil, ev_aCons, ev_eTup, ev_eLst, ev_eCall, ev_eFn, ev_eFnR, ev_eIter, ev_eRange, ev_eLc, ev_eSl, ev_pNone, ev_pSome, ev_mFrz, ev_sNx, ev_sSet, ev_sRet, ev_sSeq, ev_sIf, ev_sUnp, ev_sNew, ev_fLst, ev_fCat, ev_sApp, ev_sFrz, ev_sFor, ev_vNil, ev_vVal, ev_vOwn, ev_sTup, ev_eRd, ev_sRd, and_self, true_and, and_true, eq_self, eqS, eqI, neS, neI, decide_true, decide_false, decide_eq_true_eq, Bool.not_true, Bool.not_false, initE, setPat, setAll, op1, isBl, flFin, iterD, seqOf, List.length_cons, List.length_nil, Bool.false_eq_true, if_false, if_true, List.nil_append, List.map_cons, List.map_nil, List.replicate, List.cons_append, Option.bind_some, Option.map_some, List.set_cons_succ, List.set_cons_zero, List.getElem?_cons_zero, List.getElem?_cons_succ, Nat.reduceAdd, ev_eNot, ev_eOwnAdd, ev_chain3, ev_xGet, ev_eFnX, ev_eFnXK, ev_xOk, ev_xTup2, ev_sSetX, ev_sRetX, ev_sExpX, ev_sRaise, ev_sTry, ev_eIsE, ev_eFldC, ev_eLc2, ev_lOwn, ev_sExt, b_paid_in, g, BK.ix0, BK.ix1, ix, py', ins, flFinX, paidAll]
theorem paidin_bad (b : BK) (c : D) {d : D} (h : goodIx d b.bs.length = false) (rd : Rdr) : mf_paid_in [b.d, c, d] rd = some (.exc "NotUsable" badK, rd) := by
  have e : mf_paid_in [b.d, c, d] rd = (b_paid_in (initE false [b.d, c, d] 0) rd).bind flFinX := rfl
  have g := limit_bad b h rd
  rw [e]
  simp only [ev_bind1, ev_lift, ev_eC, ev_eVar, ev_eOp, ev_eUn, ev_eT, ev_mAnd, ev_mOr, ev_mNot, ev_eAnd, ev_eIf, ev_chain, ev_aNil, ev_aCons, ev_eTup, ev_eLst, ev_eCall, ev_eFn, ev_eFnR, ev_eIter, ev_eRange, ev_eLc, ev_eSl, ev_pNone, ev_pSome, ev_mFrz, ev_sNx, ev_sSet, ev_sRet, ev_sSeq, ev_sIf, ev_sUnp, ev_sNew, ev_fLst, ev_fCat, ev_sApp, ev_sFrz, ev_sFor, ev_vNil, ev_vVal, ev_vOwn, ev_sTup, ev_eRd, ev_sRd, and_self, true_and, and_true, eq_self, eqS, eqI, neS, neI, decide_true, decide_false, decide_eq_true_eq, Bool.not_true, Bool.not_false, initE, setPat, setAll, op1, isBl, flFin, iterD, seqOf, List.length_cons, List.length_nil, Bool.false_eq_true, if_false, if_true, List.nil_append, List.map_cons, List.map_nil, List.replicate, List.cons_append, Option.bind_some, Option.map_some, List.set_cons_succ, List.set_cons_zero, List.getElem?_cons_zero, List.getElem?_cons_succ, Nat.reduceAdd, ev_eNot, ev_eOwnAdd, ev_chain3, ev_xGet, ev_eFnX, ev_eFnXK, ev_xOk, ev_xTup2, ev_sSetX, ev_sRetX, ev_sExpX, ev_sRaise, ev_sTry, ev_eIsE, ev_eFldC, ev_eLc2, ev_lOwn, ev_sExt, b_paid_in, g, flFinX]
theorem paidfrom_bad (b : BK) (hp : b.ps.length ≤ 100) (c : D) {d : D} (h : opInX true d (.tup ((b.ps.map (·.n)).map .str)) = some (.bl true)) (rd : Rdr) : mf_paid_from [b.d, c, d] rd = some (.exc "UnknownPurse" (badP d), rd) := by
  have e : mf_paid_from [b.d, c, d] rd = (b_paid_from (initE false [b.d, c, d] 3) rd).bind flFinX := rfl
  have g := purse_bad b hp h rd
  rw [e]
  simp only [ev_bind1, ev_lift, ev_eC, ev_eVar, ev_eOp, ev_eUn, ev_eT, ev_mAnd, ev_mOr, ev_mNot, ev_eAnd, ev_eIf, ev_chain, ev_aNil, ev_aCons, ev_eTup, ev_eLst, ev_eCall, ev_eFn, ev_eFnR, ev_eIter, ev_eRange, ev_eLc, ev_eSl, ev_pNone, ev_pSome, ev_mFrz, ev_sNx, ev_sSet, ev_sRet, ev_sSeq, ev_sIf, ev_sUnp, ev_sNew, ev_fLst, ev_fCat, ev_sApp, ev_sFrz, ev_sFor, ev_vNil, ev_vVal, ev_vOwn, ev_sTup, ev_eRd, ev_sRd, and_self, true_and, and_true, eq_self, eqS, eqI, neS, neI, decide_true, decide_false, decide_eq_true_eq, Bool.not_true, Bool.not_false, initE, setPat, setAll, op1, isBl, flFin, iterD, seqOf, List.length_cons, List.length_nil, Bool.false_eq_true, if_false, if_true, List.nil_append, List.map_cons, List.map_nil, List.replicate, List.cons_append, Option.bind_some, Option.map_some, List.set_cons_succ, List.set_cons_zero, List.getElem?_cons_zero, List.getElem?_cons_succ, Nat.reduceAdd, ev_eNot, ev_eOwnAdd, ev_chain3, ev_xGet, ev_eFnX, ev_eFnXK, ev_xOk, ev_xTup2, ev_sSetX, ev_sRetX, ev_sExpX, ev_sRaise, ev_sTry, ev_eIsE, ev_eFldC, ev_eLc2, ev_lOwn, ev_sExt, b_paid_from, g, flFinX]
theorem strsOf_map : ∀ l : List Str, strsOf (l.map .str) = some l
  | [] => rfl
  | i :: l => by
    show (strsOf (l.map .str)).map (i :: ·) = _
    rw [strsOf_map l]
    rfl
theorem strIx_nodup {os : List Str} (hn : os.Nodup) {j : Nat} {n : Str} (h : os[j]? = some n) : strIx n os = some j := by
  induction os generalizing j with
  | nil => simp at h
  | cons o os ih =>
    unfold strIx
    cases j with
    | zero =>
      have : o = n := by simpa using h
      rw [if_pos this]
    | succ j =>
      have h' : os[j]? = some n := by simpa using h
      have ne : o ≠ n := fun z => by
        subst z
        exact (List.nodup_cons.mp hn).1 (List.mem_of_getElem? h')
      rw [if_neg ne, ih (List.nodup_cons.mp hn).2 h']
      rfl
def fromAll (b : BK) (ch : List (List Int)) (j : Nat) : Int := ((pays b.rs ch).map fun x => x.2.getD j 0).sum
theorem shD_ix {sh : List Int} {j : Nat} (h : j < sh.length) : opIx (shD sh) (.int (j : Nat)) = some (.int (sh.getD j 0)) := by
  have ix := SeqD.ix (ds := sh.map .int) (d := shD sh) (.inl rfl) (i := j) (by rw [List.length_map]; exact h)
  rw [ix, List.getElem_map, List.getD_eq_getElem?_getD, List.getElem?_eq_getElem h]
  rfl
theorem paidfrom_good {b : BK} (hb : BkL b) (hn : (b.ps.map (·.n)).Nodup) (ch : List (List Int)) {j : Nat} {p : PU} (hj : b.ps[j]? = some p) (hs : ∀ x ∈ pays b.rs ch, j < x.2.length) (rd : Rdr) :
    mf_paid_from [b.d, chD ch, .str p.n] rd = some (.ok (.int (fromAll b ch j)), rd) := by
  have e : mf_paid_from [b.d, chD ch, .str p.n] rd = (b_paid_from (initE false [b.d, chD ch, .str p.n] 3) rd).bind flFinX := rfl
  have hnj : (b.ps.map (·.n))[j]? = some p.n := by rw [List.getElem?_map, hj]; rfl
  have g := purse_good b (Nat.le_trans hb.p (by omega)) (List.mem_of_getElem? hnj) rd
  have nm := names_ok b.ps (Nat.le_trans hb.p (by omega)) rd
  have ix : opIndex (.tup ((b.ps.map (·.n)).map .str)) (.str p.n) = some (.int (j : Nat)) := by
    show (strsOf _).bind (fun ys => (strIx p.n ys).map fun j => D.int (j : Nat)) = _
    rw [strsOf_map, Option.bind_some, strIx_nodup hn hnj]
    rfl
  have py : mf_payments_with [b.d, chD ch] rd = _ := paywith_ok b ch (Nat.le_trans hb.r (by omega)) rd
  have lz : (((pays b.rs ch).map payD).length ≤ sizeLine) = True := by
    rw [List.length_map]
    exact szl (m := 20) (Nat.le_trans (pays_len _ _) hb.r)
  have go := lcGo_P (f := payD) (g := fun x => .int (x.2.getD j 0)) (b := fun _ => true) (p := .tp [4, 5]) (env := wipeE [.val b.d, .val (chD ch), .val (.str p.n), .val (.int (j : Nat)), .un, .un] [4, 5]) (rd := rd) (t := mYes) (e := eOp opIx (eVar 5) (eVar 3)) (as := pays b.rs ch) (fun x hx => by
      refine ⟨_, rfl, rfl, fun _ => ?_⟩
      simp only [ev_bind1, ev_lift, ev_eC, ev_eVar, ev_eOp, ev_eUn, ev_eT, ev_mAnd, ev_mOr, ev_mNot, ev_eAnd, ev_eIf, ev_chain, ev_aNil, ev_aCons, ev_eTup, ev_eLst, ev_eCall, ev_eFn, ev_eFnR, ev_eIter, ev_eRange, ev_eLc, ev_eSl, ev_pNone, ev_pSome, ev_mFrz, ev_sNx, ev_sSet, ev_sRet, ev_sSeq, ev_sIf, ev_sUnp, ev_sNew, ev_fLst, ev_fCat, ev_sApp, ev_sFrz, ev_sFor, ev_vNil, ev_vVal, ev_vOwn, ev_sTup, ev_eRd, ev_sRd, and_self, true_and, and_true, eq_self, eqS, eqI, neS, neI, decide_true, decide_false, decide_eq_true_eq, Bool.not_true, Bool.not_false, initE, setPat, setAll, op1, isBl, flFin, iterD, seqOf, List.length_cons, List.length_nil, Bool.false_eq_true, if_false, if_true, List.nil_append, List.map_cons, List.map_nil, List.replicate, List.cons_append, Option.bind_some, Option.map_some, List.set_cons_succ, List.set_cons_zero, List.getElem?_cons_zero, List.getElem?_cons_succ, Nat.reduceAdd, ev_eNot, ev_eOwnAdd, ev_chain3, ev_xGet, ev_eFnX, ev_eFnXK, ev_xOk, ev_xTup2, ev_sSetX, ev_sRetX, ev_sExpX, ev_sRaise, ev_sTry, ev_eIsE, ev_eFldC, ev_eLc2, ev_lOwn, ev_sExt, wipeE, shD_ix (hs x hx)])
  have fin : (((pays b.rs ch).filter fun _ => true).map fun x => D.int (x.2.getD j 0)) = ((pays b.rs ch).map fun x => x.2.getD j 0).map .int := by
    rw [List.filter_eq_self.mpr (fun _ _ => rfl), List.map_map]
    rfl
  rw [fin] at go
  rw [e]
  simp only [ev_bind1, ev_lift, ev_eC, ev_eVar, ev_eOp, ev_eUn, ev_eT, ev_mAnd, ev_mOr, ev_mNot, ev_eAnd, ev_eIf, ev_chain, ev_aNil, ev_aCons, ev_eTup, ev_eLst, ev_eCall, ev_eFn, ev_eFnR, ev_eIter, ev_eRange, ev_eLc, ev_eSl, ev_pNone, ev_pSome, ev_mFrz, ev_sNx, ev_sSet, ev_sRet, ev_sSeq, ev_sIf, ev_sUnp, ev_sNew, ev_fLst, ev_fCat, ev_sApp, ev_sFrz, ev_sFor, ev_vNil, ev_vVal, ev_vOwn, ev_sTup, ev_eRd, ev_sRd, and_self, true_and, and_true, eq_self, eqS, eqI, neS, neI, decide_true, decide_false, decide_eq_true_eq, Bool.not_true, Bool.not_false, initE, setPat, setAll, op1, isBl, flFin, iterD, seqOf, List.length_cons, List.length_nil, Bool.false_eq_true, if_false, if_true, List.nil_append, List.map_cons, List.map_nil, List.replicate, List.cons_append, Option.bind_some, Option.map_some, List.set_cons_succ, List.set_cons_zero, List.getElem?_cons_zero, List.getElem?_cons_succ, Nat.reduceAdd, ev_eNot, ev_eOwnAdd, ev_chain3, ev_xGet, ev_eFnX, ev_eFnXK, ev_xOk, ev_xTup2, ev_sSetX, ev_sRetX, ev_sExpX, ev_sRaise, ev_sTry, ev_eIsE, ev_eFldC, ev_eLc2, ev_lOwn, ev_sExt, b_paid_from, g, BK.ix0, nm, ix, py, lz, go, sum_map, flFinX, fromAll]
/-! ### outcomes -/
def usableD : D := .tup [.str ("usable" : Str), .str ("limit" : Str), .int (-1)]
def purseD (d : D) : D := .tup [.str ("purse" : Str), d]
theorem bls_shaped (l : List Bool) : SeqAt.shaped (toPy (.lst (l.map .bl))) = true := by
  have aux : ∀ l : List Bool, PyData.canLayAll0 (toPys (l.map D.bl)) = true ∧ PyData.depthAll (toPys (l.map D.bl)) = 0 := by
    intro l
    induction l with
    | nil => simp [toPys, PyData.canLayAll0, PyData.depthAll]
    | cons n ns ih =>
      obtain ⟨h1, h2⟩ := ih
      simp [toPys, toPy, PyData.canLayAll0, PyData.canLay0, PyData.depthAll, PyData.depth, h1, h2]
  obtain ⟨h1, h2⟩ := aux l
  simp [SeqAt.shaped, toPy, PyData.canLay0, h1, PyData.depth, h2]
theorem eq_bls (l m : List Bool) : opEq (.lst (l.map .bl)) (.lst (m.map .bl)) = some (.bl (l == m)) := by
  have e : opEq (.lst (l.map .bl)) (.lst (m.map .bl)) = if SeqAt.shaped (toPy (.lst (l.map .bl))) = true ∧ SeqAt.shaped (toPy (.lst (m.map .bl))) = true then some (.bl (PyData.eqv (toPy (.lst (l.map .bl))) (toPy (.lst (m.map .bl))))) else none := rfl
  rw [e, if_pos ⟨bls_shaped l, bls_shaped m⟩]
  congr 2
  have aux : ∀ l m : List Bool, PyData.eqvAll (toPys (l.map D.bl)) (toPys (m.map D.bl)) = (l == m) := by
    intro l
    induction l with
    | nil => intro m; cases m <;> simp [toPys, PyData.eqvAll]
    | cons a l ih =>
      intro m
      cases m with
      | nil => simp [toPys, PyData.eqvAll]
      | cons b m =>
        have := ih m
        simp only [List.map_cons, toPys, toPy, PyData.eqvAll, PyData.eqv, this]
        rfl
  simp only [toPy, PyData.eqv]
  exact aux l m
theorem eq4 (a b c d e f g h : Bool) : opEq (.lst [.bl a, .bl b, .bl c, .bl d]) (.lst [.bl e, .bl f, .bl g, .bl h]) = some (.bl ([a, b, c, d] == [e, f, g, h])) := eq_bls [a, b, c, d] [e, f, g, h]
theorem eq2 (a b e f : Bool) : opEq (.lst [.bl a, .bl b]) (.lst [.bl e, .bl f]) = some (.bl ([a, b] == [e, f])) := eq_bls [a, b] [e, f]
theorem lkN (a b : Bool) : ([("NotUsable", a), ("UnknownPurse", b)] : List (Str × Bool)).lookup ("NotUsable" : Str) = some a := rfl
theorem lkU (a b : Bool) : ([("NotUsable", a), ("UnknownPurse", b)] : List (Str × Bool)).lookup ("UnknownPurse" : Str) = some b := by
  have h : (("UnknownPurse" : Str) == ("NotUsable" : Str)) = false := by decide +kernel
  simp [List.lookup, h]
theorem out_usable {mxc : Rdr → Option (Res × Rdr)} {rd : Rdr} (h : mxc rd = some (.exc "NotUsable" badK, rd)) : bo__law_outcome mxc [.lam, .un, .un, .un, .un, .un] rd = some (.ret usableD, rd) := by
  have xa : ∀ (x1 x2 x3 x4 x5 : SV), xAct mxc [.lam, x1, x2, x3, x4, x5] rd = some (.exc "NotUsable" badK, rd) := fun _ _ _ _ _ => h
  have l1 : ((1 : Nat) ≤ sizeLine) = True := szl (m := 1) (Nat.le_refl _)
  have l2 : ((2 : Nat) ≤ sizeLine) = True := szl (m := 2) (Nat.le_refl _)
  have l3 : ((3 : Nat) ≤ sizeLine) = True := szl (m := 3) (Nat.le_refl _)
  have l3' : ((3 : Nat) < sizeLine) = True := by simp; decide
  have l4 : ((4 : Nat) ≤ sizeLine) = True := szl (m := 4) (Nat.le_refl _)
  have lw : badK.lookup ("word" : Str) = some (D.str ("limit" : Str)) := rfl
  have la : badK.lookup ("at" : Str) = some (D.int (-1)) := by
    have h : (("at" : Str) == ("word" : Str)) = false := by decide +kernel
    simp [badK, List.lookup, h]
  have cw : (["NotUsable"] : List Str).contains ("NotUsable" : Str) = true := by decide +kernel
  have ix : opIx (.lst [.bl false, .bl false, .bl true, .bl false]) (.int 0) = some (.bl false) := rfl
  simp only [ev_bind1, ev_lift, ev_eC, ev_eVar, ev_eOp, ev_eUn, ev_eT, ev_mAnd, ev_mOr, ev_mNot, ev_eAnd, ev_eIf, ev_chain, ev_aNil, ev_aCons, ev_eTup, ev_eLst, ev_eCall, ev_eFn, ev_eFnR, ev_eIter, ev_eRange, ev_eLc, ev_eSl, ev_pNone, ev_pSome, ev_mFrz, ev_sNx, ev_sSet, ev_sRet, ev_sSeq, ev_sIf, ev_sUnp, ev_sNew, ev_fLst, ev_fCat, ev_sApp, ev_sFrz, ev_sFor, ev_vNil, ev_vVal, ev_vOwn, ev_sTup, ev_eRd, ev_sRd, and_self, true_and, and_true, eq_self, eqS, eqI, neS, neI, decide_true, decide_false, decide_eq_true_eq, Bool.not_true, Bool.not_false, initE, setPat, setAll, op1, isBl, flFin, iterD, seqOf, List.length_cons, List.length_nil, Bool.false_eq_true, if_false, if_true, List.nil_append, List.map_cons, List.map_nil, List.replicate, List.cons_append, Option.bind_some, Option.map_some, List.set_cons_succ, List.set_cons_zero, List.getElem?_cons_zero, List.getElem?_cons_succ, Nat.reduceAdd, ev_eNot, ev_eOwnAdd, ev_chain3, ev_xGet, ev_eFnX, ev_eFnXK, ev_xOk, ev_xTup2, ev_sSetX, ev_sRetX, ev_sExpX, ev_sRaise, ev_sTry, ev_eIsE, ev_eFldC, ev_eLc2, ev_lOwn, ev_sExt, bo__law_outcome, xa, lkN, l1, l2, l3, l3', l4, frzSV, ix, eq4, eq2, lw, la, cw, unsetFl, unsetEnv, noExn, usableD, List.all_cons, List.all_nil, Bool.and_self, Bool.and_true, beq_self_eq_true]
  rfl
end My

set_option Elab.async false
set_option linter.all false
set_option maxRecDepth 100000
set_option maxHeartbeats 2000000
namespace My
open PySem PySem.Spec PyProof.Rows L2 FW
theorem out_purse {mxc : Rdr → Option (Res × Rdr)} {rd : Rdr} {d : D} (h : mxc rd = some (.exc "UnknownPurse" (badP d), rd)) : bo__law_outcome mxc [.lam, .un, .un, .un, .un, .un] rd = some (.ret (purseD d), rd) := by
  have xa : ∀ (x1 x2 x3 x4 x5 : SV), xAct mxc [.lam, x1, x2, x3, x4, x5] rd = some (.exc "UnknownPurse" (badP d), rd) := fun _ _ _ _ _ => h
  have l1 : ((1 : Nat) ≤ sizeLine) = True := szl (m := 1) (Nat.le_refl _)
  have l2 : ((2 : Nat) ≤ sizeLine) = True := szl (m := 2) (Nat.le_refl _)
  have l3 : ((3 : Nat) ≤ sizeLine) = True := szl (m := 3) (Nat.le_refl _)
  have l3' : ((3 : Nat) < sizeLine) = True := by simp; decide
  have l4 : ((4 : Nat) ≤ sizeLine) = True := szl (m := 4) (Nat.le_refl _)
  have lw : (badP d).lookup ("purse" : Str) = some d := by
    have h : (("purse" : Str) == ("purse" : Str)) = true := beq_self_eq_true _
    simp [badP, List.lookup]
  have cw : (["UnknownPurse"] : List Str).contains ("UnknownPurse" : Str) = true := by decide +kernel
  have ix : opIx (.lst [.bl false, .bl false, .bl false, .bl true]) (.int 0) = some (.bl false) := rfl
  have q1 : ([false, false, false, true] == [true, false, false, false]) = false := rfl
  have q2 : ([false, false, false, true] == [false, true, false, false]) = false := rfl
  have q3 : ([false, false, false, true] == [false, false, true, false]) = false := rfl
  simp only [ev_bind1, ev_lift, ev_eC, ev_eVar, ev_eOp, ev_eUn, ev_eT, ev_mAnd, ev_mOr, ev_mNot, ev_eAnd, ev_eIf, ev_chain, ev_aNil, ev_aCons, ev_eTup, ev_eLst, ev_eCall, ev_eFn, ev_eFnR, ev_eIter, ev_eRange, ev_eLc, ev_eSl, ev_pNone, ev_pSome, ev_mFrz, ev_sNx, ev_sSet, ev_sRet, ev_sSeq, ev_sIf, ev_sUnp, ev_sNew, ev_fLst, ev_fCat, ev_sApp, ev_sFrz, ev_sFor, ev_vNil, ev_vVal, ev_vOwn, ev_sTup, ev_eRd, ev_sRd, and_self, true_and, and_true, eq_self, eqS, eqI, neS, neI, decide_true, decide_false, decide_eq_true_eq, Bool.not_true, Bool.not_false, initE, setPat, setAll, op1, isBl, flFin, iterD, seqOf, List.length_cons, List.length_nil, Bool.false_eq_true, if_false, if_true, List.nil_append, List.map_cons, List.map_nil, List.replicate, List.cons_append, Option.bind_some, Option.map_some, List.set_cons_succ, List.set_cons_zero, List.getElem?_cons_zero, List.getElem?_cons_succ, Nat.reduceAdd, ev_eNot, ev_eOwnAdd, ev_chain3, ev_xGet, ev_eFnX, ev_eFnXK, ev_xOk, ev_xTup2, ev_sSetX, ev_sRetX, ev_sExpX, ev_sRaise, ev_sTry, ev_eIsE, ev_eFldC, ev_eLc2, ev_lOwn, ev_sExt, bo__law_outcome, xa, lkU, l1, l2, l3, l3', l4, frzSV, ix, eq4, eq2, q1, q2, q3, lw, cw, unsetFl, unsetEnv, noExn, purseD, List.all_cons, List.all_nil, Bool.and_self, Bool.and_true, beq_self_eq_true]
theorem lam_eq {mx : MX} {env : List SV} {rd : Rdr} : eLam mx bo__law_outcome 5 env rd = (bo__law_outcome (fun r => mx env r) [.lam, .un, .un, .un, .un, .un] rd).bind flFin := Eq.trans rfl rfl
theorem lam_usable {mx : MX} {env : List SV} {rd : Rdr} (h : mx env rd = some (.exc "NotUsable" badK, rd)) : eLam mx bo__law_outcome 5 env rd = some (usableD, rd) := by
  rw [lam_eq, out_usable (mxc := fun r => mx env r) h]
  rfl
theorem lam_purse {mx : MX} {env : List SV} {rd : Rdr} {d : D} (h : mx env rd = some (.exc "UnknownPurse" (badP d), rd)) : eLam mx bo__law_outcome 5 env rd = some (purseD d, rd) := by
  rw [lam_eq, out_purse (mxc := fun r => mx env r) h]
  rfl
theorem forGo_all {p : Pat} {b : MM Fl} {E : List SV → Prop} {rd : Rdr} : ∀ {ds : List D} {env : List SV}, (∀ d ∈ ds, ∀ env, E env → ∃ env1, setPat p d env = some env1 ∧ ∃ env2, b env1 rd = some (.nx env2, rd) ∧ E env2) → E env → ∃ env', forGo p b ds env rd = some (.nx env', rd) ∧ E env'
  | [], env, _, he => ⟨env, rfl, he⟩
  | d :: ds, env, h, he => by
    obtain ⟨env1, s1, env2, t1, e2⟩ := h d List.mem_cons_self env he
    obtain ⟨env', g1, g2⟩ := forGo_all (p := p) (b := b) (E := E) (rd := rd) (ds := ds) (env := env2) (fun x hx en he => h x (List.mem_cons_of_mem _ hx) en he) e2
    refine ⟨env', ?_, g2⟩
    unfold forGo
    simp only [s1, t1, Option.bind_some]
    exact g1
/-! ### small data -/
theorem textFrom_len {n : Nat} : ∀ {ts : List Str}, (∀ t ∈ ts, t.length ≤ n) → ∀ (i : Nat) (a : Str), (textFrom i a ts).length ≤ a.length + ts.length * (n + 2)
  | [], _, i, a => by simp [textFrom]
  | t :: ts, h, i, a => by
    have h1 := h t List.mem_cons_self
    have e5 : ∀ a b : Str, (a ++ b).length = a.length + b.length := fun a b => Array.size_append
    have e2 : (Str.ofString ", ").length = 2 := by decide +kernel
    have e0 : (Str.ofString "").length = 0 := by decide +kernel
    unfold textFrom
    refine Nat.le_trans (textFrom_len (fun z hz => h z (List.mem_cons_of_mem _ hz)) _ _) ?_
    rw [List.length_cons, Nat.succ_mul]
    split <;> simp only [e5, e2, e0] <;> omega
theorem sm_lst {ds : List D} {m k l : Nat} (h : ∀ d ∈ ds, Sm m k d) (hl : ds.length ≤ l) : Sm (l * (m + 2) + 4) (k + 1) (.lst ds) := by
  obtain ⟨a1, a2, a3, a4, a5⟩ := all_lists h
  refine ⟨?_, ?_, ?_, ?_⟩
  · simp only [toPy, PyData.showable, a1]
  · simp only [toPy, PyData.depth]
    omega
  · simp only [shownD, toPy, PyData.shown]
    have e1 := sjoin_len (g := Str.ofString ", ") a3
    have e2 : (Str.ofString ", ").length = 2 := by decide +kernel
    have e3 : (Str.ofString "[").length = 1 := by decide +kernel
    have e4 : (Str.ofString "]").length = 1 := by decide +kernel
    have e5 : ∀ a b : Str, (a ++ b).length = a.length + b.length := fun a b => Array.size_append
    rw [e2, a4] at e1
    have e6 : ds.length * (m + 2) ≤ l * (m + 2) := Nat.mul_le_mul_right _ hl
    have e7 := textFrom_len (n := m) (ts := PyData.shownAll (toPys ds)) a3 0 (Str.ofString "[")
    rw [a4, e3] at e7
    unfold listText
    rw [e5, e4]
    omega
  · simp only [toPy, PyData.canLay0, a5]
theorem log_small {i : Int} (h : i.natAbs < 1000000000) : i.natAbs.log2 < 1920 := by
  by_cases z : i.natAbs = 0
  · rw [z]
    decide
  · exact Nat.lt_of_lt_of_le ((Nat.log2_lt (k := 30) z).mpr (by omega)) (by omega)
theorem repr_ne {d : D} {m k : Nat} (h : Sm m k d) (hk : k ≤ 100) (hm : m ≤ sizeLine) : opRepr d = some (.str (shownD d)) ∧ opNe (.str (shownD d)) (.str (shownD d)) = some (.bl false) := by
  refine ⟨h.repr hk hm, ?_⟩
  rw [neS, decide_eq_true rfl]
  rfl
theorem sm_text {s : Str} (h : As 8 s) : Sm 2000 0 (.str s) := (sm_str h).mono (by omega) (by omega)
theorem sm_num {i : Int} (h : i.natAbs < 1000000000) : Sm 2000 0 (.int i) := (sm_int (log_small h)).mono (by omega) (by omega)
theorem dbl (u : D) : opMul (.lst [u]) (.int 2) = some (.lst [u, u]) := by
  have e : opMul (.lst [u]) (.int 2) = if -(2 ^ 63) ≤ (2 : Int) ∧ (2 : Int) < 2 ^ 63 ∧ [u].length * (2 : Int).toNat ≤ sizeLine then some (.lst (List.replicate (2 : Int).toNat [u]).flatten) else none := rfl
  rw [e, if_pos ⟨by omega, by omega, by show (2 : Nat) ≤ sizeLine; decide⟩]
  rfl
/-! ### other values -/
def oddB1 : MM Fl := (sSeq (sNew 2 (fLst (aCons (eLam (eFnX mf_paid_in 3 (aCons (eVar 0) (aCons (eVar 1) (aCons (eVar 3) aNil)))) bo__law_outcome 5) aNil)))
  (sSeq (sApp 2 (eLam (eFnXK mf_paid_in 3 [2, 1, 0] (aCons (eVar 3) (aCons (eVar 1) (aCons (eVar 0) aNil)))) bo__law_outcome 5))
  (sIf (mFrz (eT (eOp opNe (eCall (op1 opRepr) (aCons (eVar 2) aNil)) (eCall (op1 opRepr) (aCons (eOp opMul (eLst (aCons (eTup (aCons (eC (.str ("usable" : Str))) (aCons (eC (.str ("limit" : Str))) (aCons (eUn opNeg (eC (.int 1))) aNil)))) aNil)) (eC (.int 2))) aNil))))) (sRet (eC (.bl false))) sNx)))
def oddB2 : MM Fl := (sSeq (sNew 2 (fLst (aCons (eLam (eFnX mf_paid_from 3 (aCons (eVar 0) (aCons (eVar 1) (aCons (eVar 3) aNil)))) bo__law_outcome 5) aNil)))
  (sSeq (sApp 2 (eLam (eFnXK mf_paid_from 3 [2, 1, 0] (aCons (eVar 3) (aCons (eVar 1) (aCons (eVar 0) aNil)))) bo__law_outcome 5))
  (sIf (mFrz (eT (eOp opNe (eCall (op1 opRepr) (aCons (eVar 2) aNil)) (eCall (op1 opRepr) (aCons (eOp opMul (eLst (aCons (eTup (aCons (eC (.str ("purse" : Str))) (aCons (eVar 3) aNil))) aNil)) (eC (.int 2))) aNil))))) (sRet (eC (.bl false))) sNx)))
theorem odd1 (b : BK) (c d : D) (h : goodIx d b.bs.length = false) (x : SV) (rd : Rdr) : oddB1 [.val b.d, .val c, x, .val d] rd = some (.nx [.val b.d, .val c, .own [usableD, usableD], .val d], rd) := by
  have p1 : ∀ y z : SV, eLam (eFnX mf_paid_in 3 (aCons (eVar 0) (aCons (eVar 1) (aCons (eVar 3) aNil)))) bo__law_outcome 5 [.val b.d, .val c, y, .val d] rd = some (usableD, rd) := fun y z => lam_usable (by
    have g := paidin_bad b c h rd
    simp only [ev_bind1, ev_lift, ev_eC, ev_eVar, ev_eOp, ev_eUn, ev_eT, ev_mAnd, ev_mOr, ev_mNot, ev_eAnd, ev_eIf, ev_chain, ev_aNil, ev_aCons, ev_eTup, ev_eLst, ev_eCall, ev_eFn, ev_eFnR, ev_eIter, ev_eRange, ev_eLc, ev_eSl, ev_pNone, ev_pSome, ev_mFrz, ev_sNx, ev_sSet, ev_sRet, ev_sSeq, ev_sIf, ev_sUnp, ev_sNew, ev_fLst, ev_fCat, ev_sApp, ev_sFrz, ev_sFor, ev_vNil, ev_vVal, ev_vOwn, ev_sTup, ev_eRd, ev_sRd, and_self, true_and, and_true, eq_self, eqS, eqI, neS, neI, decide_true, decide_false, decide_eq_true_eq, Bool.not_true, Bool.not_false, initE, setPat, setAll, op1, isBl, flFin, iterD, seqOf, List.length_cons, List.length_nil, Bool.false_eq_true, if_false, if_true, List.nil_append, List.map_cons, List.map_nil, List.replicate, List.cons_append, Option.bind_some, Option.map_some, List.set_cons_succ, List.set_cons_zero, List.getElem?_cons_zero, List.getElem?_cons_succ, Nat.reduceAdd, ev_eNot, ev_eOwnAdd, ev_chain3, ev_xGet, ev_eFnX, ev_eFnXK, ev_xOk, ev_xTup2, ev_sSetX, ev_sRetX, ev_sExpX, ev_sRaise, ev_sTry, ev_eIsE, ev_eFldC, ev_eLc2, ev_lOwn, ev_sExt, g])
  have p2 : ∀ y z : SV, eLam (eFnXK mf_paid_in 3 [2, 1, 0] (aCons (eVar 3) (aCons (eVar 1) (aCons (eVar 0) aNil)))) bo__law_outcome 5 [.val b.d, .val c, y, .val d] rd = some (usableD, rd) := fun y z => lam_usable (by
    have g := paidin_bad b c h rd
    have pk : pick D.non [2, 1, 0] [d, c, b.d] = [b.d, c, d] := rfl
    simp only [ev_bind1, ev_lift, ev_eC, ev_eVar, ev_eOp, ev_eUn, ev_eT, ev_mAnd, ev_mOr, ev_mNot, ev_eAnd, ev_eIf, ev_chain, ev_aNil, ev_aCons, ev_eTup, ev_eLst, ev_eCall, ev_eFn, ev_eFnR, ev_eIter, ev_eRange, ev_eLc, ev_eSl, ev_pNone, ev_pSome, ev_mFrz, ev_sNx, ev_sSet, ev_sRet, ev_sSeq, ev_sIf, ev_sUnp, ev_sNew, ev_fLst, ev_fCat, ev_sApp, ev_sFrz, ev_sFor, ev_vNil, ev_vVal, ev_vOwn, ev_sTup, ev_eRd, ev_sRd, and_self, true_and, and_true, eq_self, eqS, eqI, neS, neI, decide_true, decide_false, decide_eq_true_eq, Bool.not_true, Bool.not_false, initE, setPat, setAll, op1, isBl, flFin, iterD, seqOf, List.length_cons, List.length_nil, Bool.false_eq_true, if_false, if_true, List.nil_append, List.map_cons, List.map_nil, List.replicate, List.cons_append, Option.bind_some, Option.map_some, List.set_cons_succ, List.set_cons_zero, List.getElem?_cons_zero, List.getElem?_cons_succ, Nat.reduceAdd, ev_eNot, ev_eOwnAdd, ev_chain3, ev_xGet, ev_eFnX, ev_eFnXK, ev_xOk, ev_xTup2, ev_sSetX, ev_sRetX, ev_sExpX, ev_sRaise, ev_sTry, ev_eIsE, ev_eFldC, ev_eLc2, ev_lOwn, ev_sExt, pk, g])
  have sm : Sm 2000 0 (.str ("usable" : Str)) := sm_text (by unfold As; decide +kernel)
  have sm2 : Sm 2000 0 (.str ("limit" : Str)) := sm_text (by unfold As; decide +kernel)
  have smu : Sm 6010 1 usableD := sm_tup (l := 3) (fun e he => by
    rcases List.mem_cons.mp he with rfl | he
    · exact sm
    · rcases List.mem_cons.mp he with rfl | he
      · exact sm2
      · rw [List.mem_singleton.mp he]
        exact sm_num (i := -1) (by decide)) (by simp)
  have sml : Sm 12028 2 (.lst [usableD, usableD]) := sm_lst (l := 2) (fun e he => by
    rcases List.mem_cons.mp he with rfl | he
    · exact smu
    · rw [List.mem_singleton.mp he]
      exact smu) (by simp)
  obtain ⟨r1, r2⟩ := repr_ne sml (by omega) (by decide)
  have l1 : ((1 : Nat) ≤ sizeLine) = True := szl (m := 1) (Nat.le_refl _)
  have l1' : ((1 : Nat) < sizeLine) = True := by simp; decide
  have l3 : ((3 : Nat) ≤ sizeLine) = True := szl (m := 3) (Nat.le_refl _)
  have ng : opNeg (.int 1) = some (.int (-1)) := rfl
  have ud : D.tup [.str ("usable" : Str), .str ("limit" : Str), .int (-1)] = usableD := rfl
  simp only [ev_bind1, ev_lift, ev_eC, ev_eVar, ev_eOp, ev_eUn, ev_eT, ev_mAnd, ev_mOr, ev_mNot, ev_eAnd, ev_eIf, ev_chain, ev_aNil, ev_aCons, ev_eTup, ev_eLst, ev_eCall, ev_eFn, ev_eFnR, ev_eIter, ev_eRange, ev_eLc, ev_eSl, ev_pNone, ev_pSome, ev_mFrz, ev_sNx, ev_sSet, ev_sRet, ev_sSeq, ev_sIf, ev_sUnp, ev_sNew, ev_fLst, ev_fCat, ev_sApp, ev_sFrz, ev_sFor, ev_vNil, ev_vVal, ev_vOwn, ev_sTup, ev_eRd, ev_sRd, and_self, true_and, and_true, eq_self, eqS, eqI, neS, neI, decide_true, decide_false, decide_eq_true_eq, Bool.not_true, Bool.not_false, initE, setPat, setAll, op1, isBl, flFin, iterD, seqOf, List.length_cons, List.length_nil, Bool.false_eq_true, if_false, if_true, List.nil_append, List.map_cons, List.map_nil, List.replicate, List.cons_append, Option.bind_some, Option.map_some, List.set_cons_succ, List.set_cons_zero, List.getElem?_cons_zero, List.getElem?_cons_succ, Nat.reduceAdd, ev_eNot, ev_eOwnAdd, ev_chain3, ev_xGet, ev_eFnX, ev_eFnXK, ev_xOk, ev_xTup2, ev_sSetX, ev_sRetX, ev_sExpX, ev_sRaise, ev_sTry, ev_eIsE, ev_eFldC, ev_eLc2, ev_lOwn, ev_sExt, oddB1, p1 x x, p2 _ x, l1, l1', l3, frzSV, ng, ud, dbl, r1, r2]
theorem odd2 (b : BK) (hp : b.ps.length ≤ 100) (c d : D) (h : opInX true d (.tup ((b.ps.map (·.n)).map .str)) = some (.bl true)) {m k : Nat} (hd : Sm m k d) (hm : m ≤ 100000) (hk : k ≤ 10) (x : SV) (rd : Rdr) : oddB2 [.val b.d, .val c, x, .val d] rd = some (.nx [.val b.d, .val c, .own [purseD d, purseD d], .val d], rd) := by
  have p1 : ∀ y z : SV, eLam (eFnX mf_paid_from 3 (aCons (eVar 0) (aCons (eVar 1) (aCons (eVar 3) aNil)))) bo__law_outcome 5 [.val b.d, .val c, y, .val d] rd = some (purseD d, rd) := fun y z => lam_purse (by
    have g := paidfrom_bad b hp c h rd
    simp only [ev_bind1, ev_lift, ev_eC, ev_eVar, ev_eOp, ev_eUn, ev_eT, ev_mAnd, ev_mOr, ev_mNot, ev_eAnd, ev_eIf, ev_chain, ev_aNil, ev_aCons, ev_eTup, ev_eLst, ev_eCall, ev_eFn, ev_eFnR, ev_eIter, ev_eRange, ev_eLc, ev_eSl, ev_pNone, ev_pSome, ev_mFrz, ev_sNx, ev_sSet, ev_sRet, ev_sSeq, ev_sIf, ev_sUnp, ev_sNew, ev_fLst, ev_fCat, ev_sApp, ev_sFrz, ev_sFor, ev_vNil, ev_vVal, ev_vOwn, ev_sTup, ev_eRd, ev_sRd, and_self, true_and, and_true, eq_self, eqS, eqI, neS, neI, decide_true, decide_false, decide_eq_true_eq, Bool.not_true, Bool.not_false, initE, setPat, setAll, op1, isBl, flFin, iterD, seqOf, List.length_cons, List.length_nil, Bool.false_eq_true, if_false, if_true, List.nil_append, List.map_cons, List.map_nil, List.replicate, List.cons_append, Option.bind_some, Option.map_some, List.set_cons_succ, List.set_cons_zero, List.getElem?_cons_zero, List.getElem?_cons_succ, Nat.reduceAdd, ev_eNot, ev_eOwnAdd, ev_chain3, ev_xGet, ev_eFnX, ev_eFnXK, ev_xOk, ev_xTup2, ev_sSetX, ev_sRetX, ev_sExpX, ev_sRaise, ev_sTry, ev_eIsE, ev_eFldC, ev_eLc2, ev_lOwn, ev_sExt, g])
  have p2 : ∀ y z : SV, eLam (eFnXK mf_paid_from 3 [2, 1, 0] (aCons (eVar 3) (aCons (eVar 1) (aCons (eVar 0) aNil)))) bo__law_outcome 5 [.val b.d, .val c, y, .val d] rd = some (purseD d, rd) := fun y z => lam_purse (by
    have g := paidfrom_bad b hp c h rd
    have pk : pick D.non [2, 1, 0] [d, c, b.d] = [b.d, c, d] := rfl
    simp only [ev_bind1, ev_lift, ev_eC, ev_eVar, ev_eOp, ev_eUn, ev_eT, ev_mAnd, ev_mOr, ev_mNot, ev_eAnd, ev_eIf, ev_chain, ev_aNil, ev_aCons, ev_eTup, ev_eLst, ev_eCall, ev_eFn, ev_eFnR, ev_eIter, ev_eRange, ev_eLc, ev_eSl, ev_pNone, ev_pSome, ev_mFrz, ev_sNx, ev_sSet, ev_sRet, ev_sSeq, ev_sIf, ev_sUnp, ev_sNew, ev_fLst, ev_fCat, ev_sApp, ev_sFrz, ev_sFor, ev_vNil, ev_vVal, ev_vOwn, ev_sTup, ev_eRd, ev_sRd, and_self, true_and, and_true, eq_self, eqS, eqI, neS, neI, decide_true, decide_false, decide_eq_true_eq, Bool.not_true, Bool.not_false, initE, setPat, setAll, op1, isBl, flFin, iterD, seqOf, List.length_cons, List.length_nil, Bool.false_eq_true, if_false, if_true, List.nil_append, List.map_cons, List.map_nil, List.replicate, List.cons_append, Option.bind_some, Option.map_some, List.set_cons_succ, List.set_cons_zero, List.getElem?_cons_zero, List.getElem?_cons_succ, Nat.reduceAdd, ev_eNot, ev_eOwnAdd, ev_chain3, ev_xGet, ev_eFnX, ev_eFnXK, ev_xOk, ev_xTup2, ev_sSetX, ev_sRetX, ev_sExpX, ev_sRaise, ev_sTry, ev_eIsE, ev_eFldC, ev_eLc2, ev_lOwn, ev_sExt, pk, g])
  have sm : Sm 100000 10 (.str ("purse" : Str)) := (sm_text (by unfold As; decide +kernel)).mono (by omega) (by omega)
  have smd : Sm 100000 10 d := hd.mono hm hk
  have smu : Sm 200008 11 (purseD d) := sm_tup (l := 2) (fun e he => by
    rcases List.mem_cons.mp he with rfl | he
    · exact sm
    · rw [List.mem_singleton.mp he]
      exact smd) (by simp)
  have sml : Sm 400024 12 (.lst [purseD d, purseD d]) := sm_lst (l := 2) (fun e he => by
    rcases List.mem_cons.mp he with rfl | he
    · exact smu
    · rw [List.mem_singleton.mp he]
      exact smu) (by simp)
  obtain ⟨r1, r2⟩ := repr_ne sml (by omega) (by decide)
  have l1 : ((1 : Nat) ≤ sizeLine) = True := szl (m := 1) (Nat.le_refl _)
  have l1' : ((1 : Nat) < sizeLine) = True := by simp; decide
  have l2 : ((2 : Nat) ≤ sizeLine) = True := szl (m := 2) (Nat.le_refl _)
  have ud : D.tup [.str ("purse" : Str), d] = purseD d := rfl
  simp only [ev_bind1, ev_lift, ev_eC, ev_eVar, ev_eOp, ev_eUn, ev_eT, ev_mAnd, ev_mOr, ev_mNot, ev_eAnd, ev_eIf, ev_chain, ev_aNil, ev_aCons, ev_eTup, ev_eLst, ev_eCall, ev_eFn, ev_eFnR, ev_eIter, ev_eRange, ev_eLc, ev_eSl, ev_pNone, ev_pSome, ev_mFrz, ev_sNx, ev_sSet, ev_sRet, ev_sSeq, ev_sIf, ev_sUnp, ev_sNew, ev_fLst, ev_fCat, ev_sApp, ev_sFrz, ev_sFor, ev_vNil, ev_vVal, ev_vOwn, ev_sTup, ev_eRd, ev_sRd, and_self, true_and, and_true, eq_self, eqS, eqI, neS, neI, decide_true, decide_false, decide_eq_true_eq, Bool.not_true, Bool.not_false, initE, setPat, setAll, op1, isBl, flFin, iterD, seqOf, List.length_cons, List.length_nil, Bool.false_eq_true, if_false, if_true, List.nil_append, List.map_cons, List.map_nil, List.replicate, List.cons_append, Option.bind_some, Option.map_some, List.set_cons_succ, List.set_cons_zero, List.getElem?_cons_zero, List.getElem?_cons_succ, Nat.reduceAdd, ev_eNot, ev_eOwnAdd, ev_chain3, ev_xGet, ev_eFnX, ev_eFnXK, ev_xOk, ev_xTup2, ev_sSetX, ev_sRetX, ev_sExpX, ev_sRaise, ev_sTry, ev_eIsE, ev_eFldC, ev_eLc2, ev_lOwn, ev_sExt, oddB2, p1 x x, p2 _ x, l1, l1', l2, frzSV, ud, dbl, r1, r2]
end My

set_option Elab.async false
set_option linter.all false
set_option maxRecDepth 100000
set_option maxHeartbeats 4000000
namespace My
open PySem PySem.Spec PyProof.Rows L2 FW
def four : List Str := ["gift", "home", "meal", "trip"]
structure PuS (p : PU) : Prop where
  n : p.n ∈ four
  s : As 8 p.s
  ks : ∀ k ∈ p.ks, As 8 k
  kl : p.ks.length ≤ 3
  a : p.a.natAbs < 1000
  b : p.b.natAbs < 1000
structure BdS (l : BD) : Prop where
  ns : ∀ k ∈ l.ns, As 8 k
  nl : l.ns.length ≤ 4
  a : l.a.natAbs < 1000
  b : l.b.natAbs < 1000
  c : l.c.natAbs < 1000
def Sh4 (n : Nat) (sh : List Int) : Prop := sh.length = n ∧ ∀ s ∈ sh, 0 ≤ s ∧ s ≤ 4
structure RwS (n : Nat) (r : RW) : Prop where
  day : r.day.natAbs < 1000
  k : As 8 r.k
  am : 0 ≤ r.am ∧ r.am ≤ 4
  shl : r.sh.length ≤ 4
  sh : r.op = false → Sh4 n r.sh
structure BkS (b : BK) : Prop where
  ps : ∀ p ∈ b.ps, PuS p
  nd : (b.ps.map (·.n)).Nodup
  p1 : b.ps ≠ []
  p4 : b.ps.length ≤ 4
  bs : ∀ l ∈ b.bs, BdS l
  bl : b.bs.length ≤ 6
  rs : ∀ r ∈ b.rs, RwS b.ps.length r
  rl : b.rs.length ≤ 6
structure ChS (b : BK) (ch : List (List Int)) : Prop where
  l : ch.length = (opens b.rs).length
  s : ∀ sh ∈ ch, Sh4 b.ps.length sh
theorem BkS.L {b : BK} (h : BkS b) : BkL b := ⟨by have := h.p4; omega, by have := h.bl; omega, by have := h.rl; omega⟩
theorem as_four {k : Str} (h : k ∈ four) : As 8 k := by
  have aux : ∀ k ∈ four, As 8 k := by
    unfold four As
    decide +kernel
  exact aux k h
theorem PuS.sm {p : PU} (h : PuS p) : Sm 40000 3 p.d := by
  have kk : Sm 7000 1 (.tup (p.ks.map .str)) := (sm_tup (m := 2000) (k := 0) (l := 3) (fun d hd => by
    obtain ⟨k, hk, rfl⟩ := List.mem_map.mp hd
    exact sm_text (h.ks k hk)) (by rw [List.length_map]; exact h.kl)).mono (by omega) (by omega)
  refine (sm_tup (m := 7000) (k := 1) (l := 5) (fun d hd => ?_) (by simp)).mono (by omega) (by omega)
  simp only [List.mem_cons, List.not_mem_nil, or_false] at hd
  rcases hd with rfl | rfl | rfl | rfl | rfl
  · exact (sm_text (as_four h.n)).mono (by omega) (by omega)
  · exact (sm_text h.s).mono (by omega) (by omega)
  · exact kk
  · exact (sm_num (by have := h.a; omega)).mono (by omega) (by omega)
  · exact (sm_num (by have := h.b; omega)).mono (by omega) (by omega)
theorem BdS.sm {l : BD} (h : BdS l) : Sm 40000 3 l.d := by
  have kk : Sm 9000 1 (.tup (l.ns.map .str)) := (sm_tup (m := 2000) (k := 0) (l := 4) (fun d hd => by
    obtain ⟨k, hk, rfl⟩ := List.mem_map.mp hd
    exact sm_text (h.ns k hk)) (by rw [List.length_map]; exact h.nl)).mono (by omega) (by omega)
  refine (sm_tup (m := 9000) (k := 1) (l := 4) (fun d hd => ?_) (by simp)).mono (by omega) (by omega)
  simp only [List.mem_cons, List.not_mem_nil, or_false] at hd
  rcases hd with rfl | rfl | rfl | rfl
  · exact kk
  · exact (sm_num (by have := h.a; omega)).mono (by omega) (by omega)
  · exact (sm_num (by have := h.b; omega)).mono (by omega) (by omega)
  · exact (sm_num (by have := h.c; omega)).mono (by omega) (by omega)
theorem RwS.sm {n : Nat} {r : RW} (h : RwS n r) : Sm 40000 3 r.d := by
  refine (sm_tup (m := 9000) (k := 1) (l := 4) (fun d hd => ?_) (by simp)).mono (by omega) (by omega)
  simp only [List.mem_cons, List.not_mem_nil, or_false] at hd
  rcases hd with rfl | rfl | rfl | rfl
  · cases r.op with
    | true => exact (sm_text (s := ("buy" : Str)) (by unfold As; decide +kernel)).mono (by omega) (by omega)
    | false => exact (sm_text (s := ("paid" : Str)) (by unfold As; decide +kernel)).mono (by omega) (by omega)
  · exact (sm_num (by have := h.day; omega)).mono (by omega) (by omega)
  · exact (sm_text h.k).mono (by omega) (by omega)
  · cases ho : r.op with
    | true => exact (sm_num (by have := h.am; omega)).mono (by omega) (by omega)
    | false =>
      refine (sm_tup (m := 2000) (k := 0) (l := 4) (fun d hd => ?_) (by rw [List.length_map]; exact h.shl)).mono (by omega) (by omega)
      obtain ⟨s, hs, rfl⟩ := List.mem_map.mp hd
      have := (h.sh ho).2 s hs
      exact sm_num (by omega)
theorem BkS.sm {b : BK} (h : BkS b) : Sm 1000000 5 b.d := by
  have t : ∀ {A : Type} (f : A → D) (as : List A), (∀ a ∈ as, Sm 40000 3 (f a)) → as.length ≤ 6 → Sm 250000 4 (.tup (as.map f)) := fun f as ha hl =>
    (sm_tup (m := 40000) (k := 3) (l := 6) (fun d hd => by
      obtain ⟨a, h1, rfl⟩ := List.mem_map.mp hd
      exact ha a h1) (by rw [List.length_map]; exact hl)).mono (by omega) (by omega)
  refine (sm_tup (m := 250000) (k := 4) (l := 3) (fun d hd => ?_) (by simp)).mono (by omega) (by omega)
  simp only [List.mem_cons, List.not_mem_nil, or_false] at hd
  rcases hd with rfl | rfl | rfl
  · exact t _ _ (fun p hp => (h.ps p hp).sm) (by have := h.p4; omega)
  · exact t _ _ (fun p hp => (h.bs p hp).sm) h.bl
  · exact t _ _ (fun p hp => (h.rs p hp).sm) h.rl
/-! ### sums -/
theorem flat_sum {A : Type} (f : A → List Int) : ∀ as : List A, (as.map f).flatten.sum = (as.map fun x => (f x).sum).sum
  | [] => rfl
  | a :: as => by
    rw [List.map_cons, List.flatten_cons, List.sum_append, flat_sum f as, List.map_cons, List.sum_cons]
theorem sum_bd : ∀ {l : List Int}, (∀ x ∈ l, 0 ≤ x ∧ x ≤ 4) → 0 ≤ l.sum ∧ l.sum ≤ 4 * l.length
  | [], _ => by simp
  | a :: l, h => by
    have h1 := h a List.mem_cons_self
    have h2 := sum_bd fun x hx => h x (List.mem_cons_of_mem _ hx)
    rw [List.sum_cons, List.length_cons]
    omega
theorem paidAll_eq (b : BK) (ch : List (List Int)) (l : BD) : paidAll b ch l = paidSum b.ps b.rs l + (((opens b.rs).zip ch).map fun q => (spentL b.ps l q.1.day q.2).sum).sum := by
  unfold paidAll
  rw [flat_sum]
  unfold pays pay1 paidSum
  rw [List.map_append, List.sum_append, List.map_map, List.map_map]
  rfl
theorem pays_sh {b : BK} (hb : BkS b) {ch : List (List Int)} (hc : ChS b ch) : ∀ x ∈ pays b.rs ch, Sh4 b.ps.length x.2 := by
  intro x hx
  unfold pays pay1 at hx
  rcases List.mem_append.mp hx with hx | hx
  · obtain ⟨r, hr, rfl⟩ := List.mem_map.mp hx
    have h1 := List.mem_filter.mp hr
    exact (hb.rs r h1.1).sh (by simpa using h1.2)
  · obtain ⟨q, hq, rfl⟩ := List.mem_map.mp hx
    exact hc.s _ (List.of_mem_zip hq).2
theorem zip_snd {A : Type} : ∀ (as : List A) (ch : List (List Int)), ch.length = as.length → (as.zip ch).map (·.2) = ch
  | [], [], _ => rfl
  | a :: as, c :: ch, h => by rw [List.zip_cons_cons, List.map_cons, zip_snd as ch (by simpa using h)]
  | [], _ :: _, h => by simp at h
  | _ :: _, [], h => by simp at h
theorem fromAll_eq {b : BK} {ch : List (List Int)} (hc : ChS b ch) (j : Nat) : fromAll b ch j = (ch.map fun sh => sh.getD j 0).sum + ((paids b.rs).map fun r => r.sh.getD j 0).sum := by
  unfold fromAll pays pay1
  rw [List.map_append, List.sum_append, List.map_map, List.map_map]
  have e : (((opens b.rs).zip ch).map ((fun x : Int × List Int => x.2.getD j 0) ∘ fun q => (q.1.day, q.2))) = ch.map fun sh => sh.getD j 0 := by
    conv => rhs; rw [← zip_snd (opens b.rs) ch hc.l]
    rw [List.map_map]
    rfl
  rw [e]
  have e2 : ((paids b.rs).map ((fun x : Int × List Int => x.2.getD j 0) ∘ fun r => (r.day, r.sh))) = (paids b.rs).map fun r => r.sh.getD j 0 := rfl
  rw [e2]
  omega
theorem spent_mem {ps : List PU} {l : BD} {day : Int} {sh : List Int} {x : Int} (h : x ∈ spentL ps l day sh) : x ∈ sh := by
  unfold spentL at h
  obtain ⟨q, hq, rfl⟩ := List.mem_map.mp h
  exact (List.of_mem_zip (List.mem_filter.mp hq).1).1
theorem paidAll_bd {b : BK} (hb : BkS b) {ch : List (List Int)} (hc : ChS b ch) (l : BD) : (paidAll b ch l).natAbs < 1000000000 := by
  have h1 : ∀ x ∈ ((pays b.rs ch).map fun x => spentL b.ps l x.1 x.2).flatten, 0 ≤ x ∧ x ≤ 4 := fun x hx => by
    obtain ⟨ys, hy, hx⟩ := List.mem_flatten.mp hx
    obtain ⟨q, hq, rfl⟩ := List.mem_map.mp hy
    exact (pays_sh hb hc q hq).2 x (spent_mem hx)
  have h2 := sum_bd h1
  have aux : ∀ ys : List (Int × List Int), (∀ x ∈ ys, x.2.length ≤ 4) → (ys.map fun x => spentL b.ps l x.1 x.2).flatten.length ≤ ys.length * 4 := by
    intro ys
    induction ys with
    | nil => intro _; simp
    | cons y ys ih =>
      intro hy
      have := ih fun x hx => hy x (List.mem_cons_of_mem _ hx)
      rw [List.map_cons, List.flatten_cons, List.length_append, List.length_cons, Nat.succ_mul]
      have h3 : (spentL b.ps l y.1 y.2).length ≤ 4 := by
        unfold spentL
        rw [List.length_map]
        refine Nat.le_trans (List.length_filter_le _ _) ?_
        rw [List.length_zip]
        have := hy y List.mem_cons_self
        omega
      omega
  have h3 := aux (pays b.rs ch) fun x hx => by
    rw [(pays_sh hb hc x hx).1]
    exact hb.p4
  have h4 := pays_len b.rs ch
  have h5 := hb.rl
  unfold paidAll
  omega
theorem fromAll_bd {b : BK} (hb : BkS b) {ch : List (List Int)} (hc : ChS b ch) (j : Nat) : (fromAll b ch j).natAbs < 1000000000 := by
  have h1 : ∀ x ∈ (pays b.rs ch).map fun x => x.2.getD j 0, 0 ≤ x ∧ x ≤ 4 := fun x hx => by
    obtain ⟨q, hq, rfl⟩ := List.mem_map.mp hx
    have h := (pays_sh hb hc q hq).2
    rw [List.getD_eq_getElem?_getD]
    cases e : q.2[j]? with
    | none => simp
    | some y => exact h y (List.mem_of_getElem? e)
  have h2 := sum_bd h1
  rw [List.length_map] at h2
  have h4 := pays_len b.rs ch
  have h5 := hb.rl
  unfold fromAll
  omega
theorem pair_sm {i : Int} (h : i.natAbs < 1000000000) : Sm 5000 1 (.lst [.int i, .int i]) := (sm_lst (m := 2000) (k := 0) (l := 2) (fun d hd => by
  simp only [List.mem_cons, List.not_mem_nil, or_false, or_self] at hd
  subst hd
  exact sm_num h) (by simp)).mono (by omega) (by omega)
def sumB1 : MM Fl := (sSeq (sSet 6 (eOp opSub (eOp opIx (eVar 5) (eC (.int 3))) (eFn mf__law_left 2 (aCons (eVar 0) (aCons (eVar 5) aNil)))))
  (sSeq (sSet 6 (eOp opAdd (eVar 6) (eCall (op1 opSum) (aCons (eLc (eRange zipI (aCons (eVar 3) (aCons (eVar 1) aNil))) (.tp [11, 10]) [11, 10] mYes (eFn mf__law_spent 4 (aCons (eVar 2) (aCons (eVar 5) (aCons (eOp opIx (eVar 11) (eC (.int 1))) (aCons (eVar 10) aNil)))))) aNil))))
  (sSeq (sSet 7 (eLst (aCons (xGet (eFnX mf_paid_in 3 (aCons (eVar 0) (aCons (eVar 1) (aCons (eVar 4) aNil))))) (aCons (xGet (eFnXK mf_paid_in 3 [2, 1, 0] (aCons (eVar 4) (aCons (eVar 1) (aCons (eVar 0) aNil))))) aNil))))
  (sIf (eT (eOp opNe (eCall (op1 opRepr) (aCons (eVar 7) aNil)) (eCall (op1 opRepr) (aCons (eLst (aCons (eVar 6) (aCons (eVar 6) aNil))) aNil)))) (sRet (eC (.bl false))) sNx))))
def sumB2 : MM Fl := (sSeq (sSet 6 (eCall (op1 opSum) (aCons (eLc (eIter (eVar 1)) (.nm 10) [10] mYes (eOp opIx (eVar 10) (eVar 8))) aNil)))
  (sSeq (sSet 6 (eOp opAdd (eVar 6) (eCall (op1 opSum) (aCons (eLc (eIter (eOp opIx (eVar 0) (eC (.int 2)))) (.nm 11) [11] (eT (eOp opEq (eOp opIx (eVar 11) (eC (.int 0))) (eC (.str ("paid" : Str))))) (eOp opIx (eOp opIx (eVar 11) (eC (.int 3))) (eVar 8))) aNil))))
  (sSeq (sSet 7 (eLst (aCons (xGet (eFnX mf_paid_from 3 (aCons (eVar 0) (aCons (eVar 1) (aCons (eOp opIx (eVar 9) (eC (.int 0))) aNil))))) (aCons (xGet (eFnXK mf_paid_from 3 [2, 1, 0] (aCons (eOp opIx (eVar 9) (eC (.int 0))) (aCons (eVar 1) (aCons (eVar 0) aNil))))) aNil))))
  (sIf (eT (eOp opNe (eCall (op1 opRepr) (aCons (eVar 7) aNil)) (eCall (op1 opRepr) (aCons (eLst (aCons (eVar 6) (aCons (eVar 6) aNil))) aNil)))) (sRet (eC (.bl false))) sNx))))
theorem enum_map {A : Type} (f : A → D) (as : List A) : enumI [.tup (as.map f)] = some (as.zipIdx.map fun q => .tup [.int (q.2 : Nat), f q.1]) := by
  show some (enumD (as.map f)) = _
  unfold enumD
  rw [List.zipIdx_map, List.map_map]
  rfl
theorem sum1 {b : BK} (hb : BkS b) {ch : List (List Int)} (hc : ChS b ch) {i : Nat} {l : BD} (hi : b.bs[i]? = some l) (x6 x7 x8 x9 x10 x11 : SV) (rd : Rdr) :
    sumB1 [.val b.d, .val (chD ch), .val (.tup (b.ps.map PU.d)), .val (.lst ((opens b.rs).map RW.d)), .val (.int (i : Nat)), .val l.d, x6, x7, x8, x9, x10, x11] rd =
      some (.nx [.val b.d, .val (chD ch), .val (.tup (b.ps.map PU.d)), .val (.lst ((opens b.rs).map RW.d)), .val (.int (i : Nat)), .val l.d, .val (.int (paidAll b ch l)), .val (.lst [.int (paidAll b ch l), .int (paidAll b ch l)]), x8, x9, x10, x11], rd) := by
  have lf := left_ok b.ps b.rs l (.tup (b.bs.map BD.d)) (.tup (b.rs.map RW.d)) (.inl rfl) (Nat.le_trans hb.rl (by omega)) (fun r hr => Nat.le_trans (hb.rs r hr).shl (by omega)) rd
  have lf' : mf__law_left [b.d, l.d] rd = _ := lf
  have i3 : opIx l.d (.int 3) = some (.int l.c) := rfl
  have z : zipI [.lst ((opens b.rs).map RW.d), chD ch] = some (((opens b.rs).zip ch).map fun q => .tup [q.1.d, shD q.2]) := by
    show some (zipD ((opens b.rs).map RW.d) (ch.map shD)) = _
    rw [zipD_map]
  have lo : (opens b.rs).length ≤ 6 := Nat.le_trans (List.length_filter_le _ _) hb.rl
  have lz : ((((opens b.rs).zip ch).map fun q => D.tup [q.1.d, shD q.2]).length ≤ sizeLine) = True := by
    rw [List.length_map, List.length_zip]
    exact szl (m := 6) (by omega)
  have go : ∀ x6' : SV, lcGo (.tp [11, 10]) mYes (eFn mf__law_spent 4 (aCons (eVar 2) (aCons (eVar 5) (aCons (eOp opIx (eVar 11) (eC (.int 1))) (aCons (eVar 10) aNil))))) (((opens b.rs).zip ch).map fun q => .tup [q.1.d, shD q.2])
      (wipeE [.val b.d, .val (chD ch), .val (.tup (b.ps.map PU.d)), .val (.lst ((opens b.rs).map RW.d)), .val (.int (i : Nat)), .val l.d, x6', x7, x8, x9, x10, x11] [11, 10]) rd = some (((((opens b.rs).zip ch).map fun q => (spentL b.ps l q.1.day q.2).sum)).map .int, rd) := fun x6' => by
    have go := lcGo_P (f := fun q : RW × List Int => D.tup [q.1.d, shD q.2]) (g := fun q => .int (spentL b.ps l q.1.day q.2).sum) (b := fun _ => true) (p := .tp [11, 10]) (env := wipeE [.val b.d, .val (chD ch), .val (.tup (b.ps.map PU.d)), .val (.lst ((opens b.rs).map RW.d)), .val (.int (i : Nat)), .val l.d, x6', x7, x8, x9, x10, x11] [11, 10]) (rd := rd)
      (t := mYes) (e := eFn mf__law_spent 4 (aCons (eVar 2) (aCons (eVar 5) (aCons (eOp opIx (eVar 11) (eC (.int 1))) (aCons (eVar 10) aNil))))) (as := (opens b.rs).zip ch) (fun q hq => by
        refine ⟨_, rfl, rfl, fun _ => ?_⟩
        have hs : q.2.length ≤ 100 := by
          rw [(hc.s _ (List.of_mem_zip hq).2).1]
          exact Nat.le_trans hb.p4 (by omega)
        simp only [ev_bind1, ev_lift, ev_eC, ev_eVar, ev_eOp, ev_eUn, ev_eT, ev_mAnd, ev_mOr, ev_mNot, ev_eAnd, ev_eIf, ev_chain, ev_aNil, ev_aCons, ev_eTup, ev_eLst, ev_eCall, ev_eFn, ev_eFnR, ev_eIter, ev_eRange, ev_eLc, ev_eSl, ev_pNone, ev_pSome, ev_mFrz, ev_sNx, ev_sSet, ev_sRet, ev_sSeq, ev_sIf, ev_sUnp, ev_sNew, ev_fLst, ev_fCat, ev_sApp, ev_sFrz, ev_sFor, ev_vNil, ev_vVal, ev_vOwn, ev_sTup, ev_eRd, ev_sRd, and_self, true_and, and_true, eq_self, eqS, eqI, neS, neI, decide_true, decide_false, decide_eq_true_eq, Bool.not_true, Bool.not_false, initE, setPat, setAll, op1, isBl, flFin, iterD, seqOf, List.length_cons, List.length_nil, Bool.false_eq_true, if_false, if_true, List.nil_append, List.map_cons, List.map_nil, List.replicate, List.cons_append, Option.bind_some, Option.map_some, List.set_cons_succ, List.set_cons_zero, List.getElem?_cons_zero, List.getElem?_cons_succ, Nat.reduceAdd, ev_eNot, ev_eOwnAdd, ev_chain3, ev_xGet, ev_eFnX, ev_eFnXK, ev_xOk, ev_xTup2, ev_sSetX, ev_sRetX, ev_sExpX, ev_sRaise, ev_sTry, ev_eIsE, ev_eFldC, ev_eLc2, ev_lOwn, ev_sExt, wipeE, RW.ix1, spent_ok b.ps l q.1.day q.2 hs])
    rw [go, List.filter_eq_self.mpr (fun _ _ => rfl), List.map_map]
    rfl
  have pin := paidin_good hb.L ch hi rd
  have pk : pick D.non [2, 1, 0] [.int (i : Nat), chD ch, b.d] = [b.d, chD ch, .int (i : Nat)] := rfl
  have due : l.c - (l.c - paidSum b.ps b.rs l) + (((opens b.rs).zip ch).map fun q => (spentL b.ps l q.1.day q.2).sum).sum = paidAll b ch l := by
    rw [paidAll_eq]
    omega
  obtain ⟨r1, r2⟩ := repr_ne (pair_sm (paidAll_bd hb hc l)) (by omega) (by decide)
  have l2 : ((2 : Nat) ≤ sizeLine) = True := szl (m := 2) (Nat.le_refl _)
  simp only [ev_bind1, ev_lift, ev_eC, ev_eVar, ev_eOp, ev_eUn, ev_eT, ev_mAnd, ev_mOr, ev_mNot, ev_eAnd, ev_eIf, ev_chain, ev_aNil, ev_aCons, ev_eTup, ev_eLst, ev_eCall, ev_eFn, ev_eFnR, ev_eIter, ev_eRange, ev_eLc, ev_eSl, ev_pNone, ev_pSome, ev_mFrz, ev_sNx, ev_sSet, ev_sRet, ev_sSeq, ev_sIf, ev_sUnp, ev_sNew, ev_fLst, ev_fCat, ev_sApp, ev_sFrz, ev_sFor, ev_vNil, ev_vVal, ev_vOwn, ev_sTup, ev_eRd, ev_sRd, and_self, true_and, and_true, eq_self, eqS, eqI, neS, neI, decide_true, decide_false, decide_eq_true_eq, Bool.not_true, Bool.not_false, initE, setPat, setAll, op1, isBl, flFin, iterD, seqOf, List.length_cons, List.length_nil, Bool.false_eq_true, if_false, if_true, List.nil_append, List.map_cons, List.map_nil, List.replicate, List.cons_append, Option.bind_some, Option.map_some, List.set_cons_succ, List.set_cons_zero, List.getElem?_cons_zero, List.getElem?_cons_succ, Nat.reduceAdd, ev_eNot, ev_eOwnAdd, ev_chain3, ev_xGet, ev_eFnX, ev_eFnXK, ev_xOk, ev_xTup2, ev_sSetX, ev_sRetX, ev_sExpX, ev_sRaise, ev_sTry, ev_eIsE, ev_eFldC, ev_eLc2, ev_lOwn, ev_sExt, sumB1, i3, lf', opIi, z, lz, go, sum_map, addI, due, pin, pk, l2, r1, r2]
theorem sum2 {b : BK} (hb : BkS b) {ch : List (List Int)} (hc : ChS b ch) {j : Nat} {p : PU} (hj : b.ps[j]? = some p) (x4 x5 x6 x7 x10 x11 : SV) (rd : Rdr) :
    sumB2 [.val b.d, .val (chD ch), .val (.tup (b.ps.map PU.d)), .val (.lst ((opens b.rs).map RW.d)), x4, x5, x6, x7, .val (.int (j : Nat)), .val p.d, x10, x11] rd =
      some (.nx [.val b.d, .val (chD ch), .val (.tup (b.ps.map PU.d)), .val (.lst ((opens b.rs).map RW.d)), x4, x5, .val (.int (fromAll b ch j)), .val (.lst [.int (fromAll b ch j), .int (fromAll b ch j)]), .val (.int (j : Nat)), .val p.d, x10, x11], rd) := by
  have jl : j < b.ps.length := (List.getElem?_eq_some_iff.mp hj).1
  have lo : (opens b.rs).length ≤ 6 := Nat.le_trans (List.length_filter_le _ _) hb.rl
  have lc : ((ch.map shD).length ≤ sizeLine) = True := by
    rw [List.length_map, hc.l]
    exact szl (m := 6) lo
  have lr : ((b.rs.map RW.d).length ≤ sizeLine) = True := by
    rw [List.length_map]
    exact szl (m := 6) hb.rl
  have ic : iterD (chD ch) = some (ch.map shD) := rfl
  have go1 : lcGo (.nm 10) mYes (eOp opIx (eVar 10) (eVar 8)) (ch.map shD) (wipeE [.val b.d, .val (chD ch), .val (.tup (b.ps.map PU.d)), .val (.lst ((opens b.rs).map RW.d)), x4, x5, x6, x7, .val (.int (j : Nat)), .val p.d, x10, x11] [10]) rd =
      some ((ch.map fun sh => sh.getD j 0).map .int, rd) := by
    have go := lcGo_P (f := shD) (g := fun sh => .int (sh.getD j 0)) (b := fun _ => true) (p := .nm 10) (env := wipeE [.val b.d, .val (chD ch), .val (.tup (b.ps.map PU.d)), .val (.lst ((opens b.rs).map RW.d)), x4, x5, x6, x7, .val (.int (j : Nat)), .val p.d, x10, x11] [10]) (rd := rd)
      (t := mYes) (e := eOp opIx (eVar 10) (eVar 8)) (as := ch) (fun sh hs => by
        refine ⟨_, rfl, rfl, fun _ => ?_⟩
        have h1 : j < sh.length := by rw [(hc.s sh hs).1]; exact jl
        simp only [ev_bind1, ev_lift, ev_eC, ev_eVar, ev_eOp, ev_eUn, ev_eT, ev_mAnd, ev_mOr, ev_mNot, ev_eAnd, ev_eIf, ev_chain, ev_aNil, ev_aCons, ev_eTup, ev_eLst, ev_eCall, ev_eFn, ev_eFnR, ev_eIter, ev_eRange, ev_eLc, ev_eSl, ev_pNone, ev_pSome, ev_mFrz, ev_sNx, ev_sSet, ev_sRet, ev_sSeq, ev_sIf, ev_sUnp, ev_sNew, ev_fLst, ev_fCat, ev_sApp, ev_sFrz, ev_sFor, ev_vNil, ev_vVal, ev_vOwn, ev_sTup, ev_eRd, ev_sRd, and_self, true_and, and_true, eq_self, eqS, eqI, neS, neI, decide_true, decide_false, decide_eq_true_eq, Bool.not_true, Bool.not_false, initE, setPat, setAll, op1, isBl, flFin, iterD, seqOf, List.length_cons, List.length_nil, Bool.false_eq_true, if_false, if_true, List.nil_append, List.map_cons, List.map_nil, List.replicate, List.cons_append, Option.bind_some, Option.map_some, List.set_cons_succ, List.set_cons_zero, List.getElem?_cons_zero, List.getElem?_cons_succ, Nat.reduceAdd, ev_eNot, ev_eOwnAdd, ev_chain3, ev_xGet, ev_eFnX, ev_eFnXK, ev_xOk, ev_xTup2, ev_sSetX, ev_sRetX, ev_sExpX, ev_sRaise, ev_sTry, ev_eIsE, ev_eFldC, ev_eLc2, ev_lOwn, ev_sExt, wipeE, shD_ix h1])
    rw [go, List.filter_eq_self.mpr (fun _ _ => rfl), List.map_map]
    rfl
  have go2 : ∀ y : SV, lcGo (.nm 11) (eT (eOp opEq (eOp opIx (eVar 11) (eC (.int 0))) (eC (.str ("paid" : Str))))) (eOp opIx (eOp opIx (eVar 11) (eC (.int 3))) (eVar 8)) (b.rs.map RW.d) (wipeE [.val b.d, .val (chD ch), .val (.tup (b.ps.map PU.d)), .val (.lst ((opens b.rs).map RW.d)), x4, x5, y, x7, .val (.int (j : Nat)), .val p.d, x10, x11] [11]) rd =
      some (((paids b.rs).map fun r => r.sh.getD j 0).map .int, rd) := fun y => by
    have go := lcGo_P (f := RW.d) (g := fun r => .int (r.sh.getD j 0)) (b := fun r => !r.op) (p := .nm 11) (env := wipeE [.val b.d, .val (chD ch), .val (.tup (b.ps.map PU.d)), .val (.lst ((opens b.rs).map RW.d)), x4, x5, y, x7, .val (.int (j : Nat)), .val p.d, x10, x11] [11]) (rd := rd)
      (t := eT (eOp opEq (eOp opIx (eVar 11) (eC (.int 0))) (eC (.str ("paid" : Str))))) (e := eOp opIx (eOp opIx (eVar 11) (eC (.int 3))) (eVar 8)) (as := b.rs) (fun r hr => by
        refine ⟨_, rfl, tPaid r 11 _ rfl rd, fun h => ?_⟩
        have ho : r.op = false := by simpa using h
        have h1 : j < r.sh.length := by rw [((hb.rs r hr).sh ho).1]; exact jl
        simp only [ev_bind1, ev_lift, ev_eC, ev_eVar, ev_eOp, ev_eUn, ev_eT, ev_mAnd, ev_mOr, ev_mNot, ev_eAnd, ev_eIf, ev_chain, ev_aNil, ev_aCons, ev_eTup, ev_eLst, ev_eCall, ev_eFn, ev_eFnR, ev_eIter, ev_eRange, ev_eLc, ev_eSl, ev_pNone, ev_pSome, ev_mFrz, ev_sNx, ev_sSet, ev_sRet, ev_sSeq, ev_sIf, ev_sUnp, ev_sNew, ev_fLst, ev_fCat, ev_sApp, ev_sFrz, ev_sFor, ev_vNil, ev_vVal, ev_vOwn, ev_sTup, ev_eRd, ev_sRd, and_self, true_and, and_true, eq_self, eqS, eqI, neS, neI, decide_true, decide_false, decide_eq_true_eq, Bool.not_true, Bool.not_false, initE, setPat, setAll, op1, isBl, flFin, iterD, seqOf, List.length_cons, List.length_nil, Bool.false_eq_true, if_false, if_true, List.nil_append, List.map_cons, List.map_nil, List.replicate, List.cons_append, Option.bind_some, Option.map_some, List.set_cons_succ, List.set_cons_zero, List.getElem?_cons_zero, List.getElem?_cons_succ, Nat.reduceAdd, ev_eNot, ev_eOwnAdd, ev_chain3, ev_xGet, ev_eFnX, ev_eFnXK, ev_xOk, ev_xTup2, ev_sSetX, ev_sRetX, ev_sExpX, ev_sRaise, ev_sTry, ev_eIsE, ev_eFldC, ev_eLc2, ev_lOwn, ev_sExt, wipeE, RW.ix3 r ho, shD_ix h1])
    rw [go]
    unfold paids
    rw [List.map_map]
    rfl
  have pf := paidfrom_good hb.L hb.nd ch hj (fun x hx => by rw [(pays_sh hb hc x hx).1]; exact jl) rd
  have i0 : opIx p.d (.int 0) = some (.str p.n) := rfl
  have pk : pick D.non [2, 1, 0] [.str p.n, chD ch, b.d] = [b.d, chD ch, .str p.n] := rfl
  have due : (ch.map fun sh => sh.getD j 0).sum + ((paids b.rs).map fun r => r.sh.getD j 0).sum = fromAll b ch j := (fromAll_eq hc j).symm
  obtain ⟨r1, r2⟩ := repr_ne (pair_sm (fromAll_bd hb hc j)) (by omega) (by decide)
  have l2 : ((2 : Nat) ≤ sizeLine) = True := szl (m := 2) (Nat.le_refl _)
  have ev : ∀ {env : List SV} {rd : Rdr}, env[1]? = some (.val (chD ch)) → eIter (eVar 1) env rd = some (ch.map shD, rd) := fun {env rd} h => by
    rw [ev_eIter, ev_eVar, h]
    simp only [Option.bind_some, ic, Option.map_some]
  have e1 := ev (env := [.val b.d, .val (chD ch), .val (.tup (b.ps.map PU.d)), .val (.lst ((opens b.rs).map RW.d)), x4, x5, x6, x7, .val (.int (j : Nat)), .val p.d, x10, x11]) (rd := rd) rfl
  have s1 : eCall (op1 opSum) (aCons (eLc (eIter (eVar 1)) (.nm 10) [10] mYes (eOp opIx (eVar 10) (eVar 8))) aNil) [.val b.d, .val (chD ch), .val (.tup (b.ps.map PU.d)), .val (.lst ((opens b.rs).map RW.d)), x4, x5, x6, x7, .val (.int (j : Nat)), .val p.d, x10, x11] rd = some (.int (ch.map fun sh => sh.getD j 0).sum, rd) := by
    rw [ev_eCall, ev_aCons, ev_eLc, e1]
    simp only [Option.bind_some, lc, if_true, go1, Option.map_some, ev_aNil, op1, sum_map]
  unfold sumB2
  rw [ev_sSeq, ev_sSet, s1]
  simp only [ev_bind1, ev_lift, ev_eC, ev_eVar, ev_eOp, ev_eUn, ev_eT, ev_mAnd, ev_mOr, ev_mNot, ev_eAnd, ev_eIf, ev_chain, ev_aNil, ev_aCons, ev_eTup, ev_eLst, ev_eCall, ev_eFn, ev_eFnR, ev_eIter, ev_eRange, ev_eLc, ev_eSl, ev_pNone, ev_pSome, ev_mFrz, ev_sNx, ev_sSet, ev_sRet, ev_sSeq, ev_sIf, ev_sUnp, ev_sNew, ev_fLst, ev_fCat, ev_sApp, ev_sFrz, ev_sFor, ev_vNil, ev_vVal, ev_vOwn, ev_sTup, ev_eRd, ev_sRd, and_self, true_and, and_true, eq_self, eqS, eqI, neS, neI, decide_true, decide_false, decide_eq_true_eq, Bool.not_true, Bool.not_false, initE, setPat, setAll, op1, isBl, flFin, iterD, seqOf, List.length_cons, List.length_nil, Bool.false_eq_true, if_false, if_true, List.nil_append, List.map_cons, List.map_nil, List.replicate, List.cons_append, Option.bind_some, Option.map_some, List.set_cons_succ, List.set_cons_zero, List.getElem?_cons_zero, List.getElem?_cons_succ, Nat.reduceAdd, ev_eNot, ev_eOwnAdd, ev_chain3, ev_xGet, ev_eFnX, ev_eFnXK, ev_xOk, ev_xTup2, ev_sSetX, ev_sRetX, ev_sExpX, ev_sRaise, ev_sTry, ev_eIsE, ev_eFldC, ev_eLc2, ev_lOwn, ev_sExt, BK.ix2, lr, go2, sum_map, addI, due, i0, pf, pk, l2, r1, r2]
end My

set_option Elab.async false
set_option linter.all false
set_option maxRecDepth 100000
set_option maxHeartbeats 4000000
namespace My
open PySem PySem.Spec PyProof.Rows L2 FW
def SumE (b : BK) (ch : List (List Int)) (env : List SV) : Prop := ∃ x4 x5 x6 x7 x8 x9 x10 x11 : SV, env = [.val b.d, .val (chD ch), .val (.tup (b.ps.map PU.d)), .val (.lst ((opens b.rs).map RW.d)), x4, x5, x6, x7, x8, x9, x10, x11]
theorem sums_ok {b : BK} (hb : BkS b) {ch : List (List Int)} (hc : ChS b ch) (rd : Rdr) : mf__law_sums_right [b.d, chD ch] rd = some (.bl true, rd) := by
  have e : mf__law_sums_right [b.d, chD ch] rd = (b__law_sums_right (initE false [b.d, chD ch] 10) rd).bind flFin := rfl
  have op := open_ok b (Nat.le_trans hb.rl (by omega)) rd
  have b1 : b__law_sums_right = sSeq (sTup [2, 3] (vVal (eOp opIx (eVar 0) (eC (.int 0))) (vVal (eFn mf__law_open 1 (aCons (eVar 0) aNil)) vNil)))
      (sSeq (sFor (eRange enumI (aCons (eOp opIx (eVar 0) (eC (.int 1))) aNil)) (.tp [4, 5]) sumB1) (sSeq (sFor (eRange enumI (aCons (eVar 2) aNil)) (.tp [8, 9]) sumB2) (sRet (eC (.bl true))))) := rfl
  have s0 : sTup [2, 3] (vVal (eOp opIx (eVar 0) (eC (.int 0))) (vVal (eFn mf__law_open 1 (aCons (eVar 0) aNil)) vNil)) (initE false [b.d, chD ch] 10) rd =
      some (.nx [.val b.d, .val (chD ch), .val (.tup (b.ps.map PU.d)), .val (.lst ((opens b.rs).map RW.d)), .un, .un, .un, .un, .un, .un, .un, .un], rd) := by
    simp only [ev_bind1, ev_lift, ev_eC, ev_eVar, ev_eOp, ev_eUn, ev_eT, ev_mAnd, ev_mOr, ev_mNot, ev_eAnd, ev_eIf, ev_chain, ev_aNil, ev_aCons, ev_eTup, ev_eLst, ev_eCall, ev_eFn, ev_eFnR, ev_eIter, ev_eRange, ev_eLc, ev_eSl, ev_pNone, ev_pSome, ev_mFrz, ev_sNx, ev_sSet, ev_sRet, ev_sSeq, ev_sIf, ev_sUnp, ev_sNew, ev_fLst, ev_fCat, ev_sApp, ev_sFrz, ev_sFor, ev_vNil, ev_vVal, ev_vOwn, ev_sTup, ev_eRd, ev_sRd, and_self, true_and, and_true, eq_self, eqS, eqI, neS, neI, decide_true, decide_false, decide_eq_true_eq, Bool.not_true, Bool.not_false, initE, setPat, setAll, op1, isBl, flFin, iterD, seqOf, List.length_cons, List.length_nil, Bool.false_eq_true, if_false, if_true, List.nil_append, List.map_cons, List.map_nil, List.replicate, List.cons_append, Option.bind_some, Option.map_some, List.set_cons_succ, List.set_cons_zero, List.getElem?_cons_zero, List.getElem?_cons_succ, Nat.reduceAdd, ev_eNot, ev_eOwnAdd, ev_chain3, ev_xGet, ev_eFnX, ev_eFnXK, ev_xOk, ev_xTup2, ev_sSetX, ev_sRetX, ev_sExpX, ev_sRaise, ev_sTry, ev_eIsE, ev_eFldC, ev_eLc2, ev_lOwn, ev_sExt, BK.ix0, op, setSv]
  have f1 : ∀ env, SumE b ch env → ∃ env', sFor (eRange enumI (aCons (eOp opIx (eVar 0) (eC (.int 1))) aNil)) (.tp [4, 5]) sumB1 env rd = some (.nx env', rd) ∧ SumE b ch env' := by
    rintro env ⟨x4, x5, x6, x7, x8, x9, x10, x11, rfl⟩
    have it : eRange enumI (aCons (eOp opIx (eVar 0) (eC (.int 1))) aNil) [.val b.d, .val (chD ch), .val (.tup (b.ps.map PU.d)), .val (.lst ((opens b.rs).map RW.d)), x4, x5, x6, x7, x8, x9, x10, x11] rd = some (b.bs.zipIdx.map fun q => .tup [.int (q.2 : Nat), q.1.d], rd) := by
      simp only [ev_bind1, ev_lift, ev_eC, ev_eVar, ev_eOp, ev_eUn, ev_eT, ev_mAnd, ev_mOr, ev_mNot, ev_eAnd, ev_eIf, ev_chain, ev_aNil, ev_aCons, ev_eTup, ev_eLst, ev_eCall, ev_eFn, ev_eFnR, ev_eIter, ev_eRange, ev_eLc, ev_eSl, ev_pNone, ev_pSome, ev_mFrz, ev_sNx, ev_sSet, ev_sRet, ev_sSeq, ev_sIf, ev_sUnp, ev_sNew, ev_fLst, ev_fCat, ev_sApp, ev_sFrz, ev_sFor, ev_vNil, ev_vVal, ev_vOwn, ev_sTup, ev_eRd, ev_sRd, and_self, true_and, and_true, eq_self, eqS, eqI, neS, neI, decide_true, decide_false, decide_eq_true_eq, Bool.not_true, Bool.not_false, initE, setPat, setAll, op1, isBl, flFin, iterD, seqOf, List.length_cons, List.length_nil, Bool.false_eq_true, if_false, if_true, List.nil_append, List.map_cons, List.map_nil, List.replicate, List.cons_append, Option.bind_some, Option.map_some, List.set_cons_succ, List.set_cons_zero, List.getElem?_cons_zero, List.getElem?_cons_succ, Nat.reduceAdd, ev_eNot, ev_eOwnAdd, ev_chain3, ev_xGet, ev_eFnX, ev_eFnXK, ev_xOk, ev_xTup2, ev_sSetX, ev_sRetX, ev_sExpX, ev_sRaise, ev_sTry, ev_eIsE, ev_eFldC, ev_eLc2, ev_lOwn, ev_sExt, BK.ix1, enum_map]
    rw [ev_sFor, it, Option.bind_some]
    refine forGo_all (E := SumE b ch) (fun d hd env he => ?_) ⟨x4, x5, x6, x7, x8, x9, x10, x11, rfl⟩
    obtain ⟨y4, y5, y6, y7, y8, y9, y10, y11, rfl⟩ := he
    obtain ⟨q, hq, rfl⟩ := List.mem_map.mp hd
    have hi := List.mk_mem_zipIdx_iff_getElem?.mp (show (q.1, q.2) ∈ b.bs.zipIdx from hq)
    exact ⟨_, rfl, _, sum1 hb hc hi y6 y7 y8 y9 y10 y11 rd, _, _, _, _, _, _, _, _, rfl⟩
  have f2 : ∀ env, SumE b ch env → ∃ env', sFor (eRange enumI (aCons (eVar 2) aNil)) (.tp [8, 9]) sumB2 env rd = some (.nx env', rd) ∧ SumE b ch env' := by
    rintro env ⟨x4, x5, x6, x7, x8, x9, x10, x11, rfl⟩
    have it : eRange enumI (aCons (eVar 2) aNil) [.val b.d, .val (chD ch), .val (.tup (b.ps.map PU.d)), .val (.lst ((opens b.rs).map RW.d)), x4, x5, x6, x7, x8, x9, x10, x11] rd = some (b.ps.zipIdx.map fun q => .tup [.int (q.2 : Nat), q.1.d], rd) := by
      simp only [ev_bind1, ev_lift, ev_eC, ev_eVar, ev_eOp, ev_eUn, ev_eT, ev_mAnd, ev_mOr, ev_mNot, ev_eAnd, ev_eIf, ev_chain, ev_aNil, ev_aCons, ev_eTup, ev_eLst, ev_eCall, ev_eFn, ev_eFnR, ev_eIter, ev_eRange, ev_eLc, ev_eSl, ev_pNone, ev_pSome, ev_mFrz, ev_sNx, ev_sSet, ev_sRet, ev_sSeq, ev_sIf, ev_sUnp, ev_sNew, ev_fLst, ev_fCat, ev_sApp, ev_sFrz, ev_sFor, ev_vNil, ev_vVal, ev_vOwn, ev_sTup, ev_eRd, ev_sRd, and_self, true_and, and_true, eq_self, eqS, eqI, neS, neI, decide_true, decide_false, decide_eq_true_eq, Bool.not_true, Bool.not_false, initE, setPat, setAll, op1, isBl, flFin, iterD, seqOf, List.length_cons, List.length_nil, Bool.false_eq_true, if_false, if_true, List.nil_append, List.map_cons, List.map_nil, List.replicate, List.cons_append, Option.bind_some, Option.map_some, List.set_cons_succ, List.set_cons_zero, List.getElem?_cons_zero, List.getElem?_cons_succ, Nat.reduceAdd, ev_eNot, ev_eOwnAdd, ev_chain3, ev_xGet, ev_eFnX, ev_eFnXK, ev_xOk, ev_xTup2, ev_sSetX, ev_sRetX, ev_sExpX, ev_sRaise, ev_sTry, ev_eIsE, ev_eFldC, ev_eLc2, ev_lOwn, ev_sExt, enum_map]
    rw [ev_sFor, it, Option.bind_some]
    refine forGo_all (E := SumE b ch) (fun d hd env he => ?_) ⟨x4, x5, x6, x7, x8, x9, x10, x11, rfl⟩
    obtain ⟨y4, y5, y6, y7, y8, y9, y10, y11, rfl⟩ := he
    obtain ⟨q, hq, rfl⟩ := List.mem_map.mp hd
    have hi := List.mk_mem_zipIdx_iff_getElem?.mp (show (q.1, q.2) ∈ b.ps.zipIdx from hq)
    exact ⟨_, rfl, _, sum2 hb hc hi y4 y5 y6 y7 y10 y11 rd, _, _, _, _, _, _, _, _, rfl⟩
  obtain ⟨e1, g1, h1⟩ := f1 _ ⟨.un, .un, .un, .un, .un, .un, .un, .un, rfl⟩
  obtain ⟨e2, g2, h2⟩ := f2 _ h1
  rw [e, b1, ev_sSeq, s0]
  simp only [Option.bind_some]
  rw [ev_sSeq, g1]
  simp only [Option.bind_some]
  rw [ev_sSeq, g2]
  rfl
/-! ### other values -/
theorem any_false {os : List Str} {f : D → Bool} (h : ∀ s : Str, s ∈ os → f (.str s) = false) : (os.map D.str).any f = false := by
  rw [List.any_eq_false]
  intro d hd
  obtain ⟨s, hs, rfl⟩ := List.mem_map.mp hd
  rw [h s hs]
  simp
theorem inB_not {k : Str} {os : List Str} (h : k ∉ os) : inB k os = false := by
  unfold inB inD inV
  rw [List.any_eq_false]
  intro v hv
  obtain ⟨d, hd, rfl⟩ := List.mem_map.mp hv
  obtain ⟨s, hs, rfl⟩ := List.mem_map.mp hd
  intro z
  have z' : (s == k) = true := z
  exact h (by rw [← eq_of_beq z']; exact hs)
theorem notin_str {k : Str} {os : List Str} (h : k ∉ os) : opInX true (.str k) (.tup (os.map .str)) = some (.bl true) := by
  rw [in_tup, inB_not h]
  rfl
theorem notin_flat {d : D} {os : List Str} (hf : flatD d = true) (h : ∀ s : Str, eqV (.str s) (toV d) = false) : opInX true d (.tup (os.map .str)) = some (.bl true) := by
  show (if flatD d = true ∧ (os.map D.str).all flatD = true then some (D.bl (if true = true then !inD d (os.map .str) else inD d (os.map .str))) else _) = _
  rw [if_pos ⟨hf, flat_strs os⟩]
  have : inD d (os.map .str) = false := by
    unfold inD inV
    rw [List.any_eq_false]
    intro v hv
    obtain ⟨e, he, rfl⟩ := List.mem_map.mp hv
    obtain ⟨s, _, rfl⟩ := List.mem_map.mp he
    have := h s
    show ¬ eqV (.str s) (toV d) = true
    rw [this]
    simp
  rw [this]
  rfl
theorem notin_deep {d : D} {os : List Str} (hf : flatD d = false) {m k : Nat} (hd : Sm m k d) (hk : k ≤ 64) (ho : ∀ s ∈ os, As 8 s) (hl : os.length ≤ 4) (h : ∀ s : Str, PyData.eqv (.str s) (toPy d) = false) : opInX true d (.tup (os.map .str)) = some (.bl true) := by
  have so : SeqAt.shaped (toPy (.tup (os.map .str))) = true := (sm_tup (m := 2000) (k := 0) (l := 4) (fun d hd => by
    obtain ⟨s, hs, rfl⟩ := List.mem_map.mp hd
    exact sm_text (ho s hs)) (by rw [List.length_map]; exact hl)).shaped (by omega)
  show (if flatD d = true ∧ (os.map D.str).all flatD = true then _ else if SeqAt.shaped (toPy d) = true ∧ SeqAt.shaped (toPy (.tup (os.map .str))) = true then some (D.bl (if true = true then !deepIn d (os.map .str) else deepIn d (os.map .str))) else none) = _
  rw [if_neg (by rw [hf]; simp), if_pos ⟨hd.shaped hk, so⟩]
  have : deepIn d (os.map .str) = false := by
    unfold deepIn
    exact any_false fun s _ => h s
  rw [this]
  rfl
def OddE (b : BK) (c : D) (env : List SV) : Prop := ∃ x2 x3 : SV, env = [.val b.d, .val c, x2, x3]
theorem odd_ok {b : BK} (hb : BkS b) (c : D) (rd : Rdr) : mf__law_odd_right [b.d, c] rd = some (.bl true, rd) := by
  have e : mf__law_odd_right [b.d, c] rd = (b__law_odd_right (initE false [b.d, c] 2) rd).bind flFin := rfl
  have b1 : b__law_odd_right = sSeq (sFor (eIter (eTup (aCons (eUn opNeg (eC (.int 1))) (aCons (eCall (op1 opLen) (aCons (eOp opIx (eVar 0) (eC (.int 1))) aNil)) (aCons (eC .non) (aCons (eC (.bl true)) (aCons (eC (.bl false)) (aCons (eC (.str ("0" : Str))) (aCons (eTup (aCons (eC (.int 0)) aNil)) (aCons (eLst (aCons (eC (.int 0)) aNil)) (aCons (eOp opPow (eC (.int 10)) (eC (.int 30))) aNil))))))))))) (.nm 3) oddB1)
      (sSeq (sFor (eIter (eTup (aCons (eC (.str ("zz" : Str))) (aCons (eC (.str ("" : Str))) (aCons (eC .non) (aCons (eC (.int 0)) (aCons (eC (.bl true)) (aCons (eTup (aCons (eC (.str ("gift" : Str))) aNil)) (aCons (eLst (aCons (eC (.str ("gift" : Str))) aNil)) (aCons (eOp opIx (eOp opIx (eVar 0) (eC (.int 0))) (eC (.int 0))) aNil)))))))))) (.nm 3) oddB2) (sRet (eC (.bl true)))) := rfl
  obtain ⟨p0, pr, hps⟩ := List.exists_cons_of_ne_nil hb.p1
  have p0S : PuS p0 := hb.ps p0 (by rw [hps]; exact List.mem_cons_self)
  have bl := hb.bl
  have bd : goodIx (.int (10 ^ (30 : Int).toNat)) b.bs.length = false := by
    show (decide ((0 : Int) ≤ 10 ^ (30 : Int).toNat) && decide ((10 : Int) ^ (30 : Int).toNat < (b.bs.length : Nat))) = false
    have e30 : (10 : Int) ^ (30 : Int).toNat = 1000000000000000000000000000000 := by decide +kernel
    rw [e30]
    simp
    omega
  have bm : goodIx (.int (-1)) b.bs.length = false := rfl
  have bn : goodIx (.int (b.bs.length : Nat)) b.bs.length = false := by
    show (decide ((0 : Int) ≤ (b.bs.length : Nat)) && decide (((b.bs.length : Nat) : Int) < (b.bs.length : Nat))) = false
    simp
  have l1 : ((1 : Nat) ≤ sizeLine) = True := szl (m := 1) (Nat.le_refl _)
  have l8 : ((8 : Nat) ≤ sizeLine) = True := szl (m := 8) (Nat.le_refl _)
  have l9 : ((9 : Nat) ≤ sizeLine) = True := szl (m := 9) (Nat.le_refl _)
  have ng : opNeg (.int 1) = some (.int (-1)) := rfl
  have p18 : ((0 : Int) ≤ 30) = True := by simp
  have p19 : ((30 : Int) ≤ 1000000) = True := by simp
  have p20 : ((10 : Int).natAbs < 2 ^ 64) = True := by simp
  have names : ∀ s ∈ b.ps.map (·.n), s ∈ four := fun s hs => by
    obtain ⟨p, hp, rfl⟩ := List.mem_map.mp hs
    exact (hb.ps p hp).n
  have n4 : (b.ps.map (·.n)).length ≤ 4 := by
    rw [List.length_map]
    exact hb.p4
  have zz : ("zz" : Str) ∉ four := by unfold four; decide +kernel
  have em : ("" : Str) ∉ four := by unfold four; decide +kernel
  have gi : As 8 ("gift" : Str) := as_four (by unfold four; decide +kernel)
  have ix0' : opIx (.tup (b.ps.map PU.d)) (.int 0) = some p0.d := by
    have ix := SeqD.ix (ds := b.ps.map PU.d) (d := .tup (b.ps.map PU.d)) (.inl rfl) (i := 0) (by rw [List.length_map, hps]; simp)
    have ge : (b.ps.map PU.d)[0]'(by rw [List.length_map, hps]; simp) = p0.d := by
      simp [hps]
    rw [ge] at ix
    exact ix
  have f1 : ∀ env, OddE b c env → ∃ env', sFor (eIter (eTup (aCons (eUn opNeg (eC (.int 1))) (aCons (eCall (op1 opLen) (aCons (eOp opIx (eVar 0) (eC (.int 1))) aNil)) (aCons (eC .non) (aCons (eC (.bl true)) (aCons (eC (.bl false)) (aCons (eC (.str ("0" : Str))) (aCons (eTup (aCons (eC (.int 0)) aNil)) (aCons (eLst (aCons (eC (.int 0)) aNil)) (aCons (eOp opPow (eC (.int 10)) (eC (.int 30))) aNil))))))))))) (.nm 3) oddB1 env rd = some (.nx env', rd) ∧ OddE b c env' := by
    rintro env ⟨x2, x3, rfl⟩
    have it : eIter (eTup (aCons (eUn opNeg (eC (.int 1))) (aCons (eCall (op1 opLen) (aCons (eOp opIx (eVar 0) (eC (.int 1))) aNil)) (aCons (eC .non) (aCons (eC (.bl true)) (aCons (eC (.bl false)) (aCons (eC (.str ("0" : Str))) (aCons (eTup (aCons (eC (.int 0)) aNil)) (aCons (eLst (aCons (eC (.int 0)) aNil)) (aCons (eOp opPow (eC (.int 10)) (eC (.int 30))) aNil)))))))))) [.val b.d, .val c, x2, x3] rd =
        some ([.int (-1), .int (b.bs.length : Nat), .non, .bl true, .bl false, .str ("0" : Str), .tup [.int 0], .lst [.int 0], .int (10 ^ (30 : Int).toNat)], rd) := by
      simp only [ev_bind1, ev_lift, ev_eC, ev_eVar, ev_eOp, ev_eUn, ev_eT, ev_mAnd, ev_mOr, ev_mNot, ev_eAnd, ev_eIf, ev_chain, ev_aNil, ev_aCons, ev_eTup, ev_eLst, ev_eCall, ev_eFn, ev_eFnR, ev_eIter, ev_eRange, ev_eLc, ev_eSl, ev_pNone, ev_pSome, ev_mFrz, ev_sNx, ev_sSet, ev_sRet, ev_sSeq, ev_sIf, ev_sUnp, ev_sNew, ev_fLst, ev_fCat, ev_sApp, ev_sFrz, ev_sFor, ev_vNil, ev_vVal, ev_vOwn, ev_sTup, ev_eRd, ev_sRd, and_self, true_and, and_true, eq_self, eqS, eqI, neS, neI, decide_true, decide_false, decide_eq_true_eq, Bool.not_true, Bool.not_false, initE, setPat, setAll, op1, isBl, flFin, iterD, seqOf, List.length_cons, List.length_nil, Bool.false_eq_true, if_false, if_true, List.nil_append, List.map_cons, List.map_nil, List.replicate, List.cons_append, Option.bind_some, Option.map_some, List.set_cons_succ, List.set_cons_zero, List.getElem?_cons_zero, List.getElem?_cons_succ, Nat.reduceAdd, ev_eNot, ev_eOwnAdd, ev_chain3, ev_xGet, ev_eFnX, ev_eFnXK, ev_xOk, ev_xTup2, ev_sSetX, ev_sRetX, ev_sExpX, ev_sRaise, ev_sTry, ev_eIsE, ev_eFldC, ev_eLc2, ev_lOwn, ev_sExt, BK.ix1, lenT, List.length_map, l1, l9, ng, opIi, p18, p19, p20]
    rw [ev_sFor, it, Option.bind_some]
    refine forGo_all (E := OddE b c) (fun d hd env he => ?_) ⟨x2, x3, rfl⟩
    obtain ⟨y2, y3, rfl⟩ := he
    refine ⟨_, rfl, _, odd1 b c d ?_ y2 rd, _, _, rfl⟩
    simp only [List.mem_cons, List.not_mem_nil, or_false] at hd
    rcases hd with rfl | rfl | rfl | rfl | rfl | rfl | rfl | rfl | rfl
    · exact bm
    · exact bn
    · rfl
    · rfl
    · rfl
    · rfl
    · rfl
    · rfl
    · exact bd
  have f2 : ∀ env, OddE b c env → ∃ env', sFor (eIter (eTup (aCons (eC (.str ("zz" : Str))) (aCons (eC (.str ("" : Str))) (aCons (eC .non) (aCons (eC (.int 0)) (aCons (eC (.bl true)) (aCons (eTup (aCons (eC (.str ("gift" : Str))) aNil)) (aCons (eLst (aCons (eC (.str ("gift" : Str))) aNil)) (aCons (eOp opIx (eOp opIx (eVar 0) (eC (.int 0))) (eC (.int 0))) aNil)))))))))) (.nm 3) oddB2 env rd = some (.nx env', rd) ∧ OddE b c env' := by
    rintro env ⟨x2, x3, rfl⟩
    have it : eIter (eTup (aCons (eC (.str ("zz" : Str))) (aCons (eC (.str ("" : Str))) (aCons (eC .non) (aCons (eC (.int 0)) (aCons (eC (.bl true)) (aCons (eTup (aCons (eC (.str ("gift" : Str))) aNil)) (aCons (eLst (aCons (eC (.str ("gift" : Str))) aNil)) (aCons (eOp opIx (eOp opIx (eVar 0) (eC (.int 0))) (eC (.int 0))) aNil))))))))) [.val b.d, .val c, x2, x3] rd =
        some ([.str ("zz" : Str), .str ("" : Str), .non, .int 0, .bl true, .tup [.str ("gift" : Str)], .lst [.str ("gift" : Str)], p0.d], rd) := by
      simp only [ev_bind1, ev_lift, ev_eC, ev_eVar, ev_eOp, ev_eUn, ev_eT, ev_mAnd, ev_mOr, ev_mNot, ev_eAnd, ev_eIf, ev_chain, ev_aNil, ev_aCons, ev_eTup, ev_eLst, ev_eCall, ev_eFn, ev_eFnR, ev_eIter, ev_eRange, ev_eLc, ev_eSl, ev_pNone, ev_pSome, ev_mFrz, ev_sNx, ev_sSet, ev_sRet, ev_sSeq, ev_sIf, ev_sUnp, ev_sNew, ev_fLst, ev_fCat, ev_sApp, ev_sFrz, ev_sFor, ev_vNil, ev_vVal, ev_vOwn, ev_sTup, ev_eRd, ev_sRd, and_self, true_and, and_true, eq_self, eqS, eqI, neS, neI, decide_true, decide_false, decide_eq_true_eq, Bool.not_true, Bool.not_false, initE, setPat, setAll, op1, isBl, flFin, iterD, seqOf, List.length_cons, List.length_nil, Bool.false_eq_true, if_false, if_true, List.nil_append, List.map_cons, List.map_nil, List.replicate, List.cons_append, Option.bind_some, Option.map_some, List.set_cons_succ, List.set_cons_zero, List.getElem?_cons_zero, List.getElem?_cons_succ, Nat.reduceAdd, ev_eNot, ev_eOwnAdd, ev_chain3, ev_xGet, ev_eFnX, ev_eFnXK, ev_xOk, ev_xTup2, ev_sSetX, ev_sRetX, ev_sExpX, ev_sRaise, ev_sTry, ev_eIsE, ev_eFldC, ev_eLc2, ev_lOwn, ev_sExt, BK.ix0, ix0', l1, l8]
    rw [ev_sFor, it, Option.bind_some]
    refine forGo_all (E := OddE b c) (fun d hd env he => ?_) ⟨x2, x3, rfl⟩
    obtain ⟨y2, y3, rfl⟩ := he
    have key : opInX true d (.tup ((b.ps.map (·.n)).map .str)) = some (.bl true) ∧ Sm 100000 10 d := by
      have st : Sm 2000 0 (.str ("gift" : Str)) := sm_text gi
      have s1 : Sm 2006 1 (.tup [.str ("gift" : Str)]) := sm_tup (l := 1) (fun e he => by rw [List.mem_singleton.mp he]; exact st) (by simp)
      have s2 : Sm 2006 1 (.lst [.str ("gift" : Str)]) := sm_lst (l := 1) (fun e he => by rw [List.mem_singleton.mp he]; exact st) (by simp)
      simp only [List.mem_cons, List.not_mem_nil, or_false] at hd
      rcases hd with rfl | rfl | rfl | rfl | rfl | rfl | rfl | rfl
      · exact ⟨notin_str fun z => zz (names _ z), (sm_text (by unfold As; decide +kernel)).mono (by omega) (by omega)⟩
      · exact ⟨notin_str fun z => em (names _ z), (sm_text (by unfold As; decide +kernel)).mono (by omega) (by omega)⟩
      · refine ⟨notin_flat rfl fun _ => rfl, ⟨?_, ?_, ?_, ?_⟩⟩
        · simp [toPy, PyData.showable]
        · simp [toPy, PyData.depth]
        · show (PyData.shown .none).length ≤ _
          exact Nat.le_trans (by decide +kernel : (PyData.shown .none).length ≤ 4) (by omega)
        · simp [toPy, PyData.canLay0]
      · exact ⟨notin_flat rfl fun _ => rfl, (sm_num (i := 0) (by decide)).mono (by omega) (by omega)⟩
      · refine ⟨notin_flat rfl fun _ => rfl, ⟨?_, ?_, ?_, ?_⟩⟩
        · simp [toPy, PyData.showable]
        · simp [toPy, PyData.depth]
        · show (PyData.shown (.bool true)).length ≤ _
          exact Nat.le_trans (by decide +kernel : (PyData.shown (.bool true)).length ≤ 4) (by omega)
        · simp [toPy, PyData.canLay0]
      · exact ⟨notin_deep rfl s1 (by omega) (fun s hs => as_four (names s hs)) n4 fun s => by simp [toPy, PyData.eqv], s1.mono (by omega) (by omega)⟩
      · exact ⟨notin_deep rfl s2 (by omega) (fun s hs => as_four (names s hs)) n4 fun s => by simp [toPy, PyData.eqv], s2.mono (by omega) (by omega)⟩
      · exact ⟨notin_deep rfl p0S.sm (by omega) (fun s hs => as_four (names s hs)) n4 fun s => by simp [PU.d, toPy, PyData.eqv], p0S.sm.mono (by omega) (by omega)⟩
    exact ⟨_, rfl, _, odd2 b (by have := hb.p4; omega) c d key.1 key.2 (by omega) (by omega) y2 rd, _, _, rfl⟩
  obtain ⟨e1, g1, h1⟩ := f1 (initE false [b.d, c] 2) ⟨.un, .un, rfl⟩
  obtain ⟨e2, g2, h2⟩ := f2 _ h1
  rw [e, b1, ev_sSeq, g1]
  simp only [Option.bind_some]
  rw [ev_sSeq, g2]
  rfl
end My

set_option Elab.async false
set_option linter.all false
set_option maxRecDepth 100000
set_option maxHeartbeats 4000000
namespace My
open PySem PySem.Spec PyProof.Rows L2 FW
theorem may_ok (p : PU) (day : Int) (k : Str) : ∃ c : Bool, ∀ rd, mf__law_may [p.d, .int day, .str k] rd = some (.bl c, rd) := by
  have i2 : opIx p.d (.int 2) = some (.tup (p.ks.map .str)) := rfl
  have i3 : opIx p.d (.int 3) = some (.int p.a) := rfl
  have i4 : opIx p.d (.int 4) = some (.int p.b) := rfl
  refine ⟨inB k p.ks && (decide (p.a ≤ day) && decide (day ≤ p.b)), fun rd => ?_⟩
  have e : mf__law_may [p.d, .int day, .str k] rd = (b__law_may (initE false [p.d, .int day, .str k] 0) rd).bind flFin := rfl
  rw [e]
  cases hb : inB k p.ks with
  | false => simp only [ev_bind1, ev_lift, ev_eC, ev_eVar, ev_eOp, ev_eUn, ev_eT, ev_mAnd, ev_mOr, ev_mNot, ev_eAnd, ev_eIf, ev_chain, ev_aNil, ev_aCons, ev_eTup, ev_eLst, ev_eCall, ev_eFn, ev_eFnR, ev_eIter, ev_eRange, ev_eLc, ev_eSl, ev_pNone, ev_pSome, ev_mFrz, ev_sNx, ev_sSet, ev_sRet, ev_sSeq, ev_sIf, ev_sUnp, ev_sNew, ev_fLst, ev_fCat, ev_sApp, ev_sFrz, ev_sFor, ev_vNil, ev_vVal, ev_vOwn, ev_sTup, ev_eRd, ev_sRd, and_self, true_and, and_true, eq_self, eqS, eqI, neS, neI, decide_true, decide_false, decide_eq_true_eq, Bool.not_true, Bool.not_false, initE, setPat, setAll, op1, isBl, flFin, iterD, seqOf, List.length_cons, List.length_nil, Bool.false_eq_true, if_false, if_true, List.nil_append, List.map_cons, List.map_nil, List.replicate, List.cons_append, Option.bind_some, Option.map_some, List.set_cons_succ, List.set_cons_zero, List.getElem?_cons_zero, List.getElem?_cons_succ, Nat.reduceAdd, ev_eNot, ev_eOwnAdd, ev_chain3, ev_xGet, ev_eFnX, ev_eFnXK, ev_xOk, ev_xTup2, ev_sSetX, ev_sRetX, ev_sExpX, ev_sRaise, ev_sTry, ev_eIsE, ev_eFldC, ev_eLc2, ev_lOwn, ev_sExt, b__law_may, i2, in_tup, hb, Bool.false_and]
  | true =>
    by_cases h1 : p.a ≤ day
    · simp only [ev_bind1, ev_lift, ev_eC, ev_eVar, ev_eOp, ev_eUn, ev_eT, ev_mAnd, ev_mOr, ev_mNot, ev_eAnd, ev_eIf, ev_chain, ev_aNil, ev_aCons, ev_eTup, ev_eLst, ev_eCall, ev_eFn, ev_eFnR, ev_eIter, ev_eRange, ev_eLc, ev_eSl, ev_pNone, ev_pSome, ev_mFrz, ev_sNx, ev_sSet, ev_sRet, ev_sSeq, ev_sIf, ev_sUnp, ev_sNew, ev_fLst, ev_fCat, ev_sApp, ev_sFrz, ev_sFor, ev_vNil, ev_vVal, ev_vOwn, ev_sTup, ev_eRd, ev_sRd, and_self, true_and, and_true, eq_self, eqS, eqI, neS, neI, decide_true, decide_false, decide_eq_true_eq, Bool.not_true, Bool.not_false, initE, setPat, setAll, op1, isBl, flFin, iterD, seqOf, List.length_cons, List.length_nil, Bool.false_eq_true, if_false, if_true, List.nil_append, List.map_cons, List.map_nil, List.replicate, List.cons_append, Option.bind_some, Option.map_some, List.set_cons_succ, List.set_cons_zero, List.getElem?_cons_zero, List.getElem?_cons_succ, Nat.reduceAdd, ev_eNot, ev_eOwnAdd, ev_chain3, ev_xGet, ev_eFnX, ev_eFnXK, ev_xOk, ev_xTup2, ev_sSetX, ev_sRetX, ev_sExpX, ev_sRaise, ev_sTry, ev_eIsE, ev_eFldC, ev_eLc2, ev_lOwn, ev_sExt, b__law_may, i2, i3, i4, in_tup, hb, cmpI, h1, Bool.true_and]
    · simp only [ev_bind1, ev_lift, ev_eC, ev_eVar, ev_eOp, ev_eUn, ev_eT, ev_mAnd, ev_mOr, ev_mNot, ev_eAnd, ev_eIf, ev_chain, ev_aNil, ev_aCons, ev_eTup, ev_eLst, ev_eCall, ev_eFn, ev_eFnR, ev_eIter, ev_eRange, ev_eLc, ev_eSl, ev_pNone, ev_pSome, ev_mFrz, ev_sNx, ev_sSet, ev_sRet, ev_sSeq, ev_sIf, ev_sUnp, ev_sNew, ev_fLst, ev_fCat, ev_sApp, ev_sFrz, ev_sFor, ev_vNil, ev_vVal, ev_vOwn, ev_sTup, ev_eRd, ev_sRd, and_self, true_and, and_true, eq_self, eqS, eqI, neS, neI, decide_true, decide_false, decide_eq_true_eq, Bool.not_true, Bool.not_false, initE, setPat, setAll, op1, isBl, flFin, iterD, seqOf, List.length_cons, List.length_nil, Bool.false_eq_true, if_false, if_true, List.nil_append, List.map_cons, List.map_nil, List.replicate, List.cons_append, Option.bind_some, Option.map_some, List.set_cons_succ, List.set_cons_zero, List.getElem?_cons_zero, List.getElem?_cons_succ, Nat.reduceAdd, ev_eNot, ev_eOwnAdd, ev_chain3, ev_xGet, ev_eFnX, ev_eFnXK, ev_xOk, ev_xTup2, ev_sSetX, ev_sRetX, ev_sExpX, ev_sRaise, ev_sTry, ev_eIsE, ev_eFldC, ev_eLc2, ev_lOwn, ev_sExt, b__law_may, i2, i3, i4, in_tup, hb, cmpI, h1, Bool.true_and, Bool.false_and]
def fD (q : List Int × Int) : D := .tup [shD q.1, .int q.2]
structure FS (k : Nat) (q : List Int × Int) : Prop where
  l : q.1.length = k
  s : ∀ s ∈ q.1, 0 ≤ s ∧ s ≤ 4
  lo : 0 ≤ q.2
  hi : q.2 ≤ 4
def spB1 : MM Fl := (sSeq (sSet 7 (eIf (eT (eFn mf__law_may 3 (aCons (eVar 3) (aCons (eOp opIx (eVar 1) (eC (.int 1))) (aCons (eOp opIx (eVar 1) (eC (.int 2))) aNil))))) (eVar 6) (eC (.int 0))))
  (sExt 4 (eLc (eRange range1 (aCons (eOp opAdd (eVar 7) (eC (.int 1))) aNil)) (.nm 8) [8] mYes (eTup (aCons (eOp opAdd (eVar 5) (eTup (aCons (eVar 8) aNil))) (aCons (eOp opSub (eVar 6) (eVar 8)) aNil))))))
def grow (q : List Int × Int) (n : Nat) : List (List Int × Int) := (List.range n).map fun (i : Nat) => (q.1 ++ [(i : Int)], q.2 - (i : Int))
theorem grow_fs {k : Nat} {q : List Int × Int} (h : FS k q) {m : Int} (h0 : 0 ≤ m) (h1 : m ≤ q.2) : (∀ z ∈ grow q (m + 1).toNat, FS (k + 1) z) ∧ (grow q (m + 1).toNat).length ≤ 5 := by
  refine ⟨fun z hz => ?_, ?_⟩
  · obtain ⟨i, hi, rfl⟩ := List.mem_map.mp hz
    have hi := List.mem_range.mp hi
    have := h.hi
    refine ⟨by rw [List.length_append, h.l]; rfl, fun s hs => ?_, by show 0 ≤ q.2 - (i : Int); omega, by show q.2 - (i : Int) ≤ 4; omega⟩
    rcases List.mem_append.mp hs with hs | hs
    · exact h.s s hs
    · rw [List.mem_singleton.mp hs]
      omega
  · unfold grow
    rw [List.length_map, List.length_range]
    have := h.hi
    omega
theorem sp1 {k : Nat} (hk : k ≤ 4) {bD rD : D} {p : PU} {day : Int} {kk : Str} (i1 : opIx rD (.int 1) = some (.int day)) (i2 : opIx rD (.int 2) = some (.str kk)) {q : List Int × Int} (h : FS k q) (x2 x7 x8 : SV) (gs : List (List Int × Int)) (hg : ∀ z ∈ gs, FS (k + 1) z) (hl : gs.length ≤ 10000) (rd : Rdr) :
    ∃ (gs' : List (List Int × Int)) (y7 : SV), spB1 [.val bD, .val rD, x2, .val p.d, .own (gs.map fD), .val (shD q.1), .val (.int q.2), x7, x8] rd = some (.nx [.val bD, .val rD, x2, .val p.d, .own (gs'.map fD), .val (shD q.1), .val (.int q.2), y7, x8], rd) ∧ (∀ z ∈ gs', FS (k + 1) z) ∧ gs'.length ≤ gs.length + 5 := by
  obtain ⟨c, hc⟩ := may_ok p day kk
  obtain ⟨m, hm, m0, m1⟩ : ∃ m : Int, (if c = true then q.2 else 0) = m ∧ 0 ≤ m ∧ m ≤ q.2 := by
    cases c with
    | true => exact ⟨q.2, rfl, h.lo, Int.le_refl _⟩
    | false => exact ⟨0, rfl, Int.le_refl _, h.lo⟩
  obtain ⟨g1, g2⟩ := grow_fs h m0 m1
  have hi := h.hi
  have rg : range1 [.int (m + 1)] = some ((List.range (m + 1).toNat).map fun (i : Nat) => D.int (0 + (i : Int))) := by
    have e : range1 [.int (m + 1)] = if okR (m + 1) = true then some (rangeD 0 (m + 1).toNat) else none := rfl
    rw [e, if_pos (by unfold okR; simp; omega)]
    rfl
  have lz : (((List.range (m + 1).toNat).map fun i : Nat => D.int (0 + (i : Int))).length ≤ sizeLine) = True := by
    rw [List.length_map, List.length_range]
    exact szl (m := 5) (by omega)
  have l1 : ((1 : Nat) ≤ sizeLine) = True := szl (m := 1) (Nat.le_refl _)
  have l2 : ((2 : Nat) ≤ sizeLine) = True := szl (m := 2) (Nat.le_refl _)
  have ad : ∀ i : Int, opAdd (shD q.1) (.tup [.int i]) = some (shD (q.1 ++ [i])) := fun i => by
    have e : opAdd (shD q.1) (.tup [.int i]) = if (q.1.map D.int).length + [D.int i].length ≤ sizeLine then some (.tup (q.1.map D.int ++ [D.int i])) else none := rfl
    have sz : (6 : Nat) ≤ sizeLine := by decide
    rw [e, if_pos (by rw [List.length_map, h.l]; simp only [List.length_cons, List.length_nil]; omega)]
    unfold shD
    rw [List.map_append]
    rfl
  have go : lcGo (.nm 8) mYes (eTup (aCons (eOp opAdd (eVar 5) (eTup (aCons (eVar 8) aNil))) (aCons (eOp opSub (eVar 6) (eVar 8)) aNil))) ((List.range (m + 1).toNat).map fun (i : Nat) => D.int (0 + (i : Int)))
      (wipeE [.val bD, .val rD, x2, .val p.d, .own (gs.map fD), .val (shD q.1), .val (.int q.2), .val (.int m), x8] [8]) rd = some ((grow q (m + 1).toNat).map fD, rd) := by
    have go := lcGo_P (f := fun i : Nat => D.int (0 + (i : Int))) (g := fun i => fD (q.1 ++ [(i : Int)], q.2 - (i : Int))) (b := fun _ => true) (p := .nm 8) (env := wipeE [.val bD, .val rD, x2, .val p.d, .own (gs.map fD), .val (shD q.1), .val (.int q.2), .val (.int m), x8] [8]) (rd := rd)
      (t := mYes) (e := eTup (aCons (eOp opAdd (eVar 5) (eTup (aCons (eVar 8) aNil))) (aCons (eOp opSub (eVar 6) (eVar 8)) aNil))) (as := List.range (m + 1).toNat) (fun i hi => by
        refine ⟨_, rfl, rfl, fun _ => ?_⟩
        simp only [ev_bind1, ev_lift, ev_eC, ev_eVar, ev_eOp, ev_eUn, ev_eT, ev_mAnd, ev_mOr, ev_mNot, ev_eAnd, ev_eIf, ev_chain, ev_aNil, ev_aCons, ev_eTup, ev_eLst, ev_eCall, ev_eFn, ev_eFnR, ev_eIter, ev_eRange, ev_eLc, ev_eSl, ev_pNone, ev_pSome, ev_mFrz, ev_sNx, ev_sSet, ev_sRet, ev_sSeq, ev_sIf, ev_sUnp, ev_sNew, ev_fLst, ev_fCat, ev_sApp, ev_sFrz, ev_sFor, ev_vNil, ev_vVal, ev_vOwn, ev_sTup, ev_eRd, ev_sRd, and_self, true_and, and_true, eq_self, eqS, eqI, neS, neI, decide_true, decide_false, decide_eq_true_eq, Bool.not_true, Bool.not_false, initE, setPat, setAll, op1, isBl, flFin, iterD, seqOf, List.length_cons, List.length_nil, Bool.false_eq_true, if_false, if_true, List.nil_append, List.map_cons, List.map_nil, List.replicate, List.cons_append, Option.bind_some, Option.map_some, List.set_cons_succ, List.set_cons_zero, List.getElem?_cons_zero, List.getElem?_cons_succ, Nat.reduceAdd, ev_eNot, ev_eOwnAdd, ev_chain3, ev_xGet, ev_eFnX, ev_eFnXK, ev_xOk, ev_xTup2, ev_sSetX, ev_sRetX, ev_sExpX, ev_sRaise, ev_sTry, ev_eIsE, ev_eFldC, ev_eLc2, ev_lOwn, ev_sExt, wipeE, l1, l2, Int.zero_add, ad, opIi, fD])
    rw [go, List.filter_eq_self.mpr (fun _ _ => rfl)]
    unfold grow
    rw [List.map_map]
    rfl
  have sz : (gs.map fD).length + ((grow q (m + 1).toNat).map fD).length ≤ sizeLine := by
    rw [List.length_map, List.length_map]
    have : (20000 : Nat) ≤ sizeLine := by decide
    omega
  have szT : ((gs.map fD).length + ((grow q (m + 1).toNat).map fD).length ≤ sizeLine) = True := by simpa using sz
  refine ⟨gs ++ grow q (m + 1).toNat, .val (.int m), ?_, fun z hz => ?_, by rw [List.length_append]; omega⟩
  · rw [List.map_append]
    cases c with
    | true =>
      have hm' : q.2 = m := hm
      simp only [ev_bind1, ev_lift, ev_eC, ev_eVar, ev_eOp, ev_eUn, ev_eT, ev_mAnd, ev_mOr, ev_mNot, ev_eAnd, ev_eIf, ev_chain, ev_aNil, ev_aCons, ev_eTup, ev_eLst, ev_eCall, ev_eFn, ev_eFnR, ev_eIter, ev_eRange, ev_eLc, ev_eSl, ev_pNone, ev_pSome, ev_mFrz, ev_sNx, ev_sSet, ev_sRet, ev_sSeq, ev_sIf, ev_sUnp, ev_sNew, ev_fLst, ev_fCat, ev_sApp, ev_sFrz, ev_sFor, ev_vNil, ev_vVal, ev_vOwn, ev_sTup, ev_eRd, ev_sRd, and_self, true_and, and_true, eq_self, eqS, eqI, neS, neI, decide_true, decide_false, decide_eq_true_eq, Bool.not_true, Bool.not_false, initE, setPat, setAll, op1, isBl, flFin, iterD, seqOf, List.length_cons, List.length_nil, Bool.false_eq_true, if_false, if_true, List.nil_append, List.map_cons, List.map_nil, List.replicate, List.cons_append, Option.bind_some, Option.map_some, List.set_cons_succ, List.set_cons_zero, List.getElem?_cons_zero, List.getElem?_cons_succ, Nat.reduceAdd, ev_eNot, ev_eOwnAdd, ev_chain3, ev_xGet, ev_eFnX, ev_eFnXK, ev_xOk, ev_xTup2, ev_sSetX, ev_sRetX, ev_sExpX, ev_sRaise, ev_sTry, ev_eIsE, ev_eFldC, ev_eLc2, ev_lOwn, ev_sExt, spB1, i1, i2, hc, hm', addI, rg, lz]
      simp only [hm'] at go
      simp only [go, Option.map_some, Option.bind_some, szT, if_true]
    | false =>
      have hm' : 0 = m := hm
      subst hm'
      simp only [ev_bind1, ev_lift, ev_eC, ev_eVar, ev_eOp, ev_eUn, ev_eT, ev_mAnd, ev_mOr, ev_mNot, ev_eAnd, ev_eIf, ev_chain, ev_aNil, ev_aCons, ev_eTup, ev_eLst, ev_eCall, ev_eFn, ev_eFnR, ev_eIter, ev_eRange, ev_eLc, ev_eSl, ev_pNone, ev_pSome, ev_mFrz, ev_sNx, ev_sSet, ev_sRet, ev_sSeq, ev_sIf, ev_sUnp, ev_sNew, ev_fLst, ev_fCat, ev_sApp, ev_sFrz, ev_sFor, ev_vNil, ev_vVal, ev_vOwn, ev_sTup, ev_eRd, ev_sRd, and_self, true_and, and_true, eq_self, eqS, eqI, neS, neI, decide_true, decide_false, decide_eq_true_eq, Bool.not_true, Bool.not_false, initE, setPat, setAll, op1, isBl, flFin, iterD, seqOf, List.length_cons, List.length_nil, Bool.false_eq_true, if_false, if_true, List.nil_append, List.map_cons, List.map_nil, List.replicate, List.cons_append, Option.bind_some, Option.map_some, List.set_cons_succ, List.set_cons_zero, List.getElem?_cons_zero, List.getElem?_cons_succ, Nat.reduceAdd, ev_eNot, ev_eOwnAdd, ev_chain3, ev_xGet, ev_eFnX, ev_eFnXK, ev_xOk, ev_xTup2, ev_sSetX, ev_sRetX, ev_sExpX, ev_sRaise, ev_sTry, ev_eIsE, ev_eFldC, ev_eLc2, ev_lOwn, ev_sExt, spB1, i1, i2, hc, addI, rg, lz, go, szT]
  · rcases List.mem_append.mp hz with hz | hz
    · exact hg z hz
    · exact g1 z hz
end My

set_option Elab.async false
set_option linter.all false
set_option maxRecDepth 100000
set_option maxHeartbeats 4000000
namespace My
open PySem PySem.Spec PyProof.Rows L2 FW
theorem forGo_ix {p : Pat} {b : MM Fl} {E : Nat → List SV → Prop} {rd : Rdr} : ∀ {ds : List D} {n : Nat} {env : List SV}, (∀ (i : Nat) (d : D), ds[i]? = some d → ∀ env, E (n + i) env → ∃ env1, setPat p d env = some env1 ∧ ∃ env2, b env1 rd = some (.nx env2, rd) ∧ E (n + i + 1) env2) → E n env → ∃ env', forGo p b ds env rd = some (.nx env', rd) ∧ E (n + ds.length) env'
  | [], n, env, _, he => ⟨env, rfl, he⟩
  | d :: ds, n, env, h, he => by
    obtain ⟨env1, s1, env2, t1, e2⟩ := h 0 d rfl env he
    obtain ⟨env', g1, g2⟩ := forGo_ix (p := p) (b := b) (E := E) (rd := rd) (ds := ds) (n := n + 1) (env := env2) (fun i x hx en he => by
      have := h (i + 1) x (by simpa using hx) en (by rw [show n + (i + 1) = n + 1 + i by omega]; exact he)
      rw [show n + (i + 1) + 1 = n + 1 + i + 1 by omega] at this
      exact this) e2
    refine ⟨env', ?_, by rw [List.length_cons, show n + (ds.length + 1) = n + 1 + ds.length by omega]; exact g2⟩
    unfold forGo
    simp only [s1, t1, Option.bind_some]
    exact g1
def spB2 : MM Fl := (sSeq (sNew 4 (fLst aNil))
  (sSeq (sFor (eIter (eVar 2)) (.tp [5, 6]) (sSeq (sSet 7 (eIf (eT (eFn mf__law_may 3 (aCons (eVar 3) (aCons (eOp opIx (eVar 1) (eC (.int 1))) (aCons (eOp opIx (eVar 1) (eC (.int 2))) aNil))))) (eVar 6) (eC (.int 0))))
  (sExt 4 (eLc (eRange range1 (aCons (eOp opAdd (eVar 7) (eC (.int 1))) aNil)) (.nm 8) [8] mYes (eTup (aCons (eOp opAdd (eVar 5) (eTup (aCons (eVar 8) aNil))) (aCons (eOp opSub (eVar 6) (eVar 8)) aNil)))))))
  (sFrz 4 (sSet 2 (eCall (op1 opList) (aCons (eVar 4) aNil))))))
/-- five times as many at each purse -/
def SpE (bD rD : D) (k : Nat) (env : List SV) : Prop := ∃ (fs : List (List Int × Int)) (x3 x4 x5 x6 x7 x8 : SV), env = [.val bD, .val rD, .val (.lst (fs.map fD)), x3, x4, x5, x6, x7, x8] ∧ (∀ z ∈ fs, FS k z) ∧ fs.length ≤ 5 ^ k
theorem sp2 {k : Nat} (hk : k < 4) {bD rD : D} {p : PU} {day : Int} {kk : Str} (i1 : opIx rD (.int 1) = some (.int day)) (i2 : opIx rD (.int 2) = some (.str kk)) (fs : List (List Int × Int)) (hf : ∀ z ∈ fs, FS k z) (hl : fs.length ≤ 5 ^ k) (x4 x5 x6 x7 x8 : SV) (rd : Rdr) :
    ∃ env', spB2 [.val bD, .val rD, .val (.lst (fs.map fD)), .val p.d, x4, x5, x6, x7, x8] rd = some (.nx env', rd) ∧ SpE bD rD (k + 1) env' := by
  have l0 : ((0 : Nat) ≤ sizeLine) = True := by simp
  have hk5 : 5 ^ k ≤ 125 := by
    have : k = 0 ∨ k = 1 ∨ k = 2 ∨ k = 3 := by omega
    rcases this with rfl | rfl | rfl | rfl <;> decide
  have inner : ∀ env, (∃ (gs : List (List Int × Int)) (y5 y6 y7 y8 : SV), env = [.val bD, .val rD, .val (.lst (fs.map fD)), .val p.d, .own (gs.map fD), y5, y6, y7, y8] ∧ gs = []) →
      ∃ env', sFor (eIter (eVar 2)) (.tp [5, 6]) spB1 env rd = some (.nx env', rd) ∧ ∃ (gs : List (List Int × Int)) (y5 y6 y7 y8 : SV), env' = [.val bD, .val rD, .val (.lst (fs.map fD)), .val p.d, .own (gs.map fD), y5, y6, y7, y8] ∧ (∀ z ∈ gs, FS (k + 1) z) ∧ gs.length ≤ 5 * fs.length := by
    rintro env ⟨gs0, y5, y6, y7, y8, rfl, rfl⟩
    have it : eIter (eVar 2) [.val bD, .val rD, .val (.lst (fs.map fD)), .val p.d, .own (([] : List (List Int × Int)).map fD), y5, y6, y7, y8] rd = some (fs.map fD, rd) := by simp only [ev_bind1, ev_lift, ev_eC, ev_eVar, ev_eOp, ev_eUn, ev_eT, ev_mAnd, ev_mOr, ev_mNot, ev_eAnd, ev_eIf, ev_chain, ev_aNil, ev_aCons, ev_eTup, ev_eLst, ev_eCall, ev_eFn, ev_eFnR, ev_eIter, ev_eRange, ev_eLc, ev_eSl, ev_pNone, ev_pSome, ev_mFrz, ev_sNx, ev_sSet, ev_sRet, ev_sSeq, ev_sIf, ev_sUnp, ev_sNew, ev_fLst, ev_fCat, ev_sApp, ev_sFrz, ev_sFor, ev_vNil, ev_vVal, ev_vOwn, ev_sTup, ev_eRd, ev_sRd, and_self, true_and, and_true, eq_self, eqS, eqI, neS, neI, decide_true, decide_false, decide_eq_true_eq, Bool.not_true, Bool.not_false, initE, setPat, setAll, op1, isBl, flFin, iterD, seqOf, List.length_cons, List.length_nil, Bool.false_eq_true, if_false, if_true, List.nil_append, List.map_cons, List.map_nil, List.replicate, List.cons_append, Option.bind_some, Option.map_some, List.set_cons_succ, List.set_cons_zero, List.getElem?_cons_zero, List.getElem?_cons_succ, Nat.reduceAdd, ev_eNot, ev_eOwnAdd, ev_chain3, ev_xGet, ev_eFnX, ev_eFnXK, ev_xOk, ev_xTup2, ev_sSetX, ev_sRetX, ev_sExpX, ev_sRaise, ev_sTry, ev_eIsE, ev_eFldC, ev_eLc2, ev_lOwn, ev_sExt]
    rw [ev_sFor, it, Option.bind_some]
    obtain ⟨env', g1, g2⟩ := forGo_ix (p := .tp [5, 6]) (b := spB1) (rd := rd) (ds := fs.map fD) (n := 0) (env := [.val bD, .val rD, .val (.lst (fs.map fD)), .val p.d, .own (([] : List (List Int × Int)).map fD), y5, y6, y7, y8])
      (E := fun j env => ∃ (gs : List (List Int × Int)) (y5 y6 y7 y8 : SV), env = [.val bD, .val rD, .val (.lst (fs.map fD)), .val p.d, .own (gs.map fD), y5, y6, y7, y8] ∧ (∀ z ∈ gs, FS (k + 1) z) ∧ gs.length ≤ 5 * j) (fun i d hd env he => by
        obtain ⟨gs, y5, y6, y7, y8, rfl, hg, hgl⟩ := he
        rw [List.getElem?_map] at hd
        obtain ⟨q, hq, rfl⟩ := Option.map_eq_some_iff.mp hd
        have hqm := List.mem_of_getElem? hq
        have hi : i < fs.length := (List.getElem?_eq_some_iff.mp hq).1
        obtain ⟨gs', y7', e1, e2, e3⟩ := sp1 (by omega) i1 i2 (hf q hqm) (.val (.lst (fs.map fD))) y7 y8 gs hg (by omega) rd
        exact ⟨_, rfl, _, e1, gs', _, _, _, _, rfl, e2, by omega⟩) ⟨[], y5, y6, y7, y8, rfl, fun z hz => (List.not_mem_nil hz).elim, by simp⟩
    rw [List.length_map, Nat.zero_add] at g2
    exact ⟨env', g1, g2⟩
  obtain ⟨env', g1, gs, y5, y6, y7, y8, rfl, g2, g3⟩ := inner [.val bD, .val rD, .val (.lst (fs.map fD)), .val p.d, .own (([] : List (List Int × Int)).map fD), x5, x6, x7, x8] ⟨[], x5, x6, x7, x8, rfl, rfl⟩
  have b2 : spB2 = sSeq (sNew 4 (fLst aNil)) (sSeq (sFor (eIter (eVar 2)) (.tp [5, 6]) spB1) (sFrz 4 (sSet 2 (eCall (op1 opList) (aCons (eVar 4) aNil))))) := rfl
  have s0 : sNew 4 (fLst aNil) [.val bD, .val rD, .val (.lst (fs.map fD)), .val p.d, x4, x5, x6, x7, x8] rd = some (.nx [.val bD, .val rD, .val (.lst (fs.map fD)), .val p.d, .own (([] : List (List Int × Int)).map fD), x5, x6, x7, x8], rd) := by
    simp only [ev_bind1, ev_lift, ev_eC, ev_eVar, ev_eOp, ev_eUn, ev_eT, ev_mAnd, ev_mOr, ev_mNot, ev_eAnd, ev_eIf, ev_chain, ev_aNil, ev_aCons, ev_eTup, ev_eLst, ev_eCall, ev_eFn, ev_eFnR, ev_eIter, ev_eRange, ev_eLc, ev_eSl, ev_pNone, ev_pSome, ev_mFrz, ev_sNx, ev_sSet, ev_sRet, ev_sSeq, ev_sIf, ev_sUnp, ev_sNew, ev_fLst, ev_fCat, ev_sApp, ev_sFrz, ev_sFor, ev_vNil, ev_vVal, ev_vOwn, ev_sTup, ev_eRd, ev_sRd, and_self, true_and, and_true, eq_self, eqS, eqI, neS, neI, decide_true, decide_false, decide_eq_true_eq, Bool.not_true, Bool.not_false, initE, setPat, setAll, op1, isBl, flFin, iterD, seqOf, List.length_cons, List.length_nil, Bool.false_eq_true, if_false, if_true, List.nil_append, List.map_cons, List.map_nil, List.replicate, List.cons_append, Option.bind_some, Option.map_some, List.set_cons_succ, List.set_cons_zero, List.getElem?_cons_zero, List.getElem?_cons_succ, Nat.reduceAdd, ev_eNot, ev_eOwnAdd, ev_chain3, ev_xGet, ev_eFnX, ev_eFnXK, ev_xOk, ev_xTup2, ev_sSetX, ev_sRetX, ev_sExpX, ev_sRaise, ev_sTry, ev_eIsE, ev_eFldC, ev_eLc2, ev_lOwn, ev_sExt, l0]
  have ol : ∀ l : List D, opList (.lst l) = some (.lst l) := fun _ => rfl
  have s3 : sFrz 4 (sSet 2 (eCall (op1 opList) (aCons (eVar 4) aNil))) [.val bD, .val rD, .val (.lst (fs.map fD)), .val p.d, .own (gs.map fD), y5, y6, y7, y8] rd = some (.nx [.val bD, .val rD, .val (.lst (gs.map fD)), .val p.d, .val (.lst (gs.map fD)), y5, y6, y7, y8], rd) := by
    have fz : frzAt 4 [.val bD, .val rD, .val (.lst (fs.map fD)), .val p.d, .own (gs.map fD), y5, y6, y7, y8] = [.val bD, .val rD, .val (.lst (fs.map fD)), .val p.d, .val (.lst (gs.map fD)), y5, y6, y7, y8] := rfl
    rw [ev_sFrz, fz]
    simp only [ev_bind1, ev_lift, ev_eC, ev_eVar, ev_eOp, ev_eUn, ev_eT, ev_mAnd, ev_mOr, ev_mNot, ev_eAnd, ev_eIf, ev_chain, ev_aNil, ev_aCons, ev_eTup, ev_eLst, ev_eCall, ev_eFn, ev_eFnR, ev_eIter, ev_eRange, ev_eLc, ev_eSl, ev_pNone, ev_pSome, ev_mFrz, ev_sNx, ev_sSet, ev_sRet, ev_sSeq, ev_sIf, ev_sUnp, ev_sNew, ev_fLst, ev_fCat, ev_sApp, ev_sFrz, ev_sFor, ev_vNil, ev_vVal, ev_vOwn, ev_sTup, ev_eRd, ev_sRd, and_self, true_and, and_true, eq_self, eqS, eqI, neS, neI, decide_true, decide_false, decide_eq_true_eq, Bool.not_true, Bool.not_false, initE, setPat, setAll, op1, isBl, flFin, iterD, seqOf, List.length_cons, List.length_nil, Bool.false_eq_true, if_false, if_true, List.nil_append, List.map_cons, List.map_nil, List.replicate, List.cons_append, Option.bind_some, Option.map_some, List.set_cons_succ, List.set_cons_zero, List.getElem?_cons_zero, List.getElem?_cons_succ, Nat.reduceAdd, ev_eNot, ev_eOwnAdd, ev_chain3, ev_xGet, ev_eFnX, ev_eFnXK, ev_xOk, ev_xTup2, ev_sSetX, ev_sRetX, ev_sExpX, ev_sRaise, ev_sTry, ev_eIsE, ev_eFldC, ev_eLc2, ev_lOwn, ev_sExt, ol]
  refine ⟨[.val bD, .val rD, .val (.lst (gs.map fD)), .val p.d, .val (.lst (gs.map fD)), y5, y6, y7, y8], ?_, gs, .val p.d, .val (.lst (gs.map fD)), y5, y6, y7, y8, rfl, g2, by rw [Nat.pow_succ]; omega⟩
  rw [b2, ev_sSeq, s0]
  simp only [Option.bind_some]
  rw [ev_sSeq, g1]
  simp only [Option.bind_some]
  exact s3
theorem splits_ok {b : BK} (hb : BkS b) {r : RW} (ho : r.op = true) (ha : 0 ≤ r.am ∧ r.am ≤ 4) (rd : Rdr) : ∃ L : List (List Int), mf__law_splits [b.d, r.d] rd = some (.lst (L.map shD), rd) ∧ (∀ sh ∈ L, Sh4 b.ps.length sh) ∧ L.length ≤ 700 := by
  have e : mf__law_splits [b.d, r.d] rd = (b__law_splits (initE false [b.d, r.d] 7) rd).bind flFin := rfl
  have b1 : b__law_splits = sSeq (sSet 2 (eLst (aCons (eTup (aCons (eTup aNil) (aCons (eOp opIx (eVar 1) (eC (.int 3))) aNil))) aNil))) (sSeq (sFor (eIter (eOp opIx (eVar 0) (eC (.int 0)))) (.nm 3) spB2)
      (sRet (eLc (eIter (eVar 2)) (.tp [5, 6]) [5, 6] (eT (eOp opEq (eVar 6) (eC (.int 0)))) (eVar 5)))) := rfl
  have i3 : opIx r.d (.int 3) = some (.int r.am) := by
    have e : opIx r.d (.int 3) = some (if r.op = true then .int r.am else shD r.sh) := rfl
    rw [e, ho]
    rfl
  have i2 : opIx r.d (.int 2) = some (.str r.k) := rfl
  have l0 : ((0 : Nat) ≤ sizeLine) = True := by simp
  have l1 : ((1 : Nat) ≤ sizeLine) = True := szl (m := 1) (Nat.le_refl _)
  have l2 : ((2 : Nat) ≤ sizeLine) = True := szl (m := 2) (Nat.le_refl _)
  have s0 : sSet 2 (eLst (aCons (eTup (aCons (eTup aNil) (aCons (eOp opIx (eVar 1) (eC (.int 3))) aNil))) aNil)) (initE false [b.d, r.d] 7) rd = some (.nx [.val b.d, .val r.d, .val (.lst ([(([] : List Int), r.am)].map fD)), .un, .un, .un, .un, .un, .un], rd) := by
    simp only [ev_bind1, ev_lift, ev_eC, ev_eVar, ev_eOp, ev_eUn, ev_eT, ev_mAnd, ev_mOr, ev_mNot, ev_eAnd, ev_eIf, ev_chain, ev_aNil, ev_aCons, ev_eTup, ev_eLst, ev_eCall, ev_eFn, ev_eFnR, ev_eIter, ev_eRange, ev_eLc, ev_eSl, ev_pNone, ev_pSome, ev_mFrz, ev_sNx, ev_sSet, ev_sRet, ev_sSeq, ev_sIf, ev_sUnp, ev_sNew, ev_fLst, ev_fCat, ev_sApp, ev_sFrz, ev_sFor, ev_vNil, ev_vVal, ev_vOwn, ev_sTup, ev_eRd, ev_sRd, and_self, true_and, and_true, eq_self, eqS, eqI, neS, neI, decide_true, decide_false, decide_eq_true_eq, Bool.not_true, Bool.not_false, initE, setPat, setAll, op1, isBl, flFin, iterD, seqOf, List.length_cons, List.length_nil, Bool.false_eq_true, if_false, if_true, List.nil_append, List.map_cons, List.map_nil, List.replicate, List.cons_append, Option.bind_some, Option.map_some, List.set_cons_succ, List.set_cons_zero, List.getElem?_cons_zero, List.getElem?_cons_succ, Nat.reduceAdd, ev_eNot, ev_eOwnAdd, ev_chain3, ev_xGet, ev_eFnX, ev_eFnXK, ev_xOk, ev_xTup2, ev_sSetX, ev_sRetX, ev_sExpX, ev_sRaise, ev_sTry, ev_eIsE, ev_eFldC, ev_eLc2, ev_lOwn, ev_sExt, i3, l0, l1, l2, fD, shD]
  have it : eIter (eOp opIx (eVar 0) (eC (.int 0))) [.val b.d, .val r.d, .val (.lst ([(([] : List Int), r.am)].map fD)), .un, .un, .un, .un, .un, .un] rd = some (b.ps.map PU.d, rd) := by
    simp only [ev_bind1, ev_lift, ev_eC, ev_eVar, ev_eOp, ev_eUn, ev_eT, ev_mAnd, ev_mOr, ev_mNot, ev_eAnd, ev_eIf, ev_chain, ev_aNil, ev_aCons, ev_eTup, ev_eLst, ev_eCall, ev_eFn, ev_eFnR, ev_eIter, ev_eRange, ev_eLc, ev_eSl, ev_pNone, ev_pSome, ev_mFrz, ev_sNx, ev_sSet, ev_sRet, ev_sSeq, ev_sIf, ev_sUnp, ev_sNew, ev_fLst, ev_fCat, ev_sApp, ev_sFrz, ev_sFor, ev_vNil, ev_vVal, ev_vOwn, ev_sTup, ev_eRd, ev_sRd, and_self, true_and, and_true, eq_self, eqS, eqI, neS, neI, decide_true, decide_false, decide_eq_true_eq, Bool.not_true, Bool.not_false, initE, setPat, setAll, op1, isBl, flFin, iterD, seqOf, List.length_cons, List.length_nil, Bool.false_eq_true, if_false, if_true, List.nil_append, List.map_cons, List.map_nil, List.replicate, List.cons_append, Option.bind_some, Option.map_some, List.set_cons_succ, List.set_cons_zero, List.getElem?_cons_zero, List.getElem?_cons_succ, Nat.reduceAdd, ev_eNot, ev_eOwnAdd, ev_chain3, ev_xGet, ev_eFnX, ev_eFnXK, ev_xOk, ev_xTup2, ev_sSetX, ev_sRetX, ev_sExpX, ev_sRaise, ev_sTry, ev_eIsE, ev_eFldC, ev_eLc2, ev_lOwn, ev_sExt, BK.ix0]
  obtain ⟨env', g1, g2⟩ := forGo_ix (p := .nm 3) (b := spB2) (rd := rd) (ds := b.ps.map PU.d) (n := 0) (env := [.val b.d, .val r.d, .val (.lst ([(([] : List Int), r.am)].map fD)), .un, .un, .un, .un, .un, .un]) (E := SpE b.d r.d) (fun i d hd env he => by
    obtain ⟨fs, x3, x4, x5, x6, x7, x8, rfl, hf, hl⟩ := he
    rw [List.getElem?_map] at hd
    obtain ⟨p, hp, rfl⟩ := Option.map_eq_some_iff.mp hd
    have hi : i < b.ps.length := (List.getElem?_eq_some_iff.mp hp).1
    have h4 := hb.p4
    rw [Nat.zero_add] at hf hl
    obtain ⟨env', e1, e2⟩ := sp2 (k := i) (by omega) (p := p) r.ix1 i2 fs hf hl x4 x5 x6 x7 x8 rd
    exact ⟨_, rfl, env', e1, by rw [Nat.zero_add]; exact e2⟩) ⟨[([], r.am)], _, _, _, _, _, _, rfl, fun z hz => by
      rw [List.mem_singleton.mp hz]
      exact ⟨rfl, fun s hs => (List.not_mem_nil hs).elim, ha.1, ha.2⟩, by simp⟩
  rw [List.length_map, Nat.zero_add] at g2
  obtain ⟨fs, x3, x4, x5, x6, x7, x8, rfl, hf, hl⟩ := g2
  have h4 := hb.p4
  have hl2 : fs.length ≤ 625 := Nat.le_trans hl (Nat.pow_le_pow_right (by omega) h4)
  have lz : ((fs.map fD).length ≤ sizeLine) = True := by
    rw [List.length_map]
    exact szl (m := 700) (by omega)
  have go := lcGo_P (f := fD) (g := fun q => shD q.1) (b := fun q => decide (q.2 = 0)) (p := .tp [5, 6]) (env := wipeE [.val b.d, .val r.d, .val (.lst (fs.map fD)), x3, x4, x5, x6, x7, x8] [5, 6]) (rd := rd) (t := eT (eOp opEq (eVar 6) (eC (.int 0)))) (e := eVar 5) (as := fs) (fun q hq => by
    refine ⟨_, rfl, ?_, fun _ => ?_⟩
    · by_cases h : q.2 = 0
      · simp only [ev_bind1, ev_lift, ev_eC, ev_eVar, ev_eOp, ev_eUn, ev_eT, ev_mAnd, ev_mOr, ev_mNot, ev_eAnd, ev_eIf, ev_chain, ev_aNil, ev_aCons, ev_eTup, ev_eLst, ev_eCall, ev_eFn, ev_eFnR, ev_eIter, ev_eRange, ev_eLc, ev_eSl, ev_pNone, ev_pSome, ev_mFrz, ev_sNx, ev_sSet, ev_sRet, ev_sSeq, ev_sIf, ev_sUnp, ev_sNew, ev_fLst, ev_fCat, ev_sApp, ev_sFrz, ev_sFor, ev_vNil, ev_vVal, ev_vOwn, ev_sTup, ev_eRd, ev_sRd, and_self, true_and, and_true, eq_self, eqS, eqI, neS, neI, decide_true, decide_false, decide_eq_true_eq, Bool.not_true, Bool.not_false, initE, setPat, setAll, op1, isBl, flFin, iterD, seqOf, List.length_cons, List.length_nil, Bool.false_eq_true, if_false, if_true, List.nil_append, List.map_cons, List.map_nil, List.replicate, List.cons_append, Option.bind_some, Option.map_some, List.set_cons_succ, List.set_cons_zero, List.getElem?_cons_zero, List.getElem?_cons_succ, Nat.reduceAdd, ev_eNot, ev_eOwnAdd, ev_chain3, ev_xGet, ev_eFnX, ev_eFnXK, ev_xOk, ev_xTup2, ev_sSetX, ev_sRetX, ev_sExpX, ev_sRaise, ev_sTry, ev_eIsE, ev_eFldC, ev_eLc2, ev_lOwn, ev_sExt, wipeE, h]
      · simp only [ev_bind1, ev_lift, ev_eC, ev_eVar, ev_eOp, ev_eUn, ev_eT, ev_mAnd, ev_mOr, ev_mNot, ev_eAnd, ev_eIf, ev_chain, ev_aNil, ev_aCons, ev_eTup, ev_eLst, ev_eCall, ev_eFn, ev_eFnR, ev_eIter, ev_eRange, ev_eLc, ev_eSl, ev_pNone, ev_pSome, ev_mFrz, ev_sNx, ev_sSet, ev_sRet, ev_sSeq, ev_sIf, ev_sUnp, ev_sNew, ev_fLst, ev_fCat, ev_sApp, ev_sFrz, ev_sFor, ev_vNil, ev_vVal, ev_vOwn, ev_sTup, ev_eRd, ev_sRd, and_self, true_and, and_true, eq_self, eqS, eqI, neS, neI, decide_true, decide_false, decide_eq_true_eq, Bool.not_true, Bool.not_false, initE, setPat, setAll, op1, isBl, flFin, iterD, seqOf, List.length_cons, List.length_nil, Bool.false_eq_true, if_false, if_true, List.nil_append, List.map_cons, List.map_nil, List.replicate, List.cons_append, Option.bind_some, Option.map_some, List.set_cons_succ, List.set_cons_zero, List.getElem?_cons_zero, List.getElem?_cons_succ, Nat.reduceAdd, ev_eNot, ev_eOwnAdd, ev_chain3, ev_xGet, ev_eFnX, ev_eFnXK, ev_xOk, ev_xTup2, ev_sSetX, ev_sRetX, ev_sExpX, ev_sRaise, ev_sTry, ev_eIsE, ev_eFldC, ev_eLc2, ev_lOwn, ev_sExt, wipeE, h]
    · simp only [ev_bind1, ev_lift, ev_eC, ev_eVar, ev_eOp, ev_eUn, ev_eT, ev_mAnd, ev_mOr, ev_mNot, ev_eAnd, ev_eIf, ev_chain, ev_aNil, ev_aCons, ev_eTup, ev_eLst, ev_eCall, ev_eFn, ev_eFnR, ev_eIter, ev_eRange, ev_eLc, ev_eSl, ev_pNone, ev_pSome, ev_mFrz, ev_sNx, ev_sSet, ev_sRet, ev_sSeq, ev_sIf, ev_sUnp, ev_sNew, ev_fLst, ev_fCat, ev_sApp, ev_sFrz, ev_sFor, ev_vNil, ev_vVal, ev_vOwn, ev_sTup, ev_eRd, ev_sRd, and_self, true_and, and_true, eq_self, eqS, eqI, neS, neI, decide_true, decide_false, decide_eq_true_eq, Bool.not_true, Bool.not_false, initE, setPat, setAll, op1, isBl, flFin, iterD, seqOf, List.length_cons, List.length_nil, Bool.false_eq_true, if_false, if_true, List.nil_append, List.map_cons, List.map_nil, List.replicate, List.cons_append, Option.bind_some, Option.map_some, List.set_cons_succ, List.set_cons_zero, List.getElem?_cons_zero, List.getElem?_cons_succ, Nat.reduceAdd, ev_eNot, ev_eOwnAdd, ev_chain3, ev_xGet, ev_eFnX, ev_eFnXK, ev_xOk, ev_xTup2, ev_sSetX, ev_sRetX, ev_sExpX, ev_sRaise, ev_sTry, ev_eIsE, ev_eFldC, ev_eLc2, ev_lOwn, ev_sExt, wipeE])
  refine ⟨(fs.filter fun q => decide (q.2 = 0)).map (·.1), ?_, fun sh hs => ?_, ?_⟩
  · rw [e, b1, ev_sSeq, s0]
    simp only [Option.bind_some]
    rw [ev_sSeq, ev_sFor, it]
    simp only [Option.bind_some]
    rw [g1]
    simp only [Option.bind_some]
    rw [List.map_map]
    simp only [ev_bind1, ev_lift, ev_eC, ev_eVar, ev_eOp, ev_eUn, ev_eT, ev_mAnd, ev_mOr, ev_mNot, ev_eAnd, ev_eIf, ev_chain, ev_aNil, ev_aCons, ev_eTup, ev_eLst, ev_eCall, ev_eFn, ev_eFnR, ev_eIter, ev_eRange, ev_eLc, ev_eSl, ev_pNone, ev_pSome, ev_mFrz, ev_sNx, ev_sSet, ev_sRet, ev_sSeq, ev_sIf, ev_sUnp, ev_sNew, ev_fLst, ev_fCat, ev_sApp, ev_sFrz, ev_sFor, ev_vNil, ev_vVal, ev_vOwn, ev_sTup, ev_eRd, ev_sRd, and_self, true_and, and_true, eq_self, eqS, eqI, neS, neI, decide_true, decide_false, decide_eq_true_eq, Bool.not_true, Bool.not_false, initE, setPat, setAll, op1, isBl, flFin, iterD, seqOf, List.length_cons, List.length_nil, Bool.false_eq_true, if_false, if_true, List.nil_append, List.map_cons, List.map_nil, List.replicate, List.cons_append, Option.bind_some, Option.map_some, List.set_cons_succ, List.set_cons_zero, List.getElem?_cons_zero, List.getElem?_cons_succ, Nat.reduceAdd, ev_eNot, ev_eOwnAdd, ev_chain3, ev_xGet, ev_eFnX, ev_eFnXK, ev_xOk, ev_xTup2, ev_sSetX, ev_sRetX, ev_sExpX, ev_sRaise, ev_sTry, ev_eIsE, ev_eFldC, ev_eLc2, ev_lOwn, ev_sExt, lz, go]
    rfl
  · obtain ⟨q, hq, rfl⟩ := List.mem_map.mp hs
    have h := hf q (List.mem_filter.mp hq).1
    exact ⟨h.l, h.s⟩
  · rw [List.length_map]
    exact Nat.le_trans (List.length_filter_le _ _) (by omega)
end My

set_option Elab.async false
set_option linter.all false
set_option maxRecDepth 100000
set_option maxHeartbeats 4000000
namespace My
open PySem PySem.Spec PyProof.Rows L2 FW
theorem forGo_wpI {p : Pat} {b : MM Fl} {E : Nat → List SV → Rdr → Prop} : ∀ {ds : List D} {n : Nat} {env : List SV} {rd : Rdr},
    (∀ (i : Nat) (d : D), ds[i]? = some d → ∀ env r, E (n + i) env r → ∃ env1, setPat p d env = some env1 ∧ Wp (b env1 r) fun fl r1 => ∃ env2, fl = .nx env2 ∧ E (n + i + 1) env2 r1) →
    E n env rd → Wp (forGo p b ds env rd) fun fl rd' => ∃ env', fl = .nx env' ∧ E (n + ds.length) env' rd'
  | [], n, env, rd, _, he => ⟨.nx env, rd, rfl, env, rfl, he⟩
  | d :: ds, n, env, rd, h, he => by
    obtain ⟨env1, s1, fl, r1, t1, env2, rfl, e2⟩ := h 0 d rfl env rd he
    have ih := forGo_wpI (p := p) (b := b) (E := E) (ds := ds) (n := n + 1) (env := env2) (rd := r1) (fun i x hx en r' hk => by
      have := h (i + 1) x (by simpa using hx) en r' (by rw [show n + (i + 1) = n + 1 + i by omega]; exact hk)
      rw [show n + (i + 1) + 1 = n + 1 + i + 1 by omega] at this
      exact this) e2
    have en : n + 1 + ds.length = n + (d :: ds).length := by rw [List.length_cons]; omega
    rw [en] at ih
    obtain ⟨fl, r3, g1, env', rfl, g2⟩ := ih
    refine ⟨.nx env', r3, ?_, env', rfl, g2⟩
    unfold forGo
    simp only [s1, t1, Option.bind_some]
    exact g1
theorem lcGo_wpA {A : Type} {f : D → A → Prop} {p : Pat} {e : MM D} {env : List SV} {J : Nat → Rdr → Prop} {g : A → D} : ∀ {ds : List D} {n : Nat} {rd : Rdr},
    (∀ d ∈ ds, ∀ k r, k < n + ds.length → J k r → ∃ env1, setPat p d env = some env1 ∧ Wp (e env1 r) fun y r2 => (∃ a, y = g a ∧ f d a) ∧ J (k + 1) r2) →
    J n rd → Wp (lcGo p mYes e ds env rd) fun ys rd' => (∃ as : List A, ys = as.map g ∧ as.length = ds.length ∧ ∀ a ∈ as, ∃ d ∈ ds, f d a) ∧ J (n + ds.length) rd'
  | [], n, rd, _, hj => ⟨[], rd, rfl, ⟨[], rfl, rfl, fun a ha => (List.not_mem_nil ha).elim⟩, hj⟩
  | d :: ds, n, rd, h, hj => by
    obtain ⟨env1, s1, y, r2, e1, ⟨a, rfl, fa⟩, j2⟩ := h d List.mem_cons_self n rd (by rw [List.length_cons]; omega) hj
    have ih := lcGo_wpA (f := f) (g := g) (p := p) (e := e) (env := env) (J := J) (ds := ds) (n := n + 1) (rd := r2) (fun x hx k r' hk hj => h x (List.mem_cons_of_mem _ hx) k r' (by rw [List.length_cons]; omega) hj) j2
    have en : n + 1 + ds.length = n + (d :: ds).length := by rw [List.length_cons]; omega
    rw [en] at ih
    obtain ⟨ys, r3, g1, ⟨as, rfl, hl, hf⟩, g3⟩ := ih
    refine ⟨g a :: as.map g, r3, ?_, ⟨a :: as, rfl, by rw [List.length_cons, List.length_cons, hl], fun z hz => ?_⟩, g3⟩
    · unfold lcGo
      rw [s1, Option.bind_some, show mYes env1 rd = some (true, rd) from rfl, Option.bind_some]
      simp only [if_true, e1, Option.bind_some, g1, Option.map_some]
    · rcases List.mem_cons.mp hz with rfl | hz
      · exact ⟨d, List.mem_cons_self, fa⟩
      · obtain ⟨d', h1, h2⟩ := hf z hz
        exact ⟨d', List.mem_cons_of_mem _ h1, h2⟩
/-- a draw within a term -/
theorem dr {many n : Int} (h1 : 1 ≤ many) (h2 : many ≤ 100000) (hn : n ≤ 900000) {i : Nat} {env : List SV} {rd : Rdr} (he : env[i]? = some .rdr) (hr : RdI n rd) : Wp (eFnR mf__law_draw 1 i (aCons (eC (.int many)) aNil) env rd) fun d rd' => (∃ k : Int, d = .int k ∧ 0 ≤ k ∧ k < many) ∧ RdI (n + 1) rd' := by
  rw [ev_eFnR, he]
  exact (draw_ok h1 h2 (by omega) hr)
theorem ch {ds : List D} {d : D} {n : Int} {m : MM D} {i : Nat} {env : List SV} {rd rd1 : Rdr} (hd : SeqD ds d) (h1 : ds ≠ []) (h2 : ds.length ≤ 100000) (hn : n ≤ 900000) (he : env[i]? = some .rdr) (hm : m env rd = some (d, rd1)) (hr : RdI n rd1) : Wp (eFnR mf__law_choice 1 i (aCons m aNil) env rd) fun x rd' => x ∈ ds ∧ RdI (n + 1) rd' := by
  rw [ev_eFnR, he]
  simp only [ev_aCons, ev_aNil, hm, Option.bind_some]
  exact (choice_ok hd h1 h2 (by omega) hr)
theorem wp_op {f : D → D → Option D} {a b : MM D} {env : List SV} {rd : Rdr} {Q : D → Rdr → Prop} (h : Wp (a env rd) fun x r => Wp (b env r) fun y r2 => ∃ z, f x y = some z ∧ Q z r2) : Wp (eOp f a b env rd) Q := by
  obtain ⟨x, r, e1, y, r2, e2, z, e3, q⟩ := h
  exact ⟨z, r2, by rw [ev_eOp, e1]; simp only [Option.bind_some, e2, e3, Option.map_some], q⟩
theorem wp_cons {a : MM D} {r : MM (List D)} {env : List SV} {rd : Rdr} {Q : List D → Rdr → Prop} (h : Wp (a env rd) fun x r1 => Wp (r env r1) fun xs r2 => Q (x :: xs) r2) : Wp (aCons a r env rd) Q := by
  obtain ⟨x, r, e1, y, r2, e2, q⟩ := h
  exact ⟨_, r2, by rw [ev_aCons, e1]; simp only [Option.bind_some, e2], q⟩
theorem wp_nil {env : List SV} {rd : Rdr} {Q : List D → Rdr → Prop} (h : Q [] rd) : Wp (aNil env rd) Q := ⟨_, _, rfl, h⟩
theorem wp_tup {a : MM (List D)} {env : List SV} {rd : Rdr} {Q : D → Rdr → Prop} (h : Wp (a env rd) fun xs r => xs.length ≤ 1000 ∧ Q (.tup xs) r) : Wp (eTup a env rd) Q := by
  obtain ⟨x, r, e1, hl, q⟩ := h
  have l : x.length ≤ sizeLine := Nat.le_trans hl (by decide)
  exact ⟨_, r, by rw [ev_eTup, e1]; simp only [Option.bind_some, l, if_true], q⟩
theorem wp_call {op : List D → Option D} {a : MM (List D)} {env : List SV} {rd : Rdr} {Q : D → Rdr → Prop} (h : Wp (a env rd) fun xs r => ∃ z, op xs = some z ∧ Q z r) : Wp (eCall op a env rd) Q := by
  obtain ⟨x, r, e1, z, e2, q⟩ := h
  exact ⟨z, r, by rw [ev_eCall, e1]; simp only [Option.bind_some, e2, Option.map_some], q⟩
theorem wp_app {i : Nat} {m : MM D} {env : List SV} {rd : Rdr} {Q : Fl → Rdr → Prop} {ds : List D} (he : env[i]? = some (.own ds)) (hl : ds.length ≤ 1000) (h : Wp (m env rd) fun d r => Q (.nx (env.set i (.own (ds ++ [d])))) r) : Wp (sApp i m env rd) Q := by
  obtain ⟨x, r, e1, q⟩ := h
  have l : ds.length < sizeLine := Nat.lt_of_le_of_lt hl (by decide)
  exact ⟨_, r, by rw [ev_sApp, e1]; simp only [Option.bind_some, he, l, if_true], q⟩
theorem wp_v {d : D} {i : Nat} {env : List SV} {rd : Rdr} {Q : D → Rdr → Prop} (he : env[i]? = some (.val d)) (h : Q d rd) : Wp (eVar i env rd) Q := ⟨d, rd, by rw [ev_eVar, he], h⟩
theorem wp_c {d : D} {env : List SV} {rd : Rdr} {Q : D → Rdr → Prop} (h : Q d rd) : Wp (eC d env rd) Q := ⟨d, rd, rfl, h⟩
/-! ### purses -/
def kindsL : List (List Str) := [["food"], ["toy"], ["food", "toy"], ["food", "rent"], ["food", "rent", "toy"]]
def kL : List D := kindsL.map fun ks => .tup (ks.map .str)
def sL : List D := [.str ("aunt" : Str), .str ("firm" : Str), .str ("firm" : Str)]
def puB : MM Fl := (sSeq (sSet 3 (eFnR mf__law_choice 1 0 (aCons (eLst (aCons (eTup (aCons (eC (.str ("food" : Str))) aNil)) (aCons (eTup (aCons (eC (.str ("toy" : Str))) aNil)) (aCons (eTup (aCons (eC (.str ("food" : Str))) (aCons (eC (.str ("toy" : Str))) aNil))) (aCons (eTup (aCons (eC (.str ("food" : Str))) (aCons (eC (.str ("rent" : Str))) aNil))) (aCons (eTup (aCons (eC (.str ("food" : Str))) (aCons (eC (.str ("rent" : Str))) (aCons (eC (.str ("toy" : Str))) aNil)))) aNil)))))) aNil)))
  (sSeq (sSet 4 (eFnR mf__law_draw 1 0 (aCons (eC (.int 2)) aNil)))
  (sApp 1 (eTup (aCons (eVar 2) (aCons (eFnR mf__law_choice 1 0 (aCons (eLst (aCons (eC (.str ("aunt" : Str))) (aCons (eC (.str ("firm" : Str))) (aCons (eC (.str ("firm" : Str))) aNil)))) aNil)) (aCons (eVar 3) (aCons (eVar 4) (aCons (eOp opAdd (eVar 4) (eFnR mf__law_draw 1 0 (aCons (eC (.int 3)) aNil))) aNil)))))))))
def puE (n : Int) (k : Nat) (env : List SV) (r : Rdr) : Prop := ∃ (ps : List PU) (x2 x3 x4 : SV), env = [.rdr, .own (ps.map PU.d), x2, x3, x4] ∧ ps.map (·.n) = four.take k ∧ (∀ p ∈ ps, PuS p) ∧ ps.length = k ∧ RdI (n + 4 * k) r
theorem kinds_as : ∀ ks ∈ kindsL, (∀ k ∈ ks, As 8 k) ∧ ks.length ≤ 3 := by
  unfold kindsL As
  decide +kernel
theorem pu1 {n : Int} (hn : n ≤ 800000) {k : Nat} (hk : k < 4) {s : Str} (hs : four[k]? = some s) {ps : List PU} (h1 : ps.map (·.n) = four.take k) (h2 : ∀ p ∈ ps, PuS p) (h3 : ps.length = k) (x3 x4 : SV) {rd : Rdr} (hr : RdI (n + 4 * k) rd) :
    Wp (puB [.rdr, .own (ps.map PU.d), .val (.str s), x3, x4] rd) fun fl r => ∃ env', fl = .nx env' ∧ puE n (k + 1) env' r := by
  have l1 : ((1 : Nat) ≤ sizeLine) = True := szl (m := 1) (Nat.le_refl _)
  have l2 : ((2 : Nat) ≤ sizeLine) = True := szl (m := 2) (Nat.le_refl _)
  have l3 : ((3 : Nat) ≤ sizeLine) = True := szl (m := 3) (Nat.le_refl _)
  have l5 : ((5 : Nat) ≤ sizeLine) = True := szl (m := 5) (Nat.le_refl _)
  unfold puB
  refine wp_set ?_
  refine (ch (ds := kL) (d := .lst kL) (n := n + 4 * k) (rd1 := rd) (.inr rfl) (by simp [kL, kindsL]) (by simp [kL, kindsL]) (by omega) rfl (by simp only [ev_bind1, ev_lift, ev_eC, ev_eVar, ev_eOp, ev_eUn, ev_eT, ev_mAnd, ev_mOr, ev_mNot, ev_eAnd, ev_eIf, ev_chain, ev_aNil, ev_aCons, ev_eTup, ev_eLst, ev_eCall, ev_eFn, ev_eFnR, ev_eIter, ev_eRange, ev_eLc, ev_eSl, ev_pNone, ev_pSome, ev_mFrz, ev_sNx, ev_sSet, ev_sRet, ev_sSeq, ev_sIf, ev_sUnp, ev_sNew, ev_fLst, ev_fCat, ev_sApp, ev_sFrz, ev_sFor, ev_vNil, ev_vVal, ev_vOwn, ev_sTup, ev_eRd, ev_sRd, and_self, true_and, and_true, eq_self, eqS, eqI, neS, neI, decide_true, decide_false, decide_eq_true_eq, Bool.not_true, Bool.not_false, initE, setPat, setAll, op1, isBl, flFin, iterD, seqOf, List.length_cons, List.length_nil, Bool.false_eq_true, if_false, if_true, List.nil_append, List.map_cons, List.map_nil, List.replicate, List.cons_append, Option.bind_some, Option.map_some, List.set_cons_succ, List.set_cons_zero, List.getElem?_cons_zero, List.getElem?_cons_succ, Nat.reduceAdd, ev_eNot, ev_eOwnAdd, ev_chain3, ev_xGet, ev_eFnX, ev_eFnXK, ev_xOk, ev_xTup2, ev_sSetX, ev_sRetX, ev_sExpX, ev_sRaise, ev_sTry, ev_eIsE, ev_eFldC, ev_eLc2, ev_lOwn, ev_sExt, l1, l2, l3, l5]; rfl) hr).mono ?_
  rintro kd r1 ⟨hkd, hr1⟩
  obtain ⟨ks, hks, rfl⟩ := List.mem_map.mp hkd
  refine wp_set ?_
  refine (dr (many := 2) (by omega) (by omega) (n := n + 4 * k + 1) (by omega) rfl hr1).mono ?_
  rintro _ r2 ⟨⟨a, rfl, a0, a1⟩, hr2⟩
  refine wp_app (ds := ps.map PU.d) rfl (by rw [List.length_map]; omega) ?_
  refine wp_tup (wp_cons (wp_v rfl (wp_cons ?_)))
  refine (ch (ds := sL) (d := .lst sL) (n := n + 4 * k + 1 + 1) (rd1 := r2) (.inr rfl) (by simp [sL]) (by simp [sL]) (by omega) rfl (by simp only [ev_bind1, ev_lift, ev_eC, ev_eVar, ev_eOp, ev_eUn, ev_eT, ev_mAnd, ev_mOr, ev_mNot, ev_eAnd, ev_eIf, ev_chain, ev_aNil, ev_aCons, ev_eTup, ev_eLst, ev_eCall, ev_eFn, ev_eFnR, ev_eIter, ev_eRange, ev_eLc, ev_eSl, ev_pNone, ev_pSome, ev_mFrz, ev_sNx, ev_sSet, ev_sRet, ev_sSeq, ev_sIf, ev_sUnp, ev_sNew, ev_fLst, ev_fCat, ev_sApp, ev_sFrz, ev_sFor, ev_vNil, ev_vVal, ev_vOwn, ev_sTup, ev_eRd, ev_sRd, and_self, true_and, and_true, eq_self, eqS, eqI, neS, neI, decide_true, decide_false, decide_eq_true_eq, Bool.not_true, Bool.not_false, initE, setPat, setAll, op1, isBl, flFin, iterD, seqOf, List.length_cons, List.length_nil, Bool.false_eq_true, if_false, if_true, List.nil_append, List.map_cons, List.map_nil, List.replicate, List.cons_append, Option.bind_some, Option.map_some, List.set_cons_succ, List.set_cons_zero, List.getElem?_cons_zero, List.getElem?_cons_succ, Nat.reduceAdd, ev_eNot, ev_eOwnAdd, ev_chain3, ev_xGet, ev_eFnX, ev_eFnXK, ev_xOk, ev_xTup2, ev_sSetX, ev_sRetX, ev_sExpX, ev_sRaise, ev_sTry, ev_eIsE, ev_eFldC, ev_eLc2, ev_lOwn, ev_sExt, l3]; rfl) hr2).mono ?_
  rintro sp r3 ⟨hsp, hr3⟩
  have hsp' : ∃ z : Str, sp = .str z ∧ As 8 z := by
    simp only [sL, List.mem_cons, List.not_mem_nil, or_false] at hsp
    rcases hsp with rfl | rfl | rfl
    · exact ⟨_, rfl, by unfold As; decide +kernel⟩
    · exact ⟨_, rfl, by unfold As; decide +kernel⟩
    · exact ⟨_, rfl, by unfold As; decide +kernel⟩
  obtain ⟨z, rfl, hz⟩ := hsp'
  refine wp_cons (wp_v rfl (wp_cons (wp_v rfl (wp_cons (wp_op (wp_v rfl ?_))))))
  refine (dr (many := 3) (by omega) (by omega) (n := n + 4 * k + 1 + 1 + 1) (by omega) rfl hr3).mono ?_
  rintro _ r4 ⟨⟨c, rfl, c0, c1⟩, hr4⟩
  refine ⟨_, addI, wp_nil ⟨by simp, _, rfl, ps ++ [⟨s, z, ks, a, a + c⟩], .val (.str s), .val (.tup (ks.map .str)), .val (.int a), ?_, ?_, ?_, ?_, ?_⟩⟩
  · rw [List.map_append]
    rfl
  · rw [List.map_append, h1, List.take_add_one, hs]
    rfl
  · intro p hp
    rcases List.mem_append.mp hp with hp | hp
    · exact h2 p hp
    · rw [List.mem_singleton.mp hp]
      obtain ⟨k1, k2⟩ := kinds_as ks hks
      exact ⟨List.mem_of_getElem? hs, hz, k1, k2, by show a.natAbs < 1000; omega, by show (a + c).natAbs < 1000; omega⟩
  · rw [List.length_append, h3]
    rfl
  · exact hr4.mono (by omega)
theorem purses_ok {n : Int} (hn : n ≤ 700000) {rd : Rdr} (hr : RdI n rd) : Wp (mf__law_purses [] rd) fun d rd' => (∃ ps : List PU, d = .tup (ps.map PU.d) ∧ (∀ p ∈ ps, PuS p) ∧ (ps.map (·.n)).Nodup ∧ ps ≠ [] ∧ ps.length ≤ 4) ∧ RdI (n + 17) rd' := by
  have e : mf__law_purses [] rd = (b__law_purses (initE true [] 4) rd).bind flFin := rfl
  have b1 : b__law_purses = sSeq (sNew 1 (fLst aNil)) (sSeq (sFor (eIter (eSl (eTup (aCons (eC (.str ("gift" : Str))) (aCons (eC (.str ("home" : Str))) (aCons (eC (.str ("meal" : Str))) (aCons (eC (.str ("trip" : Str))) aNil))))) pNone (pSome (eOp opAdd (eC (.int 2)) (eFnR mf__law_draw 1 0 (aCons (eC (.int 3)) aNil)))))) (.nm 2) puB)
      (sFrz 1 (sRet (eCall (op1 opTuple) (aCons (eVar 1) aNil))))) := rfl
  have l0 : ((0 : Nat) ≤ sizeLine) = True := by simp
  have l4 : ((4 : Nat) ≤ sizeLine) = True := szl (m := 4) (Nat.le_refl _)
  have s0 : sNew 1 (fLst aNil) (initE true [] 4) rd = some (.nx [.rdr, .own (([] : List PU).map PU.d), .un, .un, .un], rd) := by
    simp only [ev_bind1, ev_lift, ev_eC, ev_eVar, ev_eOp, ev_eUn, ev_eT, ev_mAnd, ev_mOr, ev_mNot, ev_eAnd, ev_eIf, ev_chain, ev_aNil, ev_aCons, ev_eTup, ev_eLst, ev_eCall, ev_eFn, ev_eFnR, ev_eIter, ev_eRange, ev_eLc, ev_eSl, ev_pNone, ev_pSome, ev_mFrz, ev_sNx, ev_sSet, ev_sRet, ev_sSeq, ev_sIf, ev_sUnp, ev_sNew, ev_fLst, ev_fCat, ev_sApp, ev_sFrz, ev_sFor, ev_vNil, ev_vVal, ev_vOwn, ev_sTup, ev_eRd, ev_sRd, and_self, true_and, and_true, eq_self, eqS, eqI, neS, neI, decide_true, decide_false, decide_eq_true_eq, Bool.not_true, Bool.not_false, initE, setPat, setAll, op1, isBl, flFin, iterD, seqOf, List.length_cons, List.length_nil, Bool.false_eq_true, if_false, if_true, List.nil_append, List.map_cons, List.map_nil, List.replicate, List.cons_append, Option.bind_some, Option.map_some, List.set_cons_succ, List.set_cons_zero, List.getElem?_cons_zero, List.getElem?_cons_succ, Nat.reduceAdd, ev_eNot, ev_eOwnAdd, ev_chain3, ev_xGet, ev_eFnX, ev_eFnXK, ev_xOk, ev_xTup2, ev_sSetX, ev_sRetX, ev_sExpX, ev_sRaise, ev_sTry, ev_eIsE, ev_eFldC, ev_eLc2, ev_lOwn, ev_sExt, l0]
  rw [e, b1, ev_sSeq, s0]
  simp only [Option.bind_some]
  rw [wp_obind]
  refine wp_seq (wp_for ?_)
  have it : Wp (eIter (eSl (eTup (aCons (eC (.str ("gift" : Str))) (aCons (eC (.str ("home" : Str))) (aCons (eC (.str ("meal" : Str))) (aCons (eC (.str ("trip" : Str))) aNil))))) pNone (pSome (eOp opAdd (eC (.int 2)) (eFnR mf__law_draw 1 0 (aCons (eC (.int 3)) aNil))))) [.rdr, .own (([] : List PU).map PU.d), .un, .un, .un] rd) fun ds r => (∃ m : Nat, 2 ≤ m ∧ m ≤ 4 ∧ ds = (four.take m).map .str) ∧ RdI (n + 1) r := by
    have tp : eTup (aCons (eC (.str ("gift" : Str))) (aCons (eC (.str ("home" : Str))) (aCons (eC (.str ("meal" : Str))) (aCons (eC (.str ("trip" : Str))) aNil)))) [.rdr, .own (([] : List PU).map PU.d), .un, .un, .un] rd = some (.tup (four.map .str), rd) := by
      simp only [ev_bind1, ev_lift, ev_eC, ev_eVar, ev_eOp, ev_eUn, ev_eT, ev_mAnd, ev_mOr, ev_mNot, ev_eAnd, ev_eIf, ev_chain, ev_aNil, ev_aCons, ev_eTup, ev_eLst, ev_eCall, ev_eFn, ev_eFnR, ev_eIter, ev_eRange, ev_eLc, ev_eSl, ev_pNone, ev_pSome, ev_mFrz, ev_sNx, ev_sSet, ev_sRet, ev_sSeq, ev_sIf, ev_sUnp, ev_sNew, ev_fLst, ev_fCat, ev_sApp, ev_sFrz, ev_sFor, ev_vNil, ev_vVal, ev_vOwn, ev_sTup, ev_eRd, ev_sRd, and_self, true_and, and_true, eq_self, eqS, eqI, neS, neI, decide_true, decide_false, decide_eq_true_eq, Bool.not_true, Bool.not_false, initE, setPat, setAll, op1, isBl, flFin, iterD, seqOf, List.length_cons, List.length_nil, Bool.false_eq_true, if_false, if_true, List.nil_append, List.map_cons, List.map_nil, List.replicate, List.cons_append, Option.bind_some, Option.map_some, List.set_cons_succ, List.set_cons_zero, List.getElem?_cons_zero, List.getElem?_cons_succ, Nat.reduceAdd, ev_eNot, ev_eOwnAdd, ev_chain3, ev_xGet, ev_eFnX, ev_eFnXK, ev_xOk, ev_xTup2, ev_sSetX, ev_sRetX, ev_sExpX, ev_sRaise, ev_sTry, ev_eIsE, ev_eFldC, ev_eLc2, ev_lOwn, ev_sExt, l4]
      rfl
    rw [ev_eIter, wp_obind, ev_eSl, tp]
    simp only [Option.bind_some, ev_pNone]
    rw [wp_obind, ev_pSome, wp_obind]
    refine wp_op (wp_c ?_)
    refine (dr (many := 3) (by omega) (by omega) (n := n) (by omega) rfl hr).mono ?_
    rintro _ r2 ⟨⟨c, rfl, c0, c1⟩, hr2⟩
    refine ⟨_, addI, ?_⟩
    have hc : c = 0 ∨ c = 1 ∨ c = 2 := by omega
    rcases hc with rfl | rfl | rfl
    · exact ⟨_, _, rfl, _, _, rfl, _, _, rfl, ⟨2, by omega, by omega, rfl⟩, hr2⟩
    · exact ⟨_, _, rfl, _, _, rfl, _, _, rfl, ⟨3, by omega, by omega, rfl⟩, hr2⟩
    · exact ⟨_, _, rfl, _, _, rfl, _, _, rfl, ⟨4, by omega, by omega, rfl⟩, hr2⟩
  refine it.mono ?_
  rintro ds r ⟨⟨m, m2, m4, rfl⟩, hr1⟩
  refine (forGo_wpI (E := puE (n + 1)) (n := 0) (fun i d hd env r he => ?_) ⟨[], .un, .un, .un, rfl, rfl, fun p hp => (List.not_mem_nil hp).elim, rfl, by simpa using hr1⟩).mono ?_
  · rw [Nat.zero_add] at he ⊢
    obtain ⟨ps, x2, x3, x4, rfl, h1, h2, h3, h4⟩ := he
    rw [List.getElem?_map] at hd
    obtain ⟨s, hs, rfl⟩ := Option.map_eq_some_iff.mp hd
    have hi : i < m := by
      have := (List.getElem?_eq_some_iff.mp hs).1
      rw [List.length_take] at this
      omega
    rw [List.getElem?_take, if_pos hi] at hs
    exact ⟨_, rfl, pu1 (by omega) (by omega) hs h1 h2 h3 x3 x4 h4⟩
  · rintro fl r ⟨env', rfl, ps, x2, x3, x4, rfl, h1, h2, h3, h4⟩
    rw [List.length_map, Nat.zero_add] at h1 h3 h4
    have tk : (four.take m).length = m := by
      rw [List.length_take]
      have : four.length = 4 := rfl
      omega
    rw [tk] at h1 h3 h4
    refine ⟨_, rfl, ?_⟩
    have ot : ∀ l : List D, opTuple (.lst l) = some (.tup l) := fun _ => rfl
    have fz : frzAt 1 [.rdr, .own (ps.map PU.d), x2, x3, x4] = [.rdr, .val (.lst (ps.map PU.d)), x2, x3, x4] := rfl
    have s3 : sFrz 1 (sRet (eCall (op1 opTuple) (aCons (eVar 1) aNil))) [.rdr, .own (ps.map PU.d), x2, x3, x4] r = some (.ret (.tup (ps.map PU.d)), r) := by
      rw [ev_sFrz, fz]
      simp only [ev_bind1, ev_lift, ev_eC, ev_eVar, ev_eOp, ev_eUn, ev_eT, ev_mAnd, ev_mOr, ev_mNot, ev_eAnd, ev_eIf, ev_chain, ev_aNil, ev_aCons, ev_eTup, ev_eLst, ev_eCall, ev_eFn, ev_eFnR, ev_eIter, ev_eRange, ev_eLc, ev_eSl, ev_pNone, ev_pSome, ev_mFrz, ev_sNx, ev_sSet, ev_sRet, ev_sSeq, ev_sIf, ev_sUnp, ev_sNew, ev_fLst, ev_fCat, ev_sApp, ev_sFrz, ev_sFor, ev_vNil, ev_vVal, ev_vOwn, ev_sTup, ev_eRd, ev_sRd, and_self, true_and, and_true, eq_self, eqS, eqI, neS, neI, decide_true, decide_false, decide_eq_true_eq, Bool.not_true, Bool.not_false, initE, setPat, setAll, op1, isBl, flFin, iterD, seqOf, List.length_cons, List.length_nil, Bool.false_eq_true, if_false, if_true, List.nil_append, List.map_cons, List.map_nil, List.replicate, List.cons_append, Option.bind_some, Option.map_some, List.set_cons_succ, List.set_cons_zero, List.getElem?_cons_zero, List.getElem?_cons_succ, Nat.reduceAdd, ev_eNot, ev_eOwnAdd, ev_chain3, ev_xGet, ev_eFnX, ev_eFnXK, ev_xOk, ev_xTup2, ev_sSetX, ev_sRetX, ev_sExpX, ev_sRaise, ev_sTry, ev_eIsE, ev_eFldC, ev_eLc2, ev_lOwn, ev_sExt, ot]
    refine ⟨_, _, s3, _, _, rfl, ⟨ps, rfl, h2, ?_, fun z => ?_, by omega⟩, h4.mono (by omega)⟩
    · rw [h1]
      have f4 : four.Nodup := by unfold four; decide +kernel
      exact f4.sublist (List.take_sublist _ _)
    · rw [z] at h3
      simp at h3
      omega
end My

set_option Elab.async false
set_option linter.all false
set_option maxRecDepth 100000
set_option maxHeartbeats 4000000
namespace My
open PySem PySem.Spec PyProof.Rows L2 FW
/-! ### limits -/
theorem sm_names {ks : List Str} (h : ∀ k ∈ ks, As 8 k) : ∀ d ∈ ks.map D.str, Sm 2000 0 d := fun d hd => by
  obtain ⟨k, hk, rfl⟩ := List.mem_map.mp hd
  exact sm_text (h k hk)
theorem BD.i0 (l : BD) : opIx l.d (.int 0) = some (.tup (l.ns.map .str)) := rfl
theorem BD.i1 (l : BD) : opIx l.d (.int 1) = some (.int l.a) := rfl
theorem BD.i2 (l : BD) : opIx l.d (.int 2) = some (.int l.b) := rfl
theorem lc_in (neg : Bool) (l o : BD) (hl : ∀ k ∈ l.ns, As 8 k) (x2 : SV) (rd : Rdr) : lcGo (.nm 2) (eT (eOp (opInX neg) (eVar 2) (eOp opIx (eVar 1) (eC (.int 0))))) (eVar 2) (l.ns.map .str) (wipeE [.val l.d, .val o.d, x2] [2]) rd =
    some ((l.ns.filter fun k => if neg = true then !inB k o.ns else inB k o.ns).map .str, rd) :=
  lcGo_P (f := D.str) (g := D.str) (b := fun k => if neg = true then !inB k o.ns else inB k o.ns) (p := .nm 2) (env := wipeE [.val l.d, .val o.d, x2] [2]) (rd := rd) (as := l.ns) (fun k hk => by
    refine ⟨_, rfl, ?_, fun _ => ?_⟩
    · simp only [ev_bind1, ev_lift, ev_eC, ev_eVar, ev_eOp, ev_eUn, ev_eT, ev_mAnd, ev_mOr, ev_mNot, ev_eAnd, ev_eIf, ev_chain, ev_aNil, ev_aCons, ev_eTup, ev_eLst, ev_eCall, ev_eFn, ev_eFnR, ev_eIter, ev_eRange, ev_eLc, ev_eSl, ev_pNone, ev_pSome, ev_mFrz, ev_sNx, ev_sSet, ev_sRet, ev_sSeq, ev_sIf, ev_sUnp, ev_sNew, ev_fLst, ev_fCat, ev_sApp, ev_sFrz, ev_sFor, ev_vNil, ev_vVal, ev_vOwn, ev_sTup, ev_eRd, ev_sRd, and_self, true_and, and_true, eq_self, eqS, eqI, neS, neI, decide_true, decide_false, decide_eq_true_eq, Bool.not_true, Bool.not_false, initE, setPat, setAll, op1, isBl, flFin, iterD, seqOf, List.length_cons, List.length_nil, Bool.false_eq_true, if_false, if_true, List.nil_append, List.map_cons, List.map_nil, List.replicate, List.cons_append, Option.bind_some, Option.map_some, List.set_cons_succ, List.set_cons_zero, List.getElem?_cons_zero, List.getElem?_cons_succ, Nat.reduceAdd, ev_eNot, ev_eOwnAdd, ev_chain3, ev_xGet, ev_eFnX, ev_eFnXK, ev_xOk, ev_xTup2, ev_sSetX, ev_sRetX, ev_sExpX, ev_sRaise, ev_sTry, ev_eIsE, ev_eFldC, ev_eLc2, ev_lOwn, ev_sExt, wipeE, BD.i0, in_tup]
    · simp only [ev_bind1, ev_lift, ev_eC, ev_eVar, ev_eOp, ev_eUn, ev_eT, ev_mAnd, ev_mOr, ev_mNot, ev_eAnd, ev_eIf, ev_chain, ev_aNil, ev_aCons, ev_eTup, ev_eLst, ev_eCall, ev_eFn, ev_eFnR, ev_eIter, ev_eRange, ev_eLc, ev_eSl, ev_pNone, ev_pSome, ev_mFrz, ev_sNx, ev_sSet, ev_sRet, ev_sSeq, ev_sIf, ev_sUnp, ev_sNew, ev_fLst, ev_fCat, ev_sApp, ev_sFrz, ev_sFor, ev_vNil, ev_vVal, ev_vOwn, ev_sTup, ev_eRd, ev_sRd, and_self, true_and, and_true, eq_self, eqS, eqI, neS, neI, decide_true, decide_false, decide_eq_true_eq, Bool.not_true, Bool.not_false, initE, setPat, setAll, op1, isBl, flFin, iterD, seqOf, List.length_cons, List.length_nil, Bool.false_eq_true, if_false, if_true, List.nil_append, List.map_cons, List.map_nil, List.replicate, List.cons_append, Option.bind_some, Option.map_some, List.set_cons_succ, List.set_cons_zero, List.getElem?_cons_zero, List.getElem?_cons_succ, Nat.reduceAdd, ev_eNot, ev_eOwnAdd, ev_chain3, ev_xGet, ev_eFnX, ev_eFnXK, ev_xOk, ev_xTup2, ev_sSetX, ev_sRetX, ev_sExpX, ev_sRaise, ev_sTry, ev_eIsE, ev_eFldC, ev_eLc2, ev_lOwn, ev_sExt, wipeE])
theorem inside_b (l o : BD) (hl : BdS l) : ∃ c : Bool, ∀ rd, mf__law_inside [l.d, o.d] rd = some (.bl c, rd) := by
  have l0 : ((0 : Nat) ≤ sizeLine) = True := by simp
  have lz : ((l.ns.map D.str).length ≤ sizeLine) = True := by
    rw [List.length_map]
    exact szl (m := 4) hl.nl
  obtain ⟨c, ys, lc, eqn⟩ : ∃ (c : Bool) (ys : List D), (∀ rd, lcGo (.nm 2) (eT (eOp (opInX true) (eVar 2) (eOp opIx (eVar 1) (eC (.int 0))))) (eVar 2) (l.ns.map .str) (wipeE [.val l.d, .val o.d, .un] [2]) rd = some (ys, rd)) ∧ opEq (.lst ys) (.lst []) = some (.bl c) :=
    ⟨_, _, fun rd => lc_in true l o hl.ns .un rd, eq_lstNil (ds := (l.ns.filter fun k => if true = true then !inB k o.ns else inB k o.ns).map D.str) (sm_names fun k hk => hl.ns k (List.mem_filter.mp hk).1) (by omega)⟩
  have e : ∀ rd, mf__law_inside [l.d, o.d] rd = (b__law_inside (initE false [l.d, o.d] 1) rd).bind flFin := fun _ => rfl
  by_cases h1 : o.a ≤ l.a
  · by_cases h2 : l.a ≤ l.b
    · by_cases h3 : l.b ≤ o.b
      · refine ⟨c, fun rd => ?_⟩
        · rw [e]
          have t1 : eT (chain3T (eOp opIx (eVar 1) (eC (.int 1))) (eOp opIx (eVar 0) (eC (.int 1))) (eOp opIx (eVar 0) (eC (.int 2))) (eOp opIx (eVar 1) (eC (.int 2))) opLe opLe opLe) [.val l.d, .val o.d, .un] rd = some (true, rd) := by
            simp only [ev_eT, ev_chain3, ev_eOp, ev_eVar, ev_eC, List.getElem?_cons_zero, List.getElem?_cons_succ, Option.bind_some, Option.map_some, BD.i1, BD.i2, cmpI, h1, h2, h3, decide_true, isBl, if_true]
          unfold b__law_inside
          simp only [ev_sSeq, ev_sIf, ev_mNot, initE, List.replicate, List.map_cons, List.map_nil, List.cons_append, List.nil_append, Bool.false_eq_true, if_false, t1, Option.bind_some, Bool.not_true, ev_sNx]
          simp only [ev_bind1, ev_lift, ev_eC, ev_eVar, ev_eOp, ev_eUn, ev_eT, ev_mAnd, ev_mOr, ev_mNot, ev_eAnd, ev_eIf, ev_chain, ev_aNil, ev_aCons, ev_eTup, ev_eLst, ev_eCall, ev_eFn, ev_eFnR, ev_eIter, ev_eRange, ev_eLc, ev_eSl, ev_pNone, ev_pSome, ev_mFrz, ev_sNx, ev_sSet, ev_sRet, ev_sSeq, ev_sIf, ev_sUnp, ev_sNew, ev_fLst, ev_fCat, ev_sApp, ev_sFrz, ev_sFor, ev_vNil, ev_vVal, ev_vOwn, ev_sTup, ev_eRd, ev_sRd, and_self, true_and, and_true, eq_self, eqS, eqI, neS, neI, decide_true, decide_false, decide_eq_true_eq, Bool.not_true, Bool.not_false, initE, setPat, setAll, op1, isBl, flFin, iterD, seqOf, List.length_cons, List.length_nil, Bool.false_eq_true, if_false, if_true, List.nil_append, List.map_cons, List.map_nil, List.replicate, List.cons_append, Option.bind_some, Option.map_some, List.set_cons_succ, List.set_cons_zero, List.getElem?_cons_zero, List.getElem?_cons_succ, Nat.reduceAdd, ev_eNot, ev_eOwnAdd, ev_chain3, ev_xGet, ev_eFnX, ev_eFnXK, ev_xOk, ev_xTup2, ev_sSetX, ev_sRetX, ev_sExpX, ev_sRaise, ev_sTry, ev_eIsE, ev_eFldC, ev_eLc2, ev_lOwn, ev_sExt, BD.i0, lz, lc, l0, eqn]
      · refine ⟨false, fun rd => ?_⟩
        rw [e]
        have t1 : eT (chain3T (eOp opIx (eVar 1) (eC (.int 1))) (eOp opIx (eVar 0) (eC (.int 1))) (eOp opIx (eVar 0) (eC (.int 2))) (eOp opIx (eVar 1) (eC (.int 2))) opLe opLe opLe) [.val l.d, .val o.d, .un] rd = some (false, rd) := by
          simp only [ev_eT, ev_chain3, ev_eOp, ev_eVar, ev_eC, List.getElem?_cons_zero, List.getElem?_cons_succ, Option.bind_some, Option.map_some, BD.i1, BD.i2, cmpI, h1, h2, h3, decide_true, decide_false, isBl, if_true]
        unfold b__law_inside
        simp only [ev_sSeq, ev_sIf, ev_mNot, initE, List.replicate, List.map_cons, List.map_nil, List.cons_append, List.nil_append, Bool.false_eq_true, if_false, t1, Option.bind_some, Bool.not_false, if_true, ev_sRet, ev_eC, flFin]
    · refine ⟨false, fun rd => ?_⟩
      rw [e]
      have t1 : eT (chain3T (eOp opIx (eVar 1) (eC (.int 1))) (eOp opIx (eVar 0) (eC (.int 1))) (eOp opIx (eVar 0) (eC (.int 2))) (eOp opIx (eVar 1) (eC (.int 2))) opLe opLe opLe) [.val l.d, .val o.d, .un] rd = some (false, rd) := by
        simp only [ev_eT, ev_chain3, ev_eOp, ev_eVar, ev_eC, List.getElem?_cons_zero, List.getElem?_cons_succ, Option.bind_some, Option.map_some, BD.i1, BD.i2, cmpI, h1, h2, decide_true, decide_false, isBl, if_true, Bool.false_eq_true, if_false]
      unfold b__law_inside
      simp only [ev_sSeq, ev_sIf, ev_mNot, initE, List.replicate, List.map_cons, List.map_nil, List.cons_append, List.nil_append, Bool.false_eq_true, if_false, t1, Option.bind_some, Bool.not_false, if_true, ev_sRet, ev_eC, flFin]
  · refine ⟨false, fun rd => ?_⟩
    rw [e]
    have t1 : eT (chain3T (eOp opIx (eVar 1) (eC (.int 1))) (eOp opIx (eVar 0) (eC (.int 1))) (eOp opIx (eVar 0) (eC (.int 2))) (eOp opIx (eVar 1) (eC (.int 2))) opLe opLe opLe) [.val l.d, .val o.d, .un] rd = some (false, rd) := by
      simp only [ev_eT, ev_chain3, ev_eOp, ev_eVar, ev_eC, List.getElem?_cons_zero, List.getElem?_cons_succ, Option.bind_some, Option.map_some, BD.i1, BD.i2, cmpI, h1, decide_false, isBl, Bool.false_eq_true, if_false]
    unfold b__law_inside
    simp only [ev_sSeq, ev_sIf, ev_mNot, initE, List.replicate, List.map_cons, List.map_nil, List.cons_append, List.nil_append, Bool.false_eq_true, if_false, t1, Option.bind_some, Bool.not_false, if_true, ev_sRet, ev_eC, flFin]
theorem meet_b (l o : BD) (hl : BdS l) : ∃ c : Bool, ∀ rd, mf__law_meet [l.d, o.d] rd = some (.bl c, rd) := by
  have l0 : ((0 : Nat) ≤ sizeLine) = True := by simp
  have lz : ((l.ns.map D.str).length ≤ sizeLine) = True := by
    rw [List.length_map]
    exact szl (m := 4) hl.nl
  obtain ⟨c, ys, lc, nen⟩ : ∃ (c : Bool) (ys : List D), (∀ rd, lcGo (.nm 2) (eT (eOp (opInX false) (eVar 2) (eOp opIx (eVar 1) (eC (.int 0))))) (eVar 2) (l.ns.map .str) (wipeE [.val l.d, .val o.d, .un] [2]) rd = some (ys, rd)) ∧ opNe (.lst ys) (.lst []) = some (.bl c) :=
    ⟨_, _, fun rd => lc_in false l o hl.ns .un rd, ne_lstNil (ds := (l.ns.filter fun k => if false = true then !inB k o.ns else inB k o.ns).map D.str) (sm_names fun k hk => hl.ns k (List.mem_filter.mp hk).1) (by omega)⟩
  have e : ∀ rd, mf__law_meet [l.d, o.d] rd = (b__law_meet (initE false [l.d, o.d] 1) rd).bind flFin := fun _ => rfl
  have mx : ∀ i j : Int, opMax2 [.int i, .int j] = some (.int (if j > i then j else i)) := fun _ _ => rfl
  have mn : ∀ i j : Int, opMin2 [.int i, .int j] = some (.int (if j < i then j else i)) := fun _ _ => rfl
  by_cases h : (if o.b < l.b then o.b else l.b) < (if o.a > l.a then o.a else l.a)
  · refine ⟨false, fun rd => ?_⟩
    rw [e]
    simp only [ev_bind1, ev_lift, ev_eC, ev_eVar, ev_eOp, ev_eUn, ev_eT, ev_mAnd, ev_mOr, ev_mNot, ev_eAnd, ev_eIf, ev_chain, ev_aNil, ev_aCons, ev_eTup, ev_eLst, ev_eCall, ev_eFn, ev_eFnR, ev_eIter, ev_eRange, ev_eLc, ev_eSl, ev_pNone, ev_pSome, ev_mFrz, ev_sNx, ev_sSet, ev_sRet, ev_sSeq, ev_sIf, ev_sUnp, ev_sNew, ev_fLst, ev_fCat, ev_sApp, ev_sFrz, ev_sFor, ev_vNil, ev_vVal, ev_vOwn, ev_sTup, ev_eRd, ev_sRd, and_self, true_and, and_true, eq_self, eqS, eqI, neS, neI, decide_true, decide_false, decide_eq_true_eq, Bool.not_true, Bool.not_false, initE, setPat, setAll, op1, isBl, flFin, iterD, seqOf, List.length_cons, List.length_nil, Bool.false_eq_true, if_false, if_true, List.nil_append, List.map_cons, List.map_nil, List.replicate, List.cons_append, Option.bind_some, Option.map_some, List.set_cons_succ, List.set_cons_zero, List.getElem?_cons_zero, List.getElem?_cons_succ, Nat.reduceAdd, ev_eNot, ev_eOwnAdd, ev_chain3, ev_xGet, ev_eFnX, ev_eFnXK, ev_xOk, ev_xTup2, ev_sSetX, ev_sRetX, ev_sExpX, ev_sRaise, ev_sTry, ev_eIsE, ev_eFldC, ev_eLc2, ev_lOwn, ev_sExt, b__law_meet, BD.i1, BD.i2, mx, mn, cmpI, h]
  · refine ⟨c, fun rd => ?_⟩
    · rw [e]
      simp only [ev_bind1, ev_lift, ev_eC, ev_eVar, ev_eOp, ev_eUn, ev_eT, ev_mAnd, ev_mOr, ev_mNot, ev_eAnd, ev_eIf, ev_chain, ev_aNil, ev_aCons, ev_eTup, ev_eLst, ev_eCall, ev_eFn, ev_eFnR, ev_eIter, ev_eRange, ev_eLc, ev_eSl, ev_pNone, ev_pSome, ev_mFrz, ev_sNx, ev_sSet, ev_sRet, ev_sSeq, ev_sIf, ev_sUnp, ev_sNew, ev_fLst, ev_fCat, ev_sApp, ev_sFrz, ev_sFor, ev_vNil, ev_vVal, ev_vOwn, ev_sTup, ev_eRd, ev_sRd, and_self, true_and, and_true, eq_self, eqS, eqI, neS, neI, decide_true, decide_false, decide_eq_true_eq, Bool.not_true, Bool.not_false, initE, setPat, setAll, op1, isBl, flFin, iterD, seqOf, List.length_cons, List.length_nil, Bool.false_eq_true, if_false, if_true, List.nil_append, List.map_cons, List.map_nil, List.replicate, List.cons_append, Option.bind_some, Option.map_some, List.set_cons_succ, List.set_cons_zero, List.getElem?_cons_zero, List.getElem?_cons_succ, Nat.reduceAdd, ev_eNot, ev_eOwnAdd, ev_chain3, ev_xGet, ev_eFnX, ev_eFnXK, ev_xOk, ev_xTup2, ev_sSetX, ev_sRetX, ev_sExpX, ev_sRaise, ev_sTry, ev_eIsE, ev_eFldC, ev_eLc2, ev_lOwn, ev_sExt, b__law_meet, BD.i0, BD.i1, BD.i2, mx, mn, cmpI, h, lz, lc, l0, nen]
end My

set_option Elab.async false
set_option linter.all false
set_option maxRecDepth 100000
set_option maxHeartbeats 4000000
namespace My
open PySem PySem.Spec PyProof.Rows L2 FW
theorem lcGo_ex {A : Type} {f g : A → D} {p : Pat} {env : List SV} {rd : Rdr} {e : MM D} {t : MM Bool} : ∀ {as : List A}, (∀ a ∈ as, ∃ (c : Bool) (env1 : List SV), setPat p (f a) env = some env1 ∧ t env1 rd = some (c, rd) ∧ e env1 rd = some (g a, rd)) →
    ∃ as' : List A, (∀ a ∈ as', a ∈ as) ∧ as'.length ≤ as.length ∧ lcGo p t e (as.map f) env rd = some (as'.map g, rd)
  | [], _ => ⟨[], fun a h => h, Nat.le_refl _, rfl⟩
  | a :: as, h => by
    obtain ⟨as', h1, h2, h3⟩ := lcGo_ex (f := f) (g := g) (p := p) (env := env) (rd := rd) (e := e) (t := t) (as := as) fun z hz => h z (List.mem_cons_of_mem _ hz)
    obtain ⟨c, env1, s1, t1, e1⟩ := h a List.mem_cons_self
    cases c with
    | true =>
      refine ⟨a :: as', fun z hz => ?_, by rw [List.length_cons, List.length_cons]; omega, ?_⟩
      · rcases List.mem_cons.mp hz with rfl | hz
        · exact List.mem_cons_self
        · exact List.mem_cons_of_mem _ (h1 z hz)
      · simp only [List.map_cons, lcGo, s1, Option.bind_some, t1, if_true, e1, h3, Option.map_some]
    | false =>
      refine ⟨as', fun z hz => List.mem_cons_of_mem _ (h1 z hz), by rw [List.length_cons]; omega, ?_⟩
      simp only [List.map_cons, lcGo, s1, Option.bind_some, t1, h3, Bool.false_eq_true, if_false]
theorem eq_tups {ds es : List D} {m k : Nat} (h1 : Sm m k (.tup ds)) (h2 : Sm m k (.tup es)) (hk : k ≤ 64) : ∃ c : Bool, opEq (.tup ds) (.tup es) = some (.bl c) := by
  have e : opEq (.tup ds) (.tup es) = if SeqAt.shaped (toPy (.tup ds)) = true ∧ SeqAt.shaped (toPy (.tup es)) = true then some (.bl (PyData.eqv (toPy (.tup ds)) (toPy (.tup es)))) else none := rfl
  exact ⟨_, by rw [e, if_pos ⟨h1.shaped hk, h2.shaped hk⟩]⟩
def cut3 (l : BD) : D := .tup [.tup (l.ns.map .str), .int l.a, .int l.b]
theorem cut3_ok (l : BD) : opSl l.d none (some 3) = some (cut3 l) := rfl
theorem cut3_sm {l : BD} (h : BdS l) : Sm 40000 3 (cut3 l) := by
  have kk : Sm 9000 1 (.tup (l.ns.map .str)) := (sm_tup (m := 2000) (k := 0) (l := 4) (sm_names h.ns) (by rw [List.length_map]; exact h.nl)).mono (by omega) (by omega)
  refine (sm_tup (m := 9000) (k := 1) (l := 3) (fun d hd => ?_) (by simp)).mono (by omega) (by omega)
  simp only [List.mem_cons, List.not_mem_nil, or_false] at hd
  rcases hd with rfl | rfl | rfl
  · exact kk
  · exact (sm_num (by have := h.a; omega)).mono (by omega) (by omega)
  · exact (sm_num (by have := h.b; omega)).mono (by omega) (by omega)
theorem bds_sm {bs : List BD} (h : ∀ l ∈ bs, BdS l) : ∀ d ∈ bs.map BD.d, Sm 40000 3 d := fun d hd => by
  obtain ⟨l, hl, rfl⟩ := List.mem_map.mp hd
  exact (h l hl).sm
def buN : MM Fl := (sSeq (sSet 9 (eLc (lOwn 2) (.nm 10) [10] (mAnd (eT (eFn mf__law_meet 2 (aCons (eVar 10) (aCons (eVar 5) aNil)))) (mNot (eT (eFn mf__law_inside 2 (aCons (eVar 10) (aCons (eVar 5) aNil)))))) (eVar 10)))
  (sSeq (sSet 9 (eLc (eIter (eVar 9)) (.nm 10) [10] (mNot (eT (eFn mf__law_inside 2 (aCons (eVar 5) (aCons (eVar 10) aNil))))) (eVar 10)))
  (sIf (mFrz (mAnd (eT (eOp opEq (eVar 9) (eLst aNil))) (eT (eOp opEq (eLc (eIter (eVar 2)) (.nm 10) [10] (eT (eOp opEq (eSl (eVar 10) pNone (pSome (eC (.int 3)))) (eSl (eVar 5) pNone (pSome (eC (.int 3)))))) (eVar 10)) (eLst aNil))))) (sApp 2 (eVar 5)) sNx)))
theorem bu2 {bs : List BD} (hb : ∀ l ∈ bs, BdS l) (hl : bs.length ≤ 100) {o : BD} (ho : BdS o) (fd x3 x4 x6 x7 x8 x9 x10 : SV) (rd : Rdr) :
    ∃ (bs' : List BD) (y9 y10 : SV), buN [.rdr, fd, .own (bs.map BD.d), x3, x4, .val o.d, x6, x7, x8, x9, x10] rd = some (.nx [.rdr, fd, .own (bs'.map BD.d), x3, x4, .val o.d, x6, x7, x8, y9, y10], rd) ∧ (∀ l ∈ bs', BdS l) ∧ bs'.length ≤ bs.length + 1 := by
  have lz : ((bs.map BD.d).length ≤ sizeLine) = True := by
    rw [List.length_map]
    exact szl (m := 100) hl
  have l0 : ((0 : Nat) ≤ sizeLine) = True := by simp
  obtain ⟨n1, a1, a2, g1⟩ := lcGo_ex (f := BD.d) (g := BD.d) (p := .nm 10) (env := wipeE [.rdr, fd, .own (bs.map BD.d), x3, x4, .val o.d, x6, x7, x8, x9, x10] [10]) (rd := rd)
    (t := mAnd (eT (eFn mf__law_meet 2 (aCons (eVar 10) (aCons (eVar 5) aNil)))) (mNot (eT (eFn mf__law_inside 2 (aCons (eVar 10) (aCons (eVar 5) aNil)))))) (e := eVar 10) (as := bs) (fun l hl => by
      obtain ⟨c1, m1⟩ := meet_b l o (hb l hl)
      obtain ⟨c2, m2⟩ := inside_b l o (hb l hl)
      cases c1 with
      | true => exact ⟨!c2, _, rfl, by simp only [ev_bind1, ev_lift, ev_eC, ev_eVar, ev_eOp, ev_eUn, ev_eT, ev_mAnd, ev_mOr, ev_mNot, ev_eAnd, ev_eIf, ev_chain, ev_aNil, ev_aCons, ev_eTup, ev_eLst, ev_eCall, ev_eFn, ev_eFnR, ev_eIter, ev_eRange, ev_eLc, ev_eSl, ev_pNone, ev_pSome, ev_mFrz, ev_sNx, ev_sSet, ev_sRet, ev_sSeq, ev_sIf, ev_sUnp, ev_sNew, ev_fLst, ev_fCat, ev_sApp, ev_sFrz, ev_sFor, ev_vNil, ev_vVal, ev_vOwn, ev_sTup, ev_eRd, ev_sRd, and_self, true_and, and_true, eq_self, eqS, eqI, neS, neI, decide_true, decide_false, decide_eq_true_eq, Bool.not_true, Bool.not_false, initE, setPat, setAll, op1, isBl, flFin, iterD, seqOf, List.length_cons, List.length_nil, Bool.false_eq_true, if_false, if_true, List.nil_append, List.map_cons, List.map_nil, List.replicate, List.cons_append, Option.bind_some, Option.map_some, List.set_cons_succ, List.set_cons_zero, List.getElem?_cons_zero, List.getElem?_cons_succ, Nat.reduceAdd, ev_eNot, ev_eOwnAdd, ev_chain3, ev_xGet, ev_eFnX, ev_eFnXK, ev_xOk, ev_xTup2, ev_sSetX, ev_sRetX, ev_sExpX, ev_sRaise, ev_sTry, ev_eIsE, ev_eFldC, ev_eLc2, ev_lOwn, ev_sExt, wipeE, m1, m2], by simp only [ev_bind1, ev_lift, ev_eC, ev_eVar, ev_eOp, ev_eUn, ev_eT, ev_mAnd, ev_mOr, ev_mNot, ev_eAnd, ev_eIf, ev_chain, ev_aNil, ev_aCons, ev_eTup, ev_eLst, ev_eCall, ev_eFn, ev_eFnR, ev_eIter, ev_eRange, ev_eLc, ev_eSl, ev_pNone, ev_pSome, ev_mFrz, ev_sNx, ev_sSet, ev_sRet, ev_sSeq, ev_sIf, ev_sUnp, ev_sNew, ev_fLst, ev_fCat, ev_sApp, ev_sFrz, ev_sFor, ev_vNil, ev_vVal, ev_vOwn, ev_sTup, ev_eRd, ev_sRd, and_self, true_and, and_true, eq_self, eqS, eqI, neS, neI, decide_true, decide_false, decide_eq_true_eq, Bool.not_true, Bool.not_false, initE, setPat, setAll, op1, isBl, flFin, iterD, seqOf, List.length_cons, List.length_nil, Bool.false_eq_true, if_false, if_true, List.nil_append, List.map_cons, List.map_nil, List.replicate, List.cons_append, Option.bind_some, Option.map_some, List.set_cons_succ, List.set_cons_zero, List.getElem?_cons_zero, List.getElem?_cons_succ, Nat.reduceAdd, ev_eNot, ev_eOwnAdd, ev_chain3, ev_xGet, ev_eFnX, ev_eFnXK, ev_xOk, ev_xTup2, ev_sSetX, ev_sRetX, ev_sExpX, ev_sRaise, ev_sTry, ev_eIsE, ev_eFldC, ev_eLc2, ev_lOwn, ev_sExt, wipeE]⟩
      | false => exact ⟨false, _, rfl, by simp only [ev_bind1, ev_lift, ev_eC, ev_eVar, ev_eOp, ev_eUn, ev_eT, ev_mAnd, ev_mOr, ev_mNot, ev_eAnd, ev_eIf, ev_chain, ev_aNil, ev_aCons, ev_eTup, ev_eLst, ev_eCall, ev_eFn, ev_eFnR, ev_eIter, ev_eRange, ev_eLc, ev_eSl, ev_pNone, ev_pSome, ev_mFrz, ev_sNx, ev_sSet, ev_sRet, ev_sSeq, ev_sIf, ev_sUnp, ev_sNew, ev_fLst, ev_fCat, ev_sApp, ev_sFrz, ev_sFor, ev_vNil, ev_vVal, ev_vOwn, ev_sTup, ev_eRd, ev_sRd, and_self, true_and, and_true, eq_self, eqS, eqI, neS, neI, decide_true, decide_false, decide_eq_true_eq, Bool.not_true, Bool.not_false, initE, setPat, setAll, op1, isBl, flFin, iterD, seqOf, List.length_cons, List.length_nil, Bool.false_eq_true, if_false, if_true, List.nil_append, List.map_cons, List.map_nil, List.replicate, List.cons_append, Option.bind_some, Option.map_some, List.set_cons_succ, List.set_cons_zero, List.getElem?_cons_zero, List.getElem?_cons_succ, Nat.reduceAdd, ev_eNot, ev_eOwnAdd, ev_chain3, ev_xGet, ev_eFnX, ev_eFnXK, ev_xOk, ev_xTup2, ev_sSetX, ev_sRetX, ev_sExpX, ev_sRaise, ev_sTry, ev_eIsE, ev_eFldC, ev_eLc2, ev_lOwn, ev_sExt, wipeE, m1], by simp only [ev_bind1, ev_lift, ev_eC, ev_eVar, ev_eOp, ev_eUn, ev_eT, ev_mAnd, ev_mOr, ev_mNot, ev_eAnd, ev_eIf, ev_chain, ev_aNil, ev_aCons, ev_eTup, ev_eLst, ev_eCall, ev_eFn, ev_eFnR, ev_eIter, ev_eRange, ev_eLc, ev_eSl, ev_pNone, ev_pSome, ev_mFrz, ev_sNx, ev_sSet, ev_sRet, ev_sSeq, ev_sIf, ev_sUnp, ev_sNew, ev_fLst, ev_fCat, ev_sApp, ev_sFrz, ev_sFor, ev_vNil, ev_vVal, ev_vOwn, ev_sTup, ev_eRd, ev_sRd, and_self, true_and, and_true, eq_self, eqS, eqI, neS, neI, decide_true, decide_false, decide_eq_true_eq, Bool.not_true, Bool.not_false, initE, setPat, setAll, op1, isBl, flFin, iterD, seqOf, List.length_cons, List.length_nil, Bool.false_eq_true, if_false, if_true, List.nil_append, List.map_cons, List.map_nil, List.replicate, List.cons_append, Option.bind_some, Option.map_some, List.set_cons_succ, List.set_cons_zero, List.getElem?_cons_zero, List.getElem?_cons_succ, Nat.reduceAdd, ev_eNot, ev_eOwnAdd, ev_chain3, ev_xGet, ev_eFnX, ev_eFnXK, ev_xOk, ev_xTup2, ev_sSetX, ev_sRetX, ev_sExpX, ev_sRaise, ev_sTry, ev_eIsE, ev_eFldC, ev_eLc2, ev_lOwn, ev_sExt, wipeE]⟩)
  have lz1 : ((n1.map BD.d).length ≤ sizeLine) = True := by
    rw [List.length_map]
    exact szl (m := 100) (by omega)
  obtain ⟨n2, b1, b2, g2⟩ := lcGo_ex (f := BD.d) (g := BD.d) (p := .nm 10) (env := wipeE [.rdr, fd, .own (bs.map BD.d), x3, x4, .val o.d, x6, x7, x8, .val (.lst (n1.map BD.d)), x10] [10]) (rd := rd)
    (t := mNot (eT (eFn mf__law_inside 2 (aCons (eVar 5) (aCons (eVar 10) aNil))))) (e := eVar 10) (as := n1) (fun l hl => by
      obtain ⟨c2, m2⟩ := inside_b o l ho
      exact ⟨!c2, _, rfl, by simp only [ev_bind1, ev_lift, ev_eC, ev_eVar, ev_eOp, ev_eUn, ev_eT, ev_mAnd, ev_mOr, ev_mNot, ev_eAnd, ev_eIf, ev_chain, ev_aNil, ev_aCons, ev_eTup, ev_eLst, ev_eCall, ev_eFn, ev_eFnR, ev_eIter, ev_eRange, ev_eLc, ev_eSl, ev_pNone, ev_pSome, ev_mFrz, ev_sNx, ev_sSet, ev_sRet, ev_sSeq, ev_sIf, ev_sUnp, ev_sNew, ev_fLst, ev_fCat, ev_sApp, ev_sFrz, ev_sFor, ev_vNil, ev_vVal, ev_vOwn, ev_sTup, ev_eRd, ev_sRd, and_self, true_and, and_true, eq_self, eqS, eqI, neS, neI, decide_true, decide_false, decide_eq_true_eq, Bool.not_true, Bool.not_false, initE, setPat, setAll, op1, isBl, flFin, iterD, seqOf, List.length_cons, List.length_nil, Bool.false_eq_true, if_false, if_true, List.nil_append, List.map_cons, List.map_nil, List.replicate, List.cons_append, Option.bind_some, Option.map_some, List.set_cons_succ, List.set_cons_zero, List.getElem?_cons_zero, List.getElem?_cons_succ, Nat.reduceAdd, ev_eNot, ev_eOwnAdd, ev_chain3, ev_xGet, ev_eFnX, ev_eFnXK, ev_xOk, ev_xTup2, ev_sSetX, ev_sRetX, ev_sExpX, ev_sRaise, ev_sTry, ev_eIsE, ev_eFldC, ev_eLc2, ev_lOwn, ev_sExt, wipeE, m2], by simp only [ev_bind1, ev_lift, ev_eC, ev_eVar, ev_eOp, ev_eUn, ev_eT, ev_mAnd, ev_mOr, ev_mNot, ev_eAnd, ev_eIf, ev_chain, ev_aNil, ev_aCons, ev_eTup, ev_eLst, ev_eCall, ev_eFn, ev_eFnR, ev_eIter, ev_eRange, ev_eLc, ev_eSl, ev_pNone, ev_pSome, ev_mFrz, ev_sNx, ev_sSet, ev_sRet, ev_sSeq, ev_sIf, ev_sUnp, ev_sNew, ev_fLst, ev_fCat, ev_sApp, ev_sFrz, ev_sFor, ev_vNil, ev_vVal, ev_vOwn, ev_sTup, ev_eRd, ev_sRd, and_self, true_and, and_true, eq_self, eqS, eqI, neS, neI, decide_true, decide_false, decide_eq_true_eq, Bool.not_true, Bool.not_false, initE, setPat, setAll, op1, isBl, flFin, iterD, seqOf, List.length_cons, List.length_nil, Bool.false_eq_true, if_false, if_true, List.nil_append, List.map_cons, List.map_nil, List.replicate, List.cons_append, Option.bind_some, Option.map_some, List.set_cons_succ, List.set_cons_zero, List.getElem?_cons_zero, List.getElem?_cons_succ, Nat.reduceAdd, ev_eNot, ev_eOwnAdd, ev_chain3, ev_xGet, ev_eFnX, ev_eFnXK, ev_xOk, ev_xTup2, ev_sSetX, ev_sRetX, ev_sExpX, ev_sRaise, ev_sTry, ev_eIsE, ev_eFldC, ev_eLc2, ev_lOwn, ev_sExt, wipeE]⟩)
  obtain ⟨c3, e3⟩ : ∃ c : Bool, opEq (.lst (n2.map BD.d)) (.lst []) = some (.bl c) := ⟨_, eq_lstNil (bds_sm fun l hl => hb l (a1 l (b1 l hl))) (by omega)⟩
  have s1 : sSet 9 (eLc (lOwn 2) (.nm 10) [10] (mAnd (eT (eFn mf__law_meet 2 (aCons (eVar 10) (aCons (eVar 5) aNil)))) (mNot (eT (eFn mf__law_inside 2 (aCons (eVar 10) (aCons (eVar 5) aNil)))))) (eVar 10)) [.rdr, fd, .own (bs.map BD.d), x3, x4, .val o.d, x6, x7, x8, x9, x10] rd =
      some (.nx [.rdr, fd, .own (bs.map BD.d), x3, x4, .val o.d, x6, x7, x8, .val (.lst (n1.map BD.d)), x10], rd) := by
    rw [ev_sSet, ev_eLc, ev_lOwn]
    simp only [List.getElem?_cons_zero, List.getElem?_cons_succ, Option.bind_some, lz, if_true, g1, Option.map_some, List.set_cons_succ, List.set_cons_zero]
  have s2 : sSet 9 (eLc (eIter (eVar 9)) (.nm 10) [10] (mNot (eT (eFn mf__law_inside 2 (aCons (eVar 5) (aCons (eVar 10) aNil))))) (eVar 10)) [.rdr, fd, .own (bs.map BD.d), x3, x4, .val o.d, x6, x7, x8, .val (.lst (n1.map BD.d)), x10] rd =
      some (.nx [.rdr, fd, .own (bs.map BD.d), x3, x4, .val o.d, x6, x7, x8, .val (.lst (n2.map BD.d)), x10], rd) := by
    rw [ev_sSet, ev_eLc, ev_eIter, ev_eVar]
    simp only [List.getElem?_cons_zero, List.getElem?_cons_succ, Option.bind_some, iterD, lz1, if_true, g2, Option.map_some, List.set_cons_succ, List.set_cons_zero]
  have b2' : buN = sSeq (sSet 9 (eLc (lOwn 2) (.nm 10) [10] (mAnd (eT (eFn mf__law_meet 2 (aCons (eVar 10) (aCons (eVar 5) aNil)))) (mNot (eT (eFn mf__law_inside 2 (aCons (eVar 10) (aCons (eVar 5) aNil)))))) (eVar 10)))
      (sSeq (sSet 9 (eLc (eIter (eVar 9)) (.nm 10) [10] (mNot (eT (eFn mf__law_inside 2 (aCons (eVar 5) (aCons (eVar 10) aNil))))) (eVar 10)))
      (sIf (mFrz (mAnd (eT (eOp opEq (eVar 9) (eLst aNil))) (eT (eOp opEq (eLc (eIter (eVar 2)) (.nm 10) [10] (eT (eOp opEq (eSl (eVar 10) pNone (pSome (eC (.int 3)))) (eSl (eVar 5) pNone (pSome (eC (.int 3)))))) (eVar 10)) (eLst aNil))))) (sApp 2 (eVar 5)) sNx)) := rfl
  have ts : ∃ c : Bool, mFrz (mAnd (eT (eOp opEq (eVar 9) (eLst aNil))) (eT (eOp opEq (eLc (eIter (eVar 2)) (.nm 10) [10] (eT (eOp opEq (eSl (eVar 10) pNone (pSome (eC (.int 3)))) (eSl (eVar 5) pNone (pSome (eC (.int 3)))))) (eVar 10)) (eLst aNil)))) [.rdr, fd, .own (bs.map BD.d), x3, x4, .val o.d, x6, x7, x8, .val (.lst (n2.map BD.d)), x10] rd = some (c, rd) := by
    have fz : [SV.rdr, fd, .own (bs.map BD.d), x3, x4, .val o.d, x6, x7, x8, .val (.lst (n2.map BD.d)), x10].map frzSV = [.rdr, frzSV fd, .val (.lst (bs.map BD.d)), frzSV x3, frzSV x4, .val o.d, frzSV x6, frzSV x7, frzSV x8, .val (.lst (n2.map BD.d)), frzSV x10] := rfl
    rw [ev_mFrz, fz]
    cases c3 with
    | false =>
      refine ⟨false, ?_⟩
      simp only [ev_bind1, ev_lift, ev_eC, ev_eVar, ev_eOp, ev_eUn, ev_eT, ev_mAnd, ev_mOr, ev_mNot, ev_eAnd, ev_eIf, ev_chain, ev_aNil, ev_aCons, ev_eTup, ev_eLst, ev_eCall, ev_eFn, ev_eFnR, ev_eIter, ev_eRange, ev_eLc, ev_eSl, ev_pNone, ev_pSome, ev_mFrz, ev_sNx, ev_sSet, ev_sRet, ev_sSeq, ev_sIf, ev_sUnp, ev_sNew, ev_fLst, ev_fCat, ev_sApp, ev_sFrz, ev_sFor, ev_vNil, ev_vVal, ev_vOwn, ev_sTup, ev_eRd, ev_sRd, and_self, true_and, and_true, eq_self, eqS, eqI, neS, neI, decide_true, decide_false, decide_eq_true_eq, Bool.not_true, Bool.not_false, initE, setPat, setAll, op1, isBl, flFin, iterD, seqOf, List.length_cons, List.length_nil, Bool.false_eq_true, if_false, if_true, List.nil_append, List.map_cons, List.map_nil, List.replicate, List.cons_append, Option.bind_some, Option.map_some, List.set_cons_succ, List.set_cons_zero, List.getElem?_cons_zero, List.getElem?_cons_succ, Nat.reduceAdd, ev_eNot, ev_eOwnAdd, ev_chain3, ev_xGet, ev_eFnX, ev_eFnXK, ev_xOk, ev_xTup2, ev_sSetX, ev_sRetX, ev_sExpX, ev_sRaise, ev_sTry, ev_eIsE, ev_eFldC, ev_eLc2, ev_lOwn, ev_sExt, l0, e3]
    | true =>
      obtain ⟨n3, d1, d2, g3⟩ := lcGo_ex (f := BD.d) (g := BD.d) (p := .nm 10) (env := wipeE [.rdr, frzSV fd, .val (.lst (bs.map BD.d)), frzSV x3, frzSV x4, .val o.d, frzSV x6, frzSV x7, frzSV x8, .val (.lst (n2.map BD.d)), frzSV x10] [10]) (rd := rd)
        (t := eT (eOp opEq (eSl (eVar 10) pNone (pSome (eC (.int 3)))) (eSl (eVar 5) pNone (pSome (eC (.int 3)))))) (e := eVar 10) (as := bs) (fun l hl => by
          obtain ⟨c, hc⟩ := eq_tups (cut3_sm (hb l hl)) (cut3_sm ho) (by omega)
          have hc' : opEq (cut3 l) (cut3 o) = some (.bl c) := hc
          exact ⟨c, _, rfl, by simp only [ev_bind1, ev_lift, ev_eC, ev_eVar, ev_eOp, ev_eUn, ev_eT, ev_mAnd, ev_mOr, ev_mNot, ev_eAnd, ev_eIf, ev_chain, ev_aNil, ev_aCons, ev_eTup, ev_eLst, ev_eCall, ev_eFn, ev_eFnR, ev_eIter, ev_eRange, ev_eLc, ev_eSl, ev_pNone, ev_pSome, ev_mFrz, ev_sNx, ev_sSet, ev_sRet, ev_sSeq, ev_sIf, ev_sUnp, ev_sNew, ev_fLst, ev_fCat, ev_sApp, ev_sFrz, ev_sFor, ev_vNil, ev_vVal, ev_vOwn, ev_sTup, ev_eRd, ev_sRd, and_self, true_and, and_true, eq_self, eqS, eqI, neS, neI, decide_true, decide_false, decide_eq_true_eq, Bool.not_true, Bool.not_false, initE, setPat, setAll, op1, isBl, flFin, iterD, seqOf, List.length_cons, List.length_nil, Bool.false_eq_true, if_false, if_true, List.nil_append, List.map_cons, List.map_nil, List.replicate, List.cons_append, Option.bind_some, Option.map_some, List.set_cons_succ, List.set_cons_zero, List.getElem?_cons_zero, List.getElem?_cons_succ, Nat.reduceAdd, ev_eNot, ev_eOwnAdd, ev_chain3, ev_xGet, ev_eFnX, ev_eFnXK, ev_xOk, ev_xTup2, ev_sSetX, ev_sRetX, ev_sExpX, ev_sRaise, ev_sTry, ev_eIsE, ev_eFldC, ev_eLc2, ev_lOwn, ev_sExt, wipeE, cut3_ok, hc'], by simp only [ev_bind1, ev_lift, ev_eC, ev_eVar, ev_eOp, ev_eUn, ev_eT, ev_mAnd, ev_mOr, ev_mNot, ev_eAnd, ev_eIf, ev_chain, ev_aNil, ev_aCons, ev_eTup, ev_eLst, ev_eCall, ev_eFn, ev_eFnR, ev_eIter, ev_eRange, ev_eLc, ev_eSl, ev_pNone, ev_pSome, ev_mFrz, ev_sNx, ev_sSet, ev_sRet, ev_sSeq, ev_sIf, ev_sUnp, ev_sNew, ev_fLst, ev_fCat, ev_sApp, ev_sFrz, ev_sFor, ev_vNil, ev_vVal, ev_vOwn, ev_sTup, ev_eRd, ev_sRd, and_self, true_and, and_true, eq_self, eqS, eqI, neS, neI, decide_true, decide_false, decide_eq_true_eq, Bool.not_true, Bool.not_false, initE, setPat, setAll, op1, isBl, flFin, iterD, seqOf, List.length_cons, List.length_nil, Bool.false_eq_true, if_false, if_true, List.nil_append, List.map_cons, List.map_nil, List.replicate, List.cons_append, Option.bind_some, Option.map_some, List.set_cons_succ, List.set_cons_zero, List.getElem?_cons_zero, List.getElem?_cons_succ, Nat.reduceAdd, ev_eNot, ev_eOwnAdd, ev_chain3, ev_xGet, ev_eFnX, ev_eFnXK, ev_xOk, ev_xTup2, ev_sSetX, ev_sRetX, ev_sExpX, ev_sRaise, ev_sTry, ev_eIsE, ev_eFldC, ev_eLc2, ev_lOwn, ev_sExt, wipeE]⟩)
      obtain ⟨c4, e4⟩ : ∃ c : Bool, opEq (.lst (n3.map BD.d)) (.lst []) = some (.bl c) := ⟨_, eq_lstNil (bds_sm fun l hl => hb l (d1 l hl)) (by omega)⟩
      refine ⟨c4, ?_⟩
      simp only [ev_bind1, ev_lift, ev_eC, ev_eVar, ev_eOp, ev_eUn, ev_eT, ev_mAnd, ev_mOr, ev_mNot, ev_eAnd, ev_eIf, ev_chain, ev_aNil, ev_aCons, ev_eTup, ev_eLst, ev_eCall, ev_eFn, ev_eFnR, ev_eIter, ev_eRange, ev_eLc, ev_eSl, ev_pNone, ev_pSome, ev_mFrz, ev_sNx, ev_sSet, ev_sRet, ev_sSeq, ev_sIf, ev_sUnp, ev_sNew, ev_fLst, ev_fCat, ev_sApp, ev_sFrz, ev_sFor, ev_vNil, ev_vVal, ev_vOwn, ev_sTup, ev_eRd, ev_sRd, and_self, true_and, and_true, eq_self, eqS, eqI, neS, neI, decide_true, decide_false, decide_eq_true_eq, Bool.not_true, Bool.not_false, initE, setPat, setAll, op1, isBl, flFin, iterD, seqOf, List.length_cons, List.length_nil, Bool.false_eq_true, if_false, if_true, List.nil_append, List.map_cons, List.map_nil, List.replicate, List.cons_append, Option.bind_some, Option.map_some, List.set_cons_succ, List.set_cons_zero, List.getElem?_cons_zero, List.getElem?_cons_succ, Nat.reduceAdd, ev_eNot, ev_eOwnAdd, ev_chain3, ev_xGet, ev_eFnX, ev_eFnXK, ev_xOk, ev_xTup2, ev_sSetX, ev_sRetX, ev_sExpX, ev_sRaise, ev_sTry, ev_eIsE, ev_eFldC, ev_eLc2, ev_lOwn, ev_sExt, l0, e3, lz, g3, e4]
  obtain ⟨c, hc⟩ := ts
  cases c with
  | false =>
    refine ⟨bs, .val (.lst (n2.map BD.d)), x10, ?_, hb, by omega⟩
    rw [b2', ev_sSeq, s1]
    simp only [Option.bind_some]
    rw [ev_sSeq, s2]
    simp only [Option.bind_some]
    rw [ev_sIf, hc]
    simp only [Option.bind_some, Bool.false_eq_true, if_false, ev_sNx]
  | true =>
    have lt : ((bs.map BD.d).length < sizeLine) = True := by
      rw [List.length_map]
      have : (101 : Nat) ≤ sizeLine := by decide
      simp
      omega
    refine ⟨bs ++ [o], .val (.lst (n2.map BD.d)), x10, ?_, fun l hl => ?_, by rw [List.length_append]; simp⟩
    · rw [b2', ev_sSeq, s1]
      simp only [Option.bind_some]
      rw [ev_sSeq, s2]
      simp only [Option.bind_some]
      rw [ev_sIf, hc, List.map_append]
      simp only [ev_bind1, ev_lift, ev_eC, ev_eVar, ev_eOp, ev_eUn, ev_eT, ev_mAnd, ev_mOr, ev_mNot, ev_eAnd, ev_eIf, ev_chain, ev_aNil, ev_aCons, ev_eTup, ev_eLst, ev_eCall, ev_eFn, ev_eFnR, ev_eIter, ev_eRange, ev_eLc, ev_eSl, ev_pNone, ev_pSome, ev_mFrz, ev_sNx, ev_sSet, ev_sRet, ev_sSeq, ev_sIf, ev_sUnp, ev_sNew, ev_fLst, ev_fCat, ev_sApp, ev_sFrz, ev_sFor, ev_vNil, ev_vVal, ev_vOwn, ev_sTup, ev_eRd, ev_sRd, and_self, true_and, and_true, eq_self, eqS, eqI, neS, neI, decide_true, decide_false, decide_eq_true_eq, Bool.not_true, Bool.not_false, initE, setPat, setAll, op1, isBl, flFin, iterD, seqOf, List.length_cons, List.length_nil, Bool.false_eq_true, if_false, if_true, List.nil_append, List.map_cons, List.map_nil, List.replicate, List.cons_append, Option.bind_some, Option.map_some, List.set_cons_succ, List.set_cons_zero, List.getElem?_cons_zero, List.getElem?_cons_succ, Nat.reduceAdd, ev_eNot, ev_eOwnAdd, ev_chain3, ev_xGet, ev_eFnX, ev_eFnXK, ev_xOk, ev_xTup2, ev_sSetX, ev_sRetX, ev_sExpX, ev_sRaise, ev_sTry, ev_eIsE, ev_eFldC, ev_eLc2, ev_lOwn, ev_sExt, lt]
    · rcases List.mem_append.mp hl with hl | hl
      · exact hb l hl
      · rw [List.mem_singleton.mp hl]
        exact ho
end My

set_option Elab.async false
set_option linter.all false
set_option maxRecDepth 100000
set_option maxHeartbeats 4000000
namespace My
open PySem PySem.Spec PyProof.Rows L2 FW
def capL : List D := [.int 2, .int 3, .int 4, .int 1, .int 5, .int 0, .int 6, .int 8]
def buL : MM D := (eLc (eIter (eVar 1)) (.nm 5) [5] (mAnd (eT (eOp opEq (eOp opIx (eVar 5) (eC (.int 1))) (eVar 4))) (eT (eOp opGt (eFnR mf__law_draw 1 0 (aCons (eC (.int 3)) aNil)) (eC (.int 0))))) (eOp opIx (eVar 5) (eC (.int 0))))
def buB : MM Fl := (sSeq (sSet 4 (eOp opIx (eFnR mf__law_choice 1 0 (aCons (eVar 1) aNil)) (eC (.int 1))))
  (sSeq (sSet 6 (eLc (eIter (eVar 1)) (.nm 5) [5] (mAnd (eT (eOp opEq (eOp opIx (eVar 5) (eC (.int 1))) (eVar 4))) (eT (eOp opGt (eFnR mf__law_draw 1 0 (aCons (eC (.int 3)) aNil)) (eC (.int 0))))) (eOp opIx (eVar 5) (eC (.int 0)))))
  (sSeq (sTup [7, 8] (vVal (eFnR mf__law_draw 1 0 (aCons (eC (.int 2)) aNil)) (vVal (eFnR mf__law_draw 1 0 (aCons (eC (.int 3)) aNil)) vNil)))
  (sSeq (sSet 5 (eTup (aCons (eCall (op1 opTuple) (aCons (eVar 6) aNil)) (aCons (eVar 7) (aCons (eOp opAdd (eVar 7) (eVar 8)) (aCons (eFnR mf__law_choice 1 0 (aCons (eLst (aCons (eC (.int 2)) (aCons (eC (.int 3)) (aCons (eC (.int 4)) (aCons (eC (.int 1)) (aCons (eC (.int 5)) (aCons (eC (.int 0)) (aCons (eC (.int 6)) (aCons (eC (.int 8)) aNil))))))))) aNil)) aNil))))))
  (sIf (eT (eOp opNe (eVar 6) (eLst aNil))) (sSeq (sSet 9 (eLc (lOwn 2) (.nm 10) [10] (mAnd (eT (eFn mf__law_meet 2 (aCons (eVar 10) (aCons (eVar 5) aNil)))) (mNot (eT (eFn mf__law_inside 2 (aCons (eVar 10) (aCons (eVar 5) aNil)))))) (eVar 10)))
  (sSeq (sSet 9 (eLc (eIter (eVar 9)) (.nm 10) [10] (mNot (eT (eFn mf__law_inside 2 (aCons (eVar 5) (aCons (eVar 10) aNil))))) (eVar 10)))
  (sIf (mFrz (mAnd (eT (eOp opEq (eVar 9) (eLst aNil))) (eT (eOp opEq (eLc (eIter (eVar 2)) (.nm 10) [10] (eT (eOp opEq (eSl (eVar 10) pNone (pSome (eC (.int 3)))) (eSl (eVar 5) pNone (pSome (eC (.int 3)))))) (eVar 10)) (eLst aNil))))) (sApp 2 (eVar 5)) sNx))) sNx)))))
theorem labels_ok {ps : List PU} (hp : ∀ p ∈ ps, PuS p) (hl : ps.length ≤ 4) {w : Str} {n : Int} (hn : n ≤ 800000) (x2 x3 x5 x6 x7 x8 x9 x10 : SV) {rd : Rdr} (hr : RdI n rd) :
    Wp (buL [.rdr, .val (.tup (ps.map PU.d)), x2, x3, .val (.str w), x5, x6, x7, x8, x9, x10] rd) fun d rd' => (∃ ks : List Str, d = .lst (ks.map .str) ∧ (∀ k ∈ ks, As 8 k) ∧ ks.length ≤ 4) ∧ RdI (n + 4) rd' := by
  have lz : ((ps.map PU.d).length ≤ sizeLine) = True := by
    rw [List.length_map]
    exact szl (m := 4) hl
  unfold buL
  rw [ev_eLc, ev_eIter, ev_eVar]
  simp only [List.getElem?_cons_zero, List.getElem?_cons_succ, Option.bind_some, iterD, Option.map_some, lz, if_true]
  rw [wp_omap2]
  refine (lcGo_wp (P := fun y => ∃ s ∈ ps.map (·.n), y = .str s) (M := fun _ => False) (J := fun j r => RdI (n + j) r) (n := 0) ?_ (by simpa using hr)).mono ?_
  · intro d hd k r hk hj
    obtain ⟨p, hpp, rfl⟩ := List.mem_map.mp hd
    rw [List.length_map] at hk
    refine ⟨_, rfl, ?_⟩
    have i1 : opIx p.d (.int 1) = some (.str p.s) := rfl
    have i0 : opIx p.d (.int 0) = some (.str p.n) := rfl
    have fin : ∀ r2 (y5 : SV), RdI (n + ((k + 1 : Nat) : Int)) r2 → Wp (eOp opIx (eVar 5) (eC (.int 0)) [.rdr, .val (.tup (ps.map PU.d)), x2, x3, .val (.str w), .val p.d, x6, x7, x8, x9, x10] r2) fun y r2 => (∃ s ∈ ps.map (·.n), y = .str s) ∧ RdI (n + ((k + 1 : Nat) : Int)) r2 := fun r2 _ h2 =>
      ⟨.str p.n, r2, by simp only [ev_bind1, ev_lift, ev_eC, ev_eVar, ev_eOp, ev_eUn, ev_eT, ev_mAnd, ev_mOr, ev_mNot, ev_eAnd, ev_eIf, ev_chain, ev_aNil, ev_aCons, ev_eTup, ev_eLst, ev_eCall, ev_eFn, ev_eFnR, ev_eIter, ev_eRange, ev_eLc, ev_eSl, ev_pNone, ev_pSome, ev_mFrz, ev_sNx, ev_sSet, ev_sRet, ev_sSeq, ev_sIf, ev_sUnp, ev_sNew, ev_fLst, ev_fCat, ev_sApp, ev_sFrz, ev_sFor, ev_vNil, ev_vVal, ev_vOwn, ev_sTup, ev_eRd, ev_sRd, and_self, true_and, and_true, eq_self, eqS, eqI, neS, neI, decide_true, decide_false, decide_eq_true_eq, Bool.not_true, Bool.not_false, initE, setPat, setAll, op1, isBl, flFin, iterD, seqOf, List.length_cons, List.length_nil, Bool.false_eq_true, if_false, if_true, List.nil_append, List.map_cons, List.map_nil, List.replicate, List.cons_append, Option.bind_some, Option.map_some, List.set_cons_succ, List.set_cons_zero, List.getElem?_cons_zero, List.getElem?_cons_succ, Nat.reduceAdd, ev_eNot, ev_eOwnAdd, ev_chain3, ev_xGet, ev_eFnX, ev_eFnXK, ev_xOk, ev_xTup2, ev_sSetX, ev_sRetX, ev_sExpX, ev_sRaise, ev_sTry, ev_eIsE, ev_eFldC, ev_eLc2, ev_lOwn, ev_sExt, i0], ⟨p.n, List.mem_map.mpr ⟨p, hpp, rfl⟩, rfl⟩, h2⟩
    show Wp (mAnd (eT (eOp opEq (eOp opIx (eVar 5) (eC (.int 1))) (eVar 4))) (eT (eOp opGt (eFnR mf__law_draw 1 0 (aCons (eC (.int 3)) aNil)) (eC (.int 0)))) [.rdr, .val (.tup (ps.map PU.d)), x2, x3, .val (.str w), .val p.d, x6, x7, x8, x9, x10] r) _
    by_cases hs : p.s = w
    · have t1 : eT (eOp opEq (eOp opIx (eVar 5) (eC (.int 1))) (eVar 4)) [.rdr, .val (.tup (ps.map PU.d)), x2, x3, .val (.str w), .val p.d, x6, x7, x8, x9, x10] r = some (true, r) := by
        simp only [ev_bind1, ev_lift, ev_eC, ev_eVar, ev_eOp, ev_eUn, ev_eT, ev_mAnd, ev_mOr, ev_mNot, ev_eAnd, ev_eIf, ev_chain, ev_aNil, ev_aCons, ev_eTup, ev_eLst, ev_eCall, ev_eFn, ev_eFnR, ev_eIter, ev_eRange, ev_eLc, ev_eSl, ev_pNone, ev_pSome, ev_mFrz, ev_sNx, ev_sSet, ev_sRet, ev_sSeq, ev_sIf, ev_sUnp, ev_sNew, ev_fLst, ev_fCat, ev_sApp, ev_sFrz, ev_sFor, ev_vNil, ev_vVal, ev_vOwn, ev_sTup, ev_eRd, ev_sRd, and_self, true_and, and_true, eq_self, eqS, eqI, neS, neI, decide_true, decide_false, decide_eq_true_eq, Bool.not_true, Bool.not_false, initE, setPat, setAll, op1, isBl, flFin, iterD, seqOf, List.length_cons, List.length_nil, Bool.false_eq_true, if_false, if_true, List.nil_append, List.map_cons, List.map_nil, List.replicate, List.cons_append, Option.bind_some, Option.map_some, List.set_cons_succ, List.set_cons_zero, List.getElem?_cons_zero, List.getElem?_cons_succ, Nat.reduceAdd, ev_eNot, ev_eOwnAdd, ev_chain3, ev_xGet, ev_eFnX, ev_eFnXK, ev_xOk, ev_xTup2, ev_sSetX, ev_sRetX, ev_sExpX, ev_sRaise, ev_sTry, ev_eIsE, ev_eFldC, ev_eLc2, ev_lOwn, ev_sExt, i1, hs]
      rw [ev_mAnd, t1]
      simp only [Option.bind_some, if_true]
      rw [ev_eT, wp_obind]
      refine wp_op ?_
      refine (dr (many := 3) (by omega) (by omega) (n := n + k) (by omega) rfl hj).mono ?_
      rintro _ r2 ⟨⟨c, rfl, c0, c1⟩, hr2⟩
      refine wp_c ⟨_, cmpI, ?_⟩
      exact ⟨_, _, rfl, fun z => z.elim, fun _ => fin r2 x5 (hr2.mono (by omega)), fun _ => hr2.mono (by omega)⟩
    · have t1 : eT (eOp opEq (eOp opIx (eVar 5) (eC (.int 1))) (eVar 4)) [.rdr, .val (.tup (ps.map PU.d)), x2, x3, .val (.str w), .val p.d, x6, x7, x8, x9, x10] r = some (false, r) := by
        simp only [ev_bind1, ev_lift, ev_eC, ev_eVar, ev_eOp, ev_eUn, ev_eT, ev_mAnd, ev_mOr, ev_mNot, ev_eAnd, ev_eIf, ev_chain, ev_aNil, ev_aCons, ev_eTup, ev_eLst, ev_eCall, ev_eFn, ev_eFnR, ev_eIter, ev_eRange, ev_eLc, ev_eSl, ev_pNone, ev_pSome, ev_mFrz, ev_sNx, ev_sSet, ev_sRet, ev_sSeq, ev_sIf, ev_sUnp, ev_sNew, ev_fLst, ev_fCat, ev_sApp, ev_sFrz, ev_sFor, ev_vNil, ev_vVal, ev_vOwn, ev_sTup, ev_eRd, ev_sRd, and_self, true_and, and_true, eq_self, eqS, eqI, neS, neI, decide_true, decide_false, decide_eq_true_eq, Bool.not_true, Bool.not_false, initE, setPat, setAll, op1, isBl, flFin, iterD, seqOf, List.length_cons, List.length_nil, Bool.false_eq_true, if_false, if_true, List.nil_append, List.map_cons, List.map_nil, List.replicate, List.cons_append, Option.bind_some, Option.map_some, List.set_cons_succ, List.set_cons_zero, List.getElem?_cons_zero, List.getElem?_cons_succ, Nat.reduceAdd, ev_eNot, ev_eOwnAdd, ev_chain3, ev_xGet, ev_eFnX, ev_eFnXK, ev_xOk, ev_xTup2, ev_sSetX, ev_sRetX, ev_sExpX, ev_sRaise, ev_sTry, ev_eIsE, ev_eFldC, ev_eLc2, ev_lOwn, ev_sExt, i1, hs]
      rw [ev_mAnd, t1]
      exact ⟨_, _, rfl, fun z => z.elim, fun z => (by cases z), fun _ => hj.mono (by omega)⟩
  · rintro ys r2 ⟨g1, g2, g3, g4⟩
    obtain ⟨ks, rfl, hk⟩ := all_strs g1
    rw [List.length_map, List.length_map] at g2
    rw [List.length_map] at g3
    exact ⟨⟨ks, rfl, fun k hk' => by
      obtain ⟨p, hpp, rfl⟩ := List.mem_map.mp (hk k hk')
      exact as_four (hp p hpp).n, by omega⟩, g3.mono (by omega)⟩
def buE (ps : List PU) (n : Int) (k : Nat) (env : List SV) (r : Rdr) : Prop := ∃ (bs : List BD) (x3 x4 x5 x6 x7 x8 x9 x10 : SV), env = [.rdr, .val (.tup (ps.map PU.d)), .own (bs.map BD.d), x3, x4, x5, x6, x7, x8, x9, x10] ∧ (∀ l ∈ bs, BdS l) ∧ bs.length ≤ k ∧ RdI (n + 8 * k) r
theorem bu1 {ps : List PU} (hp : ∀ p ∈ ps, PuS p) (h1 : ps ≠ []) (hl : ps.length ≤ 4) {n : Int} (hn : n ≤ 700000) {k : Nat} (hk : k < 6) {bs : List BD} (hb : ∀ l ∈ bs, BdS l) (hbl : bs.length ≤ k) (x3 x4 x5 x6 x7 x8 x9 x10 : SV) {rd : Rdr} (hr : RdI (n + 8 * k) rd) :
    Wp (buB [.rdr, .val (.tup (ps.map PU.d)), .own (bs.map BD.d), x3, x4, x5, x6, x7, x8, x9, x10] rd) fun fl r => ∃ env', fl = .nx env' ∧ buE ps n (k + 1) env' r := by
  have b1 : buB = sSeq (sSet 4 (eOp opIx (eFnR mf__law_choice 1 0 (aCons (eVar 1) aNil)) (eC (.int 1)))) (sSeq (sSet 6 buL) (sSeq (sTup [7, 8] (vVal (eFnR mf__law_draw 1 0 (aCons (eC (.int 2)) aNil)) (vVal (eFnR mf__law_draw 1 0 (aCons (eC (.int 3)) aNil)) vNil)))
      (sSeq (sSet 5 (eTup (aCons (eCall (op1 opTuple) (aCons (eVar 6) aNil)) (aCons (eVar 7) (aCons (eOp opAdd (eVar 7) (eVar 8)) (aCons (eFnR mf__law_choice 1 0 (aCons (eLst (aCons (eC (.int 2)) (aCons (eC (.int 3)) (aCons (eC (.int 4)) (aCons (eC (.int 1)) (aCons (eC (.int 5)) (aCons (eC (.int 0)) (aCons (eC (.int 6)) (aCons (eC (.int 8)) aNil))))))))) aNil)) aNil))))))
      (sIf (eT (eOp opNe (eVar 6) (eLst aNil))) buN sNx)))) := rfl
  have l0 : ((0 : Nat) ≤ sizeLine) = True := by simp
  have l8 : ((8 : Nat) ≤ sizeLine) = True := szl (m := 8) (Nat.le_refl _)
  rw [b1]
  refine wp_set (wp_op ?_)
  refine (ch (ds := ps.map PU.d) (d := .tup (ps.map PU.d)) (n := n + 8 * k) (rd1 := rd) (.inl rfl) (by simpa using h1) (by rw [List.length_map]; omega) (by omega) rfl (by simp only [ev_bind1, ev_lift, ev_eC, ev_eVar, ev_eOp, ev_eUn, ev_eT, ev_mAnd, ev_mOr, ev_mNot, ev_eAnd, ev_eIf, ev_chain, ev_aNil, ev_aCons, ev_eTup, ev_eLst, ev_eCall, ev_eFn, ev_eFnR, ev_eIter, ev_eRange, ev_eLc, ev_eSl, ev_pNone, ev_pSome, ev_mFrz, ev_sNx, ev_sSet, ev_sRet, ev_sSeq, ev_sIf, ev_sUnp, ev_sNew, ev_fLst, ev_fCat, ev_sApp, ev_sFrz, ev_sFor, ev_vNil, ev_vVal, ev_vOwn, ev_sTup, ev_eRd, ev_sRd, and_self, true_and, and_true, eq_self, eqS, eqI, neS, neI, decide_true, decide_false, decide_eq_true_eq, Bool.not_true, Bool.not_false, initE, setPat, setAll, op1, isBl, flFin, iterD, seqOf, List.length_cons, List.length_nil, Bool.false_eq_true, if_false, if_true, List.nil_append, List.map_cons, List.map_nil, List.replicate, List.cons_append, Option.bind_some, Option.map_some, List.set_cons_succ, List.set_cons_zero, List.getElem?_cons_zero, List.getElem?_cons_succ, Nat.reduceAdd, ev_eNot, ev_eOwnAdd, ev_chain3, ev_xGet, ev_eFnX, ev_eFnXK, ev_xOk, ev_xTup2, ev_sSetX, ev_sRetX, ev_sExpX, ev_sRaise, ev_sTry, ev_eIsE, ev_eFldC, ev_eLc2, ev_lOwn, ev_sExt]) hr).mono ?_
  rintro _ r1 ⟨hx, hr1⟩
  obtain ⟨p, hpp, rfl⟩ := List.mem_map.mp hx
  refine wp_c ⟨.str p.s, rfl, wp_set ?_⟩
  refine (labels_ok hp hl (w := p.s) (n := n + 8 * k + 1) (by omega) _ _ _ _ _ _ _ _ hr1).mono ?_
  rintro _ r2 ⟨⟨ks, rfl, ka, kl⟩, hr2⟩
  refine wp_seq ?_
  have two : Wp (sTup [7, 8] (vVal (eFnR mf__law_draw 1 0 (aCons (eC (.int 2)) aNil)) (vVal (eFnR mf__law_draw 1 0 (aCons (eC (.int 3)) aNil)) vNil)) [.rdr, .val (.tup (ps.map PU.d)), .own (bs.map BD.d), x3, .val (.str p.s), x5, .val (.lst (ks.map .str)), x7, x8, x9, x10] r2)
      fun fl r => ∃ a c : Int, 0 ≤ a ∧ a < 2 ∧ 0 ≤ c ∧ c < 3 ∧ fl = .nx [.rdr, .val (.tup (ps.map PU.d)), .own (bs.map BD.d), x3, .val (.str p.s), x5, .val (.lst (ks.map .str)), .val (.int a), .val (.int c), x9, x10] ∧ RdI (n + 8 * k + 7) r := by
    rw [ev_sTup, wp_obind, ev_vVal, wp_obind]
    refine (dr (many := 2) (by omega) (by omega) (n := n + 8 * k + 1 + 4) (by omega) rfl hr2).mono ?_
    rintro _ r3 ⟨⟨a, rfl, a0, a1⟩, hr3⟩
    simp only []
    rw [wp_obind, ev_vVal, wp_obind]
    refine (dr (many := 3) (by omega) (by omega) (n := n + 8 * k + 1 + 4 + 1) (by omega) rfl hr3).mono ?_
    rintro _ r4 ⟨⟨c, rfl, c0, c1⟩, hr4⟩
    exact ⟨_, _, rfl, _, _, rfl, _, _, rfl, a, c, a0, a1, c0, c1, rfl, hr4.mono (by omega)⟩
  refine two.mono ?_
  rintro _ r4 ⟨a, c, a0, a1, c0, c1, rfl, hr4⟩
  refine ⟨_, rfl, wp_set ?_⟩
  have ot : opTuple (.lst (ks.map .str)) = some (.tup (ks.map .str)) := rfl
  refine wp_tup (wp_cons (wp_call (wp_cons (wp_v rfl (wp_nil ⟨_, ot, wp_cons (wp_v rfl (wp_cons (wp_op (wp_v rfl (wp_v rfl ⟨_, addI, wp_cons ?_⟩)))))⟩)))))
  refine (ch (ds := capL) (d := .lst capL) (n := n + 8 * k + 7) (rd1 := r4) (.inr rfl) (by simp [capL]) (by simp [capL]) (by omega) rfl (by simp only [ev_bind1, ev_lift, ev_eC, ev_eVar, ev_eOp, ev_eUn, ev_eT, ev_mAnd, ev_mOr, ev_mNot, ev_eAnd, ev_eIf, ev_chain, ev_aNil, ev_aCons, ev_eTup, ev_eLst, ev_eCall, ev_eFn, ev_eFnR, ev_eIter, ev_eRange, ev_eLc, ev_eSl, ev_pNone, ev_pSome, ev_mFrz, ev_sNx, ev_sSet, ev_sRet, ev_sSeq, ev_sIf, ev_sUnp, ev_sNew, ev_fLst, ev_fCat, ev_sApp, ev_sFrz, ev_sFor, ev_vNil, ev_vVal, ev_vOwn, ev_sTup, ev_eRd, ev_sRd, and_self, true_and, and_true, eq_self, eqS, eqI, neS, neI, decide_true, decide_false, decide_eq_true_eq, Bool.not_true, Bool.not_false, initE, setPat, setAll, op1, isBl, flFin, iterD, seqOf, List.length_cons, List.length_nil, Bool.false_eq_true, if_false, if_true, List.nil_append, List.map_cons, List.map_nil, List.replicate, List.cons_append, Option.bind_some, Option.map_some, List.set_cons_succ, List.set_cons_zero, List.getElem?_cons_zero, List.getElem?_cons_succ, Nat.reduceAdd, ev_eNot, ev_eOwnAdd, ev_chain3, ev_xGet, ev_eFnX, ev_eFnXK, ev_xOk, ev_xTup2, ev_sSetX, ev_sRetX, ev_sExpX, ev_sRaise, ev_sTry, ev_eIsE, ev_eFldC, ev_eLc2, ev_lOwn, ev_sExt, l8]; rfl) hr4).mono ?_
  rintro cp r5 ⟨hcp, hr5⟩
  have hcp' : ∃ z : Int, cp = .int z ∧ z.natAbs < 1000 := by
    simp only [capL, List.mem_cons, List.not_mem_nil, or_false] at hcp
    rcases hcp with rfl | rfl | rfl | rfl | rfl | rfl | rfl | rfl <;> exact ⟨_, rfl, by decide⟩
  obtain ⟨z, rfl, hz⟩ := hcp'
  refine wp_nil ⟨by simp, ?_⟩
  have ho : BdS ⟨ks, a, a + c, z⟩ := ⟨ka, kl, by show a.natAbs < 1000; omega, by show (a + c).natAbs < 1000; omega, hz⟩
  have nen : ∃ q : Bool, opNe (.lst (ks.map .str)) (.lst []) = some (.bl q) := ⟨_, ne_lstNil (sm_names ka) (by omega)⟩
  obtain ⟨q, hq⟩ := nen
  have tst : eT (eOp opNe (eVar 6) (eLst aNil)) [.rdr, .val (.tup (ps.map PU.d)), .own (bs.map BD.d), x3, .val (.str p.s), .val (BD.d ⟨ks, a, a + c, z⟩), .val (.lst (ks.map .str)), .val (.int a), .val (.int c), x9, x10] r5 = some (q, r5) := by
    simp only [ev_bind1, ev_lift, ev_eC, ev_eVar, ev_eOp, ev_eUn, ev_eT, ev_mAnd, ev_mOr, ev_mNot, ev_eAnd, ev_eIf, ev_chain, ev_aNil, ev_aCons, ev_eTup, ev_eLst, ev_eCall, ev_eFn, ev_eFnR, ev_eIter, ev_eRange, ev_eLc, ev_eSl, ev_pNone, ev_pSome, ev_mFrz, ev_sNx, ev_sSet, ev_sRet, ev_sSeq, ev_sIf, ev_sUnp, ev_sNew, ev_fLst, ev_fCat, ev_sApp, ev_sFrz, ev_sFor, ev_vNil, ev_vVal, ev_vOwn, ev_sTup, ev_eRd, ev_sRd, and_self, true_and, and_true, eq_self, eqS, eqI, neS, neI, decide_true, decide_false, decide_eq_true_eq, Bool.not_true, Bool.not_false, initE, setPat, setAll, op1, isBl, flFin, iterD, seqOf, List.length_cons, List.length_nil, Bool.false_eq_true, if_false, if_true, List.nil_append, List.map_cons, List.map_nil, List.replicate, List.cons_append, Option.bind_some, Option.map_some, List.set_cons_succ, List.set_cons_zero, List.getElem?_cons_zero, List.getElem?_cons_succ, Nat.reduceAdd, ev_eNot, ev_eOwnAdd, ev_chain3, ev_xGet, ev_eFnX, ev_eFnXK, ev_xOk, ev_xTup2, ev_sSetX, ev_sRetX, ev_sExpX, ev_sRaise, ev_sTry, ev_eIsE, ev_eFldC, ev_eLc2, ev_lOwn, ev_sExt, l0, hq]
  refine wp_if q tst (fun _ => ?_) (fun _ => ?_)
  · obtain ⟨bs', y9, y10, g1, g2, g3⟩ := bu2 hb (by omega) ho (.val (.tup (ps.map PU.d))) x3 (.val (.str p.s)) (.val (.lst (ks.map .str))) (.val (.int a)) (.val (.int c)) x9 x10 r5
    exact ⟨_, _, g1, _, rfl, bs', _, _, _, _, _, _, _, _, rfl, g2, by omega, hr5.mono (by omega)⟩
  · exact ⟨_, _, rfl, _, rfl, bs, _, _, _, _, _, _, _, _, rfl, hb, by omega, hr5.mono (by omega)⟩
theorem bounds_ok {ps : List PU} (hp : ∀ p ∈ ps, PuS p) (h1 : ps ≠ []) (hl : ps.length ≤ 4) {n : Int} (hn : n ≤ 600000) {rd : Rdr} (hr : RdI n rd) : Wp (mf__law_bounds [.tup (ps.map PU.d)] rd) fun d rd' => (∃ bs : List BD, d = .tup (bs.map BD.d) ∧ (∀ l ∈ bs, BdS l) ∧ bs.length ≤ 6) ∧ RdI (n + 49) rd' := by
  have e : mf__law_bounds [.tup (ps.map PU.d)] rd = (b__law_bounds (initE true [.tup (ps.map PU.d)] 9) rd).bind flFin := rfl
  have b1 : b__law_bounds = sSeq (sNew 2 (fLst aNil)) (sSeq (sFor (eRange range1 (aCons (eFnR mf__law_draw 1 0 (aCons (eC (.int 6)) aNil)) aNil)) (.nm 3) buB) (sFrz 2 (sRet (eCall (op1 opTuple) (aCons (eVar 2) aNil))))) := rfl
  have l0 : ((0 : Nat) ≤ sizeLine) = True := by simp
  have s0 : sNew 2 (fLst aNil) (initE true [.tup (ps.map PU.d)] 9) rd = some (.nx [.rdr, .val (.tup (ps.map PU.d)), .own (([] : List BD).map BD.d), .un, .un, .un, .un, .un, .un, .un, .un], rd) := by
    simp only [ev_bind1, ev_lift, ev_eC, ev_eVar, ev_eOp, ev_eUn, ev_eT, ev_mAnd, ev_mOr, ev_mNot, ev_eAnd, ev_eIf, ev_chain, ev_aNil, ev_aCons, ev_eTup, ev_eLst, ev_eCall, ev_eFn, ev_eFnR, ev_eIter, ev_eRange, ev_eLc, ev_eSl, ev_pNone, ev_pSome, ev_mFrz, ev_sNx, ev_sSet, ev_sRet, ev_sSeq, ev_sIf, ev_sUnp, ev_sNew, ev_fLst, ev_fCat, ev_sApp, ev_sFrz, ev_sFor, ev_vNil, ev_vVal, ev_vOwn, ev_sTup, ev_eRd, ev_sRd, and_self, true_and, and_true, eq_self, eqS, eqI, neS, neI, decide_true, decide_false, decide_eq_true_eq, Bool.not_true, Bool.not_false, initE, setPat, setAll, op1, isBl, flFin, iterD, seqOf, List.length_cons, List.length_nil, Bool.false_eq_true, if_false, if_true, List.nil_append, List.map_cons, List.map_nil, List.replicate, List.cons_append, Option.bind_some, Option.map_some, List.set_cons_succ, List.set_cons_zero, List.getElem?_cons_zero, List.getElem?_cons_succ, Nat.reduceAdd, ev_eNot, ev_eOwnAdd, ev_chain3, ev_xGet, ev_eFnX, ev_eFnXK, ev_xOk, ev_xTup2, ev_sSetX, ev_sRetX, ev_sExpX, ev_sRaise, ev_sTry, ev_eIsE, ev_eFldC, ev_eLc2, ev_lOwn, ev_sExt, l0]
  rw [e, b1, ev_sSeq, s0]
  simp only [Option.bind_some]
  rw [wp_obind]
  refine wp_seq (wp_for ?_)
  have it : Wp (eRange range1 (aCons (eFnR mf__law_draw 1 0 (aCons (eC (.int 6)) aNil)) aNil) [.rdr, .val (.tup (ps.map PU.d)), .own (([] : List BD).map BD.d), .un, .un, .un, .un, .un, .un, .un, .un] rd) fun ds r => (∃ m : Nat, m < 6 ∧ ds = rangeD 0 m) ∧ RdI (n + 1) r := by
    rw [ev_eRange, wp_obind]
    refine wp_cons ?_
    refine (dr (many := 6) (by omega) (by omega) (n := n) (by omega) rfl hr).mono ?_
    rintro _ r2 ⟨⟨c, rfl, c0, c1⟩, hr2⟩
    obtain ⟨m, rfl⟩ := Int.eq_ofNat_of_zero_le c0
    exact wp_nil ⟨_, _, by rw [range1_n (by omega)]; rfl, ⟨m, by omega, rfl⟩, hr2⟩
  refine it.mono ?_
  rintro ds r ⟨⟨m, m6, rfl⟩, hr1⟩
  refine (forGo_wpI (E := buE ps (n + 1)) (n := 0) (fun i d hd env r he => ?_) ⟨[], .un, .un, .un, .un, .un, .un, .un, .un, rfl, fun p hp => (List.not_mem_nil hp).elim, by simp, by simpa using hr1⟩).mono ?_
  · rw [Nat.zero_add] at he ⊢
    obtain ⟨bs, x3, x4, x5, x6, x7, x8, x9, x10, rfl, h3, h4, h5⟩ := he
    have hi : i < m := by
      have := (List.getElem?_eq_some_iff.mp hd).1
      rwa [range_len] at this
    exact ⟨_, rfl, bu1 hp h1 hl (by omega) (by omega) h3 h4 (.val d) x4 x5 x6 x7 x8 x9 x10 h5⟩
  · rintro fl r ⟨env', rfl, bs, x3, x4, x5, x6, x7, x8, x9, x10, rfl, h3, h4, h5⟩
    rw [range_len, Nat.zero_add] at h4 h5
    refine ⟨_, rfl, ?_⟩
    have ot : ∀ l : List D, opTuple (.lst l) = some (.tup l) := fun _ => rfl
    have fz : frzAt 2 [.rdr, .val (.tup (ps.map PU.d)), .own (bs.map BD.d), x3, x4, x5, x6, x7, x8, x9, x10] = [.rdr, .val (.tup (ps.map PU.d)), .val (.lst (bs.map BD.d)), x3, x4, x5, x6, x7, x8, x9, x10] := rfl
    have s3 : sFrz 2 (sRet (eCall (op1 opTuple) (aCons (eVar 2) aNil))) [.rdr, .val (.tup (ps.map PU.d)), .own (bs.map BD.d), x3, x4, x5, x6, x7, x8, x9, x10] r = some (.ret (.tup (bs.map BD.d)), r) := by
      rw [ev_sFrz, fz]
      simp only [ev_bind1, ev_lift, ev_eC, ev_eVar, ev_eOp, ev_eUn, ev_eT, ev_mAnd, ev_mOr, ev_mNot, ev_eAnd, ev_eIf, ev_chain, ev_aNil, ev_aCons, ev_eTup, ev_eLst, ev_eCall, ev_eFn, ev_eFnR, ev_eIter, ev_eRange, ev_eLc, ev_eSl, ev_pNone, ev_pSome, ev_mFrz, ev_sNx, ev_sSet, ev_sRet, ev_sSeq, ev_sIf, ev_sUnp, ev_sNew, ev_fLst, ev_fCat, ev_sApp, ev_sFrz, ev_sFor, ev_vNil, ev_vVal, ev_vOwn, ev_sTup, ev_eRd, ev_sRd, and_self, true_and, and_true, eq_self, eqS, eqI, neS, neI, decide_true, decide_false, decide_eq_true_eq, Bool.not_true, Bool.not_false, initE, setPat, setAll, op1, isBl, flFin, iterD, seqOf, List.length_cons, List.length_nil, Bool.false_eq_true, if_false, if_true, List.nil_append, List.map_cons, List.map_nil, List.replicate, List.cons_append, Option.bind_some, Option.map_some, List.set_cons_succ, List.set_cons_zero, List.getElem?_cons_zero, List.getElem?_cons_succ, Nat.reduceAdd, ev_eNot, ev_eOwnAdd, ev_chain3, ev_xGet, ev_eFnX, ev_eFnXK, ev_xOk, ev_xTup2, ev_sSetX, ev_sRetX, ev_sExpX, ev_sRaise, ev_sTry, ev_eIsE, ev_eFldC, ev_eLc2, ev_lOwn, ev_sExt, ot]
    exact ⟨_, _, s3, _, _, rfl, ⟨bs, rfl, h3, by omega⟩, h5.mono (by omega)⟩
end My

set_option Elab.async false
set_option linter.all false
set_option maxRecDepth 100000
set_option maxHeartbeats 4000000
namespace My
open PySem PySem.Spec PyProof.Rows L2 FW
def sortL : List D := [.str ("food" : Str), .str ("toy" : Str), .str ("food" : Str), .str ("rent" : Str)]
theorem daysort_ok {n : Int} (hn : n ≤ 800000) {rd : Rdr} (hr : RdI n rd) : Wp (mf__law_day_sort [] rd) fun d rd' => (∃ (a : Int) (k : Str), d = .tup [.int a, .str k] ∧ 0 ≤ a ∧ a < 3 ∧ As 8 k) ∧ RdI (n + 2) rd' := by
  have e : mf__law_day_sort [] rd = (b__law_day_sort (initE true [] 0) rd).bind flFin := rfl
  have l4 : ((4 : Nat) ≤ sizeLine) = True := szl (m := 4) (Nat.le_refl _)
  rw [e]
  unfold b__law_day_sort
  rw [wp_obind, ev_sRet, wp_obind]
  refine wp_tup (wp_cons ?_)
  refine (dr (many := 3) (by omega) (by omega) (n := n) (by omega) rfl hr).mono ?_
  rintro _ r2 ⟨⟨a, rfl, a0, a1⟩, hr2⟩
  refine wp_cons ?_
  refine (ch (ds := sortL) (d := .lst sortL) (n := n + 1) (rd1 := r2) (.inr rfl) (by simp [sortL]) (by simp [sortL]) (by omega) rfl (by simp only [ev_bind1, ev_lift, ev_eC, ev_eVar, ev_eOp, ev_eUn, ev_eT, ev_mAnd, ev_mOr, ev_mNot, ev_eAnd, ev_eIf, ev_chain, ev_aNil, ev_aCons, ev_eTup, ev_eLst, ev_eCall, ev_eFn, ev_eFnR, ev_eIter, ev_eRange, ev_eLc, ev_eSl, ev_pNone, ev_pSome, ev_mFrz, ev_sNx, ev_sSet, ev_sRet, ev_sSeq, ev_sIf, ev_sUnp, ev_sNew, ev_fLst, ev_fCat, ev_sApp, ev_sFrz, ev_sFor, ev_vNil, ev_vVal, ev_vOwn, ev_sTup, ev_eRd, ev_sRd, and_self, true_and, and_true, eq_self, eqS, eqI, neS, neI, decide_true, decide_false, decide_eq_true_eq, Bool.not_true, Bool.not_false, initE, setPat, setAll, op1, isBl, flFin, iterD, seqOf, List.length_cons, List.length_nil, Bool.false_eq_true, if_false, if_true, List.nil_append, List.map_cons, List.map_nil, List.replicate, List.cons_append, Option.bind_some, Option.map_some, List.set_cons_succ, List.set_cons_zero, List.getElem?_cons_zero, List.getElem?_cons_succ, Nat.reduceAdd, ev_eNot, ev_eOwnAdd, ev_chain3, ev_xGet, ev_eFnX, ev_eFnXK, ev_xOk, ev_xTup2, ev_sSetX, ev_sRetX, ev_sExpX, ev_sRaise, ev_sTry, ev_eIsE, ev_eFldC, ev_eLc2, ev_lOwn, ev_sExt, l4]; rfl) hr2).mono ?_
  rintro s r3 ⟨hs, hr3⟩
  have hs' : ∃ z : Str, s = .str z ∧ As 8 z := by
    simp only [sortL, List.mem_cons, List.not_mem_nil, or_false] at hs
    rcases hs with rfl | rfl | rfl | rfl <;> exact ⟨_, rfl, by unfold As; decide +kernel⟩
  obtain ⟨z, rfl, hz⟩ := hs'
  exact wp_nil ⟨by simp, _, _, rfl, _, _, rfl, ⟨a, z, rfl, a0, a1, hz⟩, hr3.mono (by omega)⟩
def bkF (ps : List PU) (bs : List BD) : Prop := (∀ p ∈ ps, PuS p) ∧ ps.length ≤ 4 ∧ (∀ l ∈ bs, BdS l) ∧ bs.length ≤ 6
def boE (ps : List PU) (bs : List BD) (n : Int) (k : Nat) (env : List SV) (r : Rdr) : Prop := ∃ (rs : List RW) (m : Int) (x5 x6 x7 x8 x9 x10 x11 : SV),
  env = [.rdr, .val (.tup (ps.map PU.d)), .val (.tup (bs.map BD.d)), .own (rs.map RW.d), .val (.int m), x5, x6, x7, x8, x9, x10, x11] ∧ (∀ r ∈ rs, RwS ps.length r) ∧ rs.length ≤ k ∧ RdI (n + 8 * k) r
def boP : MM Fl := (sSeq (sSet 9 (eTup (aCons (eVar 1) (aCons (eVar 2) (aCons (eOwnAdd 3 (eLst (aCons (eTup (aCons (eC (.str ("paid" : Str))) (aCons (eVar 6) (aCons (eVar 7) (aCons (eVar 8) aNil))))) aNil))) aNil)))))
  (sSeq (sSet 10 (mFrz (flatDOk (eOp opSub (eCall (op1 opLen) (aCons (eVar 3) aNil)) (eVar 4)))))
  (sIf (mAnd (eT (eOp opLt (eVar 10) (eC (.int 2)))) (eT (eOp opEq (eLc (eIter (eVar 2)) (.nm 11) [11] (eT (eOp opLt (eFn mf__law_left 2 (aCons (eVar 9) (aCons (eVar 11) aNil))) (eC (.int 0)))) (eVar 11)) (eLst aNil)))) (sNew 3 (fList (aCons (eOp opIx (eVar 9) (eC (.int 2))) aNil))) sNx)))
def boS : MM D := (eCall (op1 opTuple) (aCons (eLc (eIter (eVar 1)) (.nm 11) [11] mYes (eOp opMul (eFnR mf__law_draw 1 0 (aCons (eC (.int 3)) aNil)) (eCall (op1 opInt) (aCons (eFn mf__law_may 3 (aCons (eVar 11) (aCons (eVar 6) (aCons (eVar 7) aNil)))) aNil)))) aNil))
def boQ : MM Fl := (sIf (eT (eOp opLt (eVar 4) (eC (.int 3)))) (sSeq (sApp 3 (eTup (aCons (eC (.str ("buy" : Str))) (aCons (eVar 6) (aCons (eVar 7) (aCons (eFnR mf__law_draw 1 0 (aCons (eIf (eT (eOp opLt (eCall (op1 opLen) (aCons (eVar 1) aNil)) (eC (.int 4)))) (eC (.int 5)) (eC (.int 3))) aNil)) aNil))))))
  (sSet 4 (eOp opAdd (eVar 4) (eC (.int 1))))) sNx)
def boB : MM Fl := (sSeq (sUnp (.tp [6, 7]) (eFnR mf__law_day_sort 0 0 aNil))
  (sIf (eT (eOp opEq (eFnR mf__law_draw 1 0 (aCons (eC (.int 3)) aNil)) (eC (.int 0)))) (sSeq (sSet 8 (eCall (op1 opTuple) (aCons (eLc (eIter (eVar 1)) (.nm 11) [11] mYes (eOp opMul (eFnR mf__law_draw 1 0 (aCons (eC (.int 3)) aNil)) (eCall (op1 opInt) (aCons (eFn mf__law_may 3 (aCons (eVar 11) (aCons (eVar 6) (aCons (eVar 7) aNil)))) aNil)))) aNil)))
  (sSeq (sSet 9 (eTup (aCons (eVar 1) (aCons (eVar 2) (aCons (eOwnAdd 3 (eLst (aCons (eTup (aCons (eC (.str ("paid" : Str))) (aCons (eVar 6) (aCons (eVar 7) (aCons (eVar 8) aNil))))) aNil))) aNil)))))
  (sSeq (sSet 10 (mFrz (flatDOk (eOp opSub (eCall (op1 opLen) (aCons (eVar 3) aNil)) (eVar 4)))))
  (sIf (mAnd (eT (eOp opLt (eVar 10) (eC (.int 2)))) (eT (eOp opEq (eLc (eIter (eVar 2)) (.nm 11) [11] (eT (eOp opLt (eFn mf__law_left 2 (aCons (eVar 9) (aCons (eVar 11) aNil))) (eC (.int 0)))) (eVar 11)) (eLst aNil)))) (sNew 3 (fList (aCons (eOp opIx (eVar 9) (eC (.int 2))) aNil))) sNx)))) (sIf (eT (eOp opLt (eVar 4) (eC (.int 3)))) (sSeq (sApp 3 (eTup (aCons (eC (.str ("buy" : Str))) (aCons (eVar 6) (aCons (eVar 7) (aCons (eFnR mf__law_draw 1 0 (aCons (eIf (eT (eOp opLt (eCall (op1 opLen) (aCons (eVar 1) aNil)) (eC (.int 4)))) (eC (.int 5)) (eC (.int 3))) aNil)) aNil))))))
  (sSet 4 (eOp opAdd (eVar 4) (eC (.int 1))))) sNx)))
theorem shares_ok {ps : List PU} (hl : ps.length ≤ 4) {n : Int} (hn : n ≤ 800000) {a : Int} {kk : Str} (x2 x3 x4 x5 x8 x9 x10 x11 : SV) {rd : Rdr} (hr : RdI n rd) :
    Wp (boS [.rdr, .val (.tup (ps.map PU.d)), x2, x3, x4, x5, .val (.int a), .val (.str kk), x8, x9, x10, x11] rd) fun d rd' => (∃ sh : List Int, d = shD sh ∧ Sh4 ps.length sh) ∧ RdI (n + 4) rd' := by
  have lz : ((ps.map PU.d).length ≤ sizeLine) = True := by
    rw [List.length_map]
    exact szl (m := 4) hl
  unfold boS
  refine wp_call (wp_cons ?_)
  rw [ev_eLc, ev_eIter, ev_eVar]
  simp only [List.getElem?_cons_zero, List.getElem?_cons_succ, Option.bind_some, iterD, Option.map_some, lz, if_true]
  rw [wp_omap2]
  refine (lcGo_wpA (g := D.int) (f := fun _ s => 0 ≤ s ∧ s ≤ 4) (J := fun j r => RdI (n + j) r) (n := 0) (ds := ps.map PU.d) ?_ (by simpa using hr)).mono ?_
  · intro d hd k r hk hj
    obtain ⟨p, hpp, rfl⟩ := List.mem_map.mp hd
    rw [List.length_map] at hk
    obtain ⟨c, hc⟩ := may_ok p a kk
    refine ⟨_, rfl, ?_⟩
    refine wp_op ?_
    refine (dr (many := 3) (by omega) (by omega) (n := n + k) (by omega) rfl hj).mono ?_
    rintro _ r2 ⟨⟨q, rfl, q0, q1⟩, hr2⟩
    have tl : eCall (op1 opInt) (aCons (eFn mf__law_may 3 (aCons (eVar 11) (aCons (eVar 6) (aCons (eVar 7) aNil)))) aNil) [.rdr, .val (.tup (ps.map PU.d)), x2, x3, x4, x5, .val (.int a), .val (.str kk), x8, x9, x10, .val p.d] r2 = some (.int (if c = true then 1 else 0), r2) := by
      have ob : ∀ b : Bool, opInt (.bl b) = some (.int (if b = true then 1 else 0)) := fun _ => rfl
      simp only [ev_bind1, ev_lift, ev_eC, ev_eVar, ev_eOp, ev_eUn, ev_eT, ev_mAnd, ev_mOr, ev_mNot, ev_eAnd, ev_eIf, ev_chain, ev_aNil, ev_aCons, ev_eTup, ev_eLst, ev_eCall, ev_eFn, ev_eFnR, ev_eIter, ev_eRange, ev_eLc, ev_eSl, ev_pNone, ev_pSome, ev_mFrz, ev_sNx, ev_sSet, ev_sRet, ev_sSeq, ev_sIf, ev_sUnp, ev_sNew, ev_fLst, ev_fCat, ev_sApp, ev_sFrz, ev_sFor, ev_vNil, ev_vVal, ev_vOwn, ev_sTup, ev_eRd, ev_sRd, and_self, true_and, and_true, eq_self, eqS, eqI, neS, neI, decide_true, decide_false, decide_eq_true_eq, Bool.not_true, Bool.not_false, initE, setPat, setAll, op1, isBl, flFin, iterD, seqOf, List.length_cons, List.length_nil, Bool.false_eq_true, if_false, if_true, List.nil_append, List.map_cons, List.map_nil, List.replicate, List.cons_append, Option.bind_some, Option.map_some, List.set_cons_succ, List.set_cons_zero, List.getElem?_cons_zero, List.getElem?_cons_succ, Nat.reduceAdd, ev_eNot, ev_eOwnAdd, ev_chain3, ev_xGet, ev_eFnX, ev_eFnXK, ev_xOk, ev_xTup2, ev_sSetX, ev_sRetX, ev_sExpX, ev_sRaise, ev_sTry, ev_eIsE, ev_eFldC, ev_eLc2, ev_lOwn, ev_sExt, hc, ob]
    refine ⟨_, _, tl, ?_⟩
    cases c with
    | true =>
      refine ⟨.int (q * 1), mulI (by omega), ⟨q * 1, rfl, by omega, by omega⟩, hr2.mono (by omega)⟩
    | false =>
      refine ⟨.int (q * 0), mulI (by omega), ⟨q * 0, rfl, by omega, by omega⟩, hr2.mono (by omega)⟩
  · rintro ys r2 ⟨⟨as, rfl, h1, h2⟩, h3⟩
    rw [List.length_map] at h1 h3
    refine wp_nil ⟨_, rfl, ⟨as, rfl, h1, fun s hs => ?_⟩, h3.mono (by omega)⟩
    obtain ⟨d, _, h⟩ := h2 s hs
    exact h
theorem neg_list {ps : List PU} {bs : List BD} {rs : List RW} (hb : ∀ l ∈ bs, BdS l) (hbl : bs.length ≤ 6) (hr : rs.length ≤ 20) (hs : ∀ r ∈ rs, r.sh.length ≤ 4) (x0 x1 x3 x4 x5 x6 x7 x8 x10 x11 : SV) (rd : Rdr) :
    ∃ c : Bool, eT (eOp opEq (eLc (eIter (eVar 2)) (.nm 11) [11] (eT (eOp opLt (eFn mf__law_left 2 (aCons (eVar 9) (aCons (eVar 11) aNil))) (eC (.int 0)))) (eVar 11)) (eLst aNil)) [x0, x1, .val (.tup (bs.map BD.d)), x3, x4, x5, x6, x7, x8, .val (.tup [.tup (ps.map PU.d), .tup (bs.map BD.d), .lst (rs.map RW.d)]), x10, x11] rd = some (c, rd) := by
  have l0 : ((0 : Nat) ≤ sizeLine) = True := by simp
  have lz : ((bs.map BD.d).length ≤ sizeLine) = True := by
    rw [List.length_map]
    exact szl (m := 6) hbl
  obtain ⟨n3, d1, d2, g3⟩ := lcGo_ex (f := BD.d) (g := BD.d) (p := .nm 11) (env := wipeE [x0, x1, .val (.tup (bs.map BD.d)), x3, x4, x5, x6, x7, x8, .val (.tup [.tup (ps.map PU.d), .tup (bs.map BD.d), .lst (rs.map RW.d)]), x10, x11] [11]) (rd := rd)
    (t := eT (eOp opLt (eFn mf__law_left 2 (aCons (eVar 9) (aCons (eVar 11) aNil))) (eC (.int 0)))) (e := eVar 11) (as := bs) (fun l hl => by
      have lf := left_ok ps rs l (.tup (bs.map BD.d)) (.lst (rs.map RW.d)) (.inr rfl) (by omega) (fun r hr => Nat.le_trans (hs r hr) (by omega)) rd
      exact ⟨decide (l.c - paidSum ps rs l < 0), _, rfl, by simp only [ev_bind1, ev_lift, ev_eC, ev_eVar, ev_eOp, ev_eUn, ev_eT, ev_mAnd, ev_mOr, ev_mNot, ev_eAnd, ev_eIf, ev_chain, ev_aNil, ev_aCons, ev_eTup, ev_eLst, ev_eCall, ev_eFn, ev_eFnR, ev_eIter, ev_eRange, ev_eLc, ev_eSl, ev_pNone, ev_pSome, ev_mFrz, ev_sNx, ev_sSet, ev_sRet, ev_sSeq, ev_sIf, ev_sUnp, ev_sNew, ev_fLst, ev_fCat, ev_sApp, ev_sFrz, ev_sFor, ev_vNil, ev_vVal, ev_vOwn, ev_sTup, ev_eRd, ev_sRd, and_self, true_and, and_true, eq_self, eqS, eqI, neS, neI, decide_true, decide_false, decide_eq_true_eq, Bool.not_true, Bool.not_false, initE, setPat, setAll, op1, isBl, flFin, iterD, seqOf, List.length_cons, List.length_nil, Bool.false_eq_true, if_false, if_true, List.nil_append, List.map_cons, List.map_nil, List.replicate, List.cons_append, Option.bind_some, Option.map_some, List.set_cons_succ, List.set_cons_zero, List.getElem?_cons_zero, List.getElem?_cons_succ, Nat.reduceAdd, ev_eNot, ev_eOwnAdd, ev_chain3, ev_xGet, ev_eFnX, ev_eFnXK, ev_xOk, ev_xTup2, ev_sSetX, ev_sRetX, ev_sExpX, ev_sRaise, ev_sTry, ev_eIsE, ev_eFldC, ev_eLc2, ev_lOwn, ev_sExt, wipeE, lf, cmpI], by simp only [ev_bind1, ev_lift, ev_eC, ev_eVar, ev_eOp, ev_eUn, ev_eT, ev_mAnd, ev_mOr, ev_mNot, ev_eAnd, ev_eIf, ev_chain, ev_aNil, ev_aCons, ev_eTup, ev_eLst, ev_eCall, ev_eFn, ev_eFnR, ev_eIter, ev_eRange, ev_eLc, ev_eSl, ev_pNone, ev_pSome, ev_mFrz, ev_sNx, ev_sSet, ev_sRet, ev_sSeq, ev_sIf, ev_sUnp, ev_sNew, ev_fLst, ev_fCat, ev_sApp, ev_sFrz, ev_sFor, ev_vNil, ev_vVal, ev_vOwn, ev_sTup, ev_eRd, ev_sRd, and_self, true_and, and_true, eq_self, eqS, eqI, neS, neI, decide_true, decide_false, decide_eq_true_eq, Bool.not_true, Bool.not_false, initE, setPat, setAll, op1, isBl, flFin, iterD, seqOf, List.length_cons, List.length_nil, Bool.false_eq_true, if_false, if_true, List.nil_append, List.map_cons, List.map_nil, List.replicate, List.cons_append, Option.bind_some, Option.map_some, List.set_cons_succ, List.set_cons_zero, List.getElem?_cons_zero, List.getElem?_cons_succ, Nat.reduceAdd, ev_eNot, ev_eOwnAdd, ev_chain3, ev_xGet, ev_eFnX, ev_eFnXK, ev_xOk, ev_xTup2, ev_sSetX, ev_sRetX, ev_sExpX, ev_sRaise, ev_sTry, ev_eIsE, ev_eFldC, ev_eLc2, ev_lOwn, ev_sExt, wipeE]⟩)
  obtain ⟨c4, e4⟩ : ∃ c : Bool, opEq (.lst (n3.map BD.d)) (.lst []) = some (.bl c) := ⟨_, eq_lstNil (bds_sm fun l hl => hb l (d1 l hl)) (by omega)⟩
  refine ⟨c4, ?_⟩
  simp only [ev_bind1, ev_lift, ev_eC, ev_eVar, ev_eOp, ev_eUn, ev_eT, ev_mAnd, ev_mOr, ev_mNot, ev_eAnd, ev_eIf, ev_chain, ev_aNil, ev_aCons, ev_eTup, ev_eLst, ev_eCall, ev_eFn, ev_eFnR, ev_eIter, ev_eRange, ev_eLc, ev_eSl, ev_pNone, ev_pSome, ev_mFrz, ev_sNx, ev_sSet, ev_sRet, ev_sSeq, ev_sIf, ev_sUnp, ev_sNew, ev_fLst, ev_fCat, ev_sApp, ev_sFrz, ev_sFor, ev_vNil, ev_vVal, ev_vOwn, ev_sTup, ev_eRd, ev_sRd, and_self, true_and, and_true, eq_self, eqS, eqI, neS, neI, decide_true, decide_false, decide_eq_true_eq, Bool.not_true, Bool.not_false, initE, setPat, setAll, op1, isBl, flFin, iterD, seqOf, List.length_cons, List.length_nil, Bool.false_eq_true, if_false, if_true, List.nil_append, List.map_cons, List.map_nil, List.replicate, List.cons_append, Option.bind_some, Option.map_some, List.set_cons_succ, List.set_cons_zero, List.getElem?_cons_zero, List.getElem?_cons_succ, Nat.reduceAdd, ev_eNot, ev_eOwnAdd, ev_chain3, ev_xGet, ev_eFnX, ev_eFnXK, ev_xOk, ev_xTup2, ev_sSetX, ev_sRetX, ev_sExpX, ev_sRaise, ev_sTry, ev_eIsE, ev_eFldC, ev_eLc2, ev_lOwn, ev_sExt, l0, lz, g3, e4]
theorem boP_ok {ps : List PU} {bs : List BD} (hF : bkF ps bs) {rs : List RW} (hr : ∀ r ∈ rs, RwS ps.length r) (hrl : rs.length ≤ 10) {a m : Int} (ha : a.natAbs < 1000) {kk : Str} (hk : As 8 kk) {sh : List Int} (hs : Sh4 ps.length sh) (x5 x9 x10 x11 : SV) (rd : Rdr) :
    ∃ (rs' : List RW) (y9 y10 y11 : SV), boP [.rdr, .val (.tup (ps.map PU.d)), .val (.tup (bs.map BD.d)), .own (rs.map RW.d), .val (.int m), x5, .val (.int a), .val (.str kk), .val (shD sh), x9, x10, x11] rd =
      some (.nx [.rdr, .val (.tup (ps.map PU.d)), .val (.tup (bs.map BD.d)), .own (rs'.map RW.d), .val (.int m), x5, .val (.int a), .val (.str kk), .val (shD sh), y9, y10, y11], rd) ∧ (∀ r ∈ rs', RwS ps.length r) ∧ rs'.length ≤ rs.length + 1 := by
  obtain ⟨hp, hpl, hb, hbl⟩ := hF
  let r0 : RW := ⟨false, a, kk, 0, sh⟩
  have hr0 : RwS ps.length r0 := ⟨ha, hk, ⟨by show (0 : Int) ≤ 0; omega, by show (0 : Int) ≤ 4; omega⟩, by show sh.length ≤ 4; rw [hs.1]; exact hpl, fun _ => hs⟩
  have hall : ∀ r ∈ rs ++ [r0], RwS ps.length r := fun r hx => by
    rcases List.mem_append.mp hx with hx | hx
    · exact hr r hx
    · rw [List.mem_singleton.mp hx]
      exact hr0
  have l1 : ((1 : Nat) ≤ sizeLine) = True := szl (m := 1) (Nat.le_refl _)
  have l3 : ((3 : Nat) ≤ sizeLine) = True := szl (m := 3) (Nat.le_refl _)
  have l4 : ((4 : Nat) ≤ sizeLine) = True := szl (m := 4) (Nat.le_refl _)
  have la : ((rs.map RW.d).length + 1 ≤ sizeLine) = True := by
    rw [List.length_map]
    exact szl (m := 11) (by omega)
  have e0 : D.tup [.str ("paid" : Str), .int a, .str kk, shD sh] = r0.d := rfl
  have eap : rs.map RW.d ++ [r0.d] = (rs ++ [r0]).map RW.d := by
    rw [List.map_append]
    rfl
  have b1 : boP = sSeq (sSet 9 (eTup (aCons (eVar 1) (aCons (eVar 2) (aCons (eOwnAdd 3 (eLst (aCons (eTup (aCons (eC (.str ("paid" : Str))) (aCons (eVar 6) (aCons (eVar 7) (aCons (eVar 8) aNil))))) aNil))) aNil)))))
      (sSeq (sSet 10 (mFrz (flatDOk (eOp opSub (eCall (op1 opLen) (aCons (eVar 3) aNil)) (eVar 4)))))
      (sIf (mAnd (eT (eOp opLt (eVar 10) (eC (.int 2)))) (eT (eOp opEq (eLc (eIter (eVar 2)) (.nm 11) [11] (eT (eOp opLt (eFn mf__law_left 2 (aCons (eVar 9) (aCons (eVar 11) aNil))) (eC (.int 0)))) (eVar 11)) (eLst aNil)))) (sNew 3 (fList (aCons (eOp opIx (eVar 9) (eC (.int 2))) aNil))) sNx)) := rfl
  have s1 : sSet 9 (eTup (aCons (eVar 1) (aCons (eVar 2) (aCons (eOwnAdd 3 (eLst (aCons (eTup (aCons (eC (.str ("paid" : Str))) (aCons (eVar 6) (aCons (eVar 7) (aCons (eVar 8) aNil))))) aNil))) aNil)))) [.rdr, .val (.tup (ps.map PU.d)), .val (.tup (bs.map BD.d)), .own (rs.map RW.d), .val (.int m), x5, .val (.int a), .val (.str kk), .val (shD sh), x9, x10, x11] rd =
      some (.nx [.rdr, .val (.tup (ps.map PU.d)), .val (.tup (bs.map BD.d)), .own (rs.map RW.d), .val (.int m), x5, .val (.int a), .val (.str kk), .val (shD sh), .val (.tup [.tup (ps.map PU.d), .tup (bs.map BD.d), .lst ((rs ++ [r0]).map RW.d)]), x10, x11], rd) := by
    simp only [ev_bind1, ev_lift, ev_eC, ev_eVar, ev_eOp, ev_eUn, ev_eT, ev_mAnd, ev_mOr, ev_mNot, ev_eAnd, ev_eIf, ev_chain, ev_aNil, ev_aCons, ev_eTup, ev_eLst, ev_eCall, ev_eFn, ev_eFnR, ev_eIter, ev_eRange, ev_eLc, ev_eSl, ev_pNone, ev_pSome, ev_mFrz, ev_sNx, ev_sSet, ev_sRet, ev_sSeq, ev_sIf, ev_sUnp, ev_sNew, ev_fLst, ev_fCat, ev_sApp, ev_sFrz, ev_sFor, ev_vNil, ev_vVal, ev_vOwn, ev_sTup, ev_eRd, ev_sRd, and_self, true_and, and_true, eq_self, eqS, eqI, neS, neI, decide_true, decide_false, decide_eq_true_eq, Bool.not_true, Bool.not_false, initE, setPat, setAll, op1, isBl, flFin, iterD, seqOf, List.length_cons, List.length_nil, Bool.false_eq_true, if_false, if_true, List.nil_append, List.map_cons, List.map_nil, List.replicate, List.cons_append, Option.bind_some, Option.map_some, List.set_cons_succ, List.set_cons_zero, List.getElem?_cons_zero, List.getElem?_cons_succ, Nat.reduceAdd, ev_eNot, ev_eOwnAdd, ev_chain3, ev_xGet, ev_eFnX, ev_eFnXK, ev_xOk, ev_xTup2, ev_sSetX, ev_sRetX, ev_sExpX, ev_sRaise, ev_sTry, ev_eIsE, ev_eFldC, ev_eLc2, ev_lOwn, ev_sExt, l1, l3, l4, la, e0, eap]
  have fl : ∀ {m : MM D} {env : List SV} {rd : Rdr}, flatDOk m env rd = (m env rd).bind fun p => (if flatD p.1 = true then some p.1 else none).map fun x => (x, p.2) := Eq.trans rfl rfl
  have s2 : sSet 10 (mFrz (flatDOk (eOp opSub (eCall (op1 opLen) (aCons (eVar 3) aNil)) (eVar 4)))) [.rdr, .val (.tup (ps.map PU.d)), .val (.tup (bs.map BD.d)), .own (rs.map RW.d), .val (.int m), x5, .val (.int a), .val (.str kk), .val (shD sh), .val (.tup [.tup (ps.map PU.d), .tup (bs.map BD.d), .lst ((rs ++ [r0]).map RW.d)]), x10, x11] rd =
      some (.nx [.rdr, .val (.tup (ps.map PU.d)), .val (.tup (bs.map BD.d)), .own (rs.map RW.d), .val (.int m), x5, .val (.int a), .val (.str kk), .val (shD sh), .val (.tup [.tup (ps.map PU.d), .tup (bs.map BD.d), .lst ((rs ++ [r0]).map RW.d)]), .val (.int (((rs.map RW.d).length : Nat) - m)), x11], rd) := by
    have fz : [SV.rdr, .val (.tup (ps.map PU.d)), .val (.tup (bs.map BD.d)), .own (rs.map RW.d), .val (.int m), x5, .val (.int a), .val (.str kk), .val (shD sh), .val (.tup [.tup (ps.map PU.d), .tup (bs.map BD.d), .lst ((rs ++ [r0]).map RW.d)]), x10, x11].map frzSV =
      [.rdr, .val (.tup (ps.map PU.d)), .val (.tup (bs.map BD.d)), .val (.lst (rs.map RW.d)), .val (.int m), frzSV x5, .val (.int a), .val (.str kk), .val (shD sh), .val (.tup [.tup (ps.map PU.d), .tup (bs.map BD.d), .lst ((rs ++ [r0]).map RW.d)]), frzSV x10, frzSV x11] := rfl
    rw [ev_sSet, ev_mFrz, fz, fl]
    simp only [ev_bind1, ev_lift, ev_eC, ev_eVar, ev_eOp, ev_eUn, ev_eT, ev_mAnd, ev_mOr, ev_mNot, ev_eAnd, ev_eIf, ev_chain, ev_aNil, ev_aCons, ev_eTup, ev_eLst, ev_eCall, ev_eFn, ev_eFnR, ev_eIter, ev_eRange, ev_eLc, ev_eSl, ev_pNone, ev_pSome, ev_mFrz, ev_sNx, ev_sSet, ev_sRet, ev_sSeq, ev_sIf, ev_sUnp, ev_sNew, ev_fLst, ev_fCat, ev_sApp, ev_sFrz, ev_sFor, ev_vNil, ev_vVal, ev_vOwn, ev_sTup, ev_eRd, ev_sRd, and_self, true_and, and_true, eq_self, eqS, eqI, neS, neI, decide_true, decide_false, decide_eq_true_eq, Bool.not_true, Bool.not_false, initE, setPat, setAll, op1, isBl, flFin, iterD, seqOf, List.length_cons, List.length_nil, Bool.false_eq_true, if_false, if_true, List.nil_append, List.map_cons, List.map_nil, List.replicate, List.cons_append, Option.bind_some, Option.map_some, List.set_cons_succ, List.set_cons_zero, List.getElem?_cons_zero, List.getElem?_cons_succ, Nat.reduceAdd, ev_eNot, ev_eOwnAdd, ev_chain3, ev_xGet, ev_eFnX, ev_eFnXK, ev_xOk, ev_xTup2, ev_sSetX, ev_sRetX, ev_sExpX, ev_sRaise, ev_sTry, ev_eIsE, ev_eFldC, ev_eLc2, ev_lOwn, ev_sExt, lenL, opIi, flatD]
  obtain ⟨c, hc⟩ := neg_list (ps := ps) (rs := rs ++ [r0]) hb hbl (by rw [List.length_append]; simp; omega) (fun r hx => (hall r hx).shl) .rdr (.val (.tup (ps.map PU.d))) (.own (rs.map RW.d)) (.val (.int m)) x5 (.val (.int a)) (.val (.str kk)) (.val (shD sh)) (.val (.int (((rs.map RW.d).length : Nat) - m))) x11 rd
  have ts : ∃ c' : Bool, mAnd (eT (eOp opLt (eVar 10) (eC (.int 2)))) (eT (eOp opEq (eLc (eIter (eVar 2)) (.nm 11) [11] (eT (eOp opLt (eFn mf__law_left 2 (aCons (eVar 9) (aCons (eVar 11) aNil))) (eC (.int 0)))) (eVar 11)) (eLst aNil))) [.rdr, .val (.tup (ps.map PU.d)), .val (.tup (bs.map BD.d)), .own (rs.map RW.d), .val (.int m), x5, .val (.int a), .val (.str kk), .val (shD sh), .val (.tup [.tup (ps.map PU.d), .tup (bs.map BD.d), .lst ((rs ++ [r0]).map RW.d)]), .val (.int (((rs.map RW.d).length : Nat) - m)), x11] rd = some (c', rd) := by
    by_cases h : (((rs.map RW.d).length : Nat) : Int) - m < 2
    · have t1 : eT (eOp opLt (eVar 10) (eC (.int 2))) [.rdr, .val (.tup (ps.map PU.d)), .val (.tup (bs.map BD.d)), .own (rs.map RW.d), .val (.int m), x5, .val (.int a), .val (.str kk), .val (shD sh), .val (.tup [.tup (ps.map PU.d), .tup (bs.map BD.d), .lst ((rs ++ [r0]).map RW.d)]), .val (.int (((rs.map RW.d).length : Nat) - m)), x11] rd = some (true, rd) := by
        simp only [ev_bind1, ev_lift, ev_eC, ev_eVar, ev_eOp, ev_eUn, ev_eT, ev_mAnd, ev_mOr, ev_mNot, ev_eAnd, ev_eIf, ev_chain, ev_aNil, ev_aCons, ev_eTup, ev_eLst, ev_eCall, ev_eFn, ev_eFnR, ev_eIter, ev_eRange, ev_eLc, ev_eSl, ev_pNone, ev_pSome, ev_mFrz, ev_sNx, ev_sSet, ev_sRet, ev_sSeq, ev_sIf, ev_sUnp, ev_sNew, ev_fLst, ev_fCat, ev_sApp, ev_sFrz, ev_sFor, ev_vNil, ev_vVal, ev_vOwn, ev_sTup, ev_eRd, ev_sRd, and_self, true_and, and_true, eq_self, eqS, eqI, neS, neI, decide_true, decide_false, decide_eq_true_eq, Bool.not_true, Bool.not_false, initE, setPat, setAll, op1, isBl, flFin, iterD, seqOf, List.length_cons, List.length_nil, Bool.false_eq_true, if_false, if_true, List.nil_append, List.map_cons, List.map_nil, List.replicate, List.cons_append, Option.bind_some, Option.map_some, List.set_cons_succ, List.set_cons_zero, List.getElem?_cons_zero, List.getElem?_cons_succ, Nat.reduceAdd, ev_eNot, ev_eOwnAdd, ev_chain3, ev_xGet, ev_eFnX, ev_eFnXK, ev_xOk, ev_xTup2, ev_sSetX, ev_sRetX, ev_sExpX, ev_sRaise, ev_sTry, ev_eIsE, ev_eFldC, ev_eLc2, ev_lOwn, ev_sExt, cmpI, h]
      exact ⟨c, by rw [ev_mAnd, t1]; simp only [Option.bind_some, if_true, hc]⟩
    · have t1 : eT (eOp opLt (eVar 10) (eC (.int 2))) [.rdr, .val (.tup (ps.map PU.d)), .val (.tup (bs.map BD.d)), .own (rs.map RW.d), .val (.int m), x5, .val (.int a), .val (.str kk), .val (shD sh), .val (.tup [.tup (ps.map PU.d), .tup (bs.map BD.d), .lst ((rs ++ [r0]).map RW.d)]), .val (.int (((rs.map RW.d).length : Nat) - m)), x11] rd = some (false, rd) := by
        simp only [ev_bind1, ev_lift, ev_eC, ev_eVar, ev_eOp, ev_eUn, ev_eT, ev_mAnd, ev_mOr, ev_mNot, ev_eAnd, ev_eIf, ev_chain, ev_aNil, ev_aCons, ev_eTup, ev_eLst, ev_eCall, ev_eFn, ev_eFnR, ev_eIter, ev_eRange, ev_eLc, ev_eSl, ev_pNone, ev_pSome, ev_mFrz, ev_sNx, ev_sSet, ev_sRet, ev_sSeq, ev_sIf, ev_sUnp, ev_sNew, ev_fLst, ev_fCat, ev_sApp, ev_sFrz, ev_sFor, ev_vNil, ev_vVal, ev_vOwn, ev_sTup, ev_eRd, ev_sRd, and_self, true_and, and_true, eq_self, eqS, eqI, neS, neI, decide_true, decide_false, decide_eq_true_eq, Bool.not_true, Bool.not_false, initE, setPat, setAll, op1, isBl, flFin, iterD, seqOf, List.length_cons, List.length_nil, Bool.false_eq_true, if_false, if_true, List.nil_append, List.map_cons, List.map_nil, List.replicate, List.cons_append, Option.bind_some, Option.map_some, List.set_cons_succ, List.set_cons_zero, List.getElem?_cons_zero, List.getElem?_cons_succ, Nat.reduceAdd, ev_eNot, ev_eOwnAdd, ev_chain3, ev_xGet, ev_eFnX, ev_eFnXK, ev_xOk, ev_xTup2, ev_sSetX, ev_sRetX, ev_sExpX, ev_sRaise, ev_sTry, ev_eIsE, ev_eFldC, ev_eLc2, ev_lOwn, ev_sExt, cmpI, h]
      exact ⟨false, by rw [ev_mAnd, t1]; simp only [Option.bind_some, Bool.false_eq_true, if_false]⟩
  obtain ⟨c', hc'⟩ := ts
  have ix2 : ∀ x y z : D, opIx (.tup [x, y, z]) (.int 2) = some z := fun _ _ _ => rfl
  have flst : ∀ {a : MM (List D)} {env : List SV} {rd : Rdr}, fList a env rd = (a env rd).bind fun p => (match p.1 with | [.lst xs] => some xs | [.tup xs] => some xs | _ => none).map fun x => (x, p.2) := Eq.trans rfl rfl
  cases c' with
  | false =>
    refine ⟨rs, .val (.tup [.tup (ps.map PU.d), .tup (bs.map BD.d), .lst ((rs ++ [r0]).map RW.d)]), .val (.int (((rs.map RW.d).length : Nat) - m)), x11, ?_, hr, by omega⟩
    rw [b1, ev_sSeq, s1]
    simp only [Option.bind_some]
    rw [ev_sSeq, s2]
    simp only [Option.bind_some]
    rw [ev_sIf, hc']
    simp only [Option.bind_some, Bool.false_eq_true, if_false, ev_sNx]
  | true =>
    refine ⟨rs ++ [r0], .val (.tup [.tup (ps.map PU.d), .tup (bs.map BD.d), .lst ((rs ++ [r0]).map RW.d)]), .val (.int (((rs.map RW.d).length : Nat) - m)), x11, ?_, hall, by rw [List.length_append]; simp⟩
    rw [b1, ev_sSeq, s1]
    simp only [Option.bind_some]
    rw [ev_sSeq, s2]
    simp only [Option.bind_some]
    rw [ev_sIf, hc']
    simp only [Option.bind_some, if_true, ev_sNew]
    rw [flst]
    simp only [ev_bind1, ev_lift, ev_eC, ev_eVar, ev_eOp, ev_eUn, ev_eT, ev_mAnd, ev_mOr, ev_mNot, ev_eAnd, ev_eIf, ev_chain, ev_aNil, ev_aCons, ev_eTup, ev_eLst, ev_eCall, ev_eFn, ev_eFnR, ev_eIter, ev_eRange, ev_eLc, ev_eSl, ev_pNone, ev_pSome, ev_mFrz, ev_sNx, ev_sSet, ev_sRet, ev_sSeq, ev_sIf, ev_sUnp, ev_sNew, ev_fLst, ev_fCat, ev_sApp, ev_sFrz, ev_sFor, ev_vNil, ev_vVal, ev_vOwn, ev_sTup, ev_eRd, ev_sRd, and_self, true_and, and_true, eq_self, eqS, eqI, neS, neI, decide_true, decide_false, decide_eq_true_eq, Bool.not_true, Bool.not_false, initE, setPat, setAll, op1, isBl, flFin, iterD, seqOf, List.length_cons, List.length_nil, Bool.false_eq_true, if_false, if_true, List.nil_append, List.map_cons, List.map_nil, List.replicate, List.cons_append, Option.bind_some, Option.map_some, List.set_cons_succ, List.set_cons_zero, List.getElem?_cons_zero, List.getElem?_cons_succ, Nat.reduceAdd, ev_eNot, ev_eOwnAdd, ev_chain3, ev_xGet, ev_eFnX, ev_eFnXK, ev_xOk, ev_xTup2, ev_sSetX, ev_sRetX, ev_sExpX, ev_sRaise, ev_sTry, ev_eIsE, ev_eFldC, ev_eLc2, ev_lOwn, ev_sExt, ix2]
theorem boQ_ok {ps : List PU} {bs : List BD} (hF : bkF ps bs) {rs : List RW} (hr : ∀ r ∈ rs, RwS ps.length r) (hrl : rs.length ≤ 10) {a m : Int} (ha : a.natAbs < 1000) {kk : Str} (hk : As 8 kk) {n : Int} (hn : n ≤ 800000) (x5 x8 x9 x10 x11 : SV) {rd : Rdr} (hd : RdI n rd) :
    Wp (boQ [.rdr, .val (.tup (ps.map PU.d)), .val (.tup (bs.map BD.d)), .own (rs.map RW.d), .val (.int m), x5, .val (.int a), .val (.str kk), x8, x9, x10, x11] rd) fun fl r => ∃ (rs' : List RW) (m' : Int),
      fl = .nx [.rdr, .val (.tup (ps.map PU.d)), .val (.tup (bs.map BD.d)), .own (rs'.map RW.d), .val (.int m'), x5, .val (.int a), .val (.str kk), x8, x9, x10, x11] ∧ (∀ r ∈ rs', RwS ps.length r) ∧ rs'.length ≤ rs.length + 1 ∧ RdI (n + 1) r := by
  have b1 : boQ = sIf (eT (eOp opLt (eVar 4) (eC (.int 3)))) (sSeq (sApp 3 (eTup (aCons (eC (.str ("buy" : Str))) (aCons (eVar 6) (aCons (eVar 7) (aCons (eFnR mf__law_draw 1 0 (aCons (eIf (eT (eOp opLt (eCall (op1 opLen) (aCons (eVar 1) aNil)) (eC (.int 4)))) (eC (.int 5)) (eC (.int 3))) aNil)) aNil)))))) (sSet 4 (eOp opAdd (eVar 4) (eC (.int 1))))) sNx := rfl
  have t1 : eT (eOp opLt (eVar 4) (eC (.int 3))) [.rdr, .val (.tup (ps.map PU.d)), .val (.tup (bs.map BD.d)), .own (rs.map RW.d), .val (.int m), x5, .val (.int a), .val (.str kk), x8, x9, x10, x11] rd = some (decide (m < 3), rd) := by
    simp only [ev_bind1, ev_lift, ev_eC, ev_eVar, ev_eOp, ev_eUn, ev_eT, ev_mAnd, ev_mOr, ev_mNot, ev_eAnd, ev_eIf, ev_chain, ev_aNil, ev_aCons, ev_eTup, ev_eLst, ev_eCall, ev_eFn, ev_eFnR, ev_eIter, ev_eRange, ev_eLc, ev_eSl, ev_pNone, ev_pSome, ev_mFrz, ev_sNx, ev_sSet, ev_sRet, ev_sSeq, ev_sIf, ev_sUnp, ev_sNew, ev_fLst, ev_fCat, ev_sApp, ev_sFrz, ev_sFor, ev_vNil, ev_vVal, ev_vOwn, ev_sTup, ev_eRd, ev_sRd, and_self, true_and, and_true, eq_self, eqS, eqI, neS, neI, decide_true, decide_false, decide_eq_true_eq, Bool.not_true, Bool.not_false, initE, setPat, setAll, op1, isBl, flFin, iterD, seqOf, List.length_cons, List.length_nil, Bool.false_eq_true, if_false, if_true, List.nil_append, List.map_cons, List.map_nil, List.replicate, List.cons_append, Option.bind_some, Option.map_some, List.set_cons_succ, List.set_cons_zero, List.getElem?_cons_zero, List.getElem?_cons_succ, Nat.reduceAdd, ev_eNot, ev_eOwnAdd, ev_chain3, ev_xGet, ev_eFnX, ev_eFnXK, ev_xOk, ev_xTup2, ev_sSetX, ev_sRetX, ev_sExpX, ev_sRaise, ev_sTry, ev_eIsE, ev_eFldC, ev_eLc2, ev_lOwn, ev_sExt, cmpI]
  rw [b1]
  refine wp_if (decide (m < 3)) t1 (fun _ => ?_) (fun _ => ⟨_, _, rfl, rs, m, rfl, hr, by omega, hd.mono (by omega)⟩)
  refine wp_seq ?_
  refine wp_app (ds := rs.map RW.d) rfl (by rw [List.length_map]; omega) ?_
  refine wp_tup (wp_cons (wp_c (wp_cons (wp_v rfl (wp_cons (wp_v rfl (wp_cons ?_)))))))
  have am : ∃ q : Int, (q = 5 ∨ q = 3) ∧ eIf (eT (eOp opLt (eCall (op1 opLen) (aCons (eVar 1) aNil)) (eC (.int 4)))) (eC (.int 5)) (eC (.int 3)) [.rdr, .val (.tup (ps.map PU.d)), .val (.tup (bs.map BD.d)), .own (rs.map RW.d), .val (.int m), x5, .val (.int a), .val (.str kk), x8, x9, x10, x11] rd = some (.int q, rd) := by
    by_cases h : (((ps.map PU.d).length : Nat) : Int) < 4
    · exact ⟨5, .inl rfl, by simp only [ev_bind1, ev_lift, ev_eC, ev_eVar, ev_eOp, ev_eUn, ev_eT, ev_mAnd, ev_mOr, ev_mNot, ev_eAnd, ev_eIf, ev_chain, ev_aNil, ev_aCons, ev_eTup, ev_eLst, ev_eCall, ev_eFn, ev_eFnR, ev_eIter, ev_eRange, ev_eLc, ev_eSl, ev_pNone, ev_pSome, ev_mFrz, ev_sNx, ev_sSet, ev_sRet, ev_sSeq, ev_sIf, ev_sUnp, ev_sNew, ev_fLst, ev_fCat, ev_sApp, ev_sFrz, ev_sFor, ev_vNil, ev_vVal, ev_vOwn, ev_sTup, ev_eRd, ev_sRd, and_self, true_and, and_true, eq_self, eqS, eqI, neS, neI, decide_true, decide_false, decide_eq_true_eq, Bool.not_true, Bool.not_false, initE, setPat, setAll, op1, isBl, flFin, iterD, seqOf, List.length_cons, List.length_nil, Bool.false_eq_true, if_false, if_true, List.nil_append, List.map_cons, List.map_nil, List.replicate, List.cons_append, Option.bind_some, Option.map_some, List.set_cons_succ, List.set_cons_zero, List.getElem?_cons_zero, List.getElem?_cons_succ, Nat.reduceAdd, ev_eNot, ev_eOwnAdd, ev_chain3, ev_xGet, ev_eFnX, ev_eFnXK, ev_xOk, ev_xTup2, ev_sSetX, ev_sRetX, ev_sExpX, ev_sRaise, ev_sTry, ev_eIsE, ev_eFldC, ev_eLc2, ev_lOwn, ev_sExt, lenT, cmpI, h]⟩
    · exact ⟨3, .inr rfl, by simp only [ev_bind1, ev_lift, ev_eC, ev_eVar, ev_eOp, ev_eUn, ev_eT, ev_mAnd, ev_mOr, ev_mNot, ev_eAnd, ev_eIf, ev_chain, ev_aNil, ev_aCons, ev_eTup, ev_eLst, ev_eCall, ev_eFn, ev_eFnR, ev_eIter, ev_eRange, ev_eLc, ev_eSl, ev_pNone, ev_pSome, ev_mFrz, ev_sNx, ev_sSet, ev_sRet, ev_sSeq, ev_sIf, ev_sUnp, ev_sNew, ev_fLst, ev_fCat, ev_sApp, ev_sFrz, ev_sFor, ev_vNil, ev_vVal, ev_vOwn, ev_sTup, ev_eRd, ev_sRd, and_self, true_and, and_true, eq_self, eqS, eqI, neS, neI, decide_true, decide_false, decide_eq_true_eq, Bool.not_true, Bool.not_false, initE, setPat, setAll, op1, isBl, flFin, iterD, seqOf, List.length_cons, List.length_nil, Bool.false_eq_true, if_false, if_true, List.nil_append, List.map_cons, List.map_nil, List.replicate, List.cons_append, Option.bind_some, Option.map_some, List.set_cons_succ, List.set_cons_zero, List.getElem?_cons_zero, List.getElem?_cons_succ, Nat.reduceAdd, ev_eNot, ev_eOwnAdd, ev_chain3, ev_xGet, ev_eFnX, ev_eFnXK, ev_xOk, ev_xTup2, ev_sSetX, ev_sRetX, ev_sExpX, ev_sRaise, ev_sTry, ev_eIsE, ev_eFldC, ev_eLc2, ev_lOwn, ev_sExt, lenT, cmpI, h]⟩
  obtain ⟨q, hq, hqe⟩ := am
  have dq : Wp (eFnR mf__law_draw 1 0 (aCons (eIf (eT (eOp opLt (eCall (op1 opLen) (aCons (eVar 1) aNil)) (eC (.int 4)))) (eC (.int 5)) (eC (.int 3))) aNil) [.rdr, .val (.tup (ps.map PU.d)), .val (.tup (bs.map BD.d)), .own (rs.map RW.d), .val (.int m), x5, .val (.int a), .val (.str kk), x8, x9, x10, x11] rd) fun d rd' => (∃ k : Int, d = .int k ∧ 0 ≤ k ∧ k < q) ∧ RdI (n + 1) rd' := by
    rw [ev_eFnR]
    simp only [List.getElem?_cons_zero, ev_aCons, ev_aNil, hqe, Option.bind_some]
    exact draw_ok (by omega) (by omega) (by omega) hd
  refine dq.mono ?_
  rintro _ r2 ⟨⟨k, rfl, k0, k1⟩, hr2⟩
  let r0 : RW := ⟨true, a, kk, k, []⟩
  have hr0 : RwS ps.length r0 := ⟨ha, hk, ⟨k0, by show k ≤ 4; omega⟩, by show (0 : Nat) ≤ 4; omega, fun z => (by cases z)⟩
  have eap : rs.map RW.d ++ [D.tup [.str ("buy" : Str), .int a, .str kk, .int k]] = (rs ++ [r0]).map RW.d := by
    rw [List.map_append]
    rfl
  refine wp_nil ⟨by simp, _, rfl, ?_⟩
  refine ⟨.nx [.rdr, .val (.tup (ps.map PU.d)), .val (.tup (bs.map BD.d)), .own ((rs ++ [r0]).map RW.d), .val (.int (m + 1)), x5, .val (.int a), .val (.str kk), x8, x9, x10, x11], r2, ?_, rs ++ [r0], m + 1, rfl, fun r hx => ?_, by rw [List.length_append]; simp, hr2⟩
  · rw [← eap]
    simp only [ev_bind1, ev_lift, ev_eC, ev_eVar, ev_eOp, ev_eUn, ev_eT, ev_mAnd, ev_mOr, ev_mNot, ev_eAnd, ev_eIf, ev_chain, ev_aNil, ev_aCons, ev_eTup, ev_eLst, ev_eCall, ev_eFn, ev_eFnR, ev_eIter, ev_eRange, ev_eLc, ev_eSl, ev_pNone, ev_pSome, ev_mFrz, ev_sNx, ev_sSet, ev_sRet, ev_sSeq, ev_sIf, ev_sUnp, ev_sNew, ev_fLst, ev_fCat, ev_sApp, ev_sFrz, ev_sFor, ev_vNil, ev_vVal, ev_vOwn, ev_sTup, ev_eRd, ev_sRd, and_self, true_and, and_true, eq_self, eqS, eqI, neS, neI, decide_true, decide_false, decide_eq_true_eq, Bool.not_true, Bool.not_false, initE, setPat, setAll, op1, isBl, flFin, iterD, seqOf, List.length_cons, List.length_nil, Bool.false_eq_true, if_false, if_true, List.nil_append, List.map_cons, List.map_nil, List.replicate, List.cons_append, Option.bind_some, Option.map_some, List.set_cons_succ, List.set_cons_zero, List.getElem?_cons_zero, List.getElem?_cons_succ, Nat.reduceAdd, ev_eNot, ev_eOwnAdd, ev_chain3, ev_xGet, ev_eFnX, ev_eFnXK, ev_xOk, ev_xTup2, ev_sSetX, ev_sRetX, ev_sExpX, ev_sRaise, ev_sTry, ev_eIsE, ev_eFldC, ev_eLc2, ev_lOwn, ev_sExt, addI]
  · rcases List.mem_append.mp hx with hx | hx
    · exact hr r hx
    · rw [List.mem_singleton.mp hx]
      exact hr0
theorem boB_ok {ps : List PU} {bs : List BD} (hF : bkF ps bs) {n : Int} (hn : n ≤ 700000) {k : Nat} (hk : k < 6) {env : List SV} {rd : Rdr} (h : boE ps bs n k env rd) : Wp (boB env rd) fun fl r => ∃ env', fl = .nx env' ∧ boE ps bs n (k + 1) env' r := by
  obtain ⟨rs, m, x5, x6, x7, x8, x9, x10, x11, rfl, hr, hrl, hd⟩ := h
  have b1 : boB = sSeq (sUnp (.tp [6, 7]) (eFnR mf__law_day_sort 0 0 aNil)) (sIf (eT (eOp opEq (eFnR mf__law_draw 1 0 (aCons (eC (.int 3)) aNil)) (eC (.int 0)))) (sSeq (sSet 8 boS) boP) boQ) := rfl
  rw [b1]
  refine wp_seq ?_
  have u1 : Wp (sUnp (.tp [6, 7]) (eFnR mf__law_day_sort 0 0 aNil) [.rdr, .val (.tup (ps.map PU.d)), .val (.tup (bs.map BD.d)), .own (rs.map RW.d), .val (.int m), x5, x6, x7, x8, x9, x10, x11] rd) fun fl r => ∃ (a : Int) (kk : Str), 0 ≤ a ∧ a < 3 ∧ As 8 kk ∧
      fl = .nx [.rdr, .val (.tup (ps.map PU.d)), .val (.tup (bs.map BD.d)), .own (rs.map RW.d), .val (.int m), x5, .val (.int a), .val (.str kk), x8, x9, x10, x11] ∧ RdI (n + 8 * k + 2) r := by
    have dd := daysort_ok (n := n + 8 * k) (by omega) hd
    obtain ⟨d, r, e1, ⟨a, kk, rfl, a0, a1, hkk⟩, hr1⟩ := dd
    refine ⟨.nx [.rdr, .val (.tup (ps.map PU.d)), .val (.tup (bs.map BD.d)), .own (rs.map RW.d), .val (.int m), x5, .val (.int a), .val (.str kk), x8, x9, x10, x11], r, ?_, a, kk, a0, a1, hkk, rfl, hr1⟩
    rw [ev_sUnp, ev_eFnR]
    simp only [List.getElem?_cons_zero, ev_aNil, Option.bind_some, List.length_nil, if_true, e1]
    simp only [setPat, setAll, List.length_cons, List.length_nil, if_true, Option.map_some, List.set_cons_succ, List.set_cons_zero]
  refine u1.mono ?_
  rintro _ r1 ⟨a, kk, a0, a1, hkk, rfl, hr1⟩
  refine ⟨_, rfl, ?_⟩
  have dz : Wp (eT (eOp opEq (eFnR mf__law_draw 1 0 (aCons (eC (.int 3)) aNil)) (eC (.int 0))) [.rdr, .val (.tup (ps.map PU.d)), .val (.tup (bs.map BD.d)), .own (rs.map RW.d), .val (.int m), x5, .val (.int a), .val (.str kk), x8, x9, x10, x11] r1) fun _ r => RdI (n + 8 * k + 3) r := by
    rw [ev_eT, wp_obind]
    refine wp_op ?_
    refine (dr (many := 3) (by omega) (by omega) (n := n + 8 * k + 2) (by omega) rfl hr1).mono ?_
    rintro _ r2 ⟨⟨q, rfl, q0, q1⟩, hr2⟩
    exact wp_c ⟨_, eqI, _, _, rfl, hr2.mono (by omega)⟩
  obtain ⟨c, r2, hc, hr2⟩ := dz
  have fin : ∀ (rs' : List RW) (m' : Int) (y8 y9 y10 y11 : SV) (r : Rdr), (∀ r ∈ rs', RwS ps.length r) → rs'.length ≤ rs.length + 1 → RdI (n + 8 * k + 7) r →
      ∃ env', (Fl.nx [.rdr, .val (.tup (ps.map PU.d)), .val (.tup (bs.map BD.d)), .own (rs'.map RW.d), .val (.int m'), x5, .val (.int a), .val (.str kk), y8, y9, y10, y11]) = .nx env' ∧ boE ps bs n (k + 1) env' r := fun rs' m' y8 y9 y10 y11 r g1 g2 g3 =>
    ⟨_, rfl, rs', m', x5, .val (.int a), .val (.str kk), y8, y9, y10, y11, rfl, g1, by omega, g3.mono (by omega)⟩
  refine wp_if c hc (fun _ => ?_) (fun _ => ?_)
  · refine wp_set ?_
    refine (shares_ok hF.2.1 (n := n + 8 * k + 3) (by omega) _ _ _ _ _ _ _ _ hr2).mono ?_
    rintro _ r3 ⟨⟨sh, rfl, hsh⟩, hr3⟩
    obtain ⟨rs', y9, y10, y11, g1, g2, g3⟩ := boP_ok hF hr (by omega) (a := a) (m := m) (by omega) hkk hsh x5 x9 x10 x11 r3
    exact ⟨_, _, g1, fin rs' m _ _ _ _ _ g2 g3 (hr3.mono (by omega))⟩
  · refine (boQ_ok hF hr (by omega) (a := a) (m := m) (by omega) hkk (n := n + 8 * k + 3) (by omega) x5 x8 x9 x10 x11 hr2).mono ?_
    rintro _ r3 ⟨rs', m', rfl, g2, g3, hr3⟩
    exact fin rs' m' _ _ _ _ _ g2 g3 (hr3.mono (by omega))
theorem book_ok {n : Int} (hn : n ≤ 500000) {rd : Rdr} (hr : RdI n rd) : Wp (mf__law_book_now [] rd) fun d rd' => (∃ b : BK, d = b.d ∧ BkS b) ∧ RdI (n + 130) rd' := by
  have e : mf__law_book_now [] rd = (b__law_book_now (initE true [] 11) rd).bind flFin := rfl
  have b1 : b__law_book_now = sSeq (sSet 1 (eFnR mf__law_purses 0 0 aNil)) (sSeq (sTup [2, 3, 4] (vVal (eFnR mf__law_bounds 1 0 (aCons (eVar 1) aNil)) (vOwn (fLst aNil) (vVal (eC (.int 0)) vNil))))
      (sSeq (sFor (eRange range1 (aCons (eFnR mf__law_draw 1 0 (aCons (eC (.int 6)) aNil)) aNil)) (.nm 5) boB) (sFrz 3 (sRet (eTup (aCons (eVar 1) (aCons (eVar 2) (aCons (eCall (op1 opTuple) (aCons (eVar 3) aNil)) aNil)))))))) := rfl
  have l0 : ((0 : Nat) ≤ sizeLine) = True := by simp
  have l3 : ((3 : Nat) ≤ sizeLine) = True := szl (m := 3) (Nat.le_refl _)
  rw [e, b1, wp_obind]
  refine wp_set ?_
  have p0 := purses_ok (n := n) (by omega) hr
  have pp : Wp (eFnR mf__law_purses 0 0 aNil (initE true [] 11) rd) fun d rd' => (∃ ps : List PU, d = .tup (ps.map PU.d) ∧ (∀ p ∈ ps, PuS p) ∧ (ps.map (·.n)).Nodup ∧ ps ≠ [] ∧ ps.length ≤ 4) ∧ RdI (n + 17) rd' := p0
  refine pp.mono ?_
  rintro _ r1 ⟨⟨ps, rfl, h1, h2, h3, h4⟩, hr1⟩
  refine wp_seq ?_
  have t0 : Wp (sTup [2, 3, 4] (vVal (eFnR mf__law_bounds 1 0 (aCons (eVar 1) aNil)) (vOwn (fLst aNil) (vVal (eC (.int 0)) vNil))) ((initE true [] 11).set 1 (.val (.tup (ps.map PU.d)))) r1) fun fl r => ∃ bs : List BD, (∀ l ∈ bs, BdS l) ∧ bs.length ≤ 6 ∧
      fl = .nx [.rdr, .val (.tup (ps.map PU.d)), .val (.tup (bs.map BD.d)), .own (([] : List RW).map RW.d), .val (.int 0), .un, .un, .un, .un, .un, .un, .un] ∧ RdI (n + 66) r := by
    obtain ⟨d, r, e1, ⟨bs, rfl, g1, g2⟩, hr2⟩ := bounds_ok h1 h3 h4 (n := n + 17) (by omega) hr1
    refine ⟨.nx [.rdr, .val (.tup (ps.map PU.d)), .val (.tup (bs.map BD.d)), .own (([] : List RW).map RW.d), .val (.int 0), .un, .un, .un, .un, .un, .un, .un], r, ?_, bs, g1, g2, rfl, hr2.mono (by omega)⟩
    simp only [ev_bind1, ev_lift, ev_eC, ev_eVar, ev_eOp, ev_eUn, ev_eT, ev_mAnd, ev_mOr, ev_mNot, ev_eAnd, ev_eIf, ev_chain, ev_aNil, ev_aCons, ev_eTup, ev_eLst, ev_eCall, ev_eFn, ev_eFnR, ev_eIter, ev_eRange, ev_eLc, ev_eSl, ev_pNone, ev_pSome, ev_mFrz, ev_sNx, ev_sSet, ev_sRet, ev_sSeq, ev_sIf, ev_sUnp, ev_sNew, ev_fLst, ev_fCat, ev_sApp, ev_sFrz, ev_sFor, ev_vNil, ev_vVal, ev_vOwn, ev_sTup, ev_eRd, ev_sRd, and_self, true_and, and_true, eq_self, eqS, eqI, neS, neI, decide_true, decide_false, decide_eq_true_eq, Bool.not_true, Bool.not_false, initE, setPat, setAll, op1, isBl, flFin, iterD, seqOf, List.length_cons, List.length_nil, Bool.false_eq_true, if_false, if_true, List.nil_append, List.map_cons, List.map_nil, List.replicate, List.cons_append, Option.bind_some, Option.map_some, List.set_cons_succ, List.set_cons_zero, List.getElem?_cons_zero, List.getElem?_cons_succ, Nat.reduceAdd, ev_eNot, ev_eOwnAdd, ev_chain3, ev_xGet, ev_eFnX, ev_eFnXK, ev_xOk, ev_xTup2, ev_sSetX, ev_sRetX, ev_sExpX, ev_sRaise, ev_sTry, ev_eIsE, ev_eFldC, ev_eLc2, ev_lOwn, ev_sExt, e1, l0, setSv]
  refine t0.mono ?_
  rintro _ r2 ⟨bs, g1, g2, rfl, hr2⟩
  refine ⟨_, rfl, wp_seq (wp_for ?_)⟩
  have it : Wp (eRange range1 (aCons (eFnR mf__law_draw 1 0 (aCons (eC (.int 6)) aNil)) aNil) [.rdr, .val (.tup (ps.map PU.d)), .val (.tup (bs.map BD.d)), .own (([] : List RW).map RW.d), .val (.int 0), .un, .un, .un, .un, .un, .un, .un] r2) fun ds r => (∃ m : Nat, m < 6 ∧ ds = rangeD 0 m) ∧ RdI (n + 67) r := by
    rw [ev_eRange, wp_obind]
    refine wp_cons ?_
    refine (dr (many := 6) (by omega) (by omega) (n := n + 66) (by omega) rfl hr2).mono ?_
    rintro _ r3 ⟨⟨c, rfl, c0, c1⟩, hr3⟩
    obtain ⟨m, rfl⟩ := Int.eq_ofNat_of_zero_le c0
    exact wp_nil ⟨_, _, by rw [range1_n (by omega)]; rfl, ⟨m, by omega, rfl⟩, hr3.mono (by omega)⟩
  refine it.mono ?_
  rintro ds r3 ⟨⟨m, m6, rfl⟩, hr3⟩
  have hF : bkF ps bs := ⟨h1, h4, g1, g2⟩
  refine (forGo_wpI (E := boE ps bs (n + 67)) (n := 0) (fun i d hd env r he => ?_) ⟨[], 0, .un, .un, .un, .un, .un, .un, .un, rfl, fun p hp => (List.not_mem_nil hp).elim, by simp, by simpa using hr3⟩).mono ?_
  · rw [Nat.zero_add] at he ⊢
    have hi : i < m := by
      have := (List.getElem?_eq_some_iff.mp hd).1
      rwa [range_len] at this
    obtain ⟨rs, m0, x5, x6, x7, x8, x9, x10, x11, rfl, q1, q2, q3⟩ := he
    exact ⟨_, rfl, boB_ok hF (by omega) (by omega) ⟨rs, m0, .val d, x6, x7, x8, x9, x10, x11, rfl, q1, q2, q3⟩⟩
  · rintro fl r ⟨env', rfl, rs, m0, x5, x6, x7, x8, x9, x10, x11, rfl, q1, q2, q3⟩
    rw [range_len, Nat.zero_add] at q2 q3
    refine ⟨_, rfl, ?_⟩
    have ot : ∀ l : List D, opTuple (.lst l) = some (.tup l) := fun _ => rfl
    have fz : frzAt 3 [.rdr, .val (.tup (ps.map PU.d)), .val (.tup (bs.map BD.d)), .own (rs.map RW.d), .val (.int m0), x5, x6, x7, x8, x9, x10, x11] = [.rdr, .val (.tup (ps.map PU.d)), .val (.tup (bs.map BD.d)), .val (.lst (rs.map RW.d)), .val (.int m0), x5, x6, x7, x8, x9, x10, x11] := rfl
    have s3 : sFrz 3 (sRet (eTup (aCons (eVar 1) (aCons (eVar 2) (aCons (eCall (op1 opTuple) (aCons (eVar 3) aNil)) aNil))))) [.rdr, .val (.tup (ps.map PU.d)), .val (.tup (bs.map BD.d)), .own (rs.map RW.d), .val (.int m0), x5, x6, x7, x8, x9, x10, x11] r = some (.ret (BK.d ⟨ps, bs, rs⟩), r) := by
      rw [ev_sFrz, fz]
      simp only [ev_bind1, ev_lift, ev_eC, ev_eVar, ev_eOp, ev_eUn, ev_eT, ev_mAnd, ev_mOr, ev_mNot, ev_eAnd, ev_eIf, ev_chain, ev_aNil, ev_aCons, ev_eTup, ev_eLst, ev_eCall, ev_eFn, ev_eFnR, ev_eIter, ev_eRange, ev_eLc, ev_eSl, ev_pNone, ev_pSome, ev_mFrz, ev_sNx, ev_sSet, ev_sRet, ev_sSeq, ev_sIf, ev_sUnp, ev_sNew, ev_fLst, ev_fCat, ev_sApp, ev_sFrz, ev_sFor, ev_vNil, ev_vVal, ev_vOwn, ev_sTup, ev_eRd, ev_sRd, and_self, true_and, and_true, eq_self, eqS, eqI, neS, neI, decide_true, decide_false, decide_eq_true_eq, Bool.not_true, Bool.not_false, initE, setPat, setAll, op1, isBl, flFin, iterD, seqOf, List.length_cons, List.length_nil, Bool.false_eq_true, if_false, if_true, List.nil_append, List.map_cons, List.map_nil, List.replicate, List.cons_append, Option.bind_some, Option.map_some, List.set_cons_succ, List.set_cons_zero, List.getElem?_cons_zero, List.getElem?_cons_succ, Nat.reduceAdd, ev_eNot, ev_eOwnAdd, ev_chain3, ev_xGet, ev_eFnX, ev_eFnXK, ev_xOk, ev_xTup2, ev_sSetX, ev_sRetX, ev_sExpX, ev_sRaise, ev_sTry, ev_eIsE, ev_eFldC, ev_eLc2, ev_lOwn, ev_sExt, ot, l3, BK.d]
    exact ⟨_, _, s3, _, _, rfl, ⟨⟨ps, bs, rs⟩, rfl, h1, h2, h3, h4, g1, g2, q1, by show rs.length ≤ 6; omega⟩, q3.mono (by omega)⟩
end My

set_option Elab.async false
set_option linter.all false
set_option maxRecDepth 100000
set_option maxHeartbeats 4000000
namespace My
open PySem PySem.Spec PyProof.Rows L2 FW
def wyD (L : List (List Int)) : D := .lst (L.map shD)
def WyS (n : Nat) (L : List (List Int)) : Prop := (∀ sh ∈ L, Sh4 n sh) ∧ L.length ≤ 700
theorem sh_sm {n : Nat} (hn : n ≤ 4) {sh : List Int} (h : Sh4 n sh) : Sm 20000 1 (shD sh) := by
  refine (sm_tup (m := 2000) (k := 0) (l := 4) (fun d hd => ?_) (by rw [List.length_map, h.1]; exact hn)).mono (by omega) (by omega)
  obtain ⟨i, hi, rfl⟩ := List.mem_map.mp hd
  exact sm_num (by have := h.2 i hi; omega)
theorem wy_sm {n : Nat} (hn : n ≤ 4) {L : List (List Int)} (h : WyS n L) : ∀ d ∈ L.map shD, Sm 20000 1 d := fun d hd => by
  obtain ⟨sh, hs, rfl⟩ := List.mem_map.mp hd
  exact sh_sm hn (h.1 sh hs)
theorem ways_ok {b : BK} (hb : BkS b) (x0 x1 x2 x4 x5 x6 x7 x8 x9 : SV) (rd : Rdr) :
    ∃ WS : List (List (List Int)), eLc (eIter (eFn mf__law_open 1 (aCons (eVar 3) aNil))) (.nm 8) [8] mYes (eFn mf__law_splits 2 (aCons (eVar 3) (aCons (eVar 8) aNil))) [x0, x1, x2, .val b.d, x4, x5, x6, x7, x8, x9] rd = some (.lst (WS.map wyD), rd) ∧ WS.length = (opens b.rs).length ∧ ∀ L ∈ WS, WyS b.ps.length L := by
  have ho := open_ok b (by have := hb.rl; omega) rd
  have ol : (opens b.rs).length ≤ b.rs.length := List.length_filter_le _ _
  have lz : (((opens b.rs).map RW.d).length ≤ sizeLine) = True := by
    rw [List.length_map]
    exact szl (m := 6) (by have := hb.rl; omega)
  have w := lcGo_wpA (f := fun _ L => WyS b.ps.length L) (g := wyD) (p := .nm 8) (e := eFn mf__law_splits 2 (aCons (eVar 3) (aCons (eVar 8) aNil))) (env := wipeE [x0, x1, x2, .val b.d, x4, x5, x6, x7, x8, x9] [8])
    (J := fun _ r => r = rd) (ds := (opens b.rs).map RW.d) (n := 0) (rd := rd) (fun d hd k r hk hj => by
      obtain ⟨q, hq, rfl⟩ := List.mem_map.mp hd
      have hm := List.mem_filter.mp hq
      have hop : q.op = true := hm.2
      obtain ⟨L, s1, s2, s3⟩ := splits_ok hb hop (hb.rs q hm.1).am rd
      have tl : eFn mf__law_splits 2 (aCons (eVar 3) (aCons (eVar 8) aNil)) [x0, x1, x2, .val b.d, x4, x5, x6, x7, .val q.d, x9] rd = some (wyD L, rd) := by
        simp only [ev_bind1, ev_lift, ev_eC, ev_eVar, ev_eOp, ev_eUn, ev_eT, ev_mAnd, ev_mOr, ev_mNot, ev_eAnd, ev_eIf, ev_chain, ev_aNil, ev_aCons, ev_eTup, ev_eLst, ev_eCall, ev_eFn, ev_eFnR, ev_eIter, ev_eRange, ev_eLc, ev_eSl, ev_pNone, ev_pSome, ev_mFrz, ev_sNx, ev_sSet, ev_sRet, ev_sSeq, ev_sIf, ev_sUnp, ev_sNew, ev_fLst, ev_fCat, ev_sApp, ev_sFrz, ev_sFor, ev_vNil, ev_vVal, ev_vOwn, ev_sTup, ev_eRd, ev_sRd, and_self, true_and, and_true, eq_self, eqS, eqI, neS, neI, decide_true, decide_false, decide_eq_true_eq, Bool.not_true, Bool.not_false, initE, setPat, setAll, op1, isBl, flFin, iterD, seqOf, List.length_cons, List.length_nil, Bool.false_eq_true, if_false, if_true, List.nil_append, List.map_cons, List.map_nil, List.replicate, List.cons_append, Option.bind_some, Option.map_some, List.set_cons_succ, List.set_cons_zero, List.getElem?_cons_zero, List.getElem?_cons_succ, Nat.reduceAdd, ev_eNot, ev_eOwnAdd, ev_chain3, ev_xGet, ev_eFnX, ev_eFnXK, ev_xOk, ev_xTup2, ev_sSetX, ev_sRetX, ev_sExpX, ev_sRaise, ev_sTry, ev_eIsE, ev_eFldC, ev_eLc2, ev_lOwn, ev_sExt, s1, wyD]
      rw [hj]
      exact ⟨_, rfl, wyD L, rd, tl, ⟨L, rfl, s2, s3⟩, rfl⟩) rfl
  obtain ⟨ys, r2, g1, ⟨as, rfl, h1, h2⟩, e2⟩ := w
  rw [e2] at g1
  refine ⟨as, ?_, by rw [h1, List.length_map], fun L hL => ?_⟩
  · simp only [ev_bind1, ev_lift, ev_eC, ev_eVar, ev_eOp, ev_eUn, ev_eT, ev_mAnd, ev_mOr, ev_mNot, ev_eAnd, ev_eIf, ev_chain, ev_aNil, ev_aCons, ev_eTup, ev_eLst, ev_eCall, ev_eFn, ev_eFnR, ev_eIter, ev_eRange, ev_eLc, ev_eSl, ev_pNone, ev_pSome, ev_mFrz, ev_sNx, ev_sSet, ev_sRet, ev_sSeq, ev_sIf, ev_sUnp, ev_sNew, ev_fLst, ev_fCat, ev_sApp, ev_sFrz, ev_sFor, ev_vNil, ev_vVal, ev_vOwn, ev_sTup, ev_eRd, ev_sRd, and_self, true_and, and_true, eq_self, eqS, eqI, neS, neI, decide_true, decide_false, decide_eq_true_eq, Bool.not_true, Bool.not_false, initE, setPat, setAll, op1, isBl, flFin, iterD, seqOf, List.length_cons, List.length_nil, Bool.false_eq_true, if_false, if_true, List.nil_append, List.map_cons, List.map_nil, List.replicate, List.cons_append, Option.bind_some, Option.map_some, List.set_cons_succ, List.set_cons_zero, List.getElem?_cons_zero, List.getElem?_cons_succ, Nat.reduceAdd, ev_eNot, ev_eOwnAdd, ev_chain3, ev_xGet, ev_eFnX, ev_eFnXK, ev_xOk, ev_xTup2, ev_sSetX, ev_sRetX, ev_sExpX, ev_sRaise, ev_sTry, ev_eIsE, ev_eFldC, ev_eLc2, ev_lOwn, ev_sExt, ho, lz, g1]
  · obtain ⟨_, _, h⟩ := h2 L hL
    exact h
theorem test_ok {n : Nat} (hn : n ≤ 4) {WS : List (List (List Int))} (h1 : WS.length ≤ 6) (h2 : ∀ L ∈ WS, WyS n L) (x0 x1 x2 x3 x4 x6 x7 x8 x9 : SV) (rd : Rdr) :
    ∃ c : Bool, eT (eOp opEq (eLc (eIter (eVar 5)) (.nm 9) [9] (eT (eOp opEq (eVar 9) (eLst aNil))) (eVar 9)) (eLst aNil)) [x0, x1, x2, x3, x4, .val (.lst (WS.map wyD)), x6, x7, x8, x9] rd = some (c, rd) ∧ (c = true → ∀ L ∈ WS, L ≠ []) := by
  have l0 : ((0 : Nat) ≤ sizeLine) = True := by simp
  have lz : ((WS.map wyD).length ≤ sizeLine) = True := by
    rw [List.length_map]
    exact szl (m := 6) h1
  have e1 : ∀ L : List (List Int), WyS n L → opEq (wyD L) (.lst []) = some (.bl (decide (L.map shD = []))) := fun L h => eq_lstNil (wy_sm hn h) (by omega)
  have g := lcGo_P (f := wyD) (g := wyD) (b := fun L => decide (L.map shD = [])) (p := .nm 9) (env := wipeE [x0, x1, x2, x3, x4, .val (.lst (WS.map wyD)), x6, x7, x8, x9] [9]) (rd := rd)
    (t := eT (eOp opEq (eVar 9) (eLst aNil))) (e := eVar 9) (as := WS) (fun L hL => ⟨_, rfl, by simp only [ev_bind1, ev_lift, ev_eC, ev_eVar, ev_eOp, ev_eUn, ev_eT, ev_mAnd, ev_mOr, ev_mNot, ev_eAnd, ev_eIf, ev_chain, ev_aNil, ev_aCons, ev_eTup, ev_eLst, ev_eCall, ev_eFn, ev_eFnR, ev_eIter, ev_eRange, ev_eLc, ev_eSl, ev_pNone, ev_pSome, ev_mFrz, ev_sNx, ev_sSet, ev_sRet, ev_sSeq, ev_sIf, ev_sUnp, ev_sNew, ev_fLst, ev_fCat, ev_sApp, ev_sFrz, ev_sFor, ev_vNil, ev_vVal, ev_vOwn, ev_sTup, ev_eRd, ev_sRd, and_self, true_and, and_true, eq_self, eqS, eqI, neS, neI, decide_true, decide_false, decide_eq_true_eq, Bool.not_true, Bool.not_false, initE, setPat, setAll, op1, isBl, flFin, iterD, seqOf, List.length_cons, List.length_nil, Bool.false_eq_true, if_false, if_true, List.nil_append, List.map_cons, List.map_nil, List.replicate, List.cons_append, Option.bind_some, Option.map_some, List.set_cons_succ, List.set_cons_zero, List.getElem?_cons_zero, List.getElem?_cons_succ, Nat.reduceAdd, ev_eNot, ev_eOwnAdd, ev_chain3, ev_xGet, ev_eFnX, ev_eFnXK, ev_xOk, ev_xTup2, ev_sSetX, ev_sRetX, ev_sExpX, ev_sRaise, ev_sTry, ev_eIsE, ev_eFldC, ev_eLc2, ev_lOwn, ev_sExt, wipeE, l0, e1 L (h2 L hL)], fun _ => by simp only [ev_bind1, ev_lift, ev_eC, ev_eVar, ev_eOp, ev_eUn, ev_eT, ev_mAnd, ev_mOr, ev_mNot, ev_eAnd, ev_eIf, ev_chain, ev_aNil, ev_aCons, ev_eTup, ev_eLst, ev_eCall, ev_eFn, ev_eFnR, ev_eIter, ev_eRange, ev_eLc, ev_eSl, ev_pNone, ev_pSome, ev_mFrz, ev_sNx, ev_sSet, ev_sRet, ev_sSeq, ev_sIf, ev_sUnp, ev_sNew, ev_fLst, ev_fCat, ev_sApp, ev_sFrz, ev_sFor, ev_vNil, ev_vVal, ev_vOwn, ev_sTup, ev_eRd, ev_sRd, and_self, true_and, and_true, eq_self, eqS, eqI, neS, neI, decide_true, decide_false, decide_eq_true_eq, Bool.not_true, Bool.not_false, initE, setPat, setAll, op1, isBl, flFin, iterD, seqOf, List.length_cons, List.length_nil, Bool.false_eq_true, if_false, if_true, List.nil_append, List.map_cons, List.map_nil, List.replicate, List.cons_append, Option.bind_some, Option.map_some, List.set_cons_succ, List.set_cons_zero, List.getElem?_cons_zero, List.getElem?_cons_succ, Nat.reduceAdd, ev_eNot, ev_eOwnAdd, ev_chain3, ev_xGet, ev_eFnX, ev_eFnXK, ev_xOk, ev_xTup2, ev_sSetX, ev_sRetX, ev_sExpX, ev_sRaise, ev_sTry, ev_eIsE, ev_eFldC, ev_eLc2, ev_lOwn, ev_sExt, wipeE]⟩)
  have sm2 : ∀ d ∈ (WS.filter fun L => decide (L.map shD = [])).map wyD, Sm (700 * (20000 + 2) + 4) (1 + 1) d := fun d hd => by
    obtain ⟨L, hL, rfl⟩ := List.mem_map.mp hd
    have hw := h2 L (List.mem_filter.mp hL).1
    exact sm_lst (wy_sm hn hw) (by rw [List.length_map]; exact hw.2)
  have e4 := eq_lstNil sm2 (by omega)
  refine ⟨_, by simp only [ev_bind1, ev_lift, ev_eC, ev_eVar, ev_eOp, ev_eUn, ev_eT, ev_mAnd, ev_mOr, ev_mNot, ev_eAnd, ev_eIf, ev_chain, ev_aNil, ev_aCons, ev_eTup, ev_eLst, ev_eCall, ev_eFn, ev_eFnR, ev_eIter, ev_eRange, ev_eLc, ev_eSl, ev_pNone, ev_pSome, ev_mFrz, ev_sNx, ev_sSet, ev_sRet, ev_sSeq, ev_sIf, ev_sUnp, ev_sNew, ev_fLst, ev_fCat, ev_sApp, ev_sFrz, ev_sFor, ev_vNil, ev_vVal, ev_vOwn, ev_sTup, ev_eRd, ev_sRd, and_self, true_and, and_true, eq_self, eqS, eqI, neS, neI, decide_true, decide_false, decide_eq_true_eq, Bool.not_true, Bool.not_false, initE, setPat, setAll, op1, isBl, flFin, iterD, seqOf, List.length_cons, List.length_nil, Bool.false_eq_true, if_false, if_true, List.nil_append, List.map_cons, List.map_nil, List.replicate, List.cons_append, Option.bind_some, Option.map_some, List.set_cons_succ, List.set_cons_zero, List.getElem?_cons_zero, List.getElem?_cons_succ, Nat.reduceAdd, ev_eNot, ev_eOwnAdd, ev_chain3, ev_xGet, ev_eFnX, ev_eFnXK, ev_xOk, ev_xTup2, ev_sSetX, ev_sRetX, ev_sExpX, ev_sRaise, ev_sTry, ev_eIsE, ev_eFldC, ev_eLc2, ev_lOwn, ev_sExt, l0, lz, g, e4]; rfl, fun hc L hL he => ?_⟩
  have z := of_decide_eq_true hc
  rw [List.map_eq_nil_iff] at z
  have m : L ∈ WS.filter fun L => decide (L.map shD = []) := List.mem_filter.mpr ⟨hL, by rw [he]; rfl⟩
  rw [z] at m
  exact List.not_mem_nil m
def lwB : MM Fl := (sSeq (sSet 7 (eCall (op1 opTuple) (aCons (eLc (eIter (eVar 5)) (.nm 9) [9] mYes (eFnR mf__law_choice 1 1 (aCons (eVar 9) aNil))) aNil)))
  (sIf (mOr (mNot (eT (eFn mf__law_sums_right 2 (aCons (eVar 3) (aCons (eVar 7) aNil))))) (mNot (eT (eFn mf__law_odd_right 2 (aCons (eVar 3) (aCons (eVar 7) aNil)))))) (sRet (eC (.bl false))) sNx))
theorem pick_ok {n : Nat} {WS : List (List (List Int))} (h1 : WS.length ≤ 6) (h2 : ∀ L ∈ WS, WyS n L) (h3 : ∀ L ∈ WS, L ≠ []) {N : Int} (hN : N ≤ 800000) (x0 x2 x3 x4 x6 x7 x8 x9 : SV) {rd : Rdr} (hr : RdI N rd) :
    Wp (eCall (op1 opTuple) (aCons (eLc (eIter (eVar 5)) (.nm 9) [9] mYes (eFnR mf__law_choice 1 1 (aCons (eVar 9) aNil))) aNil) [x0, .rdr, x2, x3, x4, .val (.lst (WS.map wyD)), x6, x7, x8, x9] rd) fun d rd' => (∃ cs : List (List Int), d = chD cs ∧ cs.length = WS.length ∧ ∀ sh ∈ cs, Sh4 n sh) ∧ RdI (N + 6) rd' := by
  have lz : ((WS.map wyD).length ≤ sizeLine) = True := by
    rw [List.length_map]
    exact szl (m := 6) h1
  refine wp_call (wp_cons ?_)
  rw [ev_eLc, ev_eIter, ev_eVar]
  simp only [List.getElem?_cons_zero, List.getElem?_cons_succ, Option.bind_some, iterD, Option.map_some, lz, if_true]
  rw [wp_omap2]
  refine (lcGo_wpA (g := shD) (f := fun _ sh => Sh4 n sh) (J := fun j r => RdI (N + j) r) (n := 0) (ds := WS.map wyD) ?_ (by simpa using hr)).mono ?_
  · intro d hd k r hk hj
    obtain ⟨L, hL, rfl⟩ := List.mem_map.mp hd
    rw [List.length_map] at hk
    refine ⟨_, rfl, ?_⟩
    refine (ch (ds := L.map shD) (d := wyD L) (n := N + k) (rd1 := r) (.inr rfl) (by simpa using h3 L hL) (by rw [List.length_map]; have := (h2 L hL).2; omega) (by omega) rfl rfl hj).mono ?_
    rintro d r2 ⟨hd, hr2⟩
    obtain ⟨sh, hs, rfl⟩ := List.mem_map.mp hd
    exact ⟨⟨sh, rfl, (h2 L hL).1 sh hs⟩, hr2.mono (by omega)⟩
  · rintro ys r2 ⟨⟨cs, rfl, g1, g2⟩, g3⟩
    rw [List.length_map] at g1 g3
    refine wp_nil ⟨_, rfl, ⟨cs, rfl, g1, fun sh hs => ?_⟩, g3.mono (by omega)⟩
    obtain ⟨_, _, h⟩ := g2 sh hs
    exact h
theorem lap_ok {b : BK} (hb : BkS b) {WS : List (List (List Int))} (h1 : WS.length = (opens b.rs).length) (h2 : ∀ L ∈ WS, WyS b.ps.length L) (h3 : ∀ L ∈ WS, L ≠ []) {N : Int} (hN : N ≤ 800000) (x0 x2 x4 x6 x7 x8 x9 : SV) {rd : Rdr} (hr : RdI N rd) :
    Wp (lwB [x0, .rdr, x2, .val b.d, x4, .val (.lst (WS.map wyD)), x6, x7, x8, x9] rd) fun fl r => ∃ y7 : SV, fl = .nx [x0, .rdr, x2, .val b.d, x4, .val (.lst (WS.map wyD)), x6, y7, x8, x9] ∧ RdI (N + 6) r := by
  have b1 : lwB = sSeq (sSet 7 (eCall (op1 opTuple) (aCons (eLc (eIter (eVar 5)) (.nm 9) [9] mYes (eFnR mf__law_choice 1 1 (aCons (eVar 9) aNil))) aNil))) (sIf (mOr (mNot (eT (eFn mf__law_sums_right 2 (aCons (eVar 3) (aCons (eVar 7) aNil))))) (mNot (eT (eFn mf__law_odd_right 2 (aCons (eVar 3) (aCons (eVar 7) aNil)))))) (sRet (eC (.bl false))) sNx) := rfl
  have ol : (opens b.rs).length ≤ b.rs.length := List.length_filter_le _ _
  rw [b1]
  refine wp_set ?_
  refine (pick_ok (by have := hb.rl; omega) h2 h3 hN x0 x2 (.val b.d) x4 x6 x7 x8 x9 hr).mono ?_
  rintro _ r ⟨⟨cs, rfl, c1, c2⟩, hr2⟩
  have hc : ChS b cs := ⟨by rw [c1, h1], c2⟩
  have s := sums_ok hb hc r
  have o := odd_ok hb (chD cs) r
  have ts : mOr (mNot (eT (eFn mf__law_sums_right 2 (aCons (eVar 3) (aCons (eVar 7) aNil))))) (mNot (eT (eFn mf__law_odd_right 2 (aCons (eVar 3) (aCons (eVar 7) aNil))))) [x0, .rdr, x2, .val b.d, x4, .val (.lst (WS.map wyD)), x6, .val (chD cs), x8, x9] r = some (false, r) := by
    simp only [ev_bind1, ev_lift, ev_eC, ev_eVar, ev_eOp, ev_eUn, ev_eT, ev_mAnd, ev_mOr, ev_mNot, ev_eAnd, ev_eIf, ev_chain, ev_aNil, ev_aCons, ev_eTup, ev_eLst, ev_eCall, ev_eFn, ev_eFnR, ev_eIter, ev_eRange, ev_eLc, ev_eSl, ev_pNone, ev_pSome, ev_mFrz, ev_sNx, ev_sSet, ev_sRet, ev_sSeq, ev_sIf, ev_sUnp, ev_sNew, ev_fLst, ev_fCat, ev_sApp, ev_sFrz, ev_sFor, ev_vNil, ev_vVal, ev_vOwn, ev_sTup, ev_eRd, ev_sRd, and_self, true_and, and_true, eq_self, eqS, eqI, neS, neI, decide_true, decide_false, decide_eq_true_eq, Bool.not_true, Bool.not_false, initE, setPat, setAll, op1, isBl, flFin, iterD, seqOf, List.length_cons, List.length_nil, Bool.false_eq_true, if_false, if_true, List.nil_append, List.map_cons, List.map_nil, List.replicate, List.cons_append, Option.bind_some, Option.map_some, List.set_cons_succ, List.set_cons_zero, List.getElem?_cons_zero, List.getElem?_cons_succ, Nat.reduceAdd, ev_eNot, ev_eOwnAdd, ev_chain3, ev_xGet, ev_eFnX, ev_eFnXK, ev_xOk, ev_xTup2, ev_sSetX, ev_sRetX, ev_sExpX, ev_sRaise, ev_sTry, ev_eIsE, ev_eFldC, ev_eLc2, ev_lOwn, ev_sExt, s, o]
  exact wp_if false ts (fun z => by cases z) fun _ => ⟨.nx [x0, .rdr, x2, .val b.d, x4, .val (.lst (WS.map wyD)), x6, .val (chD cs), x8, x9], r, rfl, .val (chD cs), rfl, hr2⟩
def lwE (k : Nat) (env : List SV) (r : Rdr) : Prop := ∃ x2 x3 x4 x5 x6 x7 x8 x9 : SV, env = [.un, .rdr, x2, x3, x4, x5, x6, x7, x8, x9] ∧ RdI (200 * k) r
def lwA : MM Fl := (sSeq (sSet 3 (eFnR mf__law_book_now 0 1 aNil))
  (sSeq (sTup [4, 5] (vVal (eCall (op1 opRepr) (aCons (eVar 3) aNil)) (vVal (eLc (eIter (eFn mf__law_open 1 (aCons (eVar 3) aNil))) (.nm 8) [8] mYes (eFn mf__law_splits 2 (aCons (eVar 3) (aCons (eVar 8) aNil)))) vNil)))
  (sSeq (sIf (eT (eOp opEq (eLc (eIter (eVar 5)) (.nm 9) [9] (eT (eOp opEq (eVar 9) (eLst aNil))) (eVar 9)) (eLst aNil))) (sFor (eRange range1 (aCons (eC (.int 3)) aNil)) (.nm 6) (sSeq (sSet 7 (eCall (op1 opTuple) (aCons (eLc (eIter (eVar 5)) (.nm 9) [9] mYes (eFnR mf__law_choice 1 1 (aCons (eVar 9) aNil))) aNil)))
  (sIf (mOr (mNot (eT (eFn mf__law_sums_right 2 (aCons (eVar 3) (aCons (eVar 7) aNil))))) (mNot (eT (eFn mf__law_odd_right 2 (aCons (eVar 3) (aCons (eVar 7) aNil)))))) (sRet (eC (.bl false))) sNx))) sNx)
  (sIf (eT (eOp opNe (eCall (op1 opRepr) (aCons (eVar 3) aNil)) (eVar 4))) (sRet (eC (.bl false))) sNx))))
theorem att_ok {k : Nat} (hk : k < 8) (x2 x3 x4 x5 x6 x7 x8 x9 : SV) {rd : Rdr} (hr : RdI (200 * k) rd) : Wp (lwA [.un, .rdr, x2, x3, x4, x5, x6, x7, x8, x9] rd) fun fl r => ∃ env', fl = .nx env' ∧ lwE (k + 1) env' r := by
  have b1 : lwA = sSeq (sSet 3 (eFnR mf__law_book_now 0 1 aNil)) (sSeq (sTup [4, 5] (vVal (eCall (op1 opRepr) (aCons (eVar 3) aNil)) (vVal (eLc (eIter (eFn mf__law_open 1 (aCons (eVar 3) aNil))) (.nm 8) [8] mYes (eFn mf__law_splits 2 (aCons (eVar 3) (aCons (eVar 8) aNil)))) vNil))) (sSeq (sIf (eT (eOp opEq (eLc (eIter (eVar 5)) (.nm 9) [9] (eT (eOp opEq (eVar 9) (eLst aNil))) (eVar 9)) (eLst aNil))) (sFor (eRange range1 (aCons (eC (.int 3)) aNil)) (.nm 6) lwB) sNx) (sIf (eT (eOp opNe (eCall (op1 opRepr) (aCons (eVar 3) aNil)) (eVar 4))) (sRet (eC (.bl false))) sNx))) := rfl
  rw [b1]
  refine wp_set ?_
  have bk : Wp (eFnR mf__law_book_now 0 1 aNil [.un, .rdr, x2, x3, x4, x5, x6, x7, x8, x9] rd) fun d rd' => (∃ b : BK, d = b.d ∧ BkS b) ∧ RdI (200 * k + 130) rd' := book_ok (n := 200 * k) (by omega) hr
  refine bk.mono ?_
  rintro _ r1 ⟨⟨b, rfl, hb⟩, hr1⟩
  obtain ⟨ro, rn⟩ := repr_ne hb.sm (by omega) (by decide)
  obtain ⟨WS, w1, w2, w3⟩ := ways_ok hb .un .rdr x2 x4 x5 x6 x7 x8 x9 r1
  have ol : (opens b.rs).length ≤ b.rs.length := List.length_filter_le _ _
  have t0 : sTup [4, 5] (vVal (eCall (op1 opRepr) (aCons (eVar 3) aNil)) (vVal (eLc (eIter (eFn mf__law_open 1 (aCons (eVar 3) aNil))) (.nm 8) [8] mYes (eFn mf__law_splits 2 (aCons (eVar 3) (aCons (eVar 8) aNil)))) vNil)) [.un, .rdr, x2, .val b.d, x4, x5, x6, x7, x8, x9] r1 = some (.nx [.un, .rdr, x2, .val b.d, .val (.str (shownD b.d)), .val (.lst (WS.map wyD)), x6, x7, x8, x9], r1) := by
    have rr : eCall (op1 opRepr) (aCons (eVar 3) aNil) [.un, .rdr, x2, .val b.d, x4, x5, x6, x7, x8, x9] r1 = some (.str (shownD b.d), r1) := by
      simp only [ev_bind1, ev_lift, ev_eC, ev_eVar, ev_eOp, ev_eUn, ev_eT, ev_mAnd, ev_mOr, ev_mNot, ev_eAnd, ev_eIf, ev_chain, ev_aNil, ev_aCons, ev_eTup, ev_eLst, ev_eCall, ev_eFn, ev_eFnR, ev_eIter, ev_eRange, ev_eLc, ev_eSl, ev_pNone, ev_pSome, ev_mFrz, ev_sNx, ev_sSet, ev_sRet, ev_sSeq, ev_sIf, ev_sUnp, ev_sNew, ev_fLst, ev_fCat, ev_sApp, ev_sFrz, ev_sFor, ev_vNil, ev_vVal, ev_vOwn, ev_sTup, ev_eRd, ev_sRd, and_self, true_and, and_true, eq_self, eqS, eqI, neS, neI, decide_true, decide_false, decide_eq_true_eq, Bool.not_true, Bool.not_false, initE, setPat, setAll, op1, isBl, flFin, iterD, seqOf, List.length_cons, List.length_nil, Bool.false_eq_true, if_false, if_true, List.nil_append, List.map_cons, List.map_nil, List.replicate, List.cons_append, Option.bind_some, Option.map_some, List.set_cons_succ, List.set_cons_zero, List.getElem?_cons_zero, List.getElem?_cons_succ, Nat.reduceAdd, ev_eNot, ev_eOwnAdd, ev_chain3, ev_xGet, ev_eFnX, ev_eFnXK, ev_xOk, ev_xTup2, ev_sSetX, ev_sRetX, ev_sExpX, ev_sRaise, ev_sTry, ev_eIsE, ev_eFldC, ev_eLc2, ev_lOwn, ev_sExt, ro]
    rw [ev_sTup, ev_vVal, rr]
    simp only [Option.bind_some]
    rw [ev_vVal, w1]
    simp only [ev_bind1, ev_lift, ev_eC, ev_eVar, ev_eOp, ev_eUn, ev_eT, ev_mAnd, ev_mOr, ev_mNot, ev_eAnd, ev_eIf, ev_chain, ev_aNil, ev_aCons, ev_eTup, ev_eLst, ev_eCall, ev_eFn, ev_eFnR, ev_eIter, ev_eRange, ev_eLc, ev_eSl, ev_pNone, ev_pSome, ev_mFrz, ev_sNx, ev_sSet, ev_sRet, ev_sSeq, ev_sIf, ev_sUnp, ev_sNew, ev_fLst, ev_fCat, ev_sApp, ev_sFrz, ev_sFor, ev_vNil, ev_vVal, ev_vOwn, ev_sTup, ev_eRd, ev_sRd, and_self, true_and, and_true, eq_self, eqS, eqI, neS, neI, decide_true, decide_false, decide_eq_true_eq, Bool.not_true, Bool.not_false, initE, setPat, setAll, op1, isBl, flFin, iterD, seqOf, List.length_cons, List.length_nil, Bool.false_eq_true, if_false, if_true, List.nil_append, List.map_cons, List.map_nil, List.replicate, List.cons_append, Option.bind_some, Option.map_some, List.set_cons_succ, List.set_cons_zero, List.getElem?_cons_zero, List.getElem?_cons_succ, Nat.reduceAdd, ev_eNot, ev_eOwnAdd, ev_chain3, ev_xGet, ev_eFnX, ev_eFnXK, ev_xOk, ev_xTup2, ev_sSetX, ev_sRetX, ev_sExpX, ev_sRaise, ev_sTry, ev_eIsE, ev_eFldC, ev_eLc2, ev_lOwn, ev_sExt, setSv]
  refine wp_seq ⟨_, _, t0, _, rfl, ?_⟩
  obtain ⟨c, tc, hcw⟩ := test_ok hb.p4 (by have := hb.rl; omega) w3 .un .rdr x2 (.val b.d) (.val (.str (shownD b.d))) x6 x7 x8 x9 r1
  have lo : Wp ((sIf (eT (eOp opEq (eLc (eIter (eVar 5)) (.nm 9) [9] (eT (eOp opEq (eVar 9) (eLst aNil))) (eVar 9)) (eLst aNil))) (sFor (eRange range1 (aCons (eC (.int 3)) aNil)) (.nm 6) lwB) sNx) [.un, .rdr, x2, .val b.d, .val (.str (shownD b.d)), .val (.lst (WS.map wyD)), x6, x7, x8, x9] r1) fun fl r => ∃ y6 y7 : SV, fl = .nx [.un, .rdr, x2, .val b.d, .val (.str (shownD b.d)), .val (.lst (WS.map wyD)), y6, y7, x8, x9] ∧ RdI (200 * k + 160) r := by
    refine wp_if c tc (fun hc => ?_) (fun _ => ⟨.nx [.un, .rdr, x2, .val b.d, .val (.str (shownD b.d)), .val (.lst (WS.map wyD)), x6, x7, x8, x9], r1, rfl, x6, x7, rfl, hr1.mono (by omega)⟩)
    refine wp_for ?_
    have it : eRange range1 (aCons (eC (.int 3)) aNil) [.un, .rdr, x2, .val b.d, .val (.str (shownD b.d)), .val (.lst (WS.map wyD)), x6, x7, x8, x9] r1 = some (rangeD 0 3, r1) := by
      have q := range1_n (n := 3) (by omega)
      have q' : range1 [.int 3] = some (rangeD 0 3) := q
      simp only [ev_bind1, ev_lift, ev_eC, ev_eVar, ev_eOp, ev_eUn, ev_eT, ev_mAnd, ev_mOr, ev_mNot, ev_eAnd, ev_eIf, ev_chain, ev_aNil, ev_aCons, ev_eTup, ev_eLst, ev_eCall, ev_eFn, ev_eFnR, ev_eIter, ev_eRange, ev_eLc, ev_eSl, ev_pNone, ev_pSome, ev_mFrz, ev_sNx, ev_sSet, ev_sRet, ev_sSeq, ev_sIf, ev_sUnp, ev_sNew, ev_fLst, ev_fCat, ev_sApp, ev_sFrz, ev_sFor, ev_vNil, ev_vVal, ev_vOwn, ev_sTup, ev_eRd, ev_sRd, and_self, true_and, and_true, eq_self, eqS, eqI, neS, neI, decide_true, decide_false, decide_eq_true_eq, Bool.not_true, Bool.not_false, initE, setPat, setAll, op1, isBl, flFin, iterD, seqOf, List.length_cons, List.length_nil, Bool.false_eq_true, if_false, if_true, List.nil_append, List.map_cons, List.map_nil, List.replicate, List.cons_append, Option.bind_some, Option.map_some, List.set_cons_succ, List.set_cons_zero, List.getElem?_cons_zero, List.getElem?_cons_succ, Nat.reduceAdd, ev_eNot, ev_eOwnAdd, ev_chain3, ev_xGet, ev_eFnX, ev_eFnXK, ev_xOk, ev_xTup2, ev_sSetX, ev_sRetX, ev_sExpX, ev_sRaise, ev_sTry, ev_eIsE, ev_eFldC, ev_eLc2, ev_lOwn, ev_sExt, q']
    refine ⟨_, _, it, ?_⟩
    refine (forGo_wpI (E := fun j env r => ∃ y6 y7 : SV, env = [.un, .rdr, x2, .val b.d, .val (.str (shownD b.d)), .val (.lst (WS.map wyD)), y6, y7, x8, x9] ∧ RdI (200 * k + 130 + 6 * (j : Nat)) r) (n := 0) (fun i d hd env r he => ?_) ⟨x6, x7, rfl, by simpa using hr1⟩).mono ?_
    · rw [Nat.zero_add] at he ⊢
      obtain ⟨y6, y7, rfl, h⟩ := he
      have hi : i < 3 := by
        have := (List.getElem?_eq_some_iff.mp hd).1
        rwa [range_len] at this
      refine ⟨_, rfl, ?_⟩
      refine (lap_ok hb w2 w3 (hcw hc) (N := 200 * k + 130 + 6 * (i : Nat)) (by omega) .un x2 (.val (.str (shownD b.d))) (.val d) y7 x8 x9 h).mono ?_
      rintro _ r2 ⟨z7, rfl, h2⟩
      exact ⟨_, rfl, .val d, z7, rfl, h2.mono (by omega)⟩
    · rintro _ r ⟨env', rfl, y6, y7, rfl, h⟩
      rw [range_len, Nat.zero_add] at h
      exact ⟨y6, y7, rfl, h.mono (by omega)⟩
  refine wp_seq (lo.mono ?_)
  rintro _ r2 ⟨y6, y7, rfl, hr2⟩
  refine ⟨_, rfl, ?_⟩
  have t9 : eT (eOp opNe (eCall (op1 opRepr) (aCons (eVar 3) aNil)) (eVar 4)) [.un, .rdr, x2, .val b.d, .val (.str (shownD b.d)), .val (.lst (WS.map wyD)), y6, y7, x8, x9] r2 = some (false, r2) := by
    simp only [ev_bind1, ev_lift, ev_eC, ev_eVar, ev_eOp, ev_eUn, ev_eT, ev_mAnd, ev_mOr, ev_mNot, ev_eAnd, ev_eIf, ev_chain, ev_aNil, ev_aCons, ev_eTup, ev_eLst, ev_eCall, ev_eFn, ev_eFnR, ev_eIter, ev_eRange, ev_eLc, ev_eSl, ev_pNone, ev_pSome, ev_mFrz, ev_sNx, ev_sSet, ev_sRet, ev_sSeq, ev_sIf, ev_sUnp, ev_sNew, ev_fLst, ev_fCat, ev_sApp, ev_sFrz, ev_sFor, ev_vNil, ev_vVal, ev_vOwn, ev_sTup, ev_eRd, ev_sRd, and_self, true_and, and_true, eq_self, eqS, eqI, neS, neI, decide_true, decide_false, decide_eq_true_eq, Bool.not_true, Bool.not_false, initE, setPat, setAll, op1, isBl, flFin, iterD, seqOf, List.length_cons, List.length_nil, Bool.false_eq_true, if_false, if_true, List.nil_append, List.map_cons, List.map_nil, List.replicate, List.cons_append, Option.bind_some, Option.map_some, List.set_cons_succ, List.set_cons_zero, List.getElem?_cons_zero, List.getElem?_cons_succ, Nat.reduceAdd, ev_eNot, ev_eOwnAdd, ev_chain3, ev_xGet, ev_eFnX, ev_eFnXK, ev_xOk, ev_xTup2, ev_sSetX, ev_sRetX, ev_sExpX, ev_sRaise, ev_sTry, ev_eIsE, ev_eFldC, ev_eLc2, ev_lOwn, ev_sExt, ro, rn]
  exact wp_if false t9 (fun z => by cases z) fun _ => ⟨.nx [.un, .rdr, x2, .val b.d, .val (.str (shownD b.d)), .val (.lst (WS.map wyD)), y6, y7, x8, x9], r2, rfl, [.un, .rdr, x2, .val b.d, .val (.str (shownD b.d)), .val (.lst (WS.map wyD)), y6, y7, x8, x9], rfl, x2, .val b.d, .val (.str (shownD b.d)), .val (.lst (WS.map wyD)), y6, y7, x8, x9, rfl, hr2.mono (by omega)⟩
theorem pure_law : ∀ ns : List Int, ns.length ≤ 63 → ∃ rd', b_law (env0 8) ⟨ns, 0, 0, 0⟩ = some (.ret (.bl true), rd') := by
  intro ns _
  have b1 : b_law = sSeq (sFor (eRange range1 (aCons (eC (.int 8)) aNil)) (.nm 2) lwA) (sRet (eC (.bl true))) := rfl
  have w : Wp (b_law (env0 8) ⟨ns, 0, 0, 0⟩) fun fl _ => fl = .ret (.bl true) := by
    rw [b1]
    refine wp_seq (wp_for ?_)
    have it : eRange range1 (aCons (eC (.int 8)) aNil) (env0 8) ⟨ns, 0, 0, 0⟩ = some (rangeD 0 8, ⟨ns, 0, 0, 0⟩) := by
      have q := range1_n (n := 8) (by omega)
      have q' : range1 [.int 8] = some (rangeD 0 8) := q
      simp only [ev_bind1, ev_lift, ev_eC, ev_eVar, ev_eOp, ev_eUn, ev_eT, ev_mAnd, ev_mOr, ev_mNot, ev_eAnd, ev_eIf, ev_chain, ev_aNil, ev_aCons, ev_eTup, ev_eLst, ev_eCall, ev_eFn, ev_eFnR, ev_eIter, ev_eRange, ev_eLc, ev_eSl, ev_pNone, ev_pSome, ev_mFrz, ev_sNx, ev_sSet, ev_sRet, ev_sSeq, ev_sIf, ev_sUnp, ev_sNew, ev_fLst, ev_fCat, ev_sApp, ev_sFrz, ev_sFor, ev_vNil, ev_vVal, ev_vOwn, ev_sTup, ev_eRd, ev_sRd, and_self, true_and, and_true, eq_self, eqS, eqI, neS, neI, decide_true, decide_false, decide_eq_true_eq, Bool.not_true, Bool.not_false, initE, setPat, setAll, op1, isBl, flFin, iterD, seqOf, List.length_cons, List.length_nil, Bool.false_eq_true, if_false, if_true, List.nil_append, List.map_cons, List.map_nil, List.replicate, List.cons_append, Option.bind_some, Option.map_some, List.set_cons_succ, List.set_cons_zero, List.getElem?_cons_zero, List.getElem?_cons_succ, Nat.reduceAdd, ev_eNot, ev_eOwnAdd, ev_chain3, ev_xGet, ev_eFnX, ev_eFnXK, ev_xOk, ev_xTup2, ev_sSetX, ev_sRetX, ev_sExpX, ev_sRaise, ev_sTry, ev_eIsE, ev_eFldC, ev_eLc2, ev_lOwn, ev_sExt, q']
    refine ⟨_, _, it, ?_⟩
    refine (forGo_wpI (E := lwE) (n := 0) (fun i d hd env r he => ?_) ⟨.un, .un, .un, .un, .un, .un, .un, .un, rfl, ⟨Int.le_refl _, by show (0 : Int) ≤ 200 * 0; omega⟩⟩).mono ?_
    · rw [Nat.zero_add] at he ⊢
      obtain ⟨x2, x3, x4, x5, x6, x7, x8, x9, rfl, h⟩ := he
      have hi : i < 8 := by
        have := (List.getElem?_eq_some_iff.mp hd).1
        rwa [range_len] at this
      exact ⟨_, rfl, att_ok hi (.val d) x3 x4 x5 x6 x7 x8 x9 h⟩
    · rintro _ r ⟨env', rfl, _⟩
      exact ⟨env', rfl, .ret (.bl true), r, rfl, rfl⟩
  obtain ⟨fl, r, h, rfl⟩ := w
  exact ⟨r, h⟩
end My

open PySem PySem.W PyProof.Rows
set_option maxHeartbeats 0 in
theorem PySem.Challenge.cw_latecharge_k20_paid_sums_told_holds : PySem.Challenge.rw_latecharge_k20_paid_sums_told.Holds := by
  w_on; o_law; k_head; (case hw => w_witness2)
  k_fill
  refine FW.walkM (g := true) (l := PySem.Challenge.rw_latecharge_k20_paid_sums_told) (k := 9) (x := "_law_script") rfl rfl ⟨rfl, by decide, by decide⟩ (fun w h Y => by first | exact PySem.W.kIn_of Y | exact PySem.W.km_in_of Y) ?F
  case F =>
    intro w mg fa h KX G HX hmg
    refine' My.law_end My.pure_law KX G hmg ⟨FW.mk_f (st := My.topS 29) KX G ?a1 ?l2 ?c3 ?k4 (fun _ _ _ _ _ _ us hl => match us, hl with | [_], _ => rfl),
      FW.mk_f (st := My.topS 30) KX G ?a5 ?l6 ?c7 ?k8 (fun _ _ _ _ _ _ us hl => match us, hl with | [_, _], _ => rfl),
      FW.mk_f (st := My.topS 31) KX G ?a9 ?l10 ?c11 ?k12 (fun _ _ _ _ _ _ us hl => match us, hl with | [_, _], _ => rfl),
      FW.mk_f (st := My.topS 40) KX G ?a13 ?l14 ?c15 ?k16 (fun _ _ _ _ _ _ us hl => match us, hl with | [_], _ => rfl),
      FW.mk_f (st := My.topS 35) KX G ?a17 ?l18 ?c19 ?k20 (fun _ _ _ _ _ _ us hl => match us, hl with | [_, _], _ => rfl),
      FW.mk_f (st := My.topS 34) KX G ?a21 ?l22 ?c23 ?k24 (fun _ _ _ _ _ _ us hl => match us, hl with | [_, _], _ => rfl),
      FW.mk_f (st := My.topS 41) KX G ?a25 ?l26 ?c27 ?k28 (fun _ _ _ _ _ _ us hl => match us, hl with | [_, _], _ => rfl),
      FW.mk_f (st := My.topS 42) KX G ?a29 ?l30 ?c31 ?k32 (fun _ _ _ _ _ _ us hl => match us, hl with | [_], _ => rfl),
      FW.mk_f (st := My.topS 32) KX G ?a33 ?l34 ?c35 ?k36 (fun _ _ _ _ _ _ us hl => match us, hl with | [_, _, _], _ => rfl),
      FW.mk_f (st := My.topS 33) KX G ?a37 ?l38 ?c39 ?k40 (fun _ _ _ _ _ _ us hl => match us, hl with | [_, _, _], _ => rfl),
      FW.mk_f (st := My.topS 36) KX G ?a41 ?l42 ?c43 ?k44 (fun _ _ _ _ _ _ us hl => match us, hl with | [_, _, _, _], _ => rfl),
      FW.mk_f (st := My.topS 37) KX G ?a45 ?l46 ?c47 ?k48 (fun _ _ _ _ _ _ us hl => match us, hl with | [_, _], _ => rfl),
      FW.mk_f (st := My.topS 43) KX G ?a49 ?l50 ?c51 ?k52 (fun _ _ _ _ _ _ us hl => match us, hl with | [_], _ => rfl),
      FW.mk_f (st := My.topS 39) KX G ?a53 ?l54 ?c55 ?k56 (fun _ _ _ _ _ _ us hl => match us, hl with | [_, _], _ => rfl),
      FW.mk_f (st := My.topS 38) KX G ?a57 ?l58 ?c59 ?k60 (fun _ _ _ _ _ _ us hl => match us, hl with | [_], _ => rfl),
      FW.mk_f (st := My.topS 12) KX G ?a61 ?l62 ?c63 ?k64 (fun _ _ _ _ _ _ us hl => match us, hl with | [_], _ => rfl),
      FW.mk_f (st := My.topS 13) KX G ?a65 ?l66 ?c67 ?k68 (fun _ _ _ _ _ _ us hl => match us, hl with | [_], _ => rfl),
      FW.mk_f (st := My.topS 14) KX G ?a69 ?l70 ?c71 ?k72 (fun _ _ _ _ _ _ us hl => match us, hl with | [_, _], _ => rfl),
      FW.mk_f (st := My.topS 22) KX G ?a73 ?l74 ?c75 ?k76 (fun _ _ _ _ _ _ us hl => match us, hl with | [_, _], _ => rfl),
      FW.mk_f (st := My.topS 16) KX G ?a77 ?l78 ?c79 ?k80 (fun _ _ _ _ _ _ us hl => match us, hl with | [_, _, _], _ => rfl),
      FW.mk_f (st := My.topS 17) KX G ?a81 ?l82 ?c83 ?k84 (fun _ _ _ _ _ _ us hl => match us, hl with | [_, _, _], _ => rfl),
      FW.mk_f (st := My.topS 20) KX G ?a85 ?l86 ?c87 ?k88 (fun _ _ _ _ _ _ us hl => match us, hl with | [_], _ => rfl),
      FW.mk_f (st := My.topS 23) KX G ?a89 ?l90 ?c91 ?k92 (fun _ _ _ _ _ _ us hl => match us, hl with | [_], _ => rfl),
      FW.mk_f (st := My.topS 25) KX G ?a93 ?l94 ?c95 ?k96 (fun _ _ _ _ _ _ us hl => match us, hl with | [_, _], _ => rfl),
      FW.mk_fk (st := My.topS 26) (ps := ["book", "charging", "k"]) (ks := ["k", "charging", "book"]) (is := [2, 1, 0]) KX G ?a97 ?l98 ?c99 ?k100 (fun _ _ _ _ _ _ us hl => match us, hl with | [_, _, _], _ => rfl) (fun _ _ _ _ _ _ us hl => match us, hl with | [_, _, _], _ => rfl),
      FW.mk_f (st := My.topS 19) KX G ?a101 ?l102 ?c103 ?k104 (fun _ _ _ _ _ _ us hl => match us, hl with | [_], _ => rfl),
      FW.mk_f (st := My.topS 21) KX G ?a105 ?l106 ?c107 ?k108 (fun _ _ _ _ _ _ us hl => match us, hl with | [_, _], _ => rfl),
      FW.mk_fk (st := My.topS 27) (ps := ["book", "charging", "purse"]) (ks := ["purse", "charging", "book"]) (is := [2, 1, 0]) KX G ?a109 ?l110 ?c111 ?k112 (fun _ _ _ _ _ _ us hl => match us, hl with | [_, _, _], _ => rfl) (fun _ _ _ _ _ _ us hl => match us, hl with | [_, _, _], _ => rfl),
      FW.mk_f (st := My.topS 45) KX G ?a113 ?l114 ?c115 ?k116 (fun _ _ _ _ _ _ us hl => match us, hl with | [_, _], _ => rfl),
      FW.mk_f (st := My.topS 44) KX G ?a117 ?l118 ?c119 ?k120 (fun _ _ _ _ _ _ us hl => match us, hl with | [_], _ => rfl),
      FW.mk_f (st := My.topS 46) KX G ?a121 ?l122 ?c123 ?k124 (fun _ _ _ _ _ _ us hl => match us, hl with | [_, _], _ => rfl),
      FW.mk_f (st := My.topS 47) KX G ?a125 ?l126 ?c127 ?k128 (fun _ _ _ _ _ _ us hl => match us, hl with | [_], _ => rfl),
      FW.mk_x (q := "NotUsable.__init__") (st := My.initS 10) KX G ?a129 (FW.mk_oex ?cl130 ?oe131 ?sa132 ?xc133 ?ty134 ?kc135) ?i136 ?t137 ?l138 ?cd139 ?kp140 (fun _ _ _ _ _ _ us hl => match us, hl with | [_, _, _], _ => rfl) (FW.all2 ?no141 ?no142),
      FW.mk_x (q := "UnknownPurse.__init__") (st := My.initS 8) KX G ?a143 (FW.mk_oex ?cl144 ?oe145 ?sa146 ?xc147 ?ty148 ?kc149) ?i150 ?t151 ?l152 ?cd153 ?kp154 (fun _ _ _ _ _ _ us hl => match us, hl with | [_, _], _ => rfl) (FW.all1 ?no155),
      (FW.ExAll.cons (PySem.W.mg_of KX G ?m156) (FW.mk_exc ⟨?xa157, ?xb158, ?xd159, ?xe160⟩ ?ci161 ?ha162 ?hn163 ?ht164 ?hm165) (FW.ExAll.cons (PySem.W.mg_of KX G ?m166) (FW.mk_exc ⟨?xa167, ?xb168, ?xd169, ?xe170⟩ ?ci171 ?ha172 ?hn173 ?ht174 ?hm175) FW.ExAll.nil)),
      FW.mk_i (PySem.W.mg_of KX G ?m176) (FW.KitR.cons (PySem.W.mg_of KX G ?m177) ?ki178 (FW.KitR.cons (PySem.W.mg_of KX G ?m179) ?ki180 FW.KitR.nil)),
      FW.mk_i (PySem.W.mg_of KX G ?m181) (FW.KitR.cons (PySem.W.mg_of KX G ?m182) ?ki183 (FW.KitR.cons (PySem.W.mg_of KX G ?m184) ?ki185 FW.KitR.nil)),
      FW.mk_i (PySem.W.mg_of KX G ?m186) (FW.KitR.cons (PySem.W.mg_of KX G ?m187) ?ki188 (FW.KitR.cons (PySem.W.mg_of KX G ?m189) ?ki190 FW.KitR.nil)),
      FW.mk_i (PySem.W.mg_of KX G ?m191) (FW.KitR.cons (PySem.W.mg_of KX G ?m192) ?ki193 (FW.KitR.cons (PySem.W.mg_of KX G ?m194) ?ki195 FW.KitR.nil)),
      FW.mk_i (PySem.W.mg_of KX G ?m196) (FW.KitR.cons (PySem.W.mg_of KX G ?m197) ?ki198 (FW.KitR.cons (PySem.W.mg_of KX G ?m199) ?ki200 FW.KitR.nil)),
      FW.mk_i (PySem.W.mg_of KX G ?m201) (FW.KitR.cons (PySem.W.mg_of KX G ?m202) ?ki203 (FW.KitR.cons (PySem.W.mg_of KX G ?m204) ?ki205 FW.KitR.nil)),
      (FW.KitR.cons (PySem.W.mg_of KX G ?m206) ?ki207 (FW.KitR.cons (PySem.W.mg_of KX G ?m208) ?ki209 FW.KitR.nil)),
      FW.mk_a3 (PySem.W.mg_of KX G ?m210) (PySem.W.mg_of KX G ?m211) (PySem.W.mg_of KX G ?m212) (FW.KitRA.cons (PySem.W.mg_of KX G ?m213) ?ki214 (FW.KitRA.cons (PySem.W.mg_of KX G ?m215) ?ki216 FW.KitRA.nil)),
      FW.mk_t (PySem.W.mg_of KX G ?m217) (FW.ExmR.cons (PySem.W.mg_of KX G ?m218) (FW.mk_exm ?ea219 ?eb220 ?ec221 ?ed222) (FW.ExmR.cons (PySem.W.mg_of KX G ?m223) (FW.mk_exm ?ea224 ?eb225 ?ec226 ?ed227) FW.ExmR.nil)),
      (FW.FldR.cons (PySem.W.mg_of KX G ?m228) ?fi229 FW.FldR.nil),
      (FW.FldR.cons (PySem.W.mg_of KX G ?m230) ?fi231 FW.FldR.nil),
      FW.FldR.nil,
      (FW.FldR.cons (PySem.W.mg_of KX G ?m232) ?fi233 FW.FldR.nil),
      PySem.W.mg_none_of KX G ?zValueError,
      PySem.W.mg_none_of KX G ?zbool,
      PySem.W.mg_none_of KX G ?zenumerate,
      PySem.W.mg_none_of KX G ?zint,
      PySem.W.mg_none_of KX G ?zisinstance,
      PySem.W.mg_none_of KX G ?zlen,
      PySem.W.mg_none_of KX G ?zlist,
      PySem.W.mg_none_of KX G ?zmax,
      PySem.W.mg_none_of KX G ?zmin,
      PySem.W.mg_none_of KX G ?zrange,
      PySem.W.mg_none_of KX G ?zrepr,
      PySem.W.mg_none_of KX G ?zsum,
      PySem.W.mg_none_of KX G ?ztuple,
      PySem.W.mg_none_of KX G ?zzip⟩ (FW.mk_tab ?ta234 ?tb235 ?rfl236 ?tc237 ?rfl238) ?nb239 (Option.isSome_iff_exists.mp rfl)
    (case a1 => k_is)
    (case l2 => k_is)
    (case c3 => k_is)
    (case k4 => k_is)
    (case a5 => k_is)
    (case l6 => k_is)
    (case c7 => k_is)
    (case k8 => k_is)
    (case a9 => k_is)
    (case l10 => k_is)
    (case c11 => k_is)
    (case k12 => k_is)
    (case a13 => k_is)
    (case l14 => k_is)
    (case c15 => k_is)
    (case k16 => k_is)
    (case a17 => k_is)
    (case l18 => k_is)
    (case c19 => k_is)
    (case k20 => k_is)
    (case a21 => k_is)
    (case l22 => k_is)
    (case c23 => k_is)
    (case k24 => k_is)
    (case a25 => k_is)
    (case l26 => k_is)
    (case c27 => k_is)
    (case k28 => k_is)
    (case a29 => k_is)
    (case l30 => k_is)
    (case c31 => k_is)
    (case k32 => k_is)
    (case a33 => k_is)
    (case l34 => k_is)
    (case c35 => k_is)
    (case k36 => k_is)
    (case a37 => k_is)
    (case l38 => k_is)
    (case c39 => k_is)
    (case k40 => k_is)
    (case a41 => k_is)
    (case l42 => k_is)
    (case c43 => k_is)
    (case k44 => k_is)
    (case a45 => k_is)
    (case l46 => k_is)
    (case c47 => k_is)
    (case k48 => k_is)
    (case a49 => k_is)
    (case l50 => k_is)
    (case c51 => k_is)
    (case k52 => k_is)
    (case a53 => k_is)
    (case l54 => k_is)
    (case c55 => k_is)
    (case k56 => k_is)
    (case a57 => k_is)
    (case l58 => k_is)
    (case c59 => k_is)
    (case k60 => k_is)
    (case a61 => k_is)
    (case l62 => k_is)
    (case c63 => k_is)
    (case k64 => k_is)
    (case a65 => k_is)
    (case l66 => k_is)
    (case c67 => k_is)
    (case k68 => k_is)
    (case a69 => k_is)
    (case l70 => k_is)
    (case c71 => k_is)
    (case k72 => k_is)
    (case a73 => k_is)
    (case l74 => k_is)
    (case c75 => k_is)
    (case k76 => k_is)
    (case a77 => k_is)
    (case l78 => k_is)
    (case c79 => k_is)
    (case k80 => k_is)
    (case a81 => k_is)
    (case l82 => k_is)
    (case c83 => k_is)
    (case k84 => k_is)
    (case a85 => k_is)
    (case l86 => k_is)
    (case c87 => k_is)
    (case k88 => k_is)
    (case a89 => k_is)
    (case l90 => k_is)
    (case c91 => k_is)
    (case k92 => k_is)
    (case a93 => k_is)
    (case l94 => k_is)
    (case c95 => k_is)
    (case k96 => k_is)
    (case a97 => k_is)
    (case l98 => k_is)
    (case c99 => k_is)
    (case k100 => k_is)
    (case a101 => k_is)
    (case l102 => k_is)
    (case c103 => k_is)
    (case k104 => k_is)
    (case a105 => k_is)
    (case l106 => k_is)
    (case c107 => k_is)
    (case k108 => k_is)
    (case a109 => k_is)
    (case l110 => k_is)
    (case c111 => k_is)
    (case k112 => k_is)
    (case a113 => k_is)
    (case l114 => k_is)
    (case c115 => k_is)
    (case k116 => k_is)
    (case a117 => k_is)
    (case l118 => k_is)
    (case c119 => k_is)
    (case k120 => k_is)
    (case a121 => k_is)
    (case l122 => k_is)
    (case c123 => k_is)
    (case k124 => k_is)
    (case a125 => k_is)
    (case l126 => k_is)
    (case c127 => k_is)
    (case k128 => k_is)
    (case a129 => k_is)
    (case cl130 => k_is)
    (case oe131 => exact ⟨_, _, _, _, _, _, _, _, _, _, _, _, _, _, _, rfl, by decide +kernel⟩)
    (case sa132 => k_is)
    (case xc133 => k_is)
    (case ty134 => k_is)
    (case kc135 => k_is)
    (case i136 => k_is)
    (case t137 => k_is)
    (case l138 => k_is)
    (case cd139 => k_is)
    (case kp140 => k_is)
    (case no141 => k_is)
    (case no142 => k_is)
    (case a143 => k_is)
    (case cl144 => k_is)
    (case oe145 => exact ⟨_, _, _, _, _, _, _, _, _, _, _, _, _, _, _, rfl, by decide +kernel⟩)
    (case sa146 => k_is)
    (case xc147 => k_is)
    (case ty148 => k_is)
    (case kc149 => k_is)
    (case i150 => k_is)
    (case t151 => k_is)
    (case l152 => k_is)
    (case cd153 => k_is)
    (case kp154 => k_is)
    (case no155 => k_is)
    (case m156 => k_is)
    (case xa157 => k_is)
    (case xb158 => k_is)
    (case xd159 => k_is)
    (case xe160 => k_is)
    (case ci161 => k_is)
    (case ha162 => k_is)
    (case hn163 => k_is)
    (case ht164 => k_is)
    (case hm165 => k_is)
    (case m166 => k_is)
    (case xa167 => k_is)
    (case xb168 => k_is)
    (case xd169 => k_is)
    (case xe170 => k_is)
    (case ci171 => k_is)
    (case ha172 => k_is)
    (case hn173 => k_is)
    (case ht174 => k_is)
    (case hm175 => k_is)
    (case m176 => k_is)
    (case m177 => k_is)
    (case ki178 => kit_is)
    (case m179 => k_is)
    (case ki180 => kit_is)
    (case m181 => k_is)
    (case m182 => k_is)
    (case ki183 => kit_is)
    (case m184 => k_is)
    (case ki185 => kit_is)
    (case m186 => k_is)
    (case m187 => k_is)
    (case ki188 => kit_is)
    (case m189 => k_is)
    (case ki190 => kit_is)
    (case m191 => k_is)
    (case m192 => k_is)
    (case ki193 => kit_is)
    (case m194 => k_is)
    (case ki195 => kit_is)
    (case m196 => k_is)
    (case m197 => k_is)
    (case ki198 => kit_is)
    (case m199 => k_is)
    (case ki200 => kit_is)
    (case m201 => k_is)
    (case m202 => k_is)
    (case ki203 => kit_is)
    (case m204 => k_is)
    (case ki205 => kit_is)
    (case m206 => k_is)
    (case ki207 => kit_is)
    (case m208 => k_is)
    (case ki209 => kit_is)
    (case m210 => k_is)
    (case m211 => k_is)
    (case m212 => k_is)
    (case m213 => k_is)
    (case ki214 => kit_is)
    (case m215 => k_is)
    (case ki216 => kit_is)
    (case m217 => k_is)
    (case m218 => k_is)
    (case ea219 => k_is)
    (case eb220 => k_is)
    (case ec221 => k_is)
    (case ed222 => k_is)
    (case m223 => k_is)
    (case ea224 => k_is)
    (case eb225 => k_is)
    (case ec226 => k_is)
    (case ed227 => k_is)
    (case m228 => k_is)
    (case fi229 => k_is)
    (case m230 => k_is)
    (case fi231 => k_is)
    (case m232 => k_is)
    (case fi233 => k_is)
    (case zValueError => k_is)
    (case zbool => k_is)
    (case zenumerate => k_is)
    (case zint => k_is)
    (case zisinstance => k_is)
    (case zlen => k_is)
    (case zlist => k_is)
    (case zmax => k_is)
    (case zmin => k_is)
    (case zrange => k_is)
    (case zrepr => k_is)
    (case zsum => k_is)
    (case ztuple => k_is)
    (case zzip => k_is)
    (case ta234 => k_is)
    (case tb235 => k_is)
    (case rfl236 => rfl)
    (case tc237 => k_is)
    (case rfl238 => rfl)
    (case nb239 => first | rfl | kernel_rfl)
